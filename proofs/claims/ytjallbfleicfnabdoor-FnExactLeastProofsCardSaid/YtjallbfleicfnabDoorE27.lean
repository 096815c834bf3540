/- What the functions answer, as equations: E27. No conditions. -/
import Derived.Test.YtjallbfleicfnabDoorE26
set_option linter.unusedSectionVars false
set_option linter.unusedVariables false
set_option linter.unusedSimpArgs false
namespace Zz
open Go.Lg Md
set_option linter.unusedSimpArgs false
set_option linter.unusedVariables false
attribute [local simp] oldO_some oa_nil oa_i oa_y oa_b oa_s oa_st oa_sl oa_own oa_oad oa_nl al_nil al_cons al_i al_y al_b al_s al_st al_sl nxF_some nxF_none rf_nil rf_gen rf_gate hk_newnil hk_make hk_alloc hk_box hk_build hk_bslice hk_call hk_store hk_app cl_nil cl_cons ai_nil ai_cons il_i il_y il_b il_s il_st il_sl il_own il_adr il_oad il_ref il_fr il_tup il_nil il_np il_und il_dead oi_e oi_i oi_y oi_b oi_s oi_st oi_sl oi_own oi_adr oi_oad oi_ref oi_fr oi_tup oi_nil oi_np oi_und oi_dead as_nil as_cons ao_nil ao_cons av_i av_y av_b av_s av_st av_sl av_own av_adr av_oad av_ref av_fr av_tup av_nil av_np av_und av_dead pro_cons ghK_some ks_promote ks_rename ren_own dropO adoptP newP wholeP cutP allOldL ex_skip ex_ret ex_exit ks_region ks_seq ks_cond ks_block seqK_n seqK_e seqK_r regK_some condK_t condK_f blkK_n blkK_r blkK_e endK_n endK_r rr_false rr_true rd_free mo_nil mo_cons drK_some drK_none nxW_some nxW_none rw_nil rw_gen rw_gate ak_newnil ak_make ak_alloc ak_box ak_build ak_bslice ak_call ak_store ak_app iw_mm iw_idxp ef_mmx ef_mmn ef_idxp nxD_some nxD_none ov_i ov_y ov_b ov_s ov_st ov_sl ov_own ov_oad ov_adr ov_nil ov_np ov_und ov_dead ov_tup oldN_some oldN_nil oldN_none so_none so_i so_y so_b so_s so_st so_sl so_adr so_nil so_np so_und so_dead anyM_nil anyM_t anyM_c so_own so_oad rd_nil rd_gen rd_mv rd_gate iw_mv iw_newnil iw_pick iw_bin iw_eqb iw_eqs iw_un iw_len iw_lens iw_chk iw_fld iw_fldv iw_idxa iw_idx iw_load iw_store iw_slice iw_slices iw_make iw_alloc iw_box iw_build iw_bslice iw_app iw_b2i iw_i2b iw_i2i iw_same iw_b2s iw_s2b iw_ext iw_call nm_i nm_y nm_b nm_s nm_st nm_sl nm_own nm_oad nm_adr nm_nil nm_np nm_und nm_dead nm_tup rl_nil rl_gate rl_mv rl_gen opv_t opv_c nx_some nx_none gate_tt gate_tf gate_ft gate_ff gate_u fr_ap em_nil em_i em_y em_b em_s em_st em_sl em_own em_adr em_oad em_ref em_nl em_np em_und em_dead em_tup0 em_tup_i em_tup_b em_tup_s em_tup_sl em_tup_st em_tup_np em_tup_own em_tup_oad mm_i mm_y mm_b mm_s mm_st mm_sl mm_own mm_oad mm_adr mm_nil mm_np mm_und mm_dead ef_mv ef_newnil ef_pickt ef_pickf ef_bin ef_eqb ef_eqs ef_un ef_lens ef_len_sl ef_len_own ef_len_nil ef_chk_adr ef_chk_oad ef_fld_adr ef_fld_oad ef_fldv idxR_some ef_idxa_sl ef_idxa_own ef_idx ef_load_adr_st ef_load_adr_i ef_load_adr_y ef_load_adr_b ef_load_adr_s ef_load_adr_sl atN_nil atN_zero atN_succ ef_load_oad ef_store ef_slice ef_slices ef_make ef_alloc ef_box ef_build ef_bslice ef_app_own ef_app_nil ef_b2i ef_i2b ef_i2i ef_same ef_ext ret1 ret2_some calL_some ef_call retC_i retC_y retC_b retC_s retC_st retC_sl retC_np retC_fr retC_ref retC_tup rk_nil rk_i rk_y rk_b rk_s rk_st rk_sl rk_own rk_oad rk_nl ok_nil ok_i ok_y ok_b ok_s ok_st ok_sl ok_own ok_oad ok_nl lo_nil lo_i lo_y lo_b lo_s lo_st lo_sl lo_own lo_oad lo_nl pr_nil pr_i pr_y pr_b pr_s pr_st pr_sl pr_own pr_nl pr_oad nr_i nr_y nr_b nr_s nr_st nr_sl nr_fr nr_np nr_tup ng_i ng_b ng_s ng_fr ng_nil resV effP_eff binD bi_add bi_sub bi_mul bi_quo bi_rem bi_eql bi_neq bi_lss bi_leq bi_gtr bi_geq bi_shl bi_shr bi_and bi_or bi_xor bi_andNot binY binS unD look put putD LS.get LS.drop killE sweep lookO putO dropO enter leave giveBackL giveBack outs lendArgs lendArg newOuts takeIn takeInL lendL DV.lend adoptL DV.adopt elems apartKs part DV.cells unpart settle settleL over mkId szId fillP fillE tk_e2 tk_i tk_y lt_e2 lt_i lt_y lend_rep al_e2 al_is al_ys al_rep al_app lend_app adopt_app new_app lend_e2 lend_i lend_y adopt_e2 adopt_i adopt_y new_e2 new_i allNewL DV.allNew bounds sliceD sliceS em_w em_q em_r em_fn em_tup_w em_tup_q em_tup_r mm_w mm_q mm_r mm_fn ef_load_adr_w ef_load_adr_q ef_load_adr_r retC_w retC_q retC_r rk_w rk_q rk_r rk_fn ok_w ok_q ok_r ok_fn lo_w lo_q lo_r lo_fn pr_w pr_q pr_r pr_fn nr_w nr_q nr_r ng_w ng_q ng_r oa_w oa_q oa_r oa_fn al_w al_q al_r al_fn ov_w ov_q ov_r ov_fn so_w so_q so_r so_fn il_w il_q il_r il_fn oi_w oi_q oi_r oi_fn av_w av_q av_r av_fn nm_w nm_q nm_r nm_fn ef_i2r ef_r2s ef_mkfn ef_idxp_adr ef_calld capsOk DV.cell List.all_cons List.all_nil rk_own_t lo_own_t lk_f lk_t pr_own_t mutB ak_calld hk_calld iw_calld iw_mkfn iw_i2r iw_r2s bw_and bw_or bw_xor bw_andNot bw_eql bw_neq sw_shl sw_shr sq_shl gEnv_nil rk_adr ok_adr lo_adr pr_adr oa_adr capL capArg DV.cap ak_mkfn hk_mkfn
attribute [local congr] nxF_congr ghK_congr gate_congr nx_congr nxD_congr runL_congr runD_congr eff_congr calL_congr ret2_congr seqK_congr regK_congr condK_congr endK_congr drK_congr nxW_congr
attribute [local simp ↓] nxF_some rf_nil rf_gen rf_gate ks_promote ks_rename ghK_some gate_tt gate_tf gate_ft gate_ff gate_u nx_some nxD_some rl_nil rl_mv rl_gen rl_gate rd_nil rd_mv rd_gen rd_gate rd_free rr_false rr_true drK_some drK_none nxW_some rw_nil rw_gen rw_gate ks_region ks_seq ks_cond ks_block seqK_n seqK_e seqK_r regK_some condK_t condK_f blkK_n blkK_r endK_n endK_r calL_some ret2_some opv_t opv_c
attribute [-simp] DV.cells
attribute [local simp] cells_st cells_sl cells_i cells_y cells_b cells_s cells_w
set_option maxHeartbeats 4000000 in
theorem c_impl_LeastProofs (m : Int) (ts : List T) (s : Int) (hb : (ts.length : Int) < 1099511627776) : call lf n_impl_LeastProofs [.i m, .sl 0 (ts.map e2), .i s] = some (.fr 1 ((lpOf m ts s).map .i), []) := by
  rw [call_k lf n_impl_LeastProofs _ (F := F_impl_LeastProofs) rfl rfl]
  have C1 := c_impl_TermOk m ts hb
  have C2 := c_impl_StateOk m s
  unfold lpOf
  cases h1 : tmOk m ts with
  | false => rw [h1] at C1; simp [F_impl_LeastProofs, C1]
  | true =>
    rw [h1] at C1
    cases h2 : stOk m s with
    | false => rw [h2] at C2; simp [F_impl_LeastProofs, C1, C2]
    | true =>
      rw [h2] at C2
      obtain ⟨h3, _, _⟩ := tmOk_iff.1 h1
      have C4 := c_impl_setsWhere h3.1 h3.2 n_impl_LeastProofs_1 ts s (lpP m ts s.toNat) (fun i hi => c_impl_LeastProofs_1 h1 h2 i hi)
      have ll := sel_len (lpP m ts s.toNat) (2 ^ m.toNat)
      obtain ⟨p1, p2, p3⟩ := pow5 h3.1 h3.2
      have lb : (sel (lpP m ts s.toNat) (2 ^ m.toNat)).length ≤ bound := by unfold bound; omega
      simp [F_impl_LeastProofs, C1, C2, C4, lb]
def stLp (m s : Int) (out : List Int) (tab o : Nat) (b : Bool) (k : Int) : LS := ⟨[(0, .i m), (2, .i s), (7, .own 6152 out.length 0 out.length), (8, .i tab), (9, .i o), (10, .b b), (11, .i k)], [(6152, out.map .i)]⟩
def lpF (m : Int) (ts : List T) (s o k : Nat) : Bool := !o.testBit k || !prf m ts s (o - 2 ^ k)
set_option maxHeartbeats 4000000 in
theorem lp_step {m : Int} {ts : List T} {s : Nat} (h1 : tmOk m ts = true) (o : Nat) (ho : o < 2 ^ m.toNat) (out : List Int) (i : Nat) (hi : (i : Int) < m) : ex lf F_spec_LeastProofs_L1 (stLp m s out (tabT m ts) o true i) = some (.normal, stLp m s out (tabT m ts) o (lpF m ts s o i) (i + 1 : Nat)) := by
  obtain ⟨h3, h4, _⟩ := tmOk_iff.1 h1
  obtain ⟨p1, p2, p3⟩ := pow5 h3.1 h3.2
  have bb := bit_bI (a := o) (s := i) (by omega)
  have n2 : ¬ ((i : Int) < 0) := by omega
  have w1 : wr ((i : Int) + 1) = ((i + 1 : Nat) : Int) := by rw [wr_id (by omega) (by omega)]; omega
  unfold stLp lpF
  cases hb : o.testBit i with
  | false =>
    rw [hb] at bb
    have q : (bI false == 0) = true := rfl
    simp [F_spec_LeastProofs_L1, hi, n2, w1, bb, q]
  | true =>
    rw [hb] at bb
    have q : (bI true == 0) = false := rfl
    have sh := shl1 (k := (i : Int)) (by omega) (by omega)
    rw [Int.toNat_natCast] at sh
    obtain ⟨_, a2⟩ := anot_nat (o := o) (k := i) (by omega) (by omega) hb
    have C5 := c_spec_l3Told (m := m) (by omega) h3.2 s (o - 2 ^ i)
    have tl := told_len m.toNat s (o - 2 ^ i)
    have C6 := c_spec_l3Forced h3.1 h3.2 (told m.toNat s (o - 2 ^ i)) (by rw [tl]; omega) (tabT m ts) (ks_some (told_ok h3.1 h3.2 _ _))
    rw [foT_tab h3.1 h3.2] at C6
    have t1 : List.take m.toNat ((told m.toNat s (o - 2 ^ i)).map DV.i) = (told m.toNat s (o - 2 ^ i)).map .i := List.take_of_length_le (by simp [tl])
    have w2 : wr ((o - 2 ^ i : Nat) : Int) = ((o - 2 ^ i : Nat) : Int) := wr_id (by omega) (by have : o - 2 ^ i ≤ o := Nat.sub_le _ _
                                                                                               omega)
    have pe : (!prf m ts s (o - 2 ^ i)) = (foT m ts (told m.toNat s (o - 2 ^ i)) == -1) := by unfold prf; simp [bne]
    rw [pe]
    generalize foT m ts (told m.toNat s (o - 2 ^ i)) = y at *
    generalize told m.toNat s (o - 2 ^ i) = z at *
    generalize o - 2 ^ i = x at *
    generalize (2 : Int) ^ i = v at *
    simp [F_spec_LeastProofs_L1, hi, n2, w1, bb, q, sh, a2, w2, C5, C6, tl, t1]
theorem lp_inner {m : Int} {ts : List T} {s : Nat} (h1 : tmOk m ts = true) (o : Nat) (ho : o < 2 ^ m.toNat) (out : List Int) (j : Nat) : ∀ i : Nat, i + j = m.toNat → (∀ k, k < i → lpF m ts s o k = true) →
    ∃ k, ex lf F_spec_LeastProofs_W1 (stLp m s out (tabT m ts) o true i) = some (.exit 2, stLp m s out (tabT m ts) o (allTo (lpF m ts s o) m.toNat) k) := by
  obtain ⟨h3, h4, _⟩ := tmOk_iff.1 h1
  induction j with
  | zero =>
    intro i hi hk
    have e : allTo (lpF m ts s o) m.toNat = true := allTo_iff.2 fun k hk' => hk k (by omega)
    have hm : (i : Int) = m := by omega
    refine ⟨i, ?_⟩
    rw [w_spec_LeastProofs_1, e, hm]
    unfold stLp
    simp [F_spec_LeastProofs_L1]
  | succ j ih =>
    intro i hi hk
    have hi' : (i : Int) < m := by omega
    have S := lp_step (s := s) h1 o ho out i hi'
    rw [w_spec_LeastProofs_1, S]
    cases hf : lpF m ts s o i with
    | true =>
      exact ih (i + 1) (by omega) fun k hk' => by
        rcases Nat.lt_succ_iff_lt_or_eq.1 hk' with q | rfl
        · exact hk k q
        · exact hf
    | false =>
      have e : allTo (lpF m ts s o) m.toNat = false := by
        cases h : allTo (lpF m ts s o) m.toNat with
        | false => rfl
        | true => have := allTo_iff.1 h i (by omega); rw [hf] at this; cases this
      rw [e]
      refine ⟨(i + 1 : Nat), ?_⟩
      show ex lf F_spec_LeastProofs_W1 (stLp m s out (tabT m ts) o false (i + 1 : Nat)) = _
      rw [w_spec_LeastProofs_1]
      unfold stLp
      by_cases hlt : ((i : Int) + 1) < m
      · simp [F_spec_LeastProofs_L1, hlt]
      · simp [F_spec_LeastProofs_L1, hlt]
theorem lp_inner0 {m : Int} {s : Nat} (h0 : 0 < m) (tab o : Nat) (out : List Int) : ex lf F_spec_LeastProofs_W1 (stLp m s out tab o false 0) = some (.exit 2, stLp m s out tab o false 0) := by
  rw [w_spec_LeastProofs_1]
  unfold stLp
  simp [F_spec_LeastProofs_L1, h0]
theorem lpP_eq (m : Int) (ts : List T) (s o : Nat) : lpP m ts s o = (prf m ts s o && allTo (lpF m ts s o) m.toNat) := rfl
set_option maxHeartbeats 4000000 in
theorem lp_outer {m : Int} {ts : List T} {s : Nat} (h1 : tmOk m ts = true) (o : Nat) (ho : o < 2 ^ m.toNat) (out : List Int) (hl : out.length ≤ o) :
    ex lf F_spec_LeastProofs_L0 ⟨[(0, .i m), (2, .i s), (7, .own 6152 out.length 0 out.length), (8, .i (tabT m ts)), (9, .i o)], [(6152, out.map .i)]⟩ =
    some (.normal, ⟨[(0, .i m), (2, .i s), (7, .own 6152 (out ++ if lpP m ts s o then [(o : Int)] else []).length 0 (out ++ if lpP m ts s o then [(o : Int)] else []).length), (8, .i (tabT m ts)), (9, .i (o + 1 : Nat))], [(6152, (out ++ if lpP m ts s o then [(o : Int)] else []).map .i)]⟩) := by
  obtain ⟨h3, h4, _⟩ := tmOk_iff.1 h1
  obtain ⟨p1, p2, p3⟩ := pow5 h3.1 h3.2
  have ho' : (o : Int) < 2 ^ m.toNat := by omega
  have shm := shl1 (k := m) (by omega) (by omega)
  have nm : ¬ m < 0 := by omega
  have w1 : wr ((o : Int) + 1) = o + 1 := wr_id (by omega) (by omega)
  have C5 := c_spec_l3Told (m := m) (by omega) h3.2 s o
  have tl := told_len m.toNat s o
  have C6 := c_spec_l3Forced h3.1 h3.2 (told m.toNat s o) (by rw [tl]; omega) (tabT m ts) (ks_some (told_ok h3.1 h3.2 _ _))
  rw [foT_tab h3.1 h3.2] at C6
  have t1 : List.take m.toNat ((told m.toNat s o).map DV.i) = (told m.toNat s o).map .i := List.take_of_length_le (by simp [tl])
  have pe : prf m ts s o = (foT m ts (told m.toNat s o) != -1) := rfl
  have lb : out.length + 1 ≤ bound := by unfold bound; omega
  have lb0 : out.length ≤ bound := by omega
  rw [lpP_eq]
  cases hp : prf m ts s o with
  | false =>
    rw [hp] at pe
    have I := lp_inner0 (m := m) (s := s) (by omega) (tabT m ts) o out
    unfold stLp at I
    generalize foT m ts (told m.toNat s o) = y at *
    generalize told m.toNat s o = z at *
    simp [F_spec_LeastProofs_L0, shm, nm, ho', w1, C5, C6, tl, t1, ← pe, I, lb0]
  | true =>
    rw [hp] at pe
    obtain ⟨k, I⟩ := lp_inner (s := s) h1 o ho out m.toNat 0 (by omega) (fun k hk => by omega)
    unfold stLp at I
    simp only [Int.natCast_zero] at I
    generalize foT m ts (told m.toNat s o) = y at *
    generalize told m.toNat s o = z at *
    cases ha : allTo (lpF m ts s o) m.toNat with
    | false => rw [ha] at I; simp [F_spec_LeastProofs_L0, shm, nm, ho', w1, C5, C6, tl, t1, ← pe, I, lb0]
    | true => rw [ha] at I; simp [F_spec_LeastProofs_L0, shm, nm, ho', w1, C5, C6, tl, t1, ← pe, I, lb, lb0]
set_option maxHeartbeats 4000000 in
theorem c_spec_LeastProofs (m : Int) (ts : List T) (s : Int) (hb : (ts.length : Int) < 1099511627776) : call lf n_spec_LeastProofs [.i m, .sl 0 (ts.map e2), .i s] = some (.fr 1 ((lpOf m ts s).map .i), []) := by
  rw [call_k lf n_spec_LeastProofs _ (F := F_spec_LeastProofs) rfl rfl]
  have C1 := c_spec_TermOk m ts hb
  have C2 := c_spec_StateOk m s
  unfold lpOf
  cases h1 : tmOk m ts with
  | false => rw [h1] at C1; simp [F_spec_LeastProofs, C1]
  | true =>
    rw [h1] at C1
    cases h2 : stOk m s with
    | false => rw [h2] at C2; simp [F_spec_LeastProofs, C1, C2]
    | true =>
      rw [h2] at C2
      obtain ⟨s0, s1⟩ := st32 h2
      obtain ⟨h3, h4, _⟩ := tmOk_iff.1 h1
      obtain ⟨p1, p2, p3⟩ := pow5 h3.1 h3.2
      obtain ⟨n, rfl⟩ := Int.eq_ofNat_of_zero_le s0
      simp only [Int.toNat_natCast]
      have C3 := c_spec_l3Table h1
      have shm := shl1 (k := m) (by omega) (by omega)
      have nm : ¬ m < 0 := by omega
      have L := loop_count (lf := lf) (L := F_spec_LeastProofs_L0) (2 ^ m.toNat) (fun i => ⟨[(0, .i m), (2, .i n), (7, .own 6152 (sel (lpP m ts n) i).length 0 (sel (lpP m ts n) i).length), (8, .i (tabT m ts)), (9, .i i)], [(6152, (sel (lpP m ts n) i).map .i)]⟩) (x := .exit 0) (R := ⟨[(0, .i m), (2, .i n), (7, .own 6152 (sel (lpP m ts n) (2 ^ m.toNat)).length 0 (sel (lpP m ts n) (2 ^ m.toNat)).length), (8, .i (tabT m ts)), (9, .i (2 ^ m.toNat))], [(6152, (sel (lpP m ts n) (2 ^ m.toNat)).map .i)]⟩) (fun i hi => by
        have := lp_outer (s := n) h1 i hi (sel (lpP m ts n) i) (sel_len _ _)
        rw [← sel_succ] at this
        exact this) (by
        simp [F_spec_LeastProofs_L0, shm, nm]) (by simp)
      have L' : ex lf F_spec_LeastProofs_W0 ⟨[(0, .i m), (2, .i n), (7, .own 6152 0 0 0), (8, .i (tabT m ts)), (9, .i 0)], [(6152, [])]⟩ = some (.exit 0, ⟨[(0, .i m), (2, .i n), (7, .own 6152 (sel (lpP m ts n) (2 ^ m.toNat)).length 0 (sel (lpP m ts n) (2 ^ m.toNat)).length), (8, .i (tabT m ts)), (9, .i (2 ^ m.toNat))], [(6152, (sel (lpP m ts n) (2 ^ m.toNat)).map .i)]⟩) := L
      have ll := sel_len (lpP m ts n) (2 ^ m.toNat)
      have lb : (sel (lpP m ts n) (2 ^ m.toNat)).length ≤ bound := by unfold bound; omega
      simp [F_spec_LeastProofs, C1, C2, C3, L', lb]
end Zz
