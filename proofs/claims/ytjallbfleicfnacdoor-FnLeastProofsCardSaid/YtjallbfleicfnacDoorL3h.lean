/- What the functions answer, as equations: L3h. No conditions. -/
import Derived.Test.YtjallbfleicfnacDoorE32
set_option linter.unusedSectionVars false
set_option linter.unusedVariables false
set_option linter.unusedSimpArgs false
namespace Zz
open Go.Lg Md
set_option linter.unusedSimpArgs false
set_option linter.unusedVariables false
attribute [local simp] oldO_some oa_nil oa_i oa_y oa_b oa_s oa_st oa_sl oa_own oa_oad oa_nl al_nil al_cons al_i al_y al_b al_s al_st al_sl nxF_some nxF_none rf_nil rf_gen rf_gate hk_newnil hk_make hk_alloc hk_box hk_build hk_bslice hk_call hk_store hk_app cl_nil cl_cons ai_nil ai_cons il_i il_y il_b il_s il_st il_sl il_own il_adr il_oad il_ref il_fr il_tup il_nil il_np il_und il_dead oi_e oi_i oi_y oi_b oi_s oi_st oi_sl oi_own oi_adr oi_oad oi_ref oi_fr oi_tup oi_nil oi_np oi_und oi_dead as_nil as_cons ao_nil ao_cons av_i av_y av_b av_s av_st av_sl av_own av_adr av_oad av_ref av_fr av_tup av_nil av_np av_und av_dead pro_cons ghK_some ks_promote ks_rename ren_own dropO adoptP newP wholeP cutP allOldL ex_skip ex_ret ex_exit ks_region ks_seq ks_cond ks_block seqK_n seqK_e seqK_r regK_some condK_t condK_f blkK_n blkK_r blkK_e endK_n endK_r rr_false rr_true rd_free mo_nil mo_cons drK_some drK_none nxW_some nxW_none rw_nil rw_gen rw_gate ak_newnil ak_make ak_alloc ak_box ak_build ak_bslice ak_call ak_store ak_app iw_mm iw_idxp ef_mmx ef_mmn ef_idxp nxD_some nxD_none ov_i ov_y ov_b ov_s ov_st ov_sl ov_own ov_oad ov_adr ov_nil ov_np ov_und ov_dead ov_tup oldN_some oldN_nil oldN_none so_none so_i so_y so_b so_s so_st so_sl so_adr so_nil so_np so_und so_dead anyM_nil anyM_t anyM_c so_own so_oad rd_nil rd_gen rd_mv rd_gate iw_mv iw_newnil iw_pick iw_bin iw_eqb iw_eqs iw_un iw_len iw_lens iw_chk iw_fld iw_fldv iw_idxa iw_idx iw_load iw_store iw_slice iw_slices iw_make iw_alloc iw_box iw_build iw_bslice iw_app iw_b2i iw_i2b iw_i2i iw_same iw_b2s iw_s2b iw_ext iw_call nm_i nm_y nm_b nm_s nm_st nm_sl nm_own nm_oad nm_adr nm_nil nm_np nm_und nm_dead nm_tup rl_nil rl_gate rl_mv rl_gen opv_t opv_c nx_some nx_none gate_tt gate_tf gate_ft gate_ff gate_u fr_ap em_nil em_i em_y em_b em_s em_st em_sl em_own em_adr em_oad em_ref em_nl em_np em_und em_dead em_tup0 em_tup_i em_tup_b em_tup_s em_tup_sl em_tup_st em_tup_np em_tup_own em_tup_oad mm_i mm_y mm_b mm_s mm_st mm_sl mm_own mm_oad mm_adr mm_nil mm_np mm_und mm_dead ef_mv ef_newnil ef_pickt ef_pickf ef_bin ef_eqb ef_eqs ef_un ef_lens ef_len_sl ef_len_own ef_len_nil ef_chk_adr ef_chk_oad ef_fld_adr ef_fld_oad ef_fldv idxR_some ef_idxa_sl ef_idxa_own ef_idx ef_load_adr_st ef_load_adr_i ef_load_adr_y ef_load_adr_b ef_load_adr_s ef_load_adr_sl atN_nil atN_zero atN_succ ef_load_oad ef_store ef_slice ef_slices ef_make ef_alloc ef_box ef_build ef_bslice ef_app_own ef_app_nil ef_b2i ef_i2b ef_i2i ef_same ef_ext ret1 ret2_some calL_some ef_call retC_i retC_y retC_b retC_s retC_st retC_sl retC_np retC_fr retC_ref retC_tup rk_nil rk_i rk_y rk_b rk_s rk_st rk_sl rk_own rk_oad rk_nl ok_nil ok_i ok_y ok_b ok_s ok_st ok_sl ok_own ok_oad ok_nl lo_nil lo_i lo_y lo_b lo_s lo_st lo_sl lo_own lo_oad lo_nl pr_nil pr_i pr_y pr_b pr_s pr_st pr_sl pr_own pr_nl pr_oad nr_i nr_y nr_b nr_s nr_st nr_sl nr_fr nr_np nr_tup ng_i ng_b ng_s ng_fr ng_nil resV effP_eff binD bi_add bi_sub bi_mul bi_quo bi_rem bi_eql bi_neq bi_lss bi_leq bi_gtr bi_geq bi_shl bi_shr bi_and bi_or bi_xor bi_andNot binY binS unD look put putD LS.get LS.drop killE sweep lookO putO dropO enter leave giveBackL giveBack outs lendArgs lendArg newOuts takeIn takeInL lendL DV.lend adoptL DV.adopt elems apartKs part DV.cells unpart settle settleL over mkId szId fillP fillE tk_e2 tk_i tk_y lt_e2 lt_i lt_y lend_rep al_e2 al_is al_ys al_rep al_app lend_app adopt_app new_app lend_e2 lend_i lend_y adopt_e2 adopt_i adopt_y new_e2 new_i allNewL DV.allNew bounds sliceD sliceS em_w em_q em_r em_fn em_tup_w em_tup_q em_tup_r mm_w mm_q mm_r mm_fn ef_load_adr_w ef_load_adr_q ef_load_adr_r retC_w retC_q retC_r rk_w rk_q rk_r rk_fn ok_w ok_q ok_r ok_fn lo_w lo_q lo_r lo_fn pr_w pr_q pr_r pr_fn nr_w nr_q nr_r ng_w ng_q ng_r oa_w oa_q oa_r oa_fn al_w al_q al_r al_fn ov_w ov_q ov_r ov_fn so_w so_q so_r so_fn il_w il_q il_r il_fn oi_w oi_q oi_r oi_fn av_w av_q av_r av_fn nm_w nm_q nm_r nm_fn ef_i2r ef_r2s ef_mkfn ef_idxp_adr ef_calld capsOk DV.cell List.all_cons List.all_nil rk_own_t lo_own_t lk_f lk_t pr_own_t mutB ak_calld hk_calld iw_calld iw_mkfn iw_i2r iw_r2s bw_and bw_or bw_xor bw_andNot bw_eql bw_neq sw_shl sw_shr sq_shl gEnv_nil rk_adr ok_adr lo_adr pr_adr oa_adr capL capArg DV.cap ak_mkfn hk_mkfn
attribute [local congr] nxF_congr ghK_congr gate_congr nx_congr nxD_congr runL_congr runD_congr eff_congr calL_congr ret2_congr seqK_congr regK_congr condK_congr endK_congr drK_congr nxW_congr
attribute [local simp ↓] nxF_some rf_nil rf_gen rf_gate ks_promote ks_rename ghK_some gate_tt gate_tf gate_ft gate_ff gate_u nx_some nxD_some rl_nil rl_mv rl_gen rl_gate rd_nil rd_mv rd_gen rd_gate rd_free rr_false rr_true drK_some drK_none nxW_some rw_nil rw_gen rw_gate ks_region ks_seq ks_cond ks_block seqK_n seqK_e seqK_r regK_some condK_t condK_f blkK_n blkK_r endK_n endK_r calL_some ret2_some opv_t opv_c
attribute [-simp] DV.cells
attribute [local simp] cells_st cells_sl cells_i cells_y cells_b cells_s
def dv (N : List Nat) : List DV := (N.map fun (k : Nat) => (k : Int)).map .i
theorem dv_len (N : List Nat) : (dv N).length = N.length := by simp [dv]
theorem dv_at {N : List Nat} {i : Nat} (hi : i < N.length) : atN (dv N) i = some (.i (N[i] : Nat)) := by
  show (dv N)[i]? = _
  unfold dv
  rw [List.getElem?_map, List.getElem?_map, List.getElem?_eq_getElem hi]; rfl
def obF (t : List T) (N M : List Nat) : OB := [(9234, t.map e2), (12808, dv N), (30216, dv M)]
set_option maxHeartbeats 4000000 in
theorem lpl_1 (m : Int) (t : List T) (N M : List Nat) (s z : Int) (b : Bool) (k : Nat) (hk : k < N.length) (hl : N.length ≤ 32) (h32 : ∀ o ∈ N, o < 32) (ha : ∀ j (hj : j < k), N[j]'(by omega) &&& N[k] ≠ N[j]'(by omega) ∧ N[j]'(by omega) &&& N[k] ≠ N[k]) :
    ex lf F_laws_FnLeastProofs_W1 ⟨[(3, .i m), (4, .own 9234 t.length 0 t.length), (5, .i s), (6, .own 12808 N.length 0 N.length), (7, .i z), (8, .own 30216 M.length 0 M.length), (9, .b b), (10, .i k), (11, .i 0)], obF t N M⟩ =
    some (.exit 2, ⟨[(3, .i m), (4, .own 9234 t.length 0 t.length), (5, .i s), (6, .own 12808 N.length 0 N.length), (7, .i z), (8, .own 30216 M.length 0 M.length), (9, .b b), (10, .i k), (11, .i k)], obF t N M⟩) := by
  refine loop_count (x := .exit 2) k (fun i => ⟨[(3, .i m), (4, .own 9234 t.length 0 t.length), (5, .i s), (6, .own 12808 N.length 0 N.length), (7, .i z), (8, .own 30216 M.length 0 M.length), (9, .b b), (10, .i k), (11, .i i)], obF t N M⟩) (fun i hi => ?_) ?_ (by simp)
  · have w1 : wr ((i : Int) + 1) = (i : Int) + 1 := wr_id (by omega) (by omega)
    have q1 := dv_at (N := N) (i := i) (by omega)
    have q2 := dv_at (N := N) (i := k) hk
    have o1 := h32 _ (List.getElem_mem (show i < N.length by omega))
    have o2 := h32 _ (List.getElem_mem hk)
    have an := and_nat o1 o2
    obtain ⟨a1, a2⟩ := ha i hi
    have lm := dv_len N
    have hi' : (i : Int) < k := by omega
    have hi2 : i < N.length := by omega
    unfold obF
    generalize dv N = es at *
    generalize dv M = es' at *
    have a1' : (((N[i]'(by omega) &&& N[k] : Nat) : Int) == (N[i]'(by omega) : Nat)) = false := beq_eq_false_iff_ne.2 (by omega)
    have a2' : (((N[i]'(by omega) &&& N[k] : Nat) : Int) == (N[k] : Nat)) = false := beq_eq_false_iff_ne.2 (by omega)
    generalize N[i]'(by omega) &&& N[k] = y3 at *
    generalize N[i]'(by omega) = y1 at *
    generalize N[k] = y2 at *
    simp [F_laws_FnLeastProofs_L1, hi, hi', hi2, hk, q1, q2, lm, w1, an, a1', a2']
  · unfold obF
    simp [F_laws_FnLeastProofs_L1]
set_option maxHeartbeats 4000000 in
theorem lpl_2 (m : Int) (t : List T) (N M : List Nat) (s z : Int) (b : Bool) (k : Nat) (hk : k < N.length) (hl : N.length ≤ 32) (hl' : M.length ≤ 32) (h32 : ∀ o ∈ N, o < 32) (h32' : ∀ o ∈ M, o < 32) (ha : b = true → ∀ p ∈ M, N[k] &&& p ≠ 0) :
    ∃ j : Int, ex lf F_laws_FnLeastProofs_W2 ⟨[(3, .i m), (4, .own 9234 t.length 0 t.length), (5, .i s), (6, .own 12808 N.length 0 N.length), (7, .i z), (8, .own 30216 M.length 0 M.length), (9, .b b), (10, .i k), (12, .i 0)], obF t N M⟩ =
    some (.exit 4, ⟨[(3, .i m), (4, .own 9234 t.length 0 t.length), (5, .i s), (6, .own 12808 N.length 0 N.length), (7, .i z), (8, .own 30216 M.length 0 M.length), (9, .b b), (10, .i k), (12, .i j)], obF t N M⟩) := by
  cases b with
  | false =>
    refine ⟨0, ?_⟩
    rw [w_laws_FnLeastProofs_2]
    have lm := dv_len M
    unfold obF
    by_cases h0 : 0 < M.length
    · simp [F_laws_FnLeastProofs_L2, lm, h0]
    · simp [F_laws_FnLeastProofs_L2, lm, h0]
  | true =>
    refine ⟨M.length, ?_⟩
    refine loop_count (x := .exit 4) M.length (fun i => ⟨[(3, .i m), (4, .own 9234 t.length 0 t.length), (5, .i s), (6, .own 12808 N.length 0 N.length), (7, .i z), (8, .own 30216 M.length 0 M.length), (9, .b true), (10, .i k), (12, .i i)], obF t N M⟩) (fun i hi => ?_) ?_ (by simp)
    · have w1 : wr ((i : Int) + 1) = (i : Int) + 1 := wr_id (by omega) (by omega)
      have q1 := dv_at (N := M) (i := i) hi
      have q2 := dv_at (N := N) (i := k) hk
      have o1 := h32' _ (List.getElem_mem hi)
      have o2 := h32 _ (List.getElem_mem hk)
      have an := and_nat o2 o1
      have a1 := ha rfl _ (List.getElem_mem hi)
      have lm := dv_len N
      have lm' := dv_len M
      have hi' : (i : Int) < M.length := by omega
      unfold obF
      generalize dv N = es at *
      generalize dv M = es' at *
      have a1' : (((N[k] &&& M[i] : Nat) : Int) == 0) = false := beq_eq_false_iff_ne.2 (by omega)
      generalize N[k] &&& M[i] = y3 at *
      generalize M[i] = y1 at *
      generalize N[k] = y2 at *
      simp [F_laws_FnLeastProofs_L2, hi, hi', hk, q1, q2, lm, lm', w1, an, a1']
    · have lm' := dv_len M
      unfold obF
      simp [F_laws_FnLeastProofs_L2]
set_option maxHeartbeats 4000000 in
theorem lpl_0 (m : Int) (t : List T) (N M : List Nat) (s : Int) (z : Nat) (b : Bool) (hz : z < 32) (ht : t.length ≤ 12) (hl : N.length ≤ 32) (hl' : M.length ≤ 32) (h32 : ∀ o ∈ N, o < 32) (h32' : ∀ o ∈ M, o < 32)
    (hp : ∀ o ∈ N, call lf n_impl_ProofOk [.i m, .sl 0 (t.map e2), .i s, .i o] = some (.b true, [])) (hi : ∀ o ∈ N, o &&& z = 0)
    (ha : ∀ j k (hk : k < N.length) (hj : j < k), N[j]'(by omega) &&& N[k] ≠ N[j]'(by omega) ∧ N[j]'(by omega) &&& N[k] ≠ N[k]) (hb : b = true → ∀ o ∈ N, ∀ p ∈ M, o &&& p ≠ 0) :
    ex lf F_laws_FnLeastProofs_W0 ⟨[(3, .i m), (4, .own 9234 t.length 0 t.length), (5, .i s), (6, .own 12808 N.length 0 N.length), (7, .i z), (8, .own 30216 M.length 0 M.length), (9, .b b), (10, .i 0)], obF t N M⟩ =
    some (.exit 0, ⟨[(3, .i m), (4, .own 9234 t.length 0 t.length), (5, .i s), (6, .own 12808 N.length 0 N.length), (7, .i z), (8, .own 30216 M.length 0 M.length), (9, .b b), (10, .i N.length)], obF t N M⟩) := by
  refine loop_count (x := .exit 0) N.length (fun i => ⟨[(3, .i m), (4, .own 9234 t.length 0 t.length), (5, .i s), (6, .own 12808 N.length 0 N.length), (7, .i z), (8, .own 30216 M.length 0 M.length), (9, .b b), (10, .i i)], obF t N M⟩) (fun i hk => ?_) ?_ (by simp)
  · have w1 : wr ((i : Int) + 1) = (i : Int) + 1 := wr_id (by omega) (by omega)
    have lb1 : t.length ≤ bound := by unfold bound; omega
    have q2 := dv_at (N := N) (i := i) hk
    have o2 := h32 _ (List.getElem_mem hk)
    have an := and_nat o2 hz
    rw [hi _ (List.getElem_mem hk)] at an
    have P := hp _ (List.getElem_mem hk)
    have L1 := lpl_1 m t N M s z b i hk hl h32 (fun j hj => ha j i hk hj)
    obtain ⟨j, L2⟩ := lpl_2 m t N M s z b i hk hl hl' h32 h32' (fun hb' => hb hb' _ (List.getElem_mem hk))
    have lm := dv_len N
    have hi' : (i : Int) < N.length := by omega
    unfold obF at *
    generalize dv N = es at *
    generalize dv M = es' at *
    generalize N[i] = y2 at *
    simp [F_laws_FnLeastProofs_L0, hk, hi', q2, lm, w1, an, P, L1, L2, lb1]
  · have lm := dv_len N
    unfold obF
    simp [F_laws_FnLeastProofs_L0]
set_option maxHeartbeats 4000000 in
theorem law_FnLeastProofs (x : List Nat) (_ : x.length ≤ Go.maxLen) (hb : ∀ y ∈ x, y < 256) : call lf n_laws_FnLeastProofs [bys x] = some (.b true, []) := by
  show call lf n_laws_FnLeastProofs [.sl 0 (x.map .y)] = _
  rw [call_k lf n_laws_FnLeastProofs _ (F := F_laws_FnLeastProofs) rfl rfl]
  by_cases hl : 1048576 < (x.length : Int)
  · simp (config := { maxSteps := 2000000 }) [F_laws_FnLeastProofs, hl]
  · obtain ⟨m, t, s, m1, t1, s1, d⟩ := c_DrawLeastProofs hb (by omega)
    have V1 := c_impl_LeastProofs m t s (by omega)
    have V2 := c_spec_LeastProofs m t s (by omega)
    have C1 := c_spec_TermOk m t (by omega)
    have C2 := c_spec_StateOk m s
    have lb1 : t.length ≤ bound := by unfold bound; omega
    cases hk : (tmOk m t && stOk m s) with
    | false =>
      have e : lpOf m t s = [] := by unfold lpOf; rw [hk]; rfl
      rw [e] at V1 V2
      have S := c_sameInts_self [] (by simp)
      simp only [List.map_nil] at V1 V2 S
      cases h1 : tmOk m t with
      | false =>
        rw [h1] at C1
        simp (config := { maxSteps := 2000000 }) [F_laws_FnLeastProofs, hl, d, V1, V2, S, C1, c_alive]
      | true =>
        rw [h1] at C1
        have h2 : stOk m s = false := by rw [h1] at hk; simpa using hk
        rw [h2] at C2
        simp (config := { maxSteps := 2000000 }) [F_laws_FnLeastProofs, hl, d, V1, V2, S, C1, C2, c_alive]
    | true =>
      have elp : lpOf m t s = sel (lpP m t s.toNat) (2 ^ m.toNat) := by unfold lpOf; rw [hk]; rfl
      rw [elp, sel_lpN] at V1 V2
      rw [Bool.and_eq_true] at hk
      rw [hk.1] at C1
      rw [hk.2] at C2
      have I1 := c_impl_IdleTests m t (by omega)
      have ei : idOf m t = (tabN (idP m t) m.toNat : Nat) := by unfold idOf; rw [hk.1]; rfl
      rw [ei] at I1
      obtain ⟨p1, p2, p3⟩ := pow5 m1.1 m1.2
      obtain ⟨_, s0, s2⟩ := stOk_iff.1 hk.2
      obtain ⟨q1, q2, q3⟩ := st_opp hk.2
      have hs : s.toNat < 2 ^ m.toNat := by omega
      have V3 := c_impl_LeastProofs m t (2 ^ m.toNat - 1 - s) (by omega)
      have elp3 : lpOf m t (2 ^ m.toNat - 1 - s) = sel (lpP m t (opp m s.toNat)) (2 ^ m.toNat) := by unfold lpOf; rw [hk.1, q1, q2]; rfl
      rw [elp3, sel_lpN] at V3
      have A1 := c_impl_ValueOf m t s (by omega)
      have A2 := c_impl_ValueOf m t (2 ^ m.toNat - 1 - s) (by omega)
      have ea1 : vOf m t s = tv t s.toNat := by unfold vOf; rw [hk.1, hk.2]; rfl
      have ea2 : vOf m t (2 ^ m.toNat - 1 - s) = tv t (opp m s.toNat) := by unfold vOf; rw [hk.1, q1, q2]; rfl
      rw [ea1] at A1
      rw [ea2] at A2
      have nl := lpN_len m t s.toNat
      have nl' := lpN_len m t (opp m s.toNat)
      have z1 := tabN_lt (idP m t) m.toNat
      have S := c_sameInts_self (lpN m t s.toNat) (by omega)
      have pos := lp_some m1.1 m1.2 (ts := t) hs
      have As := c_ascend (lpN m t s.toNat) (by omega) pos (fun i hi => lp_lt (Nat.lt_succ_self i) hi)
      have ne : ∀ u v : Bool, (u != v) = true → u ≠ v := fun u v h e => by rw [e] at h; simp at h
      have U := lpl_0 m t (lpN m t s.toNat) (lpN m t (opp m s.toNat)) s (tabN (idP m t) m.toNat) (tv t s.toNat != tv t (opp m s.toNat)) (by omega) t1 (by omega) (by omega)
        (fun o ho => by have := (mem_lpN.1 ho).1; omega) (fun o ho => by have := (mem_lpN.1 ho).1; omega)
        (fun o ho => by
          have C := c_impl_ProofOk m t s o (by omega)
          obtain ⟨o1, o2⟩ := mem_lpN.1 ho
          have so : stOk m o = true := stOk_iff.2 ⟨m1, by omega, by omega⟩
          have e : pfOf m t s o = true := by
            unfold pfOf
            rw [hk.1, hk.2, so, Int.toNat_natCast, (lpP_iff.1 o2).1]; rfl
          rw [e] at C
          exact C)
        (fun o ho => lp_idle m1.1 m1.2 hs ho)
        (fun j k hk hj => by
          have lt := lp_lt hj hk
          have a := lp_anti m1.1 m1.2 hs (List.getElem_mem (show j < (lpN m t s.toNat).length by omega)) (List.getElem_mem hk) (by omega)
          have b := lp_anti m1.1 m1.2 hs (List.getElem_mem hk) (List.getElem_mem (show j < (lpN m t s.toNat).length by omega)) (by omega)
          rw [Nat.and_comm] at b
          exact ⟨a, b⟩)
        (fun hd o ho p hp => lp_meet m1.1 m1.2 hs ho hp (ne _ _ hd))
      have sh := shl1 (k := m) (by omega) (by omega)
      have n1 : ¬ (m < 0) := by omega
      have w1 : wr ((2 : Int) ^ m.toNat - 1) = 2 ^ m.toNat - 1 := wr_id (by omega) (by omega)
      have w2 : wr ((2 : Int) ^ m.toNat - 1 - s) = 2 ^ m.toNat - 1 - s := wr_id (by omega) (by omega)
      have lb3 : (lpN m t s.toNat).length ≤ bound := by unfold bound; omega
      have lb4 : (lpN m t (opp m s.toNat)).length ≤ bound := by unfold bound; omega
      have lm := dv_len (lpN m t s.toNat)
      have lm' := dv_len (lpN m t (opp m s.toNat))
      have eb : (!(tv t s.toNat == tv t (opp m s.toNat))) = (tv t s.toNat != tv t (opp m s.toNat)) := rfl
      have f1 : ((lpN m t s.toNat).map fun (k : Nat) => (k : Int)).length = (lpN m t s.toNat).length := by simp
      have f2 : ((lpN m t (opp m s.toNat)).map fun (k : Nat) => (k : Int)).length = (lpN m t (opp m s.toNat)).length := by simp
      have tk1 : List.take (lpN m t s.toNat).length (dv (lpN m t s.toNat)) = dv (lpN m t s.toNat) := List.take_of_length_le (by rw [lm]; exact Nat.le_refl _)
      have tk2 : List.take (lpN m t (opp m s.toNat)).length (dv (lpN m t (opp m s.toNat))) = dv (lpN m t (opp m s.toNat)) := List.take_of_length_le (by rw [lm']; exact Nat.le_refl _)
      unfold obF at U
      unfold dv at *
      generalize tabN (idP m t) m.toNat = z at *
      generalize lpN m t s.toNat = N at *
      generalize lpN m t (opp m s.toNat) = M at *
      generalize tv t s.toNat = b1 at *
      generalize tv t (opp m s.toNat) = b2 at *
      generalize (N.map fun (k : Nat) => (k : Int)) = Ni at *
      generalize (M.map fun (k : Nat) => (k : Int)) = Mi at *
      cases b1 <;> cases b2 <;> simp at U <;> simp (config := { maxSteps := 2000000 }) [F_laws_FnLeastProofs, hl, d, V1, V2, V3, S, C1, C2, I1, A1, A2, As, U, sh, n1, w1, w2, lb1, lb3, lb4, lm, lm', f1, f2, tk1, tk2, pos]
end Zz
