/- What the functions answer, as equations: L2b. No conditions. -/
import Derived.Test.YtadlmpjlkfbnfacE9
import Derived.Test.YtadlmpjlkfbnfacL2a
namespace Zz
open Go.Lg Md
set_option linter.unusedSimpArgs false
set_option linter.unusedVariables false
attribute [local simp] oldO_some oa_nil oa_i oa_y oa_b oa_s oa_st oa_sl oa_own oa_oad oa_nl al_nil al_cons al_i al_y al_b al_s al_st al_sl nxF_some nxF_none rf_nil rf_gen rf_gate hk_newnil hk_make hk_alloc hk_box hk_build hk_bslice hk_call hk_store hk_app cl_nil cl_cons ai_nil ai_cons il_i il_y il_b il_s il_st il_sl il_own il_adr il_oad il_ref il_fr il_tup il_nil il_np il_und il_dead oi_e oi_i oi_y oi_b oi_s oi_st oi_sl oi_own oi_adr oi_oad oi_ref oi_fr oi_tup oi_nil oi_np oi_und oi_dead as_nil as_cons ao_nil ao_cons av_i av_y av_b av_s av_st av_sl av_own av_adr av_oad av_ref av_fr av_tup av_nil av_np av_und av_dead pro_cons ghK_some ks_promote ks_rename ren_own dropO adoptP newP wholeP cutP allOldL ex_skip ex_ret ex_exit ks_region ks_seq ks_cond ks_block seqK_n seqK_e seqK_r regK_some condK_t condK_f blkK_n blkK_r blkK_e endK_n endK_r rr_false rr_true rd_free mo_nil mo_cons drK_some drK_none nxW_some nxW_none rw_nil rw_gen rw_gate ak_newnil ak_make ak_alloc ak_box ak_build ak_bslice ak_call ak_store ak_app iw_mm iw_idxp ef_mmx ef_mmn ef_idxp nxD_some nxD_none ov_i ov_y ov_b ov_s ov_st ov_sl ov_own ov_oad ov_adr ov_nil ov_np ov_und ov_dead ov_tup oldN_some oldN_nil oldN_none so_none so_i so_y so_b so_s so_st so_sl so_adr so_nil so_np so_und so_dead anyM_nil anyM_t anyM_c so_own so_oad rd_nil rd_gen rd_mv rd_gate iw_mv iw_newnil iw_pick iw_bin iw_eqb iw_eqs iw_un iw_len iw_lens iw_chk iw_fld iw_fldv iw_idxa iw_idx iw_load iw_store iw_slice iw_slices iw_make iw_alloc iw_box iw_build iw_bslice iw_app iw_b2i iw_i2b iw_i2i iw_same iw_b2s iw_s2b iw_ext iw_call nm_i nm_y nm_b nm_s nm_st nm_sl nm_own nm_oad nm_adr nm_nil nm_np nm_und nm_dead nm_tup rl_nil rl_gate rl_mv rl_gen opv_t opv_c nx_some nx_none gate_tt gate_tf gate_ft gate_ff gate_u fr_ap em_nil em_i em_y em_b em_s em_st em_sl em_own em_adr em_oad em_ref em_nl em_np em_und em_dead em_tup0 em_tup_i em_tup_b em_tup_s em_tup_sl em_tup_st em_tup_np em_tup_own em_tup_oad mm_i mm_y mm_b mm_s mm_st mm_sl mm_own mm_oad mm_adr mm_nil mm_np mm_und mm_dead ef_mv ef_newnil ef_pickt ef_pickf ef_bin ef_eqb ef_eqs ef_un ef_lens ef_len_sl ef_len_own ef_len_nil ef_chk_adr ef_chk_oad ef_fld_adr ef_fld_oad ef_fldv idxR_some ef_idxa_sl ef_idxa_own ef_idx ef_load_adr_st ef_load_adr_i ef_load_adr_y ef_load_adr_b ef_load_adr_s ef_load_adr_sl atN_nil atN_zero atN_succ ef_load_oad ef_store ef_slice ef_slices ef_make ef_alloc ef_box ef_build ef_bslice ef_app_own ef_app_nil ef_b2i ef_i2b ef_i2i ef_same ef_ext ret1 ret2_some calL_some ef_call retC_i retC_y retC_b retC_s retC_st retC_sl retC_np retC_fr retC_ref retC_tup rk_nil rk_i rk_y rk_b rk_s rk_st rk_sl rk_own rk_oad rk_nl ok_nil ok_i ok_y ok_b ok_s ok_st ok_sl ok_own ok_oad ok_nl lo_nil lo_i lo_y lo_b lo_s lo_st lo_sl lo_own lo_oad lo_nl pr_nil pr_i pr_y pr_b pr_s pr_st pr_sl pr_own pr_nl pr_oad nr_i nr_y nr_b nr_s nr_st nr_sl nr_fr nr_np nr_tup ng_i ng_b ng_s ng_fr ng_nil resV effP_eff binD bi_add bi_sub bi_mul bi_quo bi_rem bi_eql bi_neq bi_lss bi_leq bi_gtr bi_geq bi_shl bi_shr bi_and bi_or bi_xor bi_andNot binY binS unD look put putD LS.get LS.drop killE sweep lookO putO dropO enter leave giveBackL giveBack outs lendArgs lendArg newOuts takeIn takeInL lendL DV.lend adoptL DV.adopt elems apartKs part DV.cells unpart settle settleL over mkId szId fillP fillE tk_e2 tk_i tk_y lt_e2 lt_i lt_y lend_rep al_e2 al_is al_ys al_rep al_app lend_app adopt_app new_app lend_e2 lend_i lend_y adopt_e2 adopt_i adopt_y new_e2 new_i allNewL DV.allNew bounds sliceD sliceS
attribute [local congr] nxF_congr ghK_congr gate_congr nx_congr nxD_congr runL_congr runD_congr eff_congr calL_congr ret2_congr seqK_congr regK_congr condK_congr endK_congr drK_congr nxW_congr
attribute [local simp ↓] nxF_some rf_nil rf_gen rf_gate ks_promote ks_rename ghK_some gate_tt gate_tf gate_ft gate_ff gate_u nx_some nxD_some rl_nil rl_mv rl_gen rl_gate rd_nil rd_mv rd_gen rd_gate rd_free rr_false rr_true drK_some drK_none nxW_some rw_nil rw_gen rw_gate ks_region ks_seq ks_cond ks_block seqK_n seqK_e seqK_r regK_some condK_t condK_f blkK_n blkK_r endK_n endK_r calL_some ret2_some opv_t opv_c
attribute [-simp] DV.cells
attribute [local simp] cells_st cells_sl cells_i cells_y cells_b cells_s
theorem c_DrawLettersOf {bs : List Nat} (hb : ∀ y ∈ bs, y < 256) (hl : bs.length ≤ 1048576) :
    ∃ (a : Int) (t : List T), 1 ≤ a ∧ a ≤ 10 ∧ t.length ≤ 12 ∧ call lf n_spec_DrawLettersOf [.sl 0 (bs.map .y)] = some (.tup [.i a, .fr 2 (t.map e2)], []) := by
  obtain ⟨c1, c2⟩ := take_b hb
  have o := c_open hl
  generalize bs.take 2000 = cs at *
  obtain ⟨a, t, p', a1, a2, t1, _, _, h⟩ := c_l20Asked c1 c2 (by omega : (0 : Int) ≤ 0) (by omega) (by omega : (1 : Int) ≤ 9) (by omega)
  refine ⟨a, t, a1, a2, t1, ?_⟩
  rw [call_k lf n_spec_DrawLettersOf _ (F := F_spec_DrawLettersOf) rfl rfl]
  simp [F_spec_DrawLettersOf, o, h]
theorem c_DrawOnceOk {bs : List Nat} (hb : ∀ y ∈ bs, y < 256) (hl : bs.length ≤ 1048576) :
    ∃ (a : Int) (t : List T), 1 ≤ a ∧ a ≤ 10 ∧ t.length ≤ 12 ∧ call lf n_spec_DrawOnceOk [.sl 0 (bs.map .y)] = some (.tup [.i a, .fr 2 (t.map e2)], []) := by
  obtain ⟨c1, c2⟩ := take_b hb
  have o := c_open hl
  generalize bs.take 2000 = cs at *
  obtain ⟨a, t, p', a1, a2, t1, _, _, h⟩ := c_l20Asked c1 c2 (by omega : (0 : Int) ≤ 0) (by omega) (by omega : (1 : Int) ≤ 9) (by omega)
  refine ⟨a, t, a1, a2, t1, ?_⟩
  rw [call_k lf n_spec_DrawOnceOk _ (F := F_spec_DrawOnceOk) rfl rfl]
  simp [F_spec_DrawOnceOk, o, h]
theorem c_DrawDualTerm {bs : List Nat} (hb : ∀ y ∈ bs, y < 256) (hl : bs.length ≤ 1048576) :
    ∃ (a : Int) (t : List T), 1 ≤ a ∧ a ≤ 10 ∧ t.length ≤ 12 ∧ call lf n_spec_DrawDualTerm [.sl 0 (bs.map .y)] = some (.tup [.i a, .fr 2 (t.map e2)], []) := by
  obtain ⟨c1, c2⟩ := take_b hb
  have o := c_open hl
  generalize bs.take 2000 = cs at *
  obtain ⟨a, t, p', a1, a2, t1, _, _, h⟩ := c_l20Asked c1 c2 (by omega : (0 : Int) ≤ 0) (by omega) (by omega : (1 : Int) ≤ 9) (by omega)
  refine ⟨a, t, a1, a2, t1, ?_⟩
  rw [call_k lf n_spec_DrawDualTerm _ (F := F_spec_DrawDualTerm) rfl rfl]
  simp [F_spec_DrawDualTerm, o, h]
theorem c_sameMarks (as bs : List T) (ha : as.length ≤ 1000) : call lf n_laws_sameMarks [.sl 0 (as.map e2), .sl 0 (bs.map e2)] = some (.b (as == bs), []) := by
  rw [call_k lf n_laws_sameMarks _ (F := F_laws_sameMarks) rfl rfl]
  by_cases hl : (as.length : Int) = bs.length
  · have L : ex lf F_laws_sameMarks_W0 ⟨[(0, .sl 0 (as.map e2)), (1, .sl 0 (bs.map e2)), (5, .i 0)], []⟩ = if allTo (eqAt as bs) as.length = true then some (.exit 0, ⟨[(0, .sl 0 (as.map e2)), (1, .sl 0 (bs.map e2)), (5, .i as.length)], []⟩) else some (.ret, ⟨[(4, .b false)], []⟩) := by
      refine loop_all as.length (fun i => ⟨[(0, .sl 0 (as.map e2)), (1, .sl 0 (bs.map e2)), (5, .i i)], []⟩) _ (fun i hi => ?_) ?_ (by simp)
      · obtain ⟨t, q1, q2, q3, q4⟩ := at_e2 hi
        obtain ⟨u, r1, r2, r3, r4⟩ := at_e2 (ts := bs) (i := i) (by omega)
        have w1 : wr ((i : Int) + 1) = (i : Int) + 1 := wr_id (by omega) (by omega)
        by_cases x1 : t.1 = u.1
        · by_cases x2 : t.2 = u.2
          · have e : eqAt as bs i = true := by rw [eqAt, q1, r1]; simp [Prod.ext x1 x2]
            simp [F_laws_sameMarks_L0, hi, q3, r3, w1, eqI, x1, x2, e]
          · have e : eqAt as bs i = false := by
              rw [eqAt, q1, r1, beq_eq_false_iff_ne]; intro h; injection h with h; exact x2 (by rw [h])
            simp [F_laws_sameMarks_L0, hi, q3, r3, w1, eqI, x1, x2, e]
        · have e : eqAt as bs i = false := by
            rw [eqAt, q1, r1, beq_eq_false_iff_ne]; intro h; injection h with h; exact x1 (by rw [h])
          simp [F_laws_sameMarks_L0, hi, q3, r3, w1, eqI, x1, e]
      · simp [F_laws_sameMarks_L0]
    have e : allTo (eqAt as bs) as.length = (as == bs) := by
      rw [Bool.eq_iff_iff, allTo_iff, beq_iff_eq]
      constructor
      · intro h
        apply List.ext_getElem?
        intro i
        by_cases hi : i < as.length
        · have := h i hi
          unfold eqAt at this
          exact beq_iff_eq.1 this
        · rw [List.getElem?_eq_none (by omega), List.getElem?_eq_none (by omega)]
      · rintro rfl i _; simp [eqAt]
    rw [e] at L
    have hl' : as.length = bs.length := by omega
    cases h : (as == bs) <;> simp [F_laws_sameMarks, L, hl', h]
  · have e : (as == bs) = false := by rw [beq_eq_false_iff_ne]; rintro rfl; exact hl rfl
    have y : ((as.length : Int) != bs.length) = true := bne_iff_ne.2 hl
    simp [F_laws_sameMarks, y, e]
theorem runM_dual (m : Int) : ∀ {ts : List T} {p q : Int}, runM m p ts = some q → runM m p (ts.map dT) = some q ∧ (ts.map dT).map dT = ts
  | [], p, q, h => ⟨h, rfl⟩
  | t :: ts, p, q, h => by
    simp only [runM] at h
    cases hm : mkS m p t with
    | none => rw [hm] at h; cases h
    | some p1 =>
      rw [hm] at h
      obtain ⟨h1, h2⟩ := runM_dual m h
      have key : mkS m p (dT t) = some p1 ∧ dT (dT t) = t := by
        by_cases k2 : t.1 = 2
        · have hd : dT t = (3, 0) := by unfold dT; rw [if_pos k2]
          rw [hd]
          unfold mkS at hm
          rw [if_neg (by omega), if_neg (by omega), if_pos (.inl k2)] at hm
          split at hm
          · rename_i hc
            injection hm with hm
            refine ⟨?_, ?_⟩
            · unfold mkS
              rw [if_neg (show ¬ (3 : Int) = 0 by omega), if_neg (show ¬ (3 : Int) = 1 by omega), if_pos (.inr rfl), if_pos ⟨rfl, hc.2⟩, hm]
            · unfold dT
              rw [if_neg (show ¬ (3 : Int) = 2 by omega), if_pos rfl]
              exact Prod.ext k2.symm hc.1.symm
          · cases hm
        · by_cases k3 : t.1 = 3
          · have hd : dT t = (2, 0) := by unfold dT; rw [if_neg k2, if_pos k3]
            rw [hd]
            unfold mkS at hm
            rw [if_neg (by omega), if_neg (by omega), if_pos (.inr k3)] at hm
            split at hm
            · rename_i hc
              injection hm with hm
              refine ⟨?_, ?_⟩
              · unfold mkS
                rw [if_neg (show ¬ (2 : Int) = 0 by omega), if_neg (show ¬ (2 : Int) = 1 by omega), if_pos (.inl rfl), if_pos ⟨rfl, hc.2⟩, hm]
              · unfold dT
                rw [if_pos rfl]
                exact Prod.ext k3.symm hc.1.symm
            · cases hm
          · have hd : dT t = t := by unfold dT; rw [if_neg k2, if_neg k3]
            rw [hd]; exact ⟨hm, hd⟩
      simp only [List.map_cons, runM, key.1, key.2, h1, h2, and_self]
theorem tm_dual {m : Int} {ts : List T} (h : tmOk m ts = true) : tmOk m (ts.map dT) = true ∧ (ts.map dT).map dT = ts ∧ ts ≠ [] := by
  obtain ⟨h1, h2, h3⟩ := tmOk_iff.1 h
  obtain ⟨d1, d2⟩ := runM_dual m h3
  refine ⟨tmOk_iff.2 ⟨h1, by rw [List.length_map]; exact h2, d1⟩, d2, fun e => ?_⟩
  rw [e] at h3; simp only [runM] at h3; cases h3
set_option maxHeartbeats 4000000 in
theorem law_FnDualTerm (x : List Nat) (_ : x.length ≤ Go.maxLen) (hb : ∀ y ∈ x, y < 256) : call lf n_laws_FnDualTerm [bys x] = some (.b true, []) := by
  show call lf n_laws_FnDualTerm [.sl 0 (x.map .y)] = _
  rw [call_k lf n_laws_FnDualTerm _ (F := F_laws_FnDualTerm) rfl rfl]
  by_cases hl : 1048576 < (x.length : Int)
  · simp (config := { maxSteps := 2000000 }) [F_laws_FnDualTerm, hl]
  · obtain ⟨a, t, a1, a2, t1, d⟩ := c_DrawDualTerm hb (by omega)
    have D1 := c_impl_DualTerm a t (by omega)
    have D2 := c_spec_DualTerm a t (by omega)
    have C1 := c_impl_TermOk a t (by omega)
    cases hk : tmOk a t with
    | false =>
      rw [hk] at D1 D2 C1
      have S := c_sameMarks [] [] (by simp)
      simp at D1 D2 S
      simp (config := { maxSteps := 2000000 }) [F_laws_FnDualTerm, hl, d, D1, D2, C1, S, c_alive]
    | true =>
      rw [hk] at D1 D2
      obtain ⟨k1, k2, k3⟩ := tm_dual hk
      have S := c_sameMarks (t.map dT) (t.map dT) (by simp; omega)
      have C2 := c_impl_TermOk a (t.map dT) (by simp; omega)
      have D3 := c_impl_DualTerm a (t.map dT) (by simp; omega)
      rw [k1, k2] at D3
      rw [k1] at C2
      have S2 := c_sameMarks t t (by omega)
      have ne : ¬ (t.length = 0) := fun h => k3 (List.length_eq_zero_iff.1 h)
      have ne2 : ((t.length : Int) == 0) = false := by simp [k3]
      rw [show (t.map dT == t.map dT) = true from beq_self_eq_true _] at S
      rw [show (t == t) = true from beq_self_eq_true _] at S2
      have hlen : (t.map dT).length = t.length := List.length_map ..
      generalize t.map dT = u at *
      have tku : List.take t.length (List.map e2 u) = List.map e2 u := by rw [← hlen]; exact tk_e2 u
      simp at D1 D2 D3
      simp (config := { maxSteps := 2000000 }) [F_laws_FnDualTerm, hl, d, D1, D2, D3, C2, S, S2, hlen, tku, ne, ne2, k3]
end Zz
