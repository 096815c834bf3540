/- What the functions answer, as equations: L1b. No conditions. -/
import Derived.Test.YtadlmpjlkfbnfaaE2
import Derived.Test.YtadlmpjlkfbnfaaE4
namespace Zz
open Go.Lg Md
set_option linter.unusedSimpArgs false
set_option linter.unusedVariables false
attribute [local simp] ex_skip ex_ret ex_exit ks_region ks_seq ks_cond ks_block seqK_n seqK_e seqK_r regK_some condK_t condK_f blkK_n blkK_r blkK_e endK_n endK_r ex_ghost rr_false rr_true rd_free mo_nil mo_cons drK_some drK_none nxW_some nxW_none rw_nil rw_gen rw_gate ak_newnil ak_make ak_alloc ak_box ak_build ak_bslice ak_call ak_store ak_app iw_mm iw_idxp ef_mmx ef_mmn ef_idxp nxD_some nxD_none ov_i ov_y ov_b ov_s ov_st ov_sl ov_own ov_oad ov_adr ov_nil ov_np ov_und ov_dead ov_tup oldN_some oldN_nil oldN_none so_none so_i so_y so_b so_s so_st so_sl so_adr so_nil so_np so_und so_dead anyM_nil anyM_t anyM_c so_own so_oad rd_nil rd_gen rd_mv rd_gate iw_mv iw_newnil iw_pick iw_bin iw_eqb iw_eqs iw_un iw_len iw_lens iw_chk iw_fld iw_fldv iw_idxa iw_idx iw_load iw_store iw_slice iw_slices iw_make iw_alloc iw_box iw_build iw_bslice iw_app iw_b2i iw_i2b iw_i2i iw_same iw_b2s iw_s2b iw_ext iw_call nm_i nm_y nm_b nm_s nm_st nm_sl nm_own nm_oad nm_adr nm_nil nm_np nm_und nm_dead nm_tup rl_nil rl_gate rl_mv rl_gen opv_t opv_c nx_some nx_none gate_tt gate_tf gate_ft gate_ff gate_u fr_ap em_nil em_i em_y em_b em_s em_st em_sl em_own em_adr em_oad em_ref em_nl em_np em_und em_dead em_tup0 em_tup_i em_tup_b em_tup_s em_tup_sl em_tup_st em_tup_np em_tup_own em_tup_oad mm_i mm_y mm_b mm_s mm_st mm_sl mm_own mm_oad mm_adr mm_nil mm_np mm_und mm_dead ef_mv ef_newnil ef_pickt ef_pickf ef_bin ef_eqb ef_eqs ef_un ef_lens ef_len_sl ef_len_own ef_len_nil ef_chk_adr ef_chk_oad ef_fld_adr ef_fld_oad ef_fldv idxR_some ef_idxa_sl ef_idxa_own ef_idx ef_load_adr_st ef_load_adr_i ef_load_adr_y ef_load_adr_b ef_load_adr_s ef_load_adr_sl atN_nil atN_zero atN_succ ef_load_oad ef_store ef_slice ef_slices ef_make ef_alloc ef_box ef_build ef_bslice ef_app_own ef_app_nil ef_b2i ef_i2b ef_i2i ef_same ef_ext ret1 ret2_some calL_some ef_call retC_i retC_y retC_b retC_s retC_st retC_sl retC_np retC_fr retC_ref retC_tup rk_nil rk_i rk_y rk_b rk_s rk_st rk_sl rk_own rk_oad rk_nl ok_nil ok_i ok_y ok_b ok_s ok_st ok_sl ok_own ok_oad ok_nl lo_nil lo_i lo_y lo_b lo_s lo_st lo_sl lo_own lo_oad lo_nl pr_nil pr_i pr_y pr_b pr_s pr_st pr_sl pr_own pr_nl pr_oad nr_i nr_y nr_b nr_s nr_st nr_sl nr_fr nr_np nr_tup ng_i ng_b ng_s ng_fr ng_nil resV effP_eff binD bi_add bi_sub bi_mul bi_quo bi_rem bi_eql bi_neq bi_lss bi_leq bi_gtr bi_geq bi_shl bi_shr bi_and bi_or bi_xor bi_andNot binY binS unD look put putD LS.get LS.drop killE sweep lookO putO dropO enter leave giveBackL giveBack outs lendArgs lendArg newOuts takeIn takeInL lendL DV.lend adoptL DV.adopt elems apartKs part DV.cells unpart settle settleL over mkId szId fillP fillE tk_e2 tk_i tk_y lt_e2 lt_i lt_y lend_rep lend_app adopt_app new_app lend_e2 lend_i lend_y adopt_e2 adopt_i adopt_y new_e2 new_i allNewL DV.allNew bounds sliceD sliceS
attribute [local congr] gate_congr nx_congr nxD_congr runL_congr runD_congr eff_congr calL_congr ret2_congr seqK_congr regK_congr condK_congr endK_congr drK_congr nxW_congr
attribute [local simp ↓] gate_tt gate_tf gate_ft gate_ff gate_u nx_some nxD_some rl_nil rl_mv rl_gen rl_gate rd_nil rd_mv rd_gen rd_gate rd_free rr_false rr_true drK_some drK_none nxW_some rw_nil rw_gen rw_gate ks_region ks_seq ks_cond ks_block seqK_n seqK_e seqK_r regK_some condK_t condK_f blkK_n blkK_r endK_n endK_r calL_some ret2_some opv_t opv_c


theorem at_i {ks : List Int} {i : Nat} (hi : i < ks.length) : ∃ k, ks[i]? = some k ∧ k ∈ ks ∧ atI (ks.map .i) i = some (.i k) ∧ ks.take (i + 1) = ks.take i ++ [k] := by
  refine ⟨ks[i], List.getElem?_eq_getElem hi, List.getElem_mem hi, ?_, List.take_succ_eq_append_getElem hi⟩
  simp [atI, hi]
theorem unk_append : ∀ a b : List Int, unk (a ++ b) = unk a + unk b
  | [], b => by simp [unk]
  | k :: r, b => by simp only [List.cons_append, unk, unk_append r b]; omega
def nag (ks : List Int) (i : Nat) : Int := sumTo (fun s => if ag ks s then 1 else 0) i
theorem nag_succ (ks : List Int) (i : Nat) : nag ks (i + 1) = nag ks i + if ag ks i then 1 else 0 := rfl
theorem nag_bound (ks : List Int) (i : Nat) : 0 ≤ nag ks i ∧ nag ks i ≤ i := by
  have := sumTo_nonneg (f := fun s => if ag ks s then 1 else 0) (B := 1) (by omega) i (fun k _ => by split <;> omega)
  unfold nag; omega
set_option maxHeartbeats 4000000 in
theorem law_FnAgreesOk (x : List Nat) (_ : x.length ≤ Go.maxLen) (hb : ∀ y ∈ x, y < 256) : call lf n_laws_FnAgreesOk [bys x] = some (.b true, []) := by
  show call lf n_laws_FnAgreesOk [.sl 0 (x.map .y)] = _
  rw [call_k lf n_laws_FnAgreesOk _ (F := F_laws_FnAgreesOk) rfl rfl]
  by_cases hl : 1048576 < (x.length : Int)
  · simp [F_laws_FnAgreesOk, hl]
  · obtain ⟨m, ks, s, m1, k1, s1, d⟩ := c_DrawAgreesOk hb (by omega)
    have C1 := c_impl_AgreesOk m ks s (by omega)
    have C2 := c_spec_AgreesOk m ks s (by omega)
    have C3 := c_spec_KnownOk m ks (by omega)
    cases h1 : ksOk m ks with
    | false =>
      have e : agOk m ks s = false := by simp [agOk, h1]
      rw [e] at C1 C2
      simp (config := { maxSteps := 2000000 }) [F_laws_FnAgreesOk, hl, d, C1, C2, C3, h1, c_alive]
    | true =>
      cases h2 : stOk m s with
      | false =>
        have e : agOk m ks s = false := by simp [agOk, h2]
        rw [e] at C1 C2
        simp (config := { maxSteps := 2000000 }) [F_laws_FnAgreesOk, hl, d, C1, C2, C3, c_spec_StateOk, h1, h2, c_alive]
      | true =>
        have h1' := ksOk_iff.1 h1
        have h2' := (stOk_iff.1 h2).2
        obtain ⟨n, hn⟩ : ∃ n : Nat, m = n := ⟨m.toNat, by omega⟩
        subst hn
        have en : n = ks.length := by omega
        simp only [Int.toNat_natCast] at h2'
        have n2 : ¬ ((n : Int) < 0) := by omega
        have sh := shl1 (k := n) (by omega) (by omega)
        simp only [Int.toNat_natCast] at sh
        have P : (2 : Nat) ^ n ≤ 2 ^ 5 := Nat.pow_le_pow_right (by omega) (by omega)
        have Pc : ((2 ^ n : Nat) : Int) = 2 ^ n := by simp
        match ks, en, h1, h1', C1, C2, C3, d, k1 with
        | [], en, _, _, _, _, _, _, _ => simp at en; omega
        | k :: r, en, h1, h1', C1, C2, C3, d, k1 =>
        have ea : agOk n (k :: r) s = ag (k :: r) s := by rw [agOk, h1, h2]; rfl
        rw [ea] at C1 C2
        have hlen : (k :: r).length = n := en.symm
        have L : ∀ (al : Bool) , ex lf F_laws_FnAgreesOk_W0 ⟨[(3, .i n), (4, .own 8714 (r.length + 1) 0 (r.length + 1)), (5, .i s), (6, .b al), (7, .own 23560 (r.length + 1) 0 (r.length + 1)), (8, .i 0), (9, .i 0), (10, .i 0)], [(8714, .i k :: r.map .i), (23560, .i (-1) :: r.map .i)]⟩ =
            some (.exit 0, ⟨[(3, .i n), (4, .own 8714 (r.length + 1) 0 (r.length + 1)), (5, .i s), (6, .b al), (7, .own 23560 (r.length + 1) 0 (r.length + 1)), (8, .i (nag (k :: r) (2 ^ n))), (9, .i 0), (10, .i (2 ^ n))], [(8714, .i k :: r.map .i), (23560, .i (-1) :: r.map .i)]⟩) := by
          intro al
          refine loop_count (2 ^ n) (fun i => ⟨[(3, .i n), (4, .own 8714 (r.length + 1) 0 (r.length + 1)), (5, .i s), (6, .b al), (7, .own 23560 (r.length + 1) 0 (r.length + 1)), (8, .i (nag (k :: r) i)), (9, .i 0), (10, .i i)], [(8714, .i k :: r.map .i), (23560, .i (-1) :: r.map .i)]⟩) (fun i hi => ?_) ?_ (by simp)
          · have hlt : ((i : Nat) : Int) < 2 ^ n := by omega
            have A := c_impl_AgreesOk n (k :: r) i (by omega)
            have es : stOk n (i : Int) = true := by rw [stOk_iff]; exact ⟨h1'.1, by omega, by simpa using hlt⟩
            have e2 : agOk n (k :: r) i = ag (k :: r) i := by rw [agOk, h1, es]; rfl
            rw [e2] at A
            have b := nag_bound (k :: r) i
            have w1 : wr ((i : Int) + 1) = (i : Int) + 1 := wr_id (by omega) (by omega)
            have w2 : wr (nag (k :: r) i + 1) = nag (k :: r) i + 1 := wr_id (by omega) (by omega)
            simp at A
            cases ha : ag (k :: r) i <;> rw [ha] at A <;> simp [F_laws_FnAgreesOk_L0, n2, sh, hlt, A, w1, w2, nag_succ, ha]
          · simp [F_laws_FnAgreesOk_L0, n2, sh]
        have L2 : ∀ (al : Bool) (z w : Int), ex lf F_laws_FnAgreesOk_W1 ⟨[(3, .i n), (4, .own 8714 (r.length + 1) 0 (r.length + 1)), (5, .i s), (6, .b al), (7, .own 23560 (r.length + 1) 0 (r.length + 1)), (8, .i z), (9, .i 0), (11, .i 0)], [(8714, .i k :: r.map .i), (23560, .i (-1) :: r.map .i)]⟩ =
            some (.exit 2, ⟨[(3, .i n), (4, .own 8714 (r.length + 1) 0 (r.length + 1)), (5, .i s), (6, .b al), (7, .own 23560 (r.length + 1) 0 (r.length + 1)), (8, .i z), (9, .i (unk (k :: r))), (11, .i n)], [(8714, .i k :: r.map .i), (23560, .i (-1) :: r.map .i)]⟩) := by
          intro al z w
          have := loop_count (lf := lf) (L := F_laws_FnAgreesOk_L1) n (fun i => ⟨[(3, .i n), (4, .own 8714 (r.length + 1) 0 (r.length + 1)), (5, .i s), (6, .b al), (7, .own 23560 (r.length + 1) 0 (r.length + 1)), (8, .i z), (9, .i (unk ((k :: r).take i))), (11, .i i)], [(8714, (k :: r).map .i), (23560, .i (-1) :: r.map .i)]⟩) (x := .exit 2) (R := ⟨[(3, .i n), (4, .own 8714 (r.length + 1) 0 (r.length + 1)), (5, .i s), (6, .b al), (7, .own 23560 (r.length + 1) 0 (r.length + 1)), (8, .i z), (9, .i (unk ((k :: r).take n))), (11, .i n)], [(8714, (k :: r).map .i), (23560, .i (-1) :: r.map .i)]⟩) (fun i hi => ?_) ?_ (by simp)
          · rw [← hlen, List.take_length] at this
            rw [← hlen]
            simp only [List.map_cons, List.take_zero, unk] at this
            exact this
          · obtain ⟨q, q1, q2, q3, q4⟩ := at_i (ks := k :: r) (i := i) (by omega)
            have hlt : ((i : Nat) : Int) < n := by omega
            have q5 : atN ((k :: r).map .i) i = some (.i q) := by
              show ((k :: r).map DV.i)[i]? = _
              rw [List.getElem?_map, q1]; rfl
            have ub := unk_bound ((k :: r).take i)
            have ul : ((k :: r).take i).length ≤ 6 := by simp only [List.length_take]; omega
            have w1 : wr ((i : Int) + 1) = (i : Int) + 1 := wr_id (by omega) (by omega)
            have w2 : wr (unk ((k :: r).take i) + 1) = unk ((k :: r).take i) + 1 := wr_id (by omega) (by omega)
            have e := unk_append ((k :: r).take i) [q]
            rw [← q4] at e
            have i6 : (i : Int) < r.length + 1 := by simp only [List.length_cons] at hlen; omega
            have lm : ((k :: r).map DV.i).length = r.length + 1 := by simp
            generalize (k :: r).map DV.i = es at *
            generalize unk ((k :: r).take i) = u at *
            generalize unk ((k :: r).take (i + 1)) = v at *
            by_cases hq : q = -1
            · subst hq
              simp only [unk, if_true, Int.add_zero] at e
              simp [F_laws_FnAgreesOk_L1, hi, i6, q5, lm, w1, w2, e]
            · have hq' : (q == -1) = false := beq_eq_false_iff_ne.2 hq
              simp only [unk, if_neg hq, Int.add_zero] at e
              simp [F_laws_FnAgreesOk_L1, hi, i6, q5, lm, w1, hq', e]
          · simp [F_laws_FnAgreesOk_L1]
        have ub := unk_bound (k :: r)
        have N : nag (k :: r) (2 ^ n) = 2 ^ (unk (k :: r)).toNat := by
          have := na_unk h1'.2.2
          rw [na, hlen] at this
          exact this
        have sh2 := shl1 (k := unk (k :: r)) (by omega) (by simp only [hlen] at ub; omega)
        have n3 : ¬ (unk (k :: r) < 0) := by omega
        have A := c_impl_AgreesOk n (-1 :: r) s (by simp at hlen ⊢; omega)
        have eA : agOk n (-1 :: r) s = ag r (s / 2) := by
          have : ksOk n (-1 :: r) = true := by
            rw [ksOk_iff]
            refine ⟨h1'.1, by simpa using h1'.2.1, ?_⟩
            have := h1'.2.2
            simp only [List.all_cons, Bool.and_eq_true] at this ⊢
            exact ⟨by decide, this.2⟩
          rw [agOk, this, h2]; simp [ag]
        rw [eA] at A
        have eB : ag (k :: r) s = true → ag r (s / 2) = true := by
          intro h; simp only [ag, Bool.and_eq_true] at h; exact h.2
        have b1 : r.length + 1 ≤ bound := by unfold bound; simp at hlen; omega
        have LL := fun al => L2 al (nag (k :: r) (2 ^ n)) 0
        rw [N] at L LL
        simp at C1 C2 C3 d A
        cases hg : ag (k :: r) s with
        | false =>
          rw [hg] at C1 C2
          simp (config := { maxSteps := 2000000 }) [F_laws_FnAgreesOk, hl, d, C1, C2, C3, c_spec_StateOk, h1, h2, L, LL, sh2, n3, b1]
        | true =>
          rw [hg] at C1 C2
          rw [eB hg] at A
          simp (config := { maxSteps := 2000000 }) [F_laws_FnAgreesOk, hl, d, C1, C2, C3, c_spec_StateOk, h1, h2, L, LL, sh2, n3, A, b1]
end Zz
