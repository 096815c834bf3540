/- What the functions answer, as equations: L4f. No conditions. -/
import Derived.Test.YtaolcmhkmkgmpaaDoorL4d
set_option linter.unusedSectionVars false
set_option linter.unusedVariables false
set_option linter.unusedSimpArgs false
namespace Zz
open Go.Lg Md
set_option linter.unusedSimpArgs false
set_option linter.unusedVariables false
attribute [local simp] ia_mv ia_newnil ia_pick ia_bin ia_eqb ia_eqs ia_un ia_len ia_lens ia_chk ia_fld ia_fldv ia_idxa ia_idx ia_load ia_store ia_slice ia_slices ia_make ia_alloc ia_box ia_build ia_bslice ia_app ia_b2i ia_i2b ia_i2i ia_same ia_b2s ia_s2b ia_ext ia_mm ia_idxp ia_calld ia_mkfn ia_i2r ia_r2s ia_call pt_nil pt_cons gt_nil gt_t gt_c di_some di_none an_nil an_cons nxG_some nxG_none rg_nil rg_gen rg_gate oldO_some oa_nil oa_i oa_y oa_b oa_s oa_st oa_sl oa_own oa_oad oa_nl al_nil al_cons al_i al_y al_b al_s al_st al_sl nxF_some nxF_none rf_nil rf_gen rf_gate hk_newnil hk_make hk_alloc hk_box hk_build hk_bslice hk_call hk_store hk_app cl_nil cl_cons ai_nil ai_cons il_i il_y il_b il_s il_st il_sl il_own il_adr il_oad il_ref il_fr il_tup il_nil il_np il_und il_dead ol_adr ol_b ol_dead ol_e ol_fn ol_fr ol_i ol_nil ol_np ol_oad ol_own ol_q ol_r ol_ref ol_s ol_sl ol_st ol_tup ol_und ol_w ol_y oj_e oj_i oj_y oj_b oj_s oj_st oj_sl oj_own oj_adr oj_oad oj_ref oj_fr oj_tup oj_nil oj_np oj_und oj_dead oj_w oj_q oj_r oj_fn oi_e oi_i oi_y oi_b oi_s oi_st oi_sl oi_own oi_adr oi_oad oi_ref oi_fr oi_tup oi_nil oi_np oi_und oi_dead as_nil as_cons ao_nil ao_cons av_i av_y av_b av_s av_st av_sl av_own av_adr av_oad av_ref av_fr av_tup av_nil av_np av_und av_dead pro_cons ghK_some ks_promote ks_freeze frz_own ks_rename ren_own dropO adoptP newP wholeP cutP allOldL ex_skip ex_ret ex_exit ks_region ks_seq ks_cond ks_block seqK_n seqK_e seqK_r regK_some condK_t condK_f blkK_n blkK_r blkK_e endK_n endK_r rr_false rr_true rd_free mo_nil mo_cons drK_some drK_none nxW_some nxW_none rw_nil rw_gen rw_gate ak_newnil ak_make ak_alloc ak_box ak_build ak_bslice ak_call ak_store ak_app iw_mm iw_eqn iw_idxp ef_callg cgK_some gv_e gv_own gv_i gv_sl gv_st gv_b gv_nil gvK_some gvO_some iw_callg ia_callg ak_callg hk_callg is_mv is_newnil is_pick is_bin is_eqb is_eqs is_un is_len is_lens is_chk is_fld is_fldv is_idxa is_idx is_load is_slice is_slices is_make is_alloc is_box is_build is_bslice is_app is_conv is_ext is_call is_calld is_callg is_mkfn is_mm is_idxp is_eqn is_store rt_nil rt_gen rt_gate nxT_some nxT_none ef_eqn_nil ef_eqn_sl ef_eqn_own ia_eqn ef_mmx ef_mmn ef_idxp nxD_some nxD_none ov_i ov_y ov_b ov_s ov_st ov_sl ov_own ov_oad ov_adr ov_nil ov_np ov_und ov_dead ov_tup oldN_some oldN_nil oldN_none so_none so_i so_y so_b so_s so_st so_sl so_adr so_nil so_np so_und so_dead anyM_nil anyM_t anyM_c so_own so_oad rd_nil rd_gen rd_mv rd_gate iw_mv iw_newnil iw_pick iw_bin iw_eqb iw_eqs iw_un iw_len iw_lens iw_chk iw_fld iw_fldv iw_idxa iw_idx iw_load iw_store iw_slice iw_slices iw_make iw_alloc iw_box iw_build iw_bslice iw_app iw_b2i iw_i2b iw_i2i iw_same iw_b2s iw_s2b iw_ext iw_call nm_i nm_y nm_b nm_s nm_st nm_sl nm_own nm_oad nm_adr nm_nil nm_np nm_und nm_dead nm_tup rl_nil rl_gate rl_mv rl_gen opv_t opv_c nx_some nx_none gate_tt gate_tf gate_ft gate_ff gate_u fr_ap em_nil em_i em_y em_b em_s em_st em_sl em_own em_adr em_oad em_ref em_nl em_np em_und em_dead em_tup0 em_tup_i em_tup_b em_tup_s em_tup_sl em_tup_st em_tup_np em_tup_own em_tup_oad mm_i mm_y mm_b mm_s mm_st mm_sl mm_own mm_oad mm_adr mm_nil mm_np mm_und mm_dead ef_mv ef_newnil ef_pickt ef_pickf ef_bin ef_eqb ef_eqs ef_un ef_lens ef_len_sl ef_len_own ef_len_nil ef_chk_adr ef_chk_oad ef_fld_adr ef_fld_oad ef_fldv idxR_some ef_idxa_sl ef_idxa_own ef_idx ef_load_adr_st ef_load_adr_i ef_load_adr_y ef_load_adr_b ef_load_adr_s ef_load_adr_sl atN_nil atN_zero atN_succ ef_load_oad ef_store ef_slice ef_slices ef_make ef_alloc ef_box ef_build ef_bslice ef_app_own ef_app_nil ef_b2i ef_i2b ef_i2i ef_same ef_ext ret1 ret2_some calL_some ef_call retC_i retC_y retC_b retC_s retC_st retC_sl retC_np retC_fr retC_ref retC_tup rk_nil rk_i rk_y rk_b rk_s rk_st rk_sl rk_own rk_oad rk_nl ok_nil ok_i ok_y ok_b ok_s ok_st ok_sl ok_own ok_oad ok_nl lo_nil lo_i lo_y lo_b lo_s lo_st lo_sl lo_own lo_oad lo_nl pr_nil pr_i pr_y pr_b pr_s pr_st pr_sl pr_own pr_nl pr_oad nr_i nr_y nr_b nr_s nr_st nr_sl nr_fr nr_np nr_tup ng_i ng_b ng_s ng_fr ng_nil resV effP_eff binD bi_add bi_sub bi_mul bi_quo bi_rem bi_eql bi_neq bi_lss bi_leq bi_gtr bi_geq bi_shl bi_shr bi_and bi_or bi_xor bi_andNot binY binS unD look put putD LS.get LS.drop killE sweep lookO putO dropO enter leave giveBackL giveBack outs lendArgs lendArg newOuts takeIn takeInL lendL DV.lend adoptL DV.adopt elems apartKs part DV.cells unpart settle settleL over mkId szId fillP fillE tk_e2 tk_i tk_y lt_e2 lt_i lt_y lend_rep al_e2 al_is al_ys al_rep al_app lend_app adopt_app new_app lend_e2 lend_i lend_y adopt_e2 adopt_i adopt_y new_e2 new_i allNewL DV.allNew bounds sliceD sliceS em_w em_q em_r em_fn em_tup_w em_tup_q em_tup_r mm_w mm_q mm_r mm_fn ef_load_adr_w ef_load_adr_q ef_load_adr_r retC_w retC_q retC_r rk_w rk_q rk_r rk_fn ok_w ok_q ok_r ok_fn lo_w lo_q lo_r lo_fn pr_w pr_q pr_r pr_fn nr_w nr_q nr_r ng_w ng_q ng_r oa_w oa_q oa_r oa_fn al_w al_q al_r al_fn ov_w ov_q ov_r ov_fn so_w so_q so_r so_fn il_w il_q il_r il_fn oi_w oi_q oi_r oi_fn av_w av_q av_r av_fn nm_w nm_q nm_r nm_fn ef_i2r ef_r2s ef_mkfn ef_idxp_adr ef_calld capsOk DV.cell List.all_cons List.all_nil rk_own_t lo_own_t lk_f lk_t pr_own_t mutB ak_calld hk_calld iw_calld iw_mkfn iw_i2r iw_r2s bw_and bw_or bw_xor bw_andNot bw_eql bw_neq sw_shl sw_shr sq_shl gEnv_nil rk_adr ok_adr lo_adr pr_adr oa_adr capL capArg DV.cap ak_mkfn hk_mkfn
attribute [local congr] nxT_congr nxG_congr nxF_congr ghK_congr gate_congr nx_congr nxD_congr runL_congr runD_congr eff_congr calL_congr ret2_congr seqK_congr regK_congr condK_congr endK_congr drK_congr nxW_congr
attribute [local simp ↓] nxT_some rt_nil rt_gen rt_gate nxG_some rg_nil rg_gen rg_gate nxF_some rf_nil rf_gen rf_gate ks_promote ks_freeze frz_own ks_rename ghK_some gate_tt gate_tf gate_ft gate_ff gate_u nx_some nxD_some rl_nil rl_mv rl_gen rl_gate rd_nil rd_mv rd_gen rd_gate rd_free rr_false rr_true drK_some drK_none nxW_some rw_nil rw_gen rw_gate ks_region ks_seq ks_cond ks_block seqK_n seqK_e seqK_r regK_some condK_t condK_f blkK_n blkK_r endK_n endK_r calL_some ret2_some opv_t opv_c
attribute [-simp] DV.cells
attribute [local simp] cells_st cells_sl cells_i cells_y cells_b cells_s
/-! ### tests that never matter come best last -/
def mvL (I : Nat) : List Int → Int → List Int → List Int × Int
  | mv, l, [] => (mv, l)
  | mv, l, a :: r => if l < 0 ∧ I.testBit a.toNat = true then mvL I mv a r else mvL I (mv ++ [a]) l r
theorem mvL_nn {I : Nat} : ∀ {r mv : List Int} {l : Int}, 0 ≤ l → mvL I mv l r = (mv ++ r, l)
  | [], mv, l, _ => by simp [mvL]
  | a :: r, mv, l, h => by
    have : ¬ (l < 0 ∧ I.testBit a.toNat = true) := by omega
    rw [mvL, if_neg this, mvL_nn h]; simp
theorem mvL_n {I : Nat} : ∀ {r mv : List Int}, (∀ a ∈ r, 0 ≤ a) → mvL I mv (-1) r = (mv ++ r, -1) ∨ ∃ p a q, r = p ++ a :: q ∧ 0 ≤ a ∧ I.testBit a.toNat = true ∧ mvL I mv (-1) r = (mv ++ (p ++ q), a)
  | [], mv, _ => .inl (by simp [mvL])
  | a :: r, mv, h => by
    have ha := h a (by simp)
    by_cases hb : I.testBit a.toNat = true
    · exact .inr ⟨[], a, r, rfl, ha, hb, by rw [mvL, if_pos ⟨by omega, hb⟩, mvL_nn ha]; rfl⟩
    · have hn : ¬ ((-1 : Int) < 0 ∧ I.testBit a.toNat = true) := fun q => hb q.2
      rcases mvL_n (I := I) (r := r) (mv := mv ++ [a]) (fun x hx => h x (by simp [hx])) with e | ⟨p, b, q, rfl, b0, b1, e⟩
      · exact .inl (by rw [mvL, if_neg hn, e]; simp)
      · exact .inr ⟨a :: p, b, q, rfl, b0, b1, by rw [mvL, if_neg hn, e]; simp⟩
def stI (us t : List T) (os : List Int) (n : Int) (I : Nat) (mv : List Int) (l : Int) (k : Nat) : LS :=
  ⟨[(3, .own 8209 us.length 0 us.length), (4, .own 8210 t.length 0 t.length), (5, .own 8203 os.length 0 os.length), (6, .i n), (7, .i I), (8, .own 23560 mv.length 0 mv.length), (9, .i l), (10, .i k)], [(8203, os.map .i), (8209, us.map e2), (8210, t.map e2), (23560, mv.map .i)]⟩
set_option maxHeartbeats 4000000 in
theorem idle_loop (us t : List T) (os : List Int) (n : Int) (I : Nat) (hl : os.length ≤ 6) (ho : ∀ o ∈ os, 0 ≤ o ∧ o < 5) : ∀ (r : List Int) (k : Nat) (mv : List Int) (l : Int), os.drop k = r → k + r.length = os.length → mv.length ≤ k →
    ex lf F_laws_FnIdleLast_W0 (stI us t os n I mv l k) = some (.exit 0, stI us t os n I (mvL I mv l r).1 (mvL I mv l r).2 os.length) := by
  intro r
  induction r with
  | nil =>
    intro k mv l hd hk hm
    have : k = os.length := by simpa using hk
    subst this
    rw [w_laws_FnIdleLast_0]
    unfold stI
    simp [F_laws_FnIdleLast_L0, mvL]
  | cons a r ih =>
    intro k mv l hd hk hm
    simp only [List.length_cons] at hk
    have hkl : k < os.length := by omega
    have hkl' : (k : Int) < os.length := by omega
    have ek : os[k] = a := by
      have := congrArg (fun l => l[0]?) hd
      simp [hkl] at this
      exact this
    obtain ⟨a0, a5⟩ := ho a (by rw [← ek]; exact List.getElem_mem hkl)
    have hd' : os.drop (k + 1) = r := by
      have := congrArg (List.drop 1) hd
      simpa using this
    have at1 : atN (os.map DV.i) k = some (.i a) := by show (os.map DV.i)[k]? = _; simp [hkl, ek]
    have w1 : wr ((k : Int) + 1) = ((k + 1 : Nat) : Int) := by rw [wr_id (by omega) (by omega)]; omega
    have bb := bit_bI (a := I) (s := a.toNat) (by omega)
    rw [Int.toNat_of_nonneg a0] at bb
    have n0 : ¬ a < 0 := by omega
    have lb : mv.length + 1 ≤ bound := by unfold bound; omega
    have J := ih (k + 1) (mv ++ [a]) l hd' (by omega) (by simp; omega)
    have J2 := ih (k + 1) mv a hd' (by omega) (by omega)
    unfold stI at J J2
    simp at J
    rw [w_laws_FnIdleLast_0]
    unfold stI
    by_cases hneg : l < 0
    · cases hb : I.testBit a.toNat with
      | true =>
        rw [hb] at bb
        have q : (bI true == 1) = true := rfl
        rw [mvL, if_pos ⟨hneg, hb⟩]
        simp [F_laws_FnIdleLast_L0, hkl, hkl', at1, n0, bb, q, w1, hneg, J2, -Int.natCast_add]
      | false =>
        rw [hb] at bb
        have q : (bI false == 1) = false := rfl
        have hn : ¬ (l < 0 ∧ I.testBit a.toNat = true) := fun q => by rw [hb] at q; exact absurd q.2 (by simp)
        rw [mvL, if_neg hn]
        simp [F_laws_FnIdleLast_L0, hkl, hkl', at1, n0, bb, q, w1, hneg, lb, J]
    · have hn : ¬ (l < 0 ∧ I.testBit a.toNat = true) := fun q => hneg q.1
      rw [mvL, if_neg hn]
      simp [F_laws_FnIdleLast_L0, hkl, hkl', at1, n0, w1, hneg, lb, J]
theorem moved_ok {us t : List T} (h1 : tsOk us = true) {os : List Int} (h3 : orOk us.length os = true) (I : Nat) (hI : ∀ k, k < us.length → I.testBit k = true → idP us.length t k = true) :
    ∃ mv l fin, mvL I [] (-1) os = (mv, l) ∧ mv.length ≤ 6 ∧ (-1 ≤ l) ∧ fin = (if 0 ≤ l then mv ++ [l] else mv) ∧ fin.length ≤ 6 ∧ orOk us.length fin = true ∧ avO us t fin ≤ avO us t os := by
  obtain ⟨g1, g2, g3⟩ := orOk_iff.1 h3
  have mem := fun a (ha : a ∈ os) => (orS_mem g3 a ha).1
  rcases mvL_n (I := I) (r := os) (mv := []) (fun a ha => (mem a ha).1) with e | ⟨p, a, q, rfl, a0, ab, e⟩
  · exact ⟨os, -1, os, by simpa using e, by omega, by omega, by simp, by omega, h3, Int.le_refl _⟩
  · have am := mem a (by simp)
    have ai := hI a.toNat (by omega) ab
    have P : (p ++ (q ++ [a])).Perm (p ++ a :: q) := List.Perm.append_left p (List.perm_append_singleton a q)
    simp at g2
    refine ⟨p ++ q, a, p ++ (q ++ [a]), by simpa using e, by simp; omega, by omega, by rw [if_pos a0]; simp, by simp; omega, by rw [orOk_perm P]; exact h3, avO_idle h1 am ai⟩
set_option maxHeartbeats 4000000 in
theorem law_FnIdleLast (x : List Nat) (_ : x.length ≤ Go.maxLen) (hb : ∀ y ∈ x, y < 256) : call lf n_laws_FnIdleLast [bys x] = some (.b true, []) := by
  show call lf n_laws_FnIdleLast [.sl 0 (x.map .y)] = _
  rw [call_k lf n_laws_FnIdleLast _ (F := F_laws_FnIdleLast) rfl rfl]
  by_cases hl : 1048576 < (x.length : Int)
  · simp (config := { maxSteps := 2000000 }) [F_laws_FnIdleLast, hl]
  · obtain ⟨us, t, os, u1, t1, o1, d⟩ := c_DrawAverageIn hb (by omega)
    have V1 := c_impl_AverageIn us t os (by omega) (by omega) (by omega)
    have V2 := c_spec_AverageIn us t os (by omega) (by omega) (by omega)
    have lb0 : us.length ≤ bound := by unfold bound; omega
    have lb1 : t.length ≤ bound := by unfold bound; omega
    have lb2 : os.length ≤ bound := by unfold bound; omega
    cases hk : avOk us t os with
    | false =>
      have e : avOf us t os = -1 := by unfold avOf; rw [hk]; rfl
      rw [e] at V1 V2
      simp (config := { maxSteps := 2000000 }) [F_laws_FnIdleLast, hl, d, V1, V2, lb0, lb1, lb2, c_alive]
    | true =>
      have e : avOf us t os = avO us t os := by unfold avOf; rw [hk]; rfl
      rw [e] at V1 V2
      have hk' := hk
      unfold avOk at hk'
      simp only [Bool.and_eq_true] at hk'
      obtain ⟨⟨h1, h2⟩, h3⟩ := hk'
      obtain ⟨g1, g2, g3⟩ := orOk_iff.1 h3
      have h1' := tsOk_iff.1 h1
      have b := avO_le (t := t) h1 h3
      have D := c_impl_IdleTests us.length t (by omega)
      have ed : idOf us.length t = (tabN (idP us.length t) us.length : Nat) := by unfold idOf; rw [h2, Int.toNat_natCast]; rfl
      rw [ed] at D
      obtain ⟨mv, l, fin, m1, m2, l1, m3, m4, m5, m6⟩ := moved_ok (t := t) h1 h3 (tabN (idP us.length t) us.length) (fun k hk hb => by rw [tabN_bit] at hb; simp at hb; exact hb.2)
      have L := idle_loop us t os (avO us t os) (tabN (idP us.length t) us.length) o1 (fun o ho => by have := (orS_mem g3 o ho).1; omega) os 0 [] (-1) (by simp) (by simp) (by simp)
      rw [m1] at L
      have F := c_impl_AverageIn us t fin (by omega) (by omega) (by omega)
      have ef : avOf us t fin = avO us t fin := by unfold avOf avOk; rw [h1, h2, m5]; rfl
      rw [ef] at F
      have bf := avO_le (t := t) h1 m5
      have n1 : ¬ avO us t os < 0 := by omega
      have n2 := bf.1
      have lb3 : mv.length + 1 ≤ bound := by unfold bound; omega
      have lb4 : mv.length ≤ bound := by unfold bound; omega
      unfold stI at L
      simp only [Int.natCast_zero, List.map_nil, List.length_nil] at L
      generalize avO us t os = c at *
      generalize avO us t fin = c' at *
      generalize tabN (idP us.length t) us.length = I at *
      by_cases l0 : 0 ≤ l
      · rw [if_pos l0] at m3
        subst m3
        simp at F
        have ta : List.take (mv.length + 1) (mv.map DV.i ++ [.i l]) = mv.map .i ++ [.i l] := List.take_of_length_le (by simp)
        have tb : lendL (mv.map DV.i ++ [.i l]) = mv.map .i ++ [.i l] := by
          have := lend_i (mv ++ [l])
          rw [List.map_append] at this
          exact this
        simp (config := { maxSteps := 2000000 }) [F_laws_FnIdleLast, hl, d, V1, V2, n1, D, L, l0, F, m6, n2, ta, tb, lb0, lb1, lb2, lb3, c_alive]
      · rw [if_neg l0] at m3
        subst m3
        simp (config := { maxSteps := 2000000 }) [F_laws_FnIdleLast, hl, d, V1, V2, n1, D, L, l0, F, m6, n2, lb0, lb1, lb2, lb4, c_alive]
end Zz
