/- What the functions answer, as equations: L2d. No conditions. -/
import Derived.Test.YtadlmpjlkfbnfacL2c
namespace Zz
open Go.Lg Md
set_option linter.unusedSimpArgs false
set_option linter.unusedVariables false
attribute [local simp] oldO_some oa_nil oa_i oa_y oa_b oa_s oa_st oa_sl oa_own oa_oad oa_nl al_nil al_cons al_i al_y al_b al_s al_st al_sl nxF_some nxF_none rf_nil rf_gen rf_gate hk_newnil hk_make hk_alloc hk_box hk_build hk_bslice hk_call hk_store hk_app cl_nil cl_cons ai_nil ai_cons il_i il_y il_b il_s il_st il_sl il_own il_adr il_oad il_ref il_fr il_tup il_nil il_np il_und il_dead oi_e oi_i oi_y oi_b oi_s oi_st oi_sl oi_own oi_adr oi_oad oi_ref oi_fr oi_tup oi_nil oi_np oi_und oi_dead as_nil as_cons ao_nil ao_cons av_i av_y av_b av_s av_st av_sl av_own av_adr av_oad av_ref av_fr av_tup av_nil av_np av_und av_dead pro_cons ghK_some ks_promote ks_rename ren_own dropO adoptP newP wholeP cutP allOldL ex_skip ex_ret ex_exit ks_region ks_seq ks_cond ks_block seqK_n seqK_e seqK_r regK_some condK_t condK_f blkK_n blkK_r blkK_e endK_n endK_r rr_false rr_true rd_free mo_nil mo_cons drK_some drK_none nxW_some nxW_none rw_nil rw_gen rw_gate ak_newnil ak_make ak_alloc ak_box ak_build ak_bslice ak_call ak_store ak_app iw_mm iw_idxp ef_mmx ef_mmn ef_idxp nxD_some nxD_none ov_i ov_y ov_b ov_s ov_st ov_sl ov_own ov_oad ov_adr ov_nil ov_np ov_und ov_dead ov_tup oldN_some oldN_nil oldN_none so_none so_i so_y so_b so_s so_st so_sl so_adr so_nil so_np so_und so_dead anyM_nil anyM_t anyM_c so_own so_oad rd_nil rd_gen rd_mv rd_gate iw_mv iw_newnil iw_pick iw_bin iw_eqb iw_eqs iw_un iw_len iw_lens iw_chk iw_fld iw_fldv iw_idxa iw_idx iw_load iw_store iw_slice iw_slices iw_make iw_alloc iw_box iw_build iw_bslice iw_app iw_b2i iw_i2b iw_i2i iw_same iw_b2s iw_s2b iw_ext iw_call nm_i nm_y nm_b nm_s nm_st nm_sl nm_own nm_oad nm_adr nm_nil nm_np nm_und nm_dead nm_tup rl_nil rl_gate rl_mv rl_gen opv_t opv_c nx_some nx_none gate_tt gate_tf gate_ft gate_ff gate_u fr_ap em_nil em_i em_y em_b em_s em_st em_sl em_own em_adr em_oad em_ref em_nl em_np em_und em_dead em_tup0 em_tup_i em_tup_b em_tup_s em_tup_sl em_tup_st em_tup_np em_tup_own em_tup_oad mm_i mm_y mm_b mm_s mm_st mm_sl mm_own mm_oad mm_adr mm_nil mm_np mm_und mm_dead ef_mv ef_newnil ef_pickt ef_pickf ef_bin ef_eqb ef_eqs ef_un ef_lens ef_len_sl ef_len_own ef_len_nil ef_chk_adr ef_chk_oad ef_fld_adr ef_fld_oad ef_fldv idxR_some ef_idxa_sl ef_idxa_own ef_idx ef_load_adr_st ef_load_adr_i ef_load_adr_y ef_load_adr_b ef_load_adr_s ef_load_adr_sl atN_nil atN_zero atN_succ ef_load_oad ef_store ef_slice ef_slices ef_make ef_alloc ef_box ef_build ef_bslice ef_app_own ef_app_nil ef_b2i ef_i2b ef_i2i ef_same ef_ext ret1 ret2_some calL_some ef_call retC_i retC_y retC_b retC_s retC_st retC_sl retC_np retC_fr retC_ref retC_tup rk_nil rk_i rk_y rk_b rk_s rk_st rk_sl rk_own rk_oad rk_nl ok_nil ok_i ok_y ok_b ok_s ok_st ok_sl ok_own ok_oad ok_nl lo_nil lo_i lo_y lo_b lo_s lo_st lo_sl lo_own lo_oad lo_nl pr_nil pr_i pr_y pr_b pr_s pr_st pr_sl pr_own pr_nl pr_oad nr_i nr_y nr_b nr_s nr_st nr_sl nr_fr nr_np nr_tup ng_i ng_b ng_s ng_fr ng_nil resV effP_eff binD bi_add bi_sub bi_mul bi_quo bi_rem bi_eql bi_neq bi_lss bi_leq bi_gtr bi_geq bi_shl bi_shr bi_and bi_or bi_xor bi_andNot binY binS unD look put putD LS.get LS.drop killE sweep lookO putO dropO enter leave giveBackL giveBack outs lendArgs lendArg newOuts takeIn takeInL lendL DV.lend adoptL DV.adopt elems apartKs part DV.cells unpart settle settleL over mkId szId fillP fillE tk_e2 tk_i tk_y lt_e2 lt_i lt_y lend_rep al_e2 al_is al_ys al_rep al_app lend_app adopt_app new_app lend_e2 lend_i lend_y adopt_e2 adopt_i adopt_y new_e2 new_i allNewL DV.allNew bounds sliceD sliceS
attribute [local congr] nxF_congr ghK_congr gate_congr nx_congr nxD_congr runL_congr runD_congr eff_congr calL_congr ret2_congr seqK_congr regK_congr condK_congr endK_congr drK_congr nxW_congr
attribute [local simp ↓] nxF_some rf_nil rf_gen rf_gate ks_promote ks_rename ghK_some gate_tt gate_tf gate_ft gate_ff gate_u nx_some nxD_some rl_nil rl_mv rl_gen rl_gate rd_nil rd_mv rd_gen rd_gate rd_free rr_false rr_true drK_some drK_none nxW_some rw_nil rw_gen rw_gate ks_region ks_seq ks_cond ks_block seqK_n seqK_e seqK_r regK_some condK_t condK_f blkK_n blkK_r endK_n endK_r calL_some ret2_some opv_t opv_c
attribute [-simp] DV.cells
attribute [local simp] cells_st cells_sl cells_i cells_y cells_b cells_s
def popI : Nat → Int → Int
  | 0, _ => 0
  | m + 1, s => popI m s + s / 2 ^ m % 2
def cntT : List T → Int
  | [] => 0
  | t :: r => (if t.1 = 0 then 1 else 0) + cntT r
theorem pop_or : ∀ (m : Fin 6) (s : Fin 32) (i : Fin 5), i.val < m.val → popI m.val (orI s.val (2 ^ i.val)) = popI m.val s.val + (if fl s.val i.val then 0 else 1) := by decide +kernel
theorem pop_le {m : Int} (h1 : 1 ≤ m) (h5 : m ≤ 5) : ∀ {ts : List T} (_ : ∀ t ∈ ts, t.1 = 0 → 0 ≤ t.2 ∧ t.2 < m) {s : Int}, 0 ≤ s → s < 2 ^ m.toNat →
    popI m.toNat (ts.foldl letF s) ≤ popI m.toNat s + cntT ts ∧ (onceM ts s = true ↔ popI m.toNat (ts.foldl letF s) = popI m.toNat s + cntT ts)
  | [], _, s, _, _ => by simp [cntT, onceM]
  | t :: ts, h, s, h0, h2 => by
    have hr := fun x hx => h x (List.mem_cons_of_mem _ hx)
    by_cases k : t.1 = 0
    · obtain ⟨a, b⟩ := h t (List.mem_cons_self ..) k
      obtain ⟨c1, c2, c3⟩ := or_le h1 h5 h0 h2 a b
      have e : letF s t = orI s (2 ^ t.2.toNat) := by unfold letF; rw [if_pos k]
      have h32 : (2 : Int) ^ m.toNat ≤ 2 ^ 5 := Md.pow_le (n := m.toNat) (m := 5) (by omega) 2 (by omega)
      have hs : s < 32 := by simp at h32; omega
      have p := pop_or ⟨m.toNat, by omega⟩ ⟨s.toNat, by omega⟩ ⟨t.2.toNat, by omega⟩ (by show t.2.toNat < m.toNat; omega)
      simp only [Int.toNat_of_nonneg h0] at p
      obtain ⟨d1, d2⟩ := pop_le h1 h5 hr (by omega : 0 ≤ orI s (2 ^ t.2.toNat)) c2
      rw [p] at d1 d2
      simp only [List.foldl_cons, e, onceM, cntT, if_pos k]
      cases hf : fl s t.2.toNat with
      | true =>
        rw [hf] at d1 d2
        simp only [if_true] at d1 d2
        refine ⟨by omega, ?_⟩
        simp only [Bool.not_true, Bool.false_and, Bool.false_eq_true, false_iff]
        omega
      | false =>
        rw [hf] at d1 d2
        simp only [Bool.false_eq_true, if_false] at d1 d2
        refine ⟨by omega, ?_⟩
        simp only [Bool.not_false, Bool.true_and]
        rw [d2]
        constructor <;> intro h <;> omega
    · have e : letF s t = s := by unfold letF; rw [if_neg k]
      obtain ⟨d1, d2⟩ := pop_le h1 h5 hr h0 h2
      simp only [List.foldl_cons, e, onceM, cntT, if_neg k, Int.zero_add]
      exact ⟨d1, d2⟩
theorem popI_0 : ∀ m, popI m 0 = 0
  | 0 => rfl
  | m + 1 => by simp [popI, popI_0 m]
theorem once_pop {m : Int} {ts : List T} (h : tmOk m ts = true) : onceM ts 0 = (cntT ts == popI m.toNat (lett ts)) := by
  obtain ⟨⟨h1, h5⟩, _, h3⟩ := tmOk_iff.1 h
  have := (pop_le h1 h5 (runM_tests h3) (Int.le_refl 0) (Md.two_pow_pos _)).2
  rw [popI_0, Int.zero_add] at this
  rw [Bool.eq_iff_iff, this, beq_iff_eq]
  exact eq_comm
theorem once_dual : ∀ (ts : List T) (s : Int), onceM (ts.map dT) s = onceM ts s
  | [], s => rfl
  | t :: ts, s => by
    obtain ⟨h1, h2⟩ := dT_k t
    by_cases k : t.1 = 0
    · rw [List.map_cons, h2 k]; simp only [onceM, once_dual ts]
    · rw [List.map_cons]
      simp only [onceM]
      rw [if_neg k, if_neg (fun h => k (h1.1 h)), once_dual ts]
theorem cntT_in : ∀ ts : List T, 0 ≤ cntT ts ∧ cntT ts ≤ ts.length
  | [] => by simp [cntT]
  | t :: ts => by
    have := cntT_in ts
    simp only [cntT, List.length_cons]
    split <;> omega
theorem l_once0 (a : Int) (o : Bool) (es : List DV) (N : Nat) (hN : es.length = N) (hb : N < 1000000) (rest : List T) : ∀ (k : Nat) (c : Int), 0 ≤ c → c ≤ k → k + rest.length = N → es.drop k = rest.map e2 →
    ex lf F_laws_FnOnceOk_W0 ⟨[(3, .i a), (4, .own 8210 N 0 N), (5, .b o), (6, .i c), (7, .i k)], [(8210, es)]⟩ = some (.exit 0, ⟨[(3, .i a), (4, .own 8210 N 0 N), (5, .b o), (6, .i (c + cntT rest)), (7, .i N)], [(8210, es)]⟩) := by
  induction rest with
  | nil =>
    intro k c h0 h1 h2 h3
    rw [w_laws_FnOnceOk_0]
    simp at h2; subst h2
    simp [F_laws_FnOnceOk_L0, cntT]
  | cons t rest ih =>
    intro k c h0 h1 h2 h3
    simp only [List.length_cons] at h2
    obtain ⟨s1, s2, s3, s4, s5, s6⟩ := stp (es := es) (xs := rest.map e2) (x := e2 t) (k := (k : Int)) (n := (N : Int)) (by omega) (by simp; omega) (by omega) (by simpa using h3)
    have h4 : es.drop (k + 1) = rest.map e2 := by have := s6; rwa [show ((k : Int) + 1).toNat = k + 1 by omega] at this
    have w2 : wr (c + 1) = c + 1 := wr_id (by omega) (by omega)
    have e1 : atN es k = some (e2 t) := by
      show es[k]? = _
      have := congrArg (fun l => l[0]?) h3
      simpa using this
    have hk : k < N := by omega
    simp only [e2] at s2 e1
    rw [w_laws_FnOnceOk_0]
    by_cases z : t.1 = 0
    · have ih' := ih (k + 1) (c + 1) (by omega) (by omega) (by omega) h4
      rw [show c + 1 + cntT rest = c + cntT (t :: rest) by simp only [cntT, if_pos z]; omega] at ih'
      simp at ih'
      simp [F_laws_FnOnceOk_L0, s1, s2, s3, e1, hk, hN, z, w2, ih']
    · have z2 : (t.1 == 0) = false := by simp [z]
      have ih' := ih (k + 1) c (by omega) (by omega) (by omega) h4
      rw [show c + cntT rest = c + cntT (t :: rest) by simp only [cntT, if_neg z]; omega] at ih'
      simp at ih'
      simp [F_laws_FnOnceOk_L0, s1, s2, s3, e1, hk, hN, z, z2, w2, ih']
theorem popI_in (s : Int) : ∀ m, 0 ≤ popI m s ∧ popI m s ≤ m
  | 0 => by simp [popI]
  | m + 1 => by
    have := popI_in s m
    simp only [popI]
    generalize s / 2 ^ m = q
    omega
theorem l_once1 (A : Nat) (hA : A ≤ 5) (o : Bool) (es : List DV) (L : Nat) (c s : Int) (hs : 0 ≤ s) (j : Nat) : ∀ k : Nat, k + j = A →
    ex lf F_laws_FnOnceOk_W1 ⟨[(3, .i A), (4, .own 8210 L 0 L), (5, .b o), (6, .i c), (8, .i (popI k s)), (9, .i s), (10, .i k)], [(8210, es)]⟩ = some (.exit 2, ⟨[(3, .i A), (4, .own 8210 L 0 L), (5, .b o), (6, .i c), (8, .i (popI A s)), (9, .i s), (10, .i A)], [(8210, es)]⟩) := by
  induction j with
  | zero =>
    intro k hk
    rw [w_laws_FnOnceOk_1]
    simp at hk; subst hk
    simp [F_laws_FnOnceOk_L1]
  | succ j ih =>
    intro k hk
    have ih' := ih (k + 1) (by omega)
    rw [w_laws_FnOnceOk_1]
    have hlt : k < A := by omega
    have h1 := shr1 (a := s) (k := (k : Int)) (by omega) (by omega)
    have h2 : (s / 2 ^ k).tmod 2 = s / 2 ^ k % 2 := tmod2 (div_pow_nonneg hs k)
    have p := popI_in s k
    have w1 : wr (popI k s + s / 2 ^ k % 2) = popI k s + s / 2 ^ k % 2 := by
      generalize s / 2 ^ k = q at *
      exact wr_id (by omega) (by omega)
    have w2 : wr ((k : Int) + 1) = (k : Int) + 1 := wr_id (by omega) (by omega)
    have n1 : ¬ ((k : Int) < 0) := by omega
    simp only [Int.toNat_natCast] at h1
    simp [popI] at ih'
    simp [F_laws_FnOnceOk_L1, hlt, h1, h2, w1, w2, n1, ih']
set_option maxHeartbeats 4000000 in
theorem law_FnOnceOk (x : List Nat) (_ : x.length ≤ Go.maxLen) (hb : ∀ y ∈ x, y < 256) : call lf n_laws_FnOnceOk [bys x] = some (.b true, []) := by
  show call lf n_laws_FnOnceOk [.sl 0 (x.map .y)] = _
  rw [call_k lf n_laws_FnOnceOk _ (F := F_laws_FnOnceOk) rfl rfl]
  by_cases hl : 1048576 < (x.length : Int)
  · simp (config := { maxSteps := 2000000 }) [F_laws_FnOnceOk, hl]
  · obtain ⟨a, t, a1, a2, t1, d⟩ := c_DrawOnceOk hb (by omega)
    have C1 := c_impl_OnceOk a t (by omega)
    have C2 := c_spec_OnceOk a t (by omega)
    have C3 := c_spec_TermOk a t (by omega)
    cases hk : tmOk a t with
    | false =>
      have e : onceOk a t = false := by unfold onceOk; rw [hk]; rfl
      rw [e] at C1 C2
      rw [hk] at C3
      simp (config := { maxSteps := 2000000 }) [F_laws_FnOnceOk, hl, d, C1, C2, C3, c_alive]
    | true =>
      have e : onceOk a t = onceM t 0 := by unfold onceOk; rw [hk]; rfl
      have ed : onceOk a (t.map dT) = onceM t 0 := by unfold onceOk; rw [(tm_dual hk).1, once_dual]; rfl
      have el : letOf a t = lett t := by unfold letOf; rw [if_pos hk]
      obtain ⟨l1, l2⟩ := lett_one hk
      obtain ⟨⟨_, h5⟩, _, _⟩ := tmOk_iff.1 hk
      have D := c_impl_DualTerm a t (by omega)
      rw [hk, if_pos rfl] at D
      have C4 := c_impl_OnceOk a (t.map dT) (by simp; omega)
      have C5 := c_impl_LettersOf a t (by omega)
      rw [ed] at C4
      rw [e] at C1 C2
      rw [el] at C5
      rw [hk] at C3
      have op := once_pop hk
      have hlen : (t.map dT).length = t.length := List.length_map ..
      have tku : List.take t.length (List.map e2 (t.map dT)) = List.map e2 (t.map dT) := by rw [← hlen]; exact tk_e2 _
      obtain ⟨A, rfl⟩ : ∃ A : Nat, a = A := ⟨a.toNat, by omega⟩
      simp only [Int.toNat_natCast] at op
      have L0 := l_once0 A (onceM t 0) (t.map e2) t.length (by simp) (by omega) t 0 0 (by omega) (by omega) (by simp) (by simp)
      have L1 := l_once1 A (by omega) (onceM t 0) (t.map e2) t.length (cntT t) (lett t) (by omega) A 0 (by simp)
      generalize t.map dT = u at *
      generalize onceM t 0 = o at *
      have op2 : (o == (cntT t == popI A (lett t))) = true := by rw [op]; exact beq_self_eq_true _
      clear op
      simp [popI] at L0 L1
      simp (config := { maxSteps := 2000000 }) [F_laws_FnOnceOk, hl, d, D, C1, C2, C3, C4, C5, L0, L1, tku, hlen, op2]
end Zz
