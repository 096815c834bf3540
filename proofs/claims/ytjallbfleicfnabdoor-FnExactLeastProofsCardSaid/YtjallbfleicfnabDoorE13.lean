/- What the functions answer, as equations: E13. No conditions. -/
import Derived.Test.YtjallbfleicfnabDoorE12
set_option linter.unusedSectionVars false
set_option linter.unusedVariables false
set_option linter.unusedSimpArgs false
namespace Zz
open Go.Lg Md
set_option linter.unusedSimpArgs false
set_option linter.unusedVariables false
attribute [local simp] oldO_some oa_nil oa_i oa_y oa_b oa_s oa_st oa_sl oa_own oa_oad oa_nl al_nil al_cons al_i al_y al_b al_s al_st al_sl nxF_some nxF_none rf_nil rf_gen rf_gate hk_newnil hk_make hk_alloc hk_box hk_build hk_bslice hk_call hk_store hk_app cl_nil cl_cons ai_nil ai_cons il_i il_y il_b il_s il_st il_sl il_own il_adr il_oad il_ref il_fr il_tup il_nil il_np il_und il_dead oi_e oi_i oi_y oi_b oi_s oi_st oi_sl oi_own oi_adr oi_oad oi_ref oi_fr oi_tup oi_nil oi_np oi_und oi_dead as_nil as_cons ao_nil ao_cons av_i av_y av_b av_s av_st av_sl av_own av_adr av_oad av_ref av_fr av_tup av_nil av_np av_und av_dead pro_cons ghK_some ks_promote ks_rename ren_own dropO adoptP newP wholeP cutP allOldL ex_skip ex_ret ex_exit ks_region ks_seq ks_cond ks_block seqK_n seqK_e seqK_r regK_some condK_t condK_f blkK_n blkK_r blkK_e endK_n endK_r rr_false rr_true rd_free mo_nil mo_cons drK_some drK_none nxW_some nxW_none rw_nil rw_gen rw_gate ak_newnil ak_make ak_alloc ak_box ak_build ak_bslice ak_call ak_store ak_app iw_mm iw_idxp ef_mmx ef_mmn ef_idxp nxD_some nxD_none ov_i ov_y ov_b ov_s ov_st ov_sl ov_own ov_oad ov_adr ov_nil ov_np ov_und ov_dead ov_tup oldN_some oldN_nil oldN_none so_none so_i so_y so_b so_s so_st so_sl so_adr so_nil so_np so_und so_dead anyM_nil anyM_t anyM_c so_own so_oad rd_nil rd_gen rd_mv rd_gate iw_mv iw_newnil iw_pick iw_bin iw_eqb iw_eqs iw_un iw_len iw_lens iw_chk iw_fld iw_fldv iw_idxa iw_idx iw_load iw_store iw_slice iw_slices iw_make iw_alloc iw_box iw_build iw_bslice iw_app iw_b2i iw_i2b iw_i2i iw_same iw_b2s iw_s2b iw_ext iw_call nm_i nm_y nm_b nm_s nm_st nm_sl nm_own nm_oad nm_adr nm_nil nm_np nm_und nm_dead nm_tup rl_nil rl_gate rl_mv rl_gen opv_t opv_c nx_some nx_none gate_tt gate_tf gate_ft gate_ff gate_u fr_ap em_nil em_i em_y em_b em_s em_st em_sl em_own em_adr em_oad em_ref em_nl em_np em_und em_dead em_tup0 em_tup_i em_tup_b em_tup_s em_tup_sl em_tup_st em_tup_np em_tup_own em_tup_oad mm_i mm_y mm_b mm_s mm_st mm_sl mm_own mm_oad mm_adr mm_nil mm_np mm_und mm_dead ef_mv ef_newnil ef_pickt ef_pickf ef_bin ef_eqb ef_eqs ef_un ef_lens ef_len_sl ef_len_own ef_len_nil ef_chk_adr ef_chk_oad ef_fld_adr ef_fld_oad ef_fldv idxR_some ef_idxa_sl ef_idxa_own ef_idx ef_load_adr_st ef_load_adr_i ef_load_adr_y ef_load_adr_b ef_load_adr_s ef_load_adr_sl atN_nil atN_zero atN_succ ef_load_oad ef_store ef_slice ef_slices ef_make ef_alloc ef_box ef_build ef_bslice ef_app_own ef_app_nil ef_b2i ef_i2b ef_i2i ef_same ef_ext ret1 ret2_some calL_some ef_call retC_i retC_y retC_b retC_s retC_st retC_sl retC_np retC_fr retC_ref retC_tup rk_nil rk_i rk_y rk_b rk_s rk_st rk_sl rk_own rk_oad rk_nl ok_nil ok_i ok_y ok_b ok_s ok_st ok_sl ok_own ok_oad ok_nl lo_nil lo_i lo_y lo_b lo_s lo_st lo_sl lo_own lo_oad lo_nl pr_nil pr_i pr_y pr_b pr_s pr_st pr_sl pr_own pr_nl pr_oad nr_i nr_y nr_b nr_s nr_st nr_sl nr_fr nr_np nr_tup ng_i ng_b ng_s ng_fr ng_nil resV effP_eff binD bi_add bi_sub bi_mul bi_quo bi_rem bi_eql bi_neq bi_lss bi_leq bi_gtr bi_geq bi_shl bi_shr bi_and bi_or bi_xor bi_andNot binY binS unD look put putD LS.get LS.drop killE sweep lookO putO dropO enter leave giveBackL giveBack outs lendArgs lendArg newOuts takeIn takeInL lendL DV.lend adoptL DV.adopt elems apartKs part DV.cells unpart settle settleL over mkId szId fillP fillE tk_e2 tk_i tk_y lt_e2 lt_i lt_y lend_rep al_e2 al_is al_ys al_rep al_app lend_app adopt_app new_app lend_e2 lend_i lend_y adopt_e2 adopt_i adopt_y new_e2 new_i allNewL DV.allNew bounds sliceD sliceS em_w em_q em_r em_fn em_tup_w em_tup_q em_tup_r mm_w mm_q mm_r mm_fn ef_load_adr_w ef_load_adr_q ef_load_adr_r retC_w retC_q retC_r rk_w rk_q rk_r rk_fn ok_w ok_q ok_r ok_fn lo_w lo_q lo_r lo_fn pr_w pr_q pr_r pr_fn nr_w nr_q nr_r ng_w ng_q ng_r oa_w oa_q oa_r oa_fn al_w al_q al_r al_fn ov_w ov_q ov_r ov_fn so_w so_q so_r so_fn il_w il_q il_r il_fn oi_w oi_q oi_r oi_fn av_w av_q av_r av_fn nm_w nm_q nm_r nm_fn ef_i2r ef_r2s ef_mkfn ef_idxp_adr ef_calld capsOk DV.cell List.all_cons List.all_nil rk_own_t lo_own_t lk_f lk_t pr_own_t mutB ak_calld hk_calld iw_calld iw_mkfn iw_i2r iw_r2s bw_and bw_or bw_xor bw_andNot bw_eql bw_neq sw_shl sw_shr sq_shl gEnv_nil rk_adr ok_adr lo_adr pr_adr oa_adr capL capArg DV.cap ak_mkfn hk_mkfn
attribute [local congr] nxF_congr ghK_congr gate_congr nx_congr nxD_congr runL_congr runD_congr eff_congr calL_congr ret2_congr seqK_congr regK_congr condK_congr endK_congr drK_congr nxW_congr
attribute [local simp ↓] nxF_some rf_nil rf_gen rf_gate ks_promote ks_rename ghK_some gate_tt gate_tf gate_ft gate_ff gate_u nx_some nxD_some rl_nil rl_mv rl_gen rl_gate rd_nil rd_mv rd_gen rd_gate rd_free rr_false rr_true drK_some drK_none nxW_some rw_nil rw_gen rw_gate ks_region ks_seq ks_cond ks_block seqK_n seqK_e seqK_r regK_some condK_t condK_f blkK_n blkK_r endK_n endK_r calL_some ret2_some opv_t opv_c
attribute [-simp] DV.cells
attribute [local simp] cells_st cells_sl cells_i cells_y cells_b cells_s cells_w
theorem bitW (v : BitVec 32) (s : Nat) : (shrW v s &&& 1#32 == 1#32) = v.getLsbD s := by
  unfold shrW
  rw [BitVec.and_one_eq_setWidth_ofBool_getLsbD, BitVec.getLsbD_ushiftRight, Nat.add_zero]
  cases v.getLsbD s <;> rfl
def vOf (m : Int) (ts : List T) (s : Int) : Bool := tmOk m ts && stOk m s && tv ts s.toNat
theorem st32 {m s : Int} (h : stOk m s = true) : 0 ≤ s ∧ s < 32 := by
  obtain ⟨h1, h2, h3⟩ := stOk_iff.1 h
  have : (2 : Int) ^ m.toNat ≤ 2 ^ 5 := Md.pow_le (n := m.toNat) (m := 5) (by omega) 2 (by omega)
  simp at this; omega
/-! ### the given reading -/
theorem at_mid {pre post : List T} {t : T} {k : Int} (hk : k = pre.length) : atI ((pre ++ t :: post).map e2) k = some (e2 t) := by
  subst hk
  simp [atI]
def stL (es : List DV) (need at_ : Int) : LS := ⟨[(0, .sl 0 es), (5, .i need), (6, .i at_)], []⟩
set_option maxHeartbeats 4000000 in
theorem l_starts (es : List DV) (hl : es.length ≤ 100000) : ∀ (x : Tm) (pre post : List T) (need : Int), es = (pre ++ flt x ++ post).map e2 → 0 ≤ need → need + (flt x).length ≤ 1000000 →
    ex lf F_spec_l2Starts_W0 (stL es (need + 1) ((pre.length : Int) + (flt x).length - 1)) = ex lf F_spec_l2Starts_W0 (stL es need ((pre.length : Int) - 1)) := by
  intro x
  induction x with
  | tst a =>
    intro pre post need he hn hn2
    have hat := at_mid (pre := pre) (t := (0, (a : Int))) (post := post) (k := (pre.length : Int)) rfl
    have he' : es = (pre ++ (0, (a : Int)) :: post).map e2 := by rw [he]; simp [flt]
    rw [← he'] at hat
    simp only [e2] at hat
    have hn2 : need ≤ 1000000 := by omega
    have w1 : wr need = need := wr_id (by omega) (by omega)
    have hle : pre.length ≤ 100000 := by rw [he'] at hl; simp at hl; omega
    have w2 : wr ((pre.length : Int) - 1) = (pre.length : Int) - 1 := wr_id (by omega) (by omega)
    have c1 : 0 < need + 1 := by omega
    have e1 : (pre.length : Int) + ((flt (.tst a)).length : Nat) - 1 = pre.length := by simp [flt]
    rw [e1, w_spec_l2Starts_0]
    unfold stL
    simp [F_spec_l2Starts_L0, c1, hat, w1, w2]
  | neg x ih =>
    intro pre post need he hn hn2
    have he' : es = ((pre ++ flt x) ++ (1, 0) :: post).map e2 := by rw [he]; simp [flt]
    have hat := at_mid (pre := pre ++ flt x) (t := (1, 0)) (post := post) (k := (pre.length : Int) + (flt x).length) (by simp)
    rw [← he'] at hat
    simp only [e2] at hat
    have ih := ih pre ((1, 0) :: post) need (by rw [he]; simp [flt]) hn (by simp [flt] at hn2; omega)
    have hle : pre.length + (flt x).length ≤ 100000 := by rw [he'] at hl; simp at hl; omega
    have w2 : wr ((pre.length : Int) + (flt x).length - 1) = (pre.length : Int) + (flt x).length - 1 := wr_id (by omega) (by omega)
    have c1 : 0 < need + 1 := by omega
    have e1 : (pre.length : Int) + ((flt (.neg x)).length : Nat) - 1 = pre.length + (flt x).length := by simp [flt]; omega
    rw [← ih, e1]
    conv => lhs; rw [w_spec_l2Starts_0]
    unfold stL
    simp [F_spec_l2Starts_L0, c1, hat, w2]
  | and x y ihx ihy =>
    intro pre post need he hn hn2
    have he' : es = ((pre ++ flt x ++ flt y) ++ (2, 0) :: post).map e2 := by rw [he]; simp [flt]
    have hat := at_mid (pre := pre ++ flt x ++ flt y) (t := (2, 0)) (post := post) (k := (pre.length : Int) + (flt x).length + (flt y).length) (by simp; omega)
    rw [← he'] at hat
    simp only [e2] at hat
    have hle : pre.length + (flt x).length + (flt y).length ≤ 100000 := by rw [he'] at hl; simp at hl; omega
    have px := flt_pos x
    have hn3 : need + (flt x).length + (flt y).length + 1 ≤ 1000000 := by simp [flt] at hn2; omega
    have i1 := ihx pre (flt y ++ (2, 0) :: post) need (by rw [he]; simp [flt]) hn (by omega)
    have w1 : wr (need + 1 + 1) = need + 1 + 1 := wr_id (by omega) (by omega)
    have w2 : wr ((pre.length : Int) + (flt x).length + (flt y).length - 1) = (pre.length : Int) + (flt x).length + (flt y).length - 1 := wr_id (by omega) (by omega)
    have c1 : 0 < need + 1 := by omega
    have e1 : (pre.length : Int) + ((flt (.and x y)).length : Nat) - 1 = pre.length + (flt x).length + (flt y).length := by simp [flt]; omega
    have i2 := ihy (pre ++ flt x) ((2, 0) :: post) (need + 1) (by rw [he]; simp [flt]) (by omega) (by omega)
    have e3 : (((pre ++ flt x).length : Nat) : Int) = pre.length + (flt x).length := by simp
    rw [e3] at i2
    rw [← i1, ← i2, e1]
    conv => lhs; rw [w_spec_l2Starts_0]
    unfold stL
    simp [F_spec_l2Starts_L0, c1, hat, w1, w2]
  | or x y ihx ihy =>
    intro pre post need he hn hn2
    have he' : es = ((pre ++ flt x ++ flt y) ++ (3, 0) :: post).map e2 := by rw [he]; simp [flt]
    have hat := at_mid (pre := pre ++ flt x ++ flt y) (t := (3, 0)) (post := post) (k := (pre.length : Int) + (flt x).length + (flt y).length) (by simp; omega)
    rw [← he'] at hat
    simp only [e2] at hat
    have hle : pre.length + (flt x).length + (flt y).length ≤ 100000 := by rw [he'] at hl; simp at hl; omega
    have px := flt_pos x
    have hn3 : need + (flt x).length + (flt y).length + 1 ≤ 1000000 := by simp [flt] at hn2; omega
    have i1 := ihx pre (flt y ++ (3, 0) :: post) need (by rw [he]; simp [flt]) hn (by omega)
    have w1 : wr (need + 1 + 1) = need + 1 + 1 := wr_id (by omega) (by omega)
    have w2 : wr ((pre.length : Int) + (flt x).length + (flt y).length - 1) = (pre.length : Int) + (flt x).length + (flt y).length - 1 := wr_id (by omega) (by omega)
    have c1 : 0 < need + 1 := by omega
    have e1 : (pre.length : Int) + ((flt (.or x y)).length : Nat) - 1 = pre.length + (flt x).length + (flt y).length := by simp [flt]; omega
    have i2 := ihy (pre ++ flt x) ((3, 0) :: post) (need + 1) (by rw [he]; simp [flt]) (by omega) (by omega)
    have e3 : (((pre ++ flt x).length : Nat) : Int) = pre.length + (flt x).length := by simp
    rw [e3] at i2
    rw [← i1, ← i2, e1]
    conv => lhs; rw [w_spec_l2Starts_0]
    unfold stL
    simp [F_spec_l2Starts_L0, c1, hat, w1, w2]
theorem c_spec_l2Starts (x : Tm) (pre post : List T) (hl : pre.length + (flt x).length + post.length ≤ 100000) :
    call lf n_spec_l2Starts [.sl 0 ((pre ++ flt x ++ post).map e2), .i ((pre.length : Int) + (flt x).length - 1)] = some (.i pre.length, []) := by
  have L := l_starts ((pre ++ flt x ++ post).map e2) (by simp; omega) x pre post 0 rfl (by omega) (by omega)
  have L0 : ex lf F_spec_l2Starts_W0 (stL ((pre ++ flt x ++ post).map e2) 0 ((pre.length : Int) - 1)) = some (.exit 0, stL ((pre ++ flt x ++ post).map e2) 0 ((pre.length : Int) - 1)) := by
    rw [w_spec_l2Starts_0]
    unfold stL
    simp [F_spec_l2Starts_L0]
  rw [L0] at L
  have w : wr ((pre.length : Int)) = pre.length := wr_id (by omega) (by omega)
  rw [call_k lf n_spec_l2Starts _ (F := F_spec_l2Starts) rfl rfl]
  unfold stL at L
  simp at L
  simp [F_spec_l2Starts, L, w]
theorem cut_hi (ob : OB) (sz : Nat) {es : List DV} (wid : ∀ e ∈ es, e.cells.length = sz) {h : Nat} (hh : h ≤ es.length) : sliceD ob (.sl 0 es) sz none (some (h : Int)) = some (.sl 0 (es.take h)) := by
  unfold sliceD
  simp only [Option.getD_some, Option.getD_none]
  rw [if_pos ⟨Int.le_refl _, by omega, by omega, wid⟩]
  simp [cutP]
theorem cut_lohi (ob : OB) (sz : Nat) {es : List DV} (wid : ∀ e ∈ es, e.cells.length = sz) {l h : Nat} (hl : l ≤ h) (hh : h ≤ es.length) : sliceD ob (.sl 0 es) sz (some (l : Int)) (some (h : Int)) = some (.sl 0 ((es.take h).drop l)) := by
  unfold sliceD
  simp only [Option.getD_some]
  rw [if_pos ⟨by omega, by omega, by omega, wid⟩]
  simp [cutP]
attribute [-simp] sliceD
def bI (b : Bool) : Int := if b then 1 else 0
set_option maxHeartbeats 4000000 in
theorem c_spec_l3Value {m : Int} (hm : m ≤ 5) (s : Nat) (hs : s < 1000000) : ∀ {x : Tm}, tb m x → (flt x).length ≤ 1000 → call lf n_spec_l3Value [.sl 0 ((flt x).map e2), .i s] = some (.i (bI (ev s x)), []) := by
  intro x
  induction x with
  | tst a =>
    intro hb hl
    rw [call_k lf n_spec_l3Value _ (F := F_spec_l3Value) rfl rfl]
    have ha : (a : Int) < m := hb
    have na : ¬ (a : Int) < 0 := by omega
    have w0 : wr (0 : Int) = 0 := wr_id (by omega) (by omega)
    have h1 : shrI s a = (s : Int) / 2 ^ a := by rw [shr1 (by omega) (by omega)]; simp
    have h2 : ((s : Int) / 2 ^ a).tmod 2 = bI (s.testBit a) := by
      rw [tmod2 (Int.ediv_nonneg (by omega) (Int.le_of_lt (Int.pow_pos (by omega))))]
      unfold bI
      rw [Nat.testBit_eq_decide_div_mod_eq]
      have : (s : Int) / 2 ^ a % 2 = ((s / 2 ^ a % 2 : Nat) : Int) := by simp
      rw [this]
      by_cases h : s / 2 ^ a % 2 = 1
      · simp [h]
      · have : s / 2 ^ a % 2 = 0 := by omega
        simp [this]
    simp [F_spec_l3Value, flt, e2, atI, w0, na, h1, h2, ev]
  | neg x ih =>
    intro hb hl
    have ih := ih hb (by simp [flt] at hl; omega)
    rw [call_k lf n_spec_l3Value _ (F := F_spec_l3Value) rfl rfl]
    have hat := at_mid (pre := flt x) (t := (1, 0)) (post := []) (k := ((flt x).length : Int)) rfl
    simp [e2] at hat
    simp [flt] at hl
    have w1 : wr ((flt x).length : Int) = (flt x).length := wr_id (by omega) (by omega)
    have S1 := fun ob => cut_hi ob 2 (e2_wid (flt x ++ [(1, 0)])) (h := (flt x).length) (by simp)
    have t1 : List.take (flt x).length ((flt x ++ [(1, 0)]).map e2) = (flt x).map e2 := by simp
    rw [t1] at S1
    simp [e2] at S1
    have w2 : wr (1 - bI (ev s x)) = bI (!ev s x) := by cases ev s x <;> rfl
    simp [F_spec_l3Value, flt, e2, w1, hat, ih, w2, ev, S1]
  | and x y ihx ihy =>
    intro hb hl
    simp [flt] at hl
    have ix := ihx hb.1 (by omega)
    have iy := ihy hb.2 (by omega)
    rw [call_k lf n_spec_l3Value _ (F := F_spec_l3Value) rfl rfl]
    have hat := at_mid (pre := flt x ++ flt y) (t := (2, 0)) (post := []) (k := ((flt x).length : Int) + (flt y).length) (by simp)
    simp [e2] at hat
    have w1 : wr (((flt x).length : Int) + ((flt y).length + 1) - 1) = (flt x).length + (flt y).length := by rw [wr_id (by omega) (by omega)]; omega
    have w2 : wr ((flt x).length + (flt y).length - 1 : Int) = (flt x).length + (flt y).length - 1 := wr_id (by have := flt_pos x; omega) (by omega)
    have S := c_spec_l2Starts y (flt x) [(2, 0)] (by simp; omega)
    simp [e2] at S
    have S1 := fun ob => cut_hi ob 2 (e2_wid (flt x ++ flt y ++ [(2, 0)])) (h := (flt x).length) (by simp)
    have t1 : List.take (flt x).length ((flt x ++ flt y ++ [(2, 0)]).map e2) = (flt x).map e2 := by simp
    rw [t1] at S1
    simp [e2] at S1
    have S2 := fun ob => cut_lohi ob 2 (e2_wid (flt x ++ flt y ++ [(2, 0)])) (l := (flt x).length) (h := (flt x).length + (flt y).length) (by omega) (by simp)
    have t2 : List.drop (flt x).length (List.take ((flt x).length + (flt y).length) ((flt x ++ flt y ++ [(2, 0)]).map e2)) = (flt y).map e2 := by
      rw [← List.map_take, ← List.map_drop]
      congr 1
      have : List.take ((flt x).length + (flt y).length) (flt x ++ flt y ++ [(2, 0)]) = flt x ++ flt y := by
        rw [← List.length_append]; exact List.take_left
      rw [this]; exact List.drop_left
    rw [t2] at S2
    simp [e2] at S2
    have w3 : min (bI (ev s x)) (bI (ev s y)) = bI (ev s x && ev s y) := by cases ev s x <;> cases ev s y <;> rfl
    simp [F_spec_l3Value, flt, e2, w1, w2, hat, ix, iy, S, S1, S2, w3, ev]
  | or x y ihx ihy =>
    intro hb hl
    simp [flt] at hl
    have ix := ihx hb.1 (by omega)
    have iy := ihy hb.2 (by omega)
    rw [call_k lf n_spec_l3Value _ (F := F_spec_l3Value) rfl rfl]
    have hat := at_mid (pre := flt x ++ flt y) (t := (3, 0)) (post := []) (k := ((flt x).length : Int) + (flt y).length) (by simp)
    simp [e2] at hat
    have w1 : wr (((flt x).length : Int) + ((flt y).length + 1) - 1) = (flt x).length + (flt y).length := by rw [wr_id (by omega) (by omega)]; omega
    have w2 : wr ((flt x).length + (flt y).length - 1 : Int) = (flt x).length + (flt y).length - 1 := wr_id (by have := flt_pos x; omega) (by omega)
    have S := c_spec_l2Starts y (flt x) [(3, 0)] (by simp; omega)
    simp [e2] at S
    have S1 := fun ob => cut_hi ob 2 (e2_wid (flt x ++ flt y ++ [(3, 0)])) (h := (flt x).length) (by simp)
    have t1 : List.take (flt x).length ((flt x ++ flt y ++ [(3, 0)]).map e2) = (flt x).map e2 := by simp
    rw [t1] at S1
    simp [e2] at S1
    have S2 := fun ob => cut_lohi ob 2 (e2_wid (flt x ++ flt y ++ [(3, 0)])) (l := (flt x).length) (h := (flt x).length + (flt y).length) (by omega) (by simp)
    have t2 : List.drop (flt x).length (List.take ((flt x).length + (flt y).length) ((flt x ++ flt y ++ [(3, 0)]).map e2)) = (flt y).map e2 := by
      rw [← List.map_take, ← List.map_drop]
      congr 1
      have : List.take ((flt x).length + (flt y).length) (flt x ++ flt y ++ [(3, 0)]) = flt x ++ flt y := by
        rw [← List.length_append]; exact List.take_left
      rw [this]; exact List.drop_left
    rw [t2] at S2
    simp [e2] at S2
    have w3 : max (bI (ev s x)) (bI (ev s y)) = bI (ev s x || ev s y) := by cases ev s x <;> cases ev s y <;> rfl
    simp [F_spec_l3Value, flt, e2, w1, w2, hat, ix, iy, S, S1, S2, w3, ev]
end Zz
