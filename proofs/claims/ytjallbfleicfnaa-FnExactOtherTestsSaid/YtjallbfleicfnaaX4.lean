/- What the functions answer, as equations: X4. No conditions. -/
import Derived.Test.YtjallbfleicfnaaX2
import Derived.Test.YtjallbfleicfnaaX3
set_option linter.unusedSectionVars false
set_option linter.unusedVariables false
set_option linter.unusedSimpArgs false
namespace Zz
open Go.Lg Md
set_option linter.unusedSimpArgs false
set_option linter.unusedVariables false
attribute [local simp] oldO_some oa_nil oa_i oa_y oa_b oa_s oa_st oa_sl oa_own oa_oad oa_nl al_nil al_cons al_i al_y al_b al_s al_st al_sl nxF_some nxF_none rf_nil rf_gen rf_gate hk_newnil hk_make hk_alloc hk_box hk_build hk_bslice hk_call hk_store hk_app cl_nil cl_cons ai_nil ai_cons il_i il_y il_b il_s il_st il_sl il_own il_adr il_oad il_ref il_fr il_tup il_nil il_np il_und il_dead oi_e oi_i oi_y oi_b oi_s oi_st oi_sl oi_own oi_adr oi_oad oi_ref oi_fr oi_tup oi_nil oi_np oi_und oi_dead as_nil as_cons ao_nil ao_cons av_i av_y av_b av_s av_st av_sl av_own av_adr av_oad av_ref av_fr av_tup av_nil av_np av_und av_dead pro_cons ghK_some ks_promote ks_rename ren_own dropO adoptP newP wholeP cutP allOldL ex_skip ex_ret ex_exit ks_region ks_seq ks_cond ks_block seqK_n seqK_e seqK_r regK_some condK_t condK_f blkK_n blkK_r blkK_e endK_n endK_r rr_false rr_true rd_free mo_nil mo_cons drK_some drK_none nxW_some nxW_none rw_nil rw_gen rw_gate ak_newnil ak_make ak_alloc ak_box ak_build ak_bslice ak_call ak_store ak_app iw_mm iw_idxp ef_mmx ef_mmn ef_idxp nxD_some nxD_none ov_i ov_y ov_b ov_s ov_st ov_sl ov_own ov_oad ov_adr ov_nil ov_np ov_und ov_dead ov_tup oldN_some oldN_nil oldN_none so_none so_i so_y so_b so_s so_st so_sl so_adr so_nil so_np so_und so_dead anyM_nil anyM_t anyM_c so_own so_oad rd_nil rd_gen rd_mv rd_gate iw_mv iw_newnil iw_pick iw_bin iw_eqb iw_eqs iw_un iw_len iw_lens iw_chk iw_fld iw_fldv iw_idxa iw_idx iw_load iw_store iw_slice iw_slices iw_make iw_alloc iw_box iw_build iw_bslice iw_app iw_b2i iw_i2b iw_i2i iw_same iw_b2s iw_s2b iw_ext iw_call nm_i nm_y nm_b nm_s nm_st nm_sl nm_own nm_oad nm_adr nm_nil nm_np nm_und nm_dead nm_tup rl_nil rl_gate rl_mv rl_gen opv_t opv_c nx_some nx_none gate_tt gate_tf gate_ft gate_ff gate_u fr_ap em_nil em_i em_y em_b em_s em_st em_sl em_own em_adr em_oad em_ref em_nl em_np em_und em_dead em_tup0 em_tup_i em_tup_b em_tup_s em_tup_sl em_tup_st em_tup_np em_tup_own em_tup_oad mm_i mm_y mm_b mm_s mm_st mm_sl mm_own mm_oad mm_adr mm_nil mm_np mm_und mm_dead ef_mv ef_newnil ef_pickt ef_pickf ef_bin ef_eqb ef_eqs ef_un ef_lens ef_len_sl ef_len_own ef_len_nil ef_chk_adr ef_chk_oad ef_fld_adr ef_fld_oad ef_fldv idxR_some ef_idxa_sl ef_idxa_own ef_idx ef_load_adr_st ef_load_adr_i ef_load_adr_y ef_load_adr_b ef_load_adr_s ef_load_adr_sl atN_nil atN_zero atN_succ ef_load_oad ef_store ef_slice ef_slices ef_make ef_alloc ef_box ef_build ef_bslice ef_app_own ef_app_nil ef_b2i ef_i2b ef_i2i ef_same ef_ext ret1 ret2_some calL_some ef_call retC_i retC_y retC_b retC_s retC_st retC_sl retC_np retC_fr retC_ref retC_tup rk_nil rk_i rk_y rk_b rk_s rk_st rk_sl rk_own rk_oad rk_nl ok_nil ok_i ok_y ok_b ok_s ok_st ok_sl ok_own ok_oad ok_nl lo_nil lo_i lo_y lo_b lo_s lo_st lo_sl lo_own lo_oad lo_nl pr_nil pr_i pr_y pr_b pr_s pr_st pr_sl pr_own pr_nl pr_oad nr_i nr_y nr_b nr_s nr_st nr_sl nr_fr nr_np nr_tup ng_i ng_b ng_s ng_fr ng_nil resV effP_eff binD bi_add bi_sub bi_mul bi_quo bi_rem bi_eql bi_neq bi_lss bi_leq bi_gtr bi_geq bi_shl bi_shr bi_and bi_or bi_xor bi_andNot binY binS unD look put putD LS.get LS.drop killE sweep lookO putO dropO enter leave giveBackL giveBack outs lendArgs lendArg newOuts takeIn takeInL lendL DV.lend adoptL DV.adopt elems apartKs part DV.cells unpart settle settleL over mkId szId fillP fillE tk_e2 tk_i tk_y lt_e2 lt_i lt_y lend_rep al_e2 al_is al_ys al_rep al_app lend_app adopt_app new_app lend_e2 lend_i lend_y adopt_e2 adopt_i adopt_y new_e2 new_i allNewL DV.allNew bounds sliceD sliceS em_w em_q em_r em_fn em_tup_w em_tup_q em_tup_r mm_w mm_q mm_r mm_fn ef_load_adr_w ef_load_adr_q ef_load_adr_r retC_w retC_q retC_r rk_w rk_q rk_r rk_fn ok_w ok_q ok_r ok_fn lo_w lo_q lo_r lo_fn pr_w pr_q pr_r pr_fn nr_w nr_q nr_r ng_w ng_q ng_r oa_w oa_q oa_r oa_fn al_w al_q al_r al_fn ov_w ov_q ov_r ov_fn so_w so_q so_r so_fn il_w il_q il_r il_fn oi_w oi_q oi_r oi_fn av_w av_q av_r av_fn nm_w nm_q nm_r nm_fn ef_i2r ef_r2s ef_mkfn ef_idxp_adr ef_calld capsOk DV.cell List.all_cons List.all_nil rk_own_t lo_own_t lk_f lk_t pr_own_t mutB ak_calld hk_calld iw_calld iw_mkfn iw_i2r iw_r2s bw_and bw_or bw_xor bw_andNot bw_eql bw_neq sw_shl sw_shr sq_shl gEnv_nil rk_adr ok_adr lo_adr pr_adr oa_adr capL capArg DV.cap ak_mkfn hk_mkfn
attribute [local congr] nxF_congr ghK_congr gate_congr nx_congr nxD_congr runL_congr runD_congr eff_congr calL_congr ret2_congr seqK_congr regK_congr condK_congr endK_congr drK_congr nxW_congr
attribute [local simp ↓] nxF_some rf_nil rf_gen rf_gate ks_promote ks_rename ghK_some gate_tt gate_tf gate_ft gate_ff gate_u nx_some nxD_some rl_nil rl_mv rl_gen rl_gate rd_nil rd_mv rd_gen rd_gate rd_free rr_false rr_true drK_some drK_none nxW_some rw_nil rw_gen rw_gate ks_region ks_seq ks_cond ks_block seqK_n seqK_e seqK_r regK_some condK_t condK_f blkK_n blkK_r endK_n endK_r calL_some ret2_some opv_t opv_c
/-! ### marks -/
theorem mid_at {A B : List DV} {i : Nat} (h : A.length = i) (x : DV) : atN (A ++ x :: B) i = some x := by
  show (A ++ x :: B)[i]? = _
  rw [List.getElem?_append_right (by omega), h]; simp
theorem mid_set {A B : List DV} {i : Nat} (h : A.length = i) (x y : DV) : (A ++ x :: B).set i y = A ++ y :: B := by
  rw [List.set_append_right _ _ (by omega), h]; simp
theorem split_at {es : List DV} {i : Nat} (hi : i < es.length) : es.drop i = es[i] :: es.drop (i + 1) := List.drop_eq_getElem_cons hi
/-- the marks from k on -/
def mk1 (k : Int) (n : Nat) : List DV := (List.range n).map fun (j : Nat) => DV.i (k + (j : Int))
theorem mk1_len (k : Int) (n : Nat) : (mk1 k n).length = n := by simp [mk1]
theorem mk1_succ (k : Int) (n : Nat) : mk1 k (n + 1) = mk1 k n ++ [.i (k + n)] := by simp [mk1, List.range_succ]
def mk2 (k : Int) (n : Nat) : List DV := (List.range n).map fun (j : Nat) => DV.st [.i (k + 2 * (j : Int)), .i (k + 2 * (j : Int) + 1)]
theorem mk2_len (k : Int) (n : Nat) : (mk2 k n).length = n := by simp [mk2]
theorem mk2_succ (k : Int) (n : Nat) : mk2 k (n + 1) = mk2 k n ++ [.st [.i (k + 2 * n), .i (k + 2 * n + 1)]] := by simp [mk2, List.range_succ]
theorem mk1_map (k : Int) (n : Nat) : ∃ u : List Int, mk1 k n = u.map .i ∧ u.length = n := ⟨(List.range n).map fun (j : Nat) => k + (j : Int), by simp [mk1], by simp⟩
theorem mk2_map (k : Int) (n : Nat) : ∃ u : List T, mk2 k n = u.map e2 ∧ u.length = n := ⟨(List.range n).map fun (j : Nat) => (k + 2 * (j : Int), k + 2 * (j : Int) + 1), by simp [mk2, e2], by simp⟩
theorem tk_n {u : List DV} {n : Nat} (h : u.length = n) : List.take n u = u := List.take_of_length_le (by omega)
set_option maxHeartbeats 4000000 in
theorem c_markMarkS (xs : List T) (k : Int) (k0 : 0 ≤ k) (k1 : k ≤ 1000000000) (hl : xs.length ≤ 1048576) : call lf n_laws_markMarkS [.fr 2 (xs.map e2), .i k] = some (.i (k + 2 * xs.length), [.fr 2 (mk2 k xs.length)]) := by
  rw [call_k lf n_laws_markMarkS _ (F := F_laws_markMarkS) rfl rfl]
  have L := loop_count (lf := lf) (L := F_laws_markMarkS_L0) xs.length (fun i => ⟨[(0, .own 23 xs.length 0 xs.length), (1, .i (k + 2 * i)), (5, .i i)], [(23, mk2 k i ++ (xs.map e2).drop i)]⟩) (x := .exit 0) (R := ⟨[(0, .own 23 xs.length 0 xs.length), (1, .i (k + 2 * xs.length)), (5, .i xs.length)], [(23, mk2 k xs.length ++ (xs.map e2).drop xs.length)]⟩) (fun i hi => by
    have w1 : wr ((i : Int) + 1) = (i : Int) + 1 := wr_id (by omega) (by omega)
    have w2 : wr (k + 2 * i + 1) = k + 2 * i + 1 := wr_id (by omega) (by omega)
    have w3 : wr (k + 2 * i + 1 + 1) = k + 2 * (i + 1 : Nat) := by rw [wr_id (by omega) (by omega)]; omega
    have hi' : (i : Int) < xs.length := by omega
    have e := split_at (es := xs.map e2) (i := i) (by simpa using hi)
    rw [List.getElem_map] at e
    rw [mk2_succ, e]
    have hA := mk2_len k i
    have lB : (List.drop (i + 1) (xs.map e2)).length = xs.length - (i + 1) := by simp
    generalize xs[i] = x at *
    generalize List.drop (i + 1) (xs.map e2) = B at *
    generalize mk2 k i = A at *
    have q1 := mid_at (B := B) hA
    have q2 := mid_set (B := B) hA
    have q3 : ∀ x : DV, (A ++ x :: B).length = xs.length := fun x => by simp [hA, lB]; omega
    rw [show A ++ [DV.st [DV.i (k + 2 * ↑i), DV.i (k + 2 * ↑i + 1)]] ++ B = A ++ DV.st [DV.i (k + 2 * ↑i), DV.i (k + 2 * ↑i + 1)] :: B by simp]
    have q4 : ∀ a b : DV, 1 ≤ [a, b].length := fun a b => by simp
    have q5 : ∀ a b : DV, 2 ≤ [a, b].length := fun a b => by simp
    simp [F_laws_markMarkS_L0, e2, hi, hi', w1, w2, w3, q1, q2, q3, q4, q5, -List.length_append, -List.length_cons]) (by
    have lm := mk2_len k xs.length
    simp [F_laws_markMarkS_L0, lm]) (by simp)
  have z : mk2 k 0 ++ (xs.map e2).drop 0 = xs.map e2 := by simp [mk2]
  rw [z] at L
  have zn : mk2 k xs.length ++ (xs.map e2).drop xs.length = mk2 k xs.length := by simp
  rw [zn] at L
  have L' : ex lf F_laws_markMarkS_W0 ⟨[(0, .own 23 xs.length 0 xs.length), (1, .i k), (5, .i 0)], [(23, xs.map e2)]⟩ = some (.exit 0, ⟨[(0, .own 23 xs.length 0 xs.length), (1, .i (k + 2 * xs.length)), (5, .i xs.length)], [(23, mk2 k xs.length)]⟩) := by
    have := L
    simp only [Int.natCast_zero, Int.mul_zero, Int.add_zero] at this
    exact this
  have lm := mk2_len k xs.length
  simp [F_laws_markMarkS, L', lm]
set_option maxHeartbeats 4000000 in
theorem c_heldMarkS (n : Nat) (k : Int) (k0 : 0 ≤ k) (k1 : k ≤ 1000000000) (hl : n ≤ 1048576) : call lf n_laws_heldMarkS [.sl 0 (mk2 k n), .i k] = some (.i (k + 2 * n), []) := by
  rw [call_k lf n_laws_heldMarkS _ (F := F_laws_heldMarkS) rfl rfl]
  have lm := mk2_len k n
  have A : ∀ i, i < n → atI (mk2 k n) (i : Int) = some (.st [.i (k + 2 * i), .i (k + 2 * i + 1)]) := fun i hi => by simp [atI, mk2, hi]
  generalize mk2 k n = es at *
  have L := loop_count (lf := lf) (L := F_laws_heldMarkS_L0) n (fun i => ⟨[(0, .sl 0 es), (1, .i (k + 2 * i)), (5, .i i)], []⟩) (x := .exit 0) (R := ⟨[(0, .sl 0 es), (1, .i (k + 2 * n)), (5, .i n)], []⟩) (fun i hi => by
    have w1 : wr ((i : Int) + 1) = (i : Int) + 1 := wr_id (by omega) (by omega)
    have w2 : wr (k + 2 * i + 1) = k + 2 * i + 1 := wr_id (by omega) (by omega)
    have w3 : wr (k + 2 * i + 1 + 1) = k + 2 * (i + 1 : Nat) := by rw [wr_id (by omega) (by omega)]; omega
    have hi' : (i : Int) < n := by omega
    have q := A i hi
    simp [F_laws_heldMarkS_L0, hi, hi', w1, w2, w3, lm, q]) (by
    simp [F_laws_heldMarkS_L0, lm]) (by simp)
  have L' : ex lf F_laws_heldMarkS_W0 ⟨[(0, .sl 0 es), (1, .i k), (5, .i 0)], []⟩ = some (.exit 0, ⟨[(0, .sl 0 es), (1, .i (k + 2 * n)), (5, .i n)], []⟩) := by
    have := L
    simp only [Int.natCast_zero, Int.mul_zero, Int.add_zero] at this
    exact this
  simp [F_laws_heldMarkS, L']
set_option maxHeartbeats 4000000 in
theorem c_markTestS (xs : List T) (k : Int) (k0 : 0 ≤ k) (k1 : k ≤ 1000000000) (hl : xs.length ≤ 1048576) : call lf n_laws_markTestS [.fr 2 (xs.map e2), .i k] = some (.i (k + 2 * xs.length), [.fr 2 (mk2 k xs.length)]) := by
  rw [call_k lf n_laws_markTestS _ (F := F_laws_markTestS) rfl rfl]
  have L := loop_count (lf := lf) (L := F_laws_markTestS_L0) xs.length (fun i => ⟨[(0, .own 23 xs.length 0 xs.length), (1, .i (k + 2 * i)), (5, .i i)], [(23, mk2 k i ++ (xs.map e2).drop i)]⟩) (x := .exit 0) (R := ⟨[(0, .own 23 xs.length 0 xs.length), (1, .i (k + 2 * xs.length)), (5, .i xs.length)], [(23, mk2 k xs.length ++ (xs.map e2).drop xs.length)]⟩) (fun i hi => by
    have w1 : wr ((i : Int) + 1) = (i : Int) + 1 := wr_id (by omega) (by omega)
    have w2 : wr (k + 2 * i + 1) = k + 2 * i + 1 := wr_id (by omega) (by omega)
    have w3 : wr (k + 2 * i + 1 + 1) = k + 2 * (i + 1 : Nat) := by rw [wr_id (by omega) (by omega)]; omega
    have hi' : (i : Int) < xs.length := by omega
    have e := split_at (es := xs.map e2) (i := i) (by simpa using hi)
    rw [List.getElem_map] at e
    rw [mk2_succ, e]
    have hA := mk2_len k i
    have lB : (List.drop (i + 1) (xs.map e2)).length = xs.length - (i + 1) := by simp
    generalize xs[i] = x at *
    generalize List.drop (i + 1) (xs.map e2) = B at *
    generalize mk2 k i = A at *
    have q1 := mid_at (B := B) hA
    have q2 := mid_set (B := B) hA
    have q3 : ∀ x : DV, (A ++ x :: B).length = xs.length := fun x => by simp [hA, lB]; omega
    rw [show A ++ [DV.st [DV.i (k + 2 * ↑i), DV.i (k + 2 * ↑i + 1)]] ++ B = A ++ DV.st [DV.i (k + 2 * ↑i), DV.i (k + 2 * ↑i + 1)] :: B by simp]
    have q4 : ∀ a b : DV, 1 ≤ [a, b].length := fun a b => by simp
    have q5 : ∀ a b : DV, 2 ≤ [a, b].length := fun a b => by simp
    simp [F_laws_markTestS_L0, e2, hi, hi', w1, w2, w3, q1, q2, q3, q4, q5, -List.length_append, -List.length_cons]) (by
    have lm := mk2_len k xs.length
    simp [F_laws_markTestS_L0, lm]) (by simp)
  have z : mk2 k 0 ++ (xs.map e2).drop 0 = xs.map e2 := by simp [mk2]
  rw [z] at L
  have zn : mk2 k xs.length ++ (xs.map e2).drop xs.length = mk2 k xs.length := by simp
  rw [zn] at L
  have L' : ex lf F_laws_markTestS_W0 ⟨[(0, .own 23 xs.length 0 xs.length), (1, .i k), (5, .i 0)], [(23, xs.map e2)]⟩ = some (.exit 0, ⟨[(0, .own 23 xs.length 0 xs.length), (1, .i (k + 2 * xs.length)), (5, .i xs.length)], [(23, mk2 k xs.length)]⟩) := by
    have := L
    simp only [Int.natCast_zero, Int.mul_zero, Int.add_zero] at this
    exact this
  have lm := mk2_len k xs.length
  simp [F_laws_markTestS, L', lm]
set_option maxHeartbeats 4000000 in
theorem c_heldTestS (n : Nat) (k : Int) (k0 : 0 ≤ k) (k1 : k ≤ 1000000000) (hl : n ≤ 1048576) : call lf n_laws_heldTestS [.sl 0 (mk2 k n), .i k] = some (.i (k + 2 * n), []) := by
  rw [call_k lf n_laws_heldTestS _ (F := F_laws_heldTestS) rfl rfl]
  have lm := mk2_len k n
  have A : ∀ i, i < n → atI (mk2 k n) (i : Int) = some (.st [.i (k + 2 * i), .i (k + 2 * i + 1)]) := fun i hi => by simp [atI, mk2, hi]
  generalize mk2 k n = es at *
  have L := loop_count (lf := lf) (L := F_laws_heldTestS_L0) n (fun i => ⟨[(0, .sl 0 es), (1, .i (k + 2 * i)), (5, .i i)], []⟩) (x := .exit 0) (R := ⟨[(0, .sl 0 es), (1, .i (k + 2 * n)), (5, .i n)], []⟩) (fun i hi => by
    have w1 : wr ((i : Int) + 1) = (i : Int) + 1 := wr_id (by omega) (by omega)
    have w2 : wr (k + 2 * i + 1) = k + 2 * i + 1 := wr_id (by omega) (by omega)
    have w3 : wr (k + 2 * i + 1 + 1) = k + 2 * (i + 1 : Nat) := by rw [wr_id (by omega) (by omega)]; omega
    have hi' : (i : Int) < n := by omega
    have q := A i hi
    simp [F_laws_heldTestS_L0, hi, hi', w1, w2, w3, lm, q]) (by
    simp [F_laws_heldTestS_L0, lm]) (by simp)
  have L' : ex lf F_laws_heldTestS_W0 ⟨[(0, .sl 0 es), (1, .i k), (5, .i 0)], []⟩ = some (.exit 0, ⟨[(0, .sl 0 es), (1, .i (k + 2 * n)), (5, .i n)], []⟩) := by
    have := L
    simp only [Int.natCast_zero, Int.mul_zero, Int.add_zero] at this
    exact this
  simp [F_laws_heldTestS, L']
end Zz
