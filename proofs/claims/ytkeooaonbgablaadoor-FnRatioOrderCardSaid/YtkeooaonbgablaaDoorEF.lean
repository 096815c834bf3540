/- What the functions answer, as equations: EF. No conditions. -/
import Derived.Test.YtkeooaonbgablaaDoorED
import Derived.Test.YtkeooaonbgablaaDoorEC
import Derived.Test.YtkeooaonbgablaaDoorEB
set_option linter.unusedSectionVars false
set_option linter.unusedVariables false
set_option linter.unusedSimpArgs false
namespace Zz
open Go.Lg Md
set_option linter.unusedSimpArgs false
set_option linter.unusedVariables false
attribute [local simp] ia_mv ia_newnil ia_pick ia_bin ia_eqb ia_eqs ia_un ia_len ia_lens ia_chk ia_fld ia_fldv ia_idxa ia_idx ia_load ia_store ia_slice ia_slices ia_make ia_alloc ia_box ia_build ia_bslice ia_app ia_b2i ia_i2b ia_i2i ia_same ia_b2s ia_s2b ia_ext ia_mm ia_idxp ia_calld ia_mkfn ia_i2r ia_r2s ia_call pt_nil pt_cons mi_nil mi_cons md_bslice md_mv md_newnil md_pick md_bin md_eqb md_un md_len md_lens md_fld md_fldv md_idxa md_idx md_load md_store md_slice md_slices md_make md_alloc md_box md_build md_app md_conv md_ext md_call md_calld md_callg md_mkfn md_mm md_idxp md_eqn md_eqs md_chk tg_bslice tg_mv tg_newnil tg_pick tg_bin tg_eqb tg_un tg_len tg_lens tg_fld tg_fldv tg_idxa tg_idx tg_load tg_store tg_slice tg_slices tg_make tg_alloc tg_box tg_build tg_app tg_conv tg_ext tg_call tg_calld tg_callg tg_mkfn tg_mm tg_idxp tg_eqn tg_eqs tg_chk rp_eq ro_eq ifP_t ifP_f np_def ng1_nil ng2_nil ng_gate ng_gen tgA_t tgA_0 tgA_1 tgA_2 aC_nil aC_c aC_t nxP_some nxP_none rq_nil rq_gen rq_gate nxR_some nxR_none ru_nil ru_gen ru_gate pl_none pl_some gt_nil gt_t gt_c di_some di_none an_nil an_cons nxG_some nxG_none rg_nil rg_gen rg_gate oldO_some oa_nil oa_i oa_y oa_b oa_s oa_st oa_sl oa_own oa_oad oa_nl al_nil al_cons al_i al_y al_b al_s al_st al_sl nxF_some nxF_none rf_nil rf_gen rf_gate hk_newnil hk_make hk_alloc hk_box hk_build hk_bslice hk_call hk_store hk_app cl_nil cl_cons ai_nil ai_cons il_i il_y il_b il_s il_st il_sl il_own il_adr il_oad il_ref il_fr il_tup il_nil il_np il_und il_dead ol_adr ol_b ol_dead ol_e ol_fn ol_fr ol_i ol_nil ol_np ol_oad ol_own ol_q ol_r ol_ref ol_s ol_sl ol_st ol_tup ol_und ol_w ol_y oj_e oj_i oj_y oj_b oj_s oj_st oj_sl oj_own oj_adr oj_oad oj_ref oj_fr oj_tup oj_nil oj_np oj_und oj_dead oj_w oj_q oj_r oj_fn oi_e oi_i oi_y oi_b oi_s oi_st oi_sl oi_own oi_adr oi_oad oi_ref oi_fr oi_tup oi_nil oi_np oi_und oi_dead as_nil as_cons ao_nil ao_cons av_i av_y av_b av_s av_st av_sl av_own av_adr av_oad av_ref av_fr av_tup av_nil av_np av_und av_dead pro_cons ghK_some ks_promote ks_freeze frz_own ks_rename ren_own dropO adoptP newP wholeP cutP allOldL ex_skip ex_ret ex_exit ks_region ks_seq ks_cond ks_block seqK_n seqK_e seqK_r regK_some condK_t condK_f blkK_n blkK_r blkK_e endK_n endK_r rr_false rr_true rd_free mo_nil mo_cons drK_some drK_none nxW_some nxW_none rw_nil rw_gen rw_gate ak_newnil ak_make ak_alloc ak_box ak_build ak_bslice ak_call ak_store ak_app iw_mm iw_eqn iw_idxp ef_callg cgK_some gv_e gv_own gv_i gv_sl gv_st gv_b gv_nil gvK_some gvO_some iw_callg ia_callg ak_callg hk_callg is_mv is_newnil is_pick is_bin is_eqb is_eqs is_un is_len is_lens is_chk is_fld is_fldv is_idxa is_idx is_load is_slice is_slices is_make is_alloc is_box is_build is_bslice is_app is_conv is_ext is_call is_calld is_callg is_mkfn is_mm is_idxp is_eqn is_store rt_nil rt_gen rt_gate nxT_some nxT_none ef_eqn_nil ef_eqn_sl ef_eqn_own ia_eqn ef_mmx ef_mmn ef_idxp nxD_some nxD_none ov_i ov_y ov_b ov_s ov_st ov_sl ov_own ov_oad ov_adr ov_nil ov_np ov_und ov_dead ov_tup oldN_some oldN_nil oldN_none so_none so_i so_y so_b so_s so_st so_sl so_adr so_nil so_np so_und so_dead anyM_nil anyM_t anyM_c so_own so_oad rd_nil rd_gen rd_mv rd_gate iw_mv iw_newnil iw_pick iw_bin iw_eqb iw_eqs iw_un iw_len iw_lens iw_chk iw_fld iw_fldv iw_idxa iw_idx iw_load iw_store iw_slice iw_slices iw_make iw_alloc iw_box iw_build iw_bslice iw_app iw_b2i iw_i2b iw_i2i iw_same iw_b2s iw_s2b iw_ext iw_call nm_i nm_y nm_b nm_s nm_st nm_sl nm_own nm_oad nm_adr nm_nil nm_np nm_und nm_dead nm_tup rl_nil rl_gate rl_mv rl_gen opv_t opv_c nx_some nx_none gate_tt gate_tf gate_ft gate_ff gate_u fr_ap em_nil em_i em_y em_b em_s em_st em_sl em_own em_adr em_oad em_ref em_nl em_np em_und em_dead em_tup0 em_tup_i em_tup_b em_tup_s em_tup_sl em_tup_st em_tup_np em_tup_own em_tup_oad mm_i mm_y mm_b mm_s mm_st mm_sl mm_own mm_oad mm_adr mm_nil mm_np mm_und mm_dead ef_mv ef_newnil ef_pickt ef_pickf ef_bin ef_eqb ef_eqs ef_un ef_lens ef_len_sl ef_len_own ef_len_nil ef_chk_adr ef_chk_oad ef_fld_adr ef_fld_oad ef_fldv idxR_some ef_idxa_sl ef_idxa_own ef_idx ef_load_adr_st ef_load_adr_i ef_load_adr_y ef_load_adr_b ef_load_adr_s ef_load_adr_sl atN_nil atN_zero atN_succ ef_load_oad ef_store ef_slice ef_slices ef_make ef_alloc ef_box ef_build ef_bslice ef_app_own ef_app_nil ef_b2i ef_i2b ef_i2i ef_same ef_ext ret1 ret2_some calL_some ef_call retC_i retC_y retC_b retC_s retC_st retC_sl retC_np retC_fr retC_ref retC_tup rk_nil rk_i rk_y rk_b rk_s rk_st rk_sl rk_own rk_oad rk_nl ok_nil ok_i ok_y ok_b ok_s ok_st ok_sl ok_own ok_oad ok_nl lo_nil lo_i lo_y lo_b lo_s lo_st lo_sl lo_own lo_oad lo_nl pr_nil pr_i pr_y pr_b pr_s pr_st pr_sl pr_own pr_nl pr_oad nr_i nr_y nr_b nr_s nr_st nr_sl nr_fr nr_np nr_tup ng_i ng_b ng_s ng_fr ng_nil resV effP_eff binD bi_add bi_sub bi_mul bi_quo bi_rem bi_eql bi_neq bi_lss bi_leq bi_gtr bi_geq bi_shl bi_shr bi_and bi_or bi_xor bi_andNot binY binS unD look put putD LS.get LS.drop killE sweep lookO putO dropO enter leave giveBackL giveBack outs lendArgs lendArg newOuts takeIn takeInL lendL DV.lend adoptL DV.adopt elems apartKs part DV.cells unpart settle settleL over mkId szId fillP fillE tk_e2 tk_i tk_y lt_e2 lt_i lt_y lend_rep al_e2 al_is al_ys al_rep al_app lend_app adopt_app new_app lend_e2 lend_i lend_y adopt_e2 adopt_i adopt_y new_e2 new_i allNewL DV.allNew bounds sliceD sliceS em_w em_q em_r em_fn em_tup_w em_tup_q em_tup_r mm_w mm_q mm_r mm_fn ef_load_adr_w ef_load_adr_q ef_load_adr_r retC_w retC_q retC_r rk_w rk_q rk_r rk_fn ok_w ok_q ok_r ok_fn lo_w lo_q lo_r lo_fn pr_w pr_q pr_r pr_fn nr_w nr_q nr_r ng_w ng_q ng_r oa_w oa_q oa_r oa_fn al_w al_q al_r al_fn ov_w ov_q ov_r ov_fn so_w so_q so_r so_fn il_w il_q il_r il_fn oi_w oi_q oi_r oi_fn av_w av_q av_r av_fn nm_w nm_q nm_r nm_fn ef_i2r ef_r2s ef_mkfn ef_idxp_adr ef_calld capsOk DV.cell List.all_cons List.all_nil rk_own_t lo_own_t lk_f lk_t pr_own_t mutB ak_calld hk_calld iw_calld iw_mkfn iw_i2r iw_r2s bw_and bw_or bw_xor bw_andNot bw_eql bw_neq sw_shl sw_shr sq_shl gEnv_nil rk_adr ok_adr lo_adr pr_adr oa_adr capL capArg DV.cap ak_mkfn hk_mkfn ef_callm gf_ap ga_nil ga_cons tgv_own gk_e gk_giv gk_i gk_y gk_b gk_s gk_w gk_q gk_r gk_fn gk_st gk_sl gk_own gk_oad gk_adr gk_nl gk_np rk_giv ok_giv lo_giv pr_giv oa_giv iw_callm hk_callm ak_callm is_callm ia_callm tg_callm md_callm ks_close cls_oad
attribute [local congr] ifP_congr nxP_congr nxR_congr nxT_congr nxG_congr nxF_congr ghK_congr gate_congr nx_congr nxD_congr runL_congr runD_congr eff_congr calL_congr ret2_congr seqK_congr regK_congr condK_congr endK_congr drK_congr nxW_congr
attribute [local simp ↓] nxT_some rt_nil rt_gen rt_gate nxP_some rq_nil rq_gen rq_gate nxR_some ru_nil ru_gen ru_gate nxG_some rg_nil rg_gen rg_gate nxF_some rf_nil rf_gen rf_gate ks_promote ks_freeze frz_own ks_rename ghK_some gate_tt gate_tf gate_ft gate_ff gate_u nx_some nxD_some rl_nil rl_mv rl_gen rl_gate rd_nil rd_mv rd_gen rd_gate rd_free rr_false rr_true drK_some drK_none nxW_some rw_nil rw_gen rw_gate ks_region ks_seq ks_cond ks_block seqK_n seqK_e seqK_r regK_some condK_t condK_f blkK_n blkK_r endK_n endK_r calL_some ret2_some opv_t opv_c
section
attribute [-simp] DV.cells sliceD
attribute [local simp] cells_st cells_sl cells_i cells_y cells_b cells_s cells_w
/-! ### neighbours exchanged, told a second time -/
theorem i_wid1 (l : List Int) : ∀ e ∈ l.map DV.i, e.cells.length = 1 := by
  intro e he
  obtain ⟨k, _, rfl⟩ := List.mem_map.1 he
  rfl
theorem cut_lo (ob : OB) (sz : Nat) {es : List DV} (wid : ∀ e ∈ es, e.cells.length = sz) {l : Nat} (hl : l ≤ es.length) : sliceD ob (.sl 0 es) sz (some (l : Int)) none = some (.sl 0 (es.drop l)) := by
  unfold sliceD
  simp only [Option.getD_some, Option.getD_none]
  rw [if_pos ⟨by omega, by omega, by omega, wid⟩]
  simp [cutP]
theorem swp_mid (p q : List Int) (a b : Int) : swp (p ++ a :: b :: q) p.length = p ++ b :: a :: q := by
  unfold swp
  have g1 : (p ++ a :: b :: q).getD p.length 0 = a := by simp [List.getD]
  have g2 : (p ++ a :: b :: q).getD (p.length + 1) 0 = b := by simp [List.getD, List.getElem?_append_right]
  rw [g1, g2, List.set_append_right _ _ (by omega), List.set_append_right _ _ (by omega)]
  simp
theorem split2 {os : List Int} {i : Nat} (h : i + 1 < os.length) : ∃ p a b q, os = p ++ a :: b :: q ∧ p.length = i := by
  refine ⟨os.take i, os[i], os[i + 1], os.drop (i + 2), ?_, by simp; omega⟩
  rw [← List.drop_eq_getElem_cons (by omega), ← List.drop_eq_getElem_cons (by omega), List.take_append_drop]
theorem swp_perm {os : List Int} {i : Nat} (h : i + 1 < os.length) : (swp os i).Perm os := by
  obtain ⟨p, a, b, q, rfl, rfl⟩ := split2 h
  rw [swp_mid]
  exact List.Perm.append_left p (List.Perm.swap a b q)
theorem swp_len (os : List Int) (i : Nat) : (swp os i).length = os.length := by simp [swp]
theorem swp_swp {os : List Int} {i : Nat} (h : i + 1 < os.length) : swp (swp os i) i = os := by
  obtain ⟨p, a, b, q, rfl, rfl⟩ := split2 h
  rw [swp_mid, swp_mid]
theorem swOk_iff {m : Int} {os : List Int} {a : Int} : swOk m os a = true ↔ orOk m os = true ∧ 0 ≤ a ∧ a ≤ m - 2 := by simp [swOk]
theorem swL_len (m : Int) (os : List Int) (a : Int) : (swL m os a).length ≤ 5 := by
  unfold swL
  split
  · rename_i h
    have := (orOk_iff.1 (swOk_iff.1 h).1)
    rw [swp_len]; omega
  · simp
/-- exchanged once it is an order, and can be exchanged back -/
theorem swL_ok {m : Int} {os : List Int} {a : Int} (h : swOk m os a = true) : orOk m (swL m os a) = true ∧ swOk m (swL m os a) a = true ∧ swL m (swL m os a) a = os := by
  obtain ⟨h1, h2, h3⟩ := swOk_iff.1 h
  have hl := (orOk_iff.1 h1).2.1
  have hi : a.toNat + 1 < os.length := by omega
  have e : swL m os a = swp os a.toNat := by unfold swL; rw [if_pos h]
  have o : orOk m (swp os a.toNat) = true := by rw [orOk_perm (swp_perm hi)]; exact h1
  have h' : swOk m (swp os a.toNat) a = true := swOk_iff.2 ⟨o, h2, h3⟩
  rw [e]
  refine ⟨o, h', ?_⟩
  unfold swL
  rw [if_pos h', swp_swp hi]
end
section
attribute [-simp] DV.cells
attribute [local simp] sliceD cells_st cells_sl cells_i cells_y cells_b cells_s cells_w
/-! ### draws of chapter 4 -/
theorem ins_perm {p q : List Int} {i : Nat} (h : (p ++ q).Perm (rng i)) : (p ++ (i : Int) :: q).Perm (rng (i + 1)) := by
  rw [rng_succ]
  refine List.perm_middle.trans ?_
  refine (List.Perm.cons _ h).trans ?_
  exact (List.perm_append_singleton _ _).symm
theorem perm_len {us : List Int} {i : Nat} (h : us.Perm (rng i)) : us.length = i := by rw [h.length_eq, rng_len]
set_option maxHeartbeats 4000000 in
theorem set_head (a v : Int) (r : List Int) : ((a :: r).map DV.i).set 0 (.i v) = (v :: r).map .i := by simp
end
section
attribute [-simp] DV.cells sliceD
attribute [local simp] cells_st cells_sl cells_i cells_y cells_b cells_s cells_w
/-! ### averages of orders -/
theorem p6 : ∀ {n : Nat}, n ≤ 5 → (1 : Int) ≤ 6 ^ n ∧ (6 : Int) ^ n ≤ 7776 := by
  intro n hn
  have : n = 0 ∨ n = 1 ∨ n = 2 ∨ n = 3 ∨ n = 4 ∨ n = 5 := by omega
  rcases this with rfl | rfl | rfl | rfl | rfl | rfl <;> decide
theorem gC_bd {us : List T} (h : us.all tOk = true) (m : Int) (t : List T) (s so : Nat) (os : List Int) : 0 ≤ gC m us t s so os ∧ gC m us t s so os ≤ 9 * os.length := by
  rw [gC_cO]
  have := cO_bd h (os.take (gN m t s so os))
  have := List.length_take_le (gN m t s so os) os
  have : (os.take (gN m t s so os)).length ≤ os.length := by simp; omega
  omega
theorem wtgC_bd {us : List T} (h : tsOk us = true) (m : Int) (t : List T) (s so : Nat) {os : List Int} (hl : os.length ≤ 5) : 0 ≤ wt us s * gC m us t s so os ∧ wt us s * gC m us t s so os ≤ 349920 := by
  have h' := tsOk_iff.1 h
  have a := gC_bd h'.2 m t s so os
  have b := wt_le h'.2 (by omega) (s : Int)
  refine ⟨Int.mul_nonneg (by omega) a.1, ?_⟩
  have : wt us s * gC m us t s so os ≤ 7776 * 45 := Int.mul_le_mul b.2 (by omega) a.1 (by omega)
  omega
theorem wlk_bd {us : List T} (h : tsOk us = true) (t : List T) (ks : List Int) (so : Nat) {os : List Int} (hl : os.length ≤ 5) : 0 ≤ wlk us t ks so os ∧ wlk us t ks so os ≤ 20000000 := by
  have h' := tsOk_iff.1 h
  have := sumTo_nonneg (f := fun s => if agB ks s then wt us s * gC us.length us t s so os else 0) (B := 349920) (by omega) (2 ^ us.length) (fun s _ => by
    have := wtgC_bd h us.length t s so hl
    split <;> omega)
  obtain ⟨_, p2, _⟩ := pow5 (m := us.length) (by omega) (by omega)
  rw [Int.toNat_natCast] at p2
  unfold wlk
  omega
theorem avO_bd {us : List T} (h : tsOk us = true) (t : List T) {os : List Int} (hl : os.length ≤ 5) : 0 ≤ avO us t os ∧ avO us t os ≤ 20000000 := by
  rw [← wlk_non]; exact wlk_bd h t _ 0 hl
def stW (us : List T) (tab : Nat) (os : List Int) (k : Nat) (ks : List Int) (w a sum sd : Int) : LS :=
  ⟨[(0, .sl 0 (us.map e2)), (1, .i tab), (2, .sl 0 (os.map .i)), (3, .i k), (4, .sl 0 (ks.map .i)), (5, .i w), (13, .i a), (14, .i sum), (15, .i sd)], []⟩
theorem lend_set (l : List Int) (j : Nat) (v : Int) : lendL ((l.map DV.i).set j (.i v)) = (l.map .i).set j (.i v) := by
  rw [show (l.map DV.i).set j (.i v) = (l.set j v).map .i by rw [List.map_set]]
  exact lend_i _
def avOk (us t : List T) (os : List Int) : Bool := tsOk us && tmOk us.length t && orOk us.length os
def avOf (us t : List T) (os : List Int) : Int := if avOk us t os then avO us t os else -1
def avP (us t : List T) (os : List Int) (n : Nat) : Int := sumTo (fun s => wt us s * gC us.length us t s 0 os) n
end
section
attribute [-simp] DV.cells sliceD
attribute [local simp] cells_st cells_sl cells_i cells_y cells_b cells_s cells_w
/-! ### the best order, as the program finds it -/
def owP (us t : List T) (so n : Nat) : Int := sumTo (fun s => if prf us.length t s so then 0 else wt us s) n
def owL (us t : List T) (N i : Nat) : List Int := (List.range N).map fun k => if k < i then owT us t k else 0
theorem owL_len (us t : List T) (N i : Nat) : (owL us t N i).length = N := by simp [owL]
theorem owP_all (us t : List T) (so : Nat) : owP us t so (2 ^ us.length) = owT us t so := rfl
theorem owL_set {us t : List T} {N i : Nat} (hi : i < N) : (owL us t N i).set i (owT us t i) = owL us t N (i + 1) := by
  apply List.ext_getElem?
  intro k
  by_cases h : k < N
  · by_cases e : k = i
    · subst e
      rw [List.getElem?_set_self (by simp [owL_len, hi])]
      simp [owL, h]
    · rw [List.getElem?_set_ne (fun q => e q.symm)]
      have e' : k < i ↔ k < i + 1 := by omega
      simp [owL, h, e']
  · rw [List.getElem?_eq_none (by simp [owL_len]; omega), List.getElem?_eq_none (by simp [owL_len]; omega)]
theorem owL_zero {us t : List T} {N i : Nat} (hi : i < N) : (owL us t N i).set i 0 = owL us t N i := by
  apply List.ext_getElem?
  intro k
  by_cases e : k = i
  · subst e
    rw [List.getElem?_set_self (by simp [owL_len, hi])]
    simp [owL, hi]
  · rw [List.getElem?_set_ne (fun q => e q.symm)]
theorem owP_bd {us : List T} (h : tsOk us = true) (t : List T) (so n : Nat) (hn : n ≤ 32) : 0 ≤ owP us t so n ∧ owP us t so n ≤ 1000000 := by
  have h' := tsOk_iff.1 h
  have := sumTo_nonneg (f := fun s => if prf us.length t s so then 0 else wt us s) (B := 7776) (by omega) n (fun k _ => by
    have := wt_le h'.2 (by omega) (k : Int)
    split <;> omega)
  unfold owP
  omega
def stO (us : List T) (v : BitVec 32) (m N : Nat) (ws : List Int) (i : Nat) : LS :=
  ⟨[(0, .sl 0 (us.map e2)), (1, .w v), (5, .i m), (6, .own 7176 N 0 N), (16, .i N), (17, .i i)], [(7176, ws.map .i)]⟩
def stOI (us : List T) (v w : BitVec 32) (m N : Nat) (ws : List Int) (i : Nat) (j : Nat) : LS :=
  ⟨[(0, .sl 0 (us.map e2)), (1, .w v), (5, .i m), (6, .own 7176 N 0 N), (7, .i i), (8, .w w), (16, .i N), (17, .i i), (25, .i N), (26, .i j)], [(7176, ws.map .i)]⟩
theorem ow_inner {us t : List T} (h1 : tsOk us = true) (h2 : tmOk us.length t = true) (i : Nat) (ws : List Int) (hw : ws.length = 2 ^ us.length) (hi : i < 2 ^ us.length) (w : BitVec 32)
    (hH : ∀ s : Nat, s < 2 ^ us.length → call lf n_impl_hasState [.w w, .i s] = some (.b (!prf us.length t s i), [])) :
    ex lf F_impl_openWeights_W1 (stOI us (tsW t) w us.length (2 ^ us.length) (ws.set i 0) i 0) = some (.exit 2, stOI us (tsW t) w us.length (2 ^ us.length) (ws.set i (owT us t i)) i (2 ^ us.length)) := by
  have h' := tsOk_iff.1 h1
  obtain ⟨p1, p2, p3⟩ := pow5 (m := us.length) (by omega) (by omega)
  simp only [Int.toNat_natCast] at p1 p2 p3
  have L := loop_count (lf := lf) (L := F_impl_openWeights_L1) (2 ^ us.length) (fun j => stOI us (tsW t) w us.length (2 ^ us.length) (ws.set i (owP us t i j)) i j) (x := .exit 2) (R := stOI us (tsW t) w us.length (2 ^ us.length) (ws.set i (owT us t i)) i (2 ^ us.length)) (fun j hj => by
    have H := hH j hj
    have W := c_impl_WeightOf us j (by omega)
    have hj' : (j : Int) < 2 ^ us.length := by omega
    rw [wtOf_of h1 (by omega) hj'] at W
    have e : owP us t i (j + 1) = owP us t i j + if prf us.length t j i then 0 else wt us j := rfl
    have w1 : wr ((j : Int) + 1) = ((j + 1 : Nat) : Int) := by rw [wr_id (by omega) (by omega)]; omega
    have b1 := owP_bd h1 t i j (by omega)
    have b2 := wt_le h'.2 (by omega) (j : Int)
    have w2 : wr (owP us t i j + wt us j) = owP us t i j + wt us j := wr_id (by omega) (by omega)
    have hN : ((2 ^ us.length : Nat) : Int) = 2 ^ us.length := p3
    generalize hg : (2 ^ us.length : Nat) = N at *
    have hjn : (j : Int) < (N : Int) := by omega
    have hin : (i : Int) < (N : Int) := by omega
    have a1 : ∀ x : Int, atN ((ws.map DV.i).set i (.i x)) i = some (.i x) := fun x => by show ((ws.map DV.i).set i (.i x))[i]? = _; rw [List.getElem?_set_self (by simp; omega)]
    unfold stOI
    simp only [List.map_set]
    rw [e]
    cases hp : prf us.length t j i with
    | true =>
      rw [hp] at H
      simp [F_impl_openWeights_L1, hjn, hj, H, w1, hw, -Int.natCast_add]
    | false =>
      rw [hp] at H
      simp [F_impl_openWeights_L1, hjn, hj, H, W, w1, w2, hin, hi, hw, a1, -Int.natCast_add]) (by
    rw [owP_all]
    unfold stOI
    simp [F_impl_openWeights_L1]) (by simp)
  exact L
theorem c_impl_openWeights {us t : List T} (h1 : tsOk us = true) (h2 : tmOk us.length t = true) : call lf n_impl_openWeights [.sl 0 (us.map e2), .w (tsW t)] = some (.fr 1 ((owL us t (2 ^ us.length) (2 ^ us.length)).map .i), []) := by
  have h' := tsOk_iff.1 h1
  obtain ⟨p1, p2, p3⟩ := pow5 (m := us.length) (by omega) (by omega)
  simp only [Int.toNat_natCast] at p1 p2 p3
  have C4 := c_impl_statesOf us.length (by omega) (by omega)
  simp only [Int.toNat_natCast] at C4
  have L := loop_count (lf := lf) (L := F_impl_openWeights_L0) (2 ^ us.length) (fun i => stO us (tsW t) us.length (2 ^ us.length) (owL us t (2 ^ us.length) i) i) (x := .exit 0) (R := stO us (tsW t) us.length (2 ^ us.length) (owL us t (2 ^ us.length) (2 ^ us.length)) (2 ^ us.length)) (fun i hi => by
    have O := c_impl_openStates (m := us.length) (by omega) (by omega) (tsW t) i
    have I := ow_inner h1 h2 i (owL us t (2 ^ us.length) i) (owL_len _ _ _ _) hi (opW i (tsW t) us.length &&& opW i (~~~ tsW t) us.length) (fun (s : Nat) hs => by
      have := c_opened h2 i (s := s) (by rw [Int.toNat_natCast]; exact hs)
      rw [Int.toNat_natCast] at this
      exact this)
    rw [owL_zero hi, owL_set hi] at I
    have w1 : wr ((i : Int) + 1) = ((i + 1 : Nat) : Int) := by rw [wr_id (by omega) (by omega)]; omega
    have hN : ((2 ^ us.length : Nat) : Int) = 2 ^ us.length := p3
    rw [← hN] at C4
    rw [Int.toNat_natCast] at O
    unfold stO
    unfold stOI at I
    generalize hg : (2 ^ us.length : Nat) = N at *
    have hin : (i : Int) < (N : Int) := by omega
    simp only [Int.natCast_zero] at I
    simp [F_impl_openWeights_L0, hin, hi, O, C4, I, w1, -Int.natCast_add]) (by
    unfold stO
    simp [F_impl_openWeights_L0]) (by simp)
  have z : owL us t (2 ^ us.length) 0 = List.replicate (2 ^ us.length) 0 := by
    unfold owL
    simp
    apply List.ext_getElem? 
    intro k
    by_cases h : k < 2 ^ us.length <;> simp [h]
  rw [z] at L
  unfold stO at L
  have lb : ((2 ^ us.length : Nat) : Int) ≤ (bound : Int) := by unfold bound; omega
  have ll := owL_len us t (2 ^ us.length) (2 ^ us.length)
  have hN : ((2 ^ us.length : Nat) : Int) = 2 ^ us.length := p3
  rw [← hN] at C4
  rw [call_k lf n_impl_openWeights _ (F := F_impl_openWeights) rfl rfl]
  generalize hg : (2 ^ us.length : Nat) = N at *
  simp only [Int.natCast_zero, List.map_replicate] at L
  change ex lf F_impl_openWeights_W0 _ = _ at L
  have n0 : ¬ ((N : Int) < 0) := by omega
  simp [F_impl_openWeights, C4, L, lb, ll]
end
section
attribute [-simp] DV.cells sliceD
attribute [local simp] cells_st cells_sl cells_i cells_y cells_b cells_s cells_w
theorem ren_nil (t id : Nat) (e : Env) (ob : OB) : renL t id e ob .nil = some ⟨e, ob⟩ := rfl
/-- what comes back: nothing is nil -/
def bR (l : List Int) : DV := if l = [] then .sl 1 [] else .fr 1 (l.map .i)
def stB (us : List T) (ws : List Int) (so N i : Nat) (D : DV) (l : Int) (ob : OB) : LS :=
  ⟨[(0, .sl 0 (us.map e2)), (1, .sl 0 (ws.map .i)), (2, .i so), (8, D), (9, .i l), (14, .sl 0 (us.map e2)), (15, .i N), (16, .i i)], ob⟩
def bD (K : Nat) (b : List Int) : DV := if b = [] then .nil else .own K b.length 0 b.length
def bO (K : Nat) (b : List Int) : OB := if b = [] then [] else [(K, b.map .i)]
theorem bb_no {us : List T} {ws : List Int} {so N i K : Nat} {b : List Int} {l : Int} (hK : K = 4104 ∨ K = 26120) (hi : i < us.length) (hN : N = us.length) (h5 : N ≤ 5) (hb : so.testBit i = true) :
    ex lf F_impl_bestBehind_L0 (stB us ws so N i (bD K b) l (bO K b)) = some (.normal, stB us ws so N (i + 1) (bD 4104 b) l (bO 4104 b)) := by
  have H := c_impl_hasTest so i (by omega)
  rw [hb] at H
  have hin : (i : Int) < (N : Int) := by omega
  have w1 : wr ((i : Int) + 1) = ((i + 1 : Nat) : Int) := by rw [wr_id (by omega) (by omega)]; omega
  obtain ⟨c, q, c1, _, _⟩ := cA_at (us := us) (a := i) (by omega) (by omega)
  unfold stB bD bO
  by_cases hb0 : b = []
  · simp [F_impl_bestBehind_L0, ren_nil, hb0, hin, H, w1, c1, -Int.natCast_add]
  · rcases hK with rfl | rfl
    · simp [F_impl_bestBehind_L0, ren_nil, hb0, hin, H, w1, c1, -Int.natCast_add]
    · simp [F_impl_bestBehind_L0, ren_nil, hb0, hin, H, w1, c1, -Int.natCast_add]
set_option maxHeartbeats 4000000 in
theorem bb_yes {us : List T} {ws : List Int} {so N i K : Nat} {b r1 : List Int} {l r2 c o : Int} (hK : K = 4104 ∨ K = 26120) (hi : i < us.length) (hN : N = us.length) (h5 : N ≤ 5) (hso : so < 32) (hb : so.testBit i = false) (hr : r1.length ≤ 5)
    (C : call lf n_impl_bestBehind [.sl 0 (us.map e2), .sl 0 (ws.map .i), .i ((so ||| 2 ^ i : Nat) : Int)] = some (.tup [bR r1, .i r2], []))
    (hc : c = cA us i) (ho : atI (ws.map .i) so = some (.i o)) (c9 : 1 ≤ c ∧ c ≤ 9) (o9 : 0 ≤ o ∧ o ≤ 7776) (hr2 : 0 ≤ r2 ∧ r2 ≤ 1000000) :
    ex lf F_impl_bestBehind_L0 (stB us ws so N i (bD K b) l (bO K b)) = some (.normal, if b = [] ∨ r2 + c * o < l then stB us ws so N (i + 1) (bD 26120 ((i : Int) :: r1)) (r2 + c * o) (bO 26120 ((i : Int) :: r1)) else stB us ws so N (i + 1) (bD 4104 b) l (bO 4104 b)) := by
  have H := c_impl_hasTest so i (by omega)
  rw [hb] at H
  have hin : (i : Int) < (N : Int) := by omega
  have w1 : wr ((i : Int) + 1) = ((i + 1 : Nat) : Int) := by rw [wr_id (by omega) (by omega)]; omega
  obtain ⟨c', q, c1, c2, _⟩ := cA_at (us := us) (a := i) (by omega) (by omega)
  rw [Int.toNat_natCast] at c2
  have cc : c' = c := by rw [c2, hc]
  subst cc
  have oi := or_i (so := so) (a := i) hso (by omega) (by omega)
  rw [Int.toNat_natCast] at oi
  have n0 : ¬ ((i : Int) < 0) := by omega
  have b1 : 0 ≤ c' * o := Int.mul_nonneg (by omega) o9.1
  have b2 : c' * o ≤ 9 * 7776 := Int.mul_le_mul c9.2 o9.2 o9.1 (by omega)
  have w2 : wr (c' * o) = c' * o := wr_id (by omega) (by omega)
  have w3 : wr (r2 + c' * o) = r2 + c' * o := wr_id (by omega) (by omega)
  have lb : 1 + r1.length ≤ bound := by unfold bound; omega
  have lb' : r1.length + 1 ≤ bound := by unfold bound; omega
  have lb1 : 1 ≤ bound := by unfold bound; omega
  have sl : (so : Int) < ws.length := by
    by_cases h : (so : Int) < ws.length
    · exact h
    · simp only [atI, if_pos (Int.natCast_nonneg so)] at ho
      have : (ws.map DV.i)[(so : Int).toNat]? = none := List.getElem?_eq_none (by simp; omega)
      rw [this] at ho; cases ho
  have sl' : so < ws.length := by omega
  have ac : 1 + r1.length = r1.length + 1 := by omega
  generalize so ||| 2 ^ i = so2 at *
  unfold bR at C
  unfold stB bD bO
  by_cases hb0 : b = []
  · subst hb0
    by_cases hr0 : r1 = []
    · subst hr0
      simp at C
      simp [F_impl_bestBehind_L0, ren_nil, hin, H, w1, c1, oi, n0, C, ho, sl, sl', w2, w3, lb1, -Int.natCast_add]
    · rw [if_neg hr0] at C
      simp [F_impl_bestBehind_L0, ren_nil, hin, H, w1, c1, oi, n0, C, ho, sl, sl', w2, w3, lb, lb', ac, hr0, -Int.natCast_add]
  · have bl : 0 < b.length := List.length_pos_iff.2 hb0
    by_cases hlt : r2 + c' * o < l
    · by_cases hr0 : r1 = []
      · subst hr0
        simp at C
        rcases hK with rfl | rfl <;> simp [F_impl_bestBehind_L0, ren_nil, hb0, hin, H, w1, c1, oi, n0, C, ho, sl, sl', w2, w3, lb1, hlt, -Int.natCast_add]
      · rw [if_neg hr0] at C
        rcases hK with rfl | rfl <;> simp [F_impl_bestBehind_L0, ren_nil, hb0, hin, H, w1, c1, oi, n0, C, ho, sl, sl', w2, w3, lb, lb', ac, hr0, hlt, -Int.natCast_add]
    · by_cases hr0 : r1 = []
      · subst hr0
        simp at C
        rcases hK with rfl | rfl <;> simp [F_impl_bestBehind_L0, ren_nil, hb0, hin, H, w1, c1, oi, n0, C, ho, sl, sl', w2, w3, lb1, hlt, -Int.natCast_add]
      · rw [if_neg hr0] at C
        rcases hK with rfl | rfl <;> simp [F_impl_bestBehind_L0, ren_nil, hb0, hin, H, w1, c1, oi, n0, C, ho, sl, sl', w2, w3, lb, lb', ac, hr0, hlt, -Int.natCast_add]
end
section
attribute [-simp] DV.cells sliceD
attribute [local simp] cells_st cells_sl cells_i cells_y cells_b cells_s cells_w
theorem bb_loop {us t : List T} (h1 : tsOk us = true) {ws : List Int} {so : Nat} (hso : so < 2 ^ us.length) {rec : Nat → List Int × Int} (hw : atI (ws.map .i) so = some (.i (owT us t so)))
    (hr : ∀ k, k < us.length → so.testBit k = false → call lf n_impl_bestBehind [.sl 0 (us.map e2), .sl 0 (ws.map .i), .i ((so ||| 2 ^ k : Nat) : Int)] = some (.tup [bR (rec (so ||| 2 ^ k)).1, .i (rec (so ||| 2 ^ k)).2], []) ∧
      (rec (so ||| 2 ^ k)).1.length ≤ 5 ∧ 0 ≤ (rec (so ||| 2 ^ k)).2 ∧ (rec (so ||| 2 ^ k)).2 ≤ 1000000) :
    ∀ (j i K : Nat), i + j = us.length → (K = 4104 ∨ K = 26120) →
    ex lf F_impl_bestBehind_W0 (stB us ws so us.length i (bD K (bbL us t rec so i).1) (bbL us t rec so i).2 (bO K (bbL us t rec so i).1)) =
    some (.exit 0, stB us ws so us.length us.length (bD 4104 (bbL us t rec so us.length).1) (bbL us t rec so us.length).2 (bO 4104 (bbL us t rec so us.length).1)) := by
  have h' := tsOk_iff.1 h1
  obtain ⟨p1, p2, p3⟩ := pow5 (m := us.length) (by omega) (by omega)
  simp only [Int.toNat_natCast] at p1 p2 p3
  intro j
  induction j with
  | zero =>
    intro i K hij hK
    have : i = us.length := by omega
    subst this
    rw [w_impl_bestBehind_0]
    generalize bbL us t rec so us.length = P
    obtain ⟨b, l⟩ := P
    unfold stB bD bO
    by_cases hb0 : b = []
    · simp [F_impl_bestBehind_L0, ren_nil, hb0]
    · rcases hK with rfl | rfl <;> simp [F_impl_bestBehind_L0, ren_nil, hb0]
  | succ j ih =>
    intro i K hij hK
    rw [w_impl_bestBehind_0]
    cases hb : so.testBit i with
    | true =>
      have e : bbL us t rec so (i + 1) = bbL us t rec so i := by rw [bbL, if_pos hb]
      have ih := ih (i + 1) 4104 (by omega) (.inl rfl)
      rw [e] at ih
      rw [bb_no hK (by omega) rfl (by omega) hb]
      exact ih
    | false =>
      obtain ⟨r1, r2, r3, r4⟩ := hr i (by omega) hb
      have cn := cA_nn h'.2 i
      have ob := owT_bound h1 t so
      have k6 := p6 (n := us.length) (by omega)
      rw [bb_yes hK (by omega) rfl (by omega) (by omega) hb r2 r1 rfl hw (by omega) (by omega) (by omega)]
      have e : bbL us t rec so (i + 1) = if (bbL us t rec so i).1 = [] ∨ (rec (so ||| 2 ^ i)).2 + cA us i * owT us t so < (bbL us t rec so i).2 then ((i : Int) :: (rec (so ||| 2 ^ i)).1, (rec (so ||| 2 ^ i)).2 + cA us i * owT us t so) else bbL us t rec so i := by
        rw [bbL, hb, if_neg (by simp)]
      have ih1 := ih (i + 1) 26120 (by omega) (.inr rfl)
      have ih2 := ih (i + 1) 4104 (by omega) (.inl rfl)
      rw [e] at ih1 ih2
      by_cases hc : (bbL us t rec so i).1 = [] ∨ (rec (so ||| 2 ^ i)).2 + cA us i * owT us t so < (bbL us t rec so i).2
      · rw [if_pos hc] at ih1
        rw [if_pos hc]
        exact ih1
      · rw [if_neg hc] at ih2
        rw [if_neg hc]
        exact ih2
theorem owL_at {us t : List T} {N so : Nat} (h : so < N) : atI ((owL us t N N).map .i) so = some (.i (owT us t so)) := by
  simp only [atI, if_pos (Int.natCast_nonneg so)]
  show ((owL us t N N).map DV.i)[(so : Int).toNat]? = _
  simp [owL, h]
theorem bb_ret {us : List T} {ws : List Int} {so : Nat} {b : List Int} {l : Int} (L : ex lf F_impl_bestBehind_W0 (stB us ws so us.length 0 .nil 0 []) = some (.exit 0, stB us ws so us.length us.length (bD 4104 b) l (bO 4104 b))) :
    call lf n_impl_bestBehind [.sl 0 (us.map e2), .sl 0 (ws.map .i), .i so] = some (.tup [bR b, .i l], []) := by
  unfold stB at L
  rw [call_k lf n_impl_bestBehind _ (F := F_impl_bestBehind) rfl rfl]
  unfold bD bO at L
  unfold bR
  by_cases hb0 : b = []
  · rw [if_pos hb0, if_pos hb0] at L
    rw [if_pos hb0]
    simp at L
    simp [F_impl_bestBehind, L]
  · rw [if_neg hb0, if_neg hb0] at L
    rw [if_neg hb0]
    simp at L
    simp [F_impl_bestBehind, L]
theorem c_impl_bestBehind {us t : List T} (h1 : tsOk us = true) : ∀ (f so : Nat), so < 2 ^ us.length → uc so us.length = f →
    call lf n_impl_bestBehind [.sl 0 (us.map e2), .sl 0 ((owL us t (2 ^ us.length) (2 ^ us.length)).map .i), .i so] = some (.tup [bR (bbF us t f so).1, .i (bbF us t f so).2], []) := by
  have h' := tsOk_iff.1 h1
  intro f
  induction f with
  | zero =>
    intro so hso hu
    have ua := uc_all hu
    have e : ∀ i, i ≤ us.length → bbL us t (bbF us t 0) so i = ([], 0) := by
      intro i
      induction i with
      | zero => intro _; rfl
      | succ i ih => intro hi; rw [bbL, if_pos (ua i (by omega))]; exact ih (by omega)
    have L := bb_loop h1 hso (rec := bbF us t 0) (t := t) (owL_at hso) (fun k hk hb => by rw [ua k hk] at hb; cases hb) us.length 0 4104 (by omega) (.inl rfl)
    rw [e us.length (Nat.le_refl _)] at L
    exact bb_ret L
  | succ f ih =>
    intro so hso hu
    have L := bb_loop h1 hso (rec := bbF us t f) (t := t) (owL_at hso) (fun k hk hb => by
      have u := uc_or hk hb
      have lt := or_lt2 hso hk
      have B := bbF_ok (us := us) (t := t) (f := f) (so := so ||| 2 ^ k) (by omega)
      obtain ⟨B1, B2, B3, _⟩ := B
      have ul := uc_le (so ||| 2 ^ k) us.length
      have n0 := cC_nn h1 t (so ||| 2 ^ k) (bbF us t f (so ||| 2 ^ k)).1
      have n1 := cC_le h1 t (so ||| 2 ^ k) (bbF us t f (so ||| 2 ^ k)).1
      have n2 := cO_bd h'.2 (bbF us t f (so ||| 2 ^ k)).1
      have k6 := p6 (n := us.length) (by omega)
      have n3 : 6 ^ us.length * cO us (bbF us t f (so ||| 2 ^ k)).1 ≤ 7776 * 45 := Int.mul_le_mul k6.2 (by omega) n2.1 (by omega)
      exact ⟨ih _ lt (by omega), by omega, by omega, by omega⟩) us.length 0 4104 (by omega) (.inl rfl)
    exact bb_ret L
def boOk (us t : List T) : Bool := tsOk us && tmOk us.length t
theorem boF_ne {us : List T} (h1 : tsOk us = true) (t : List T) : (boF us t).1 ≠ [] := by
  have h' := tsOk_iff.1 h1
  obtain ⟨_, h2, _⟩ := boF_ok us t
  intro h0
  rw [h0] at h2
  simp at h2; omega
def boL (us t : List T) : List Int := if boOk us t = true then (boF us t).1 else []
def boN (us t : List T) : Int := if boOk us t = true then (boF us t).2 else -1
theorem c_impl_BestOrder (us t : List T) (ha : (us.length : Int) < 1099511627776) (hb : (t.length : Int) < 1099511627776) :
    call lf n_impl_BestOrder [.sl 0 (us.map e2), .sl 0 (t.map e2)] = some (.tup [.fr 1 ((boL us t).map .i), .i (boN us t)], []) := by
  rw [call_k lf n_impl_BestOrder _ (F := F_impl_BestOrder) rfl rfl]
  have C1 := c_impl_TestsOk us ha
  have C2 := c_impl_TermOk us.length t hb
  unfold boL boN boOk
  cases h1 : tsOk us with
  | false => rw [h1] at C1; simp [F_impl_BestOrder, C1]
  | true =>
    rw [h1] at C1
    cases h2 : tmOk us.length t with
    | false => rw [h2] at C2; simp [F_impl_BestOrder, C1, C2]
    | true =>
      rw [h2] at C2
      have C3 := c_impl_trueStates h2
      have C4 := c_impl_openWeights h1 h2
      have C5 := c_impl_bestBehind (t := t) h1 us.length 0 (Nat.pow_pos (by omega)) (uc_zero _)
      rw [show bbF us t us.length 0 = boF us t from rfl] at C5
      have ne := boF_ne h1 t
      unfold bR at C5
      rw [if_neg ne] at C5
      simp only [Int.natCast_zero] at C5
      have ll := owL_len us t (2 ^ us.length) (2 ^ us.length)
      have t1 : List.take (2 ^ us.length) ((owL us t (2 ^ us.length) (2 ^ us.length)).map DV.i) = (owL us t (2 ^ us.length) (2 ^ us.length)).map .i := List.take_of_length_le (by simp [ll])
      simp [F_impl_BestOrder, C1, C2, C3, C4, C5, ll, t1]
end
section
attribute [-simp] DV.cells sliceD
attribute [local simp] cells_st cells_sl cells_i cells_y cells_b cells_s cells_w
/-! ### the best order, as the given function finds it -/
def stS (us : List T) (tab : Nat) (p : List Int) (q : Nat) (b : List Int) (l : Int) (k : Nat) : LS :=
  ⟨[(0, .sl 0 (us.map e2)), (1, .i tab), (2, .sl 0 (p.map .i)), (3, .sl q (b.map .i)), (4, .i l), (13, .i k)], []⟩
def stSI (us : List T) (tab : Nat) (p : List Int) (q : Nat) (b : List Int) (l : Int) (k : Nat) (s : Bool) (j : Nat) : LS :=
  ⟨[(0, .sl 0 (us.map e2)), (1, .i tab), (2, .sl 0 (p.map .i)), (3, .sl q (b.map .i)), (4, .i l), (13, .i k), (14, .b s), (15, .i j)], []⟩
def srQ : Nat → Nat
  | 0 => 0
  | _ + 1 => 2
theorem srQ_or (f : Nat) : srQ f = 0 ∨ srQ f = 2 := by cases f <;> simp [srQ]
end
end Zz
