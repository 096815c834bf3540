/- What the functions answer, as equations: EG. No conditions. -/
import Derived.Test.YtaolcmhkmkgmpabE34
import Derived.Test.YtaolcmhkmkgmpabEA
set_option linter.unusedSectionVars false
set_option linter.unusedVariables false
set_option linter.unusedSimpArgs false
namespace Zz
open Go.Lg Md
set_option linter.unusedSimpArgs false
set_option linter.unusedVariables false
attribute [local simp] ia_mv ia_newnil ia_pick ia_bin ia_eqb ia_eqs ia_un ia_len ia_lens ia_chk ia_fld ia_fldv ia_idxa ia_idx ia_load ia_store ia_slice ia_slices ia_make ia_alloc ia_box ia_build ia_bslice ia_app ia_b2i ia_i2b ia_i2i ia_same ia_b2s ia_s2b ia_ext ia_mm ia_idxp ia_calld ia_mkfn ia_i2r ia_r2s ia_call pt_nil pt_cons mi_nil mi_cons md_bslice md_mv md_newnil md_pick md_bin md_eqb md_un md_len md_lens md_fld md_fldv md_idxa md_idx md_load md_store md_slice md_slices md_make md_alloc md_box md_build md_app md_conv md_ext md_call md_calld md_callg md_mkfn md_mm md_idxp md_eqn md_eqs md_chk tg_bslice tg_mv tg_newnil tg_pick tg_bin tg_eqb tg_un tg_len tg_lens tg_fld tg_fldv tg_idxa tg_idx tg_load tg_store tg_slice tg_slices tg_make tg_alloc tg_box tg_build tg_app tg_conv tg_ext tg_call tg_calld tg_callg tg_mkfn tg_mm tg_idxp tg_eqn tg_eqs tg_chk rp_eq ro_eq ifP_t ifP_f np_def ng1_nil ng2_nil ng_gate ng_gen tgA_t tgA_0 tgA_1 tgA_2 aC_nil aC_c aC_t nxP_some nxP_none rq_nil rq_gen rq_gate nxR_some nxR_none ru_nil ru_gen ru_gate pl_none pl_some gt_nil gt_t gt_c di_some di_none an_nil an_cons nxG_some nxG_none rg_nil rg_gen rg_gate oldO_some oa_nil oa_i oa_y oa_b oa_s oa_st oa_sl oa_own oa_oad oa_nl al_nil al_cons al_i al_y al_b al_s al_st al_sl nxF_some nxF_none rf_nil rf_gen rf_gate hk_newnil hk_make hk_alloc hk_box hk_build hk_bslice hk_call hk_store hk_app cl_nil cl_cons ai_nil ai_cons il_i il_y il_b il_s il_st il_sl il_own il_adr il_oad il_ref il_fr il_tup il_nil il_np il_und il_dead ol_adr ol_b ol_dead ol_e ol_fn ol_fr ol_i ol_nil ol_np ol_oad ol_own ol_q ol_r ol_ref ol_s ol_sl ol_st ol_tup ol_und ol_w ol_y oj_e oj_i oj_y oj_b oj_s oj_st oj_sl oj_own oj_adr oj_oad oj_ref oj_fr oj_tup oj_nil oj_np oj_und oj_dead oj_w oj_q oj_r oj_fn oi_e oi_i oi_y oi_b oi_s oi_st oi_sl oi_own oi_adr oi_oad oi_ref oi_fr oi_tup oi_nil oi_np oi_und oi_dead as_nil as_cons ao_nil ao_cons av_i av_y av_b av_s av_st av_sl av_own av_adr av_oad av_ref av_fr av_tup av_nil av_np av_und av_dead pro_cons ghK_some ks_promote ks_freeze frz_own ks_rename ren_own dropO adoptP newP wholeP cutP allOldL ex_skip ex_ret ex_exit ks_region ks_seq ks_cond ks_block seqK_n seqK_e seqK_r regK_some condK_t condK_f blkK_n blkK_r blkK_e endK_n endK_r rr_false rr_true rd_free mo_nil mo_cons drK_some drK_none nxW_some nxW_none rw_nil rw_gen rw_gate ak_newnil ak_make ak_alloc ak_box ak_build ak_bslice ak_call ak_store ak_app iw_mm iw_eqn iw_idxp ef_callg cgK_some gv_e gv_own gv_i gv_sl gv_st gv_b gv_nil gvK_some gvO_some iw_callg ia_callg ak_callg hk_callg is_mv is_newnil is_pick is_bin is_eqb is_eqs is_un is_len is_lens is_chk is_fld is_fldv is_idxa is_idx is_load is_slice is_slices is_make is_alloc is_box is_build is_bslice is_app is_conv is_ext is_call is_calld is_callg is_mkfn is_mm is_idxp is_eqn is_store rt_nil rt_gen rt_gate nxT_some nxT_none ef_eqn_nil ef_eqn_sl ef_eqn_own ia_eqn ef_mmx ef_mmn ef_idxp nxD_some nxD_none ov_i ov_y ov_b ov_s ov_st ov_sl ov_own ov_oad ov_adr ov_nil ov_np ov_und ov_dead ov_tup oldN_some oldN_nil oldN_none so_none so_i so_y so_b so_s so_st so_sl so_adr so_nil so_np so_und so_dead anyM_nil anyM_t anyM_c so_own so_oad rd_nil rd_gen rd_mv rd_gate iw_mv iw_newnil iw_pick iw_bin iw_eqb iw_eqs iw_un iw_len iw_lens iw_chk iw_fld iw_fldv iw_idxa iw_idx iw_load iw_store iw_slice iw_slices iw_make iw_alloc iw_box iw_build iw_bslice iw_app iw_b2i iw_i2b iw_i2i iw_same iw_b2s iw_s2b iw_ext iw_call nm_i nm_y nm_b nm_s nm_st nm_sl nm_own nm_oad nm_adr nm_nil nm_np nm_und nm_dead nm_tup rl_nil rl_gate rl_mv rl_gen opv_t opv_c nx_some nx_none gate_tt gate_tf gate_ft gate_ff gate_u fr_ap em_nil em_i em_y em_b em_s em_st em_sl em_own em_adr em_oad em_ref em_nl em_np em_und em_dead em_tup0 em_tup_i em_tup_b em_tup_s em_tup_sl em_tup_st em_tup_np em_tup_own em_tup_oad mm_i mm_y mm_b mm_s mm_st mm_sl mm_own mm_oad mm_adr mm_nil mm_np mm_und mm_dead ef_mv ef_newnil ef_pickt ef_pickf ef_bin ef_eqb ef_eqs ef_un ef_lens ef_len_sl ef_len_own ef_len_nil ef_chk_adr ef_chk_oad ef_fld_adr ef_fld_oad ef_fldv idxR_some ef_idxa_sl ef_idxa_own ef_idx ef_load_adr_st ef_load_adr_i ef_load_adr_y ef_load_adr_b ef_load_adr_s ef_load_adr_sl atN_nil atN_zero atN_succ ef_load_oad ef_store ef_slice ef_slices ef_make ef_alloc ef_box ef_build ef_bslice ef_app_own ef_app_nil ef_b2i ef_i2b ef_i2i ef_same ef_ext ret1 ret2_some calL_some ef_call retC_i retC_y retC_b retC_s retC_st retC_sl retC_np retC_fr retC_ref retC_tup rk_nil rk_i rk_y rk_b rk_s rk_st rk_sl rk_own rk_oad rk_nl ok_nil ok_i ok_y ok_b ok_s ok_st ok_sl ok_own ok_oad ok_nl lo_nil lo_i lo_y lo_b lo_s lo_st lo_sl lo_own lo_oad lo_nl pr_nil pr_i pr_y pr_b pr_s pr_st pr_sl pr_own pr_nl pr_oad nr_i nr_y nr_b nr_s nr_st nr_sl nr_fr nr_np nr_tup ng_i ng_b ng_s ng_fr ng_nil resV effP_eff binD bi_add bi_sub bi_mul bi_quo bi_rem bi_eql bi_neq bi_lss bi_leq bi_gtr bi_geq bi_shl bi_shr bi_and bi_or bi_xor bi_andNot binY binS unD look put putD LS.get LS.drop killE sweep lookO putO dropO enter leave giveBackL giveBack outs lendArgs lendArg newOuts takeIn takeInL lendL DV.lend adoptL DV.adopt elems apartKs part DV.cells unpart settle settleL over mkId szId fillP fillE tk_e2 tk_i tk_y lt_e2 lt_i lt_y lend_rep al_e2 al_is al_ys al_rep al_app lend_app adopt_app new_app lend_e2 lend_i lend_y adopt_e2 adopt_i adopt_y new_e2 new_i allNewL DV.allNew bounds sliceD sliceS em_w em_q em_r em_fn em_tup_w em_tup_q em_tup_r mm_w mm_q mm_r mm_fn ef_load_adr_w ef_load_adr_q ef_load_adr_r retC_w retC_q retC_r rk_w rk_q rk_r rk_fn ok_w ok_q ok_r ok_fn lo_w lo_q lo_r lo_fn pr_w pr_q pr_r pr_fn nr_w nr_q nr_r ng_w ng_q ng_r oa_w oa_q oa_r oa_fn al_w al_q al_r al_fn ov_w ov_q ov_r ov_fn so_w so_q so_r so_fn il_w il_q il_r il_fn oi_w oi_q oi_r oi_fn av_w av_q av_r av_fn nm_w nm_q nm_r nm_fn ef_i2r ef_r2s ef_mkfn ef_idxp_adr ef_calld capsOk DV.cell List.all_cons List.all_nil rk_own_t lo_own_t lk_f lk_t pr_own_t mutB ak_calld hk_calld iw_calld iw_mkfn iw_i2r iw_r2s bw_and bw_or bw_xor bw_andNot bw_eql bw_neq sw_shl sw_shr sq_shl gEnv_nil rk_adr ok_adr lo_adr pr_adr oa_adr capL capArg DV.cap ak_mkfn hk_mkfn
attribute [local congr] ifP_congr nxP_congr nxR_congr nxT_congr nxG_congr nxF_congr ghK_congr gate_congr nx_congr nxD_congr runL_congr runD_congr eff_congr calL_congr ret2_congr seqK_congr regK_congr condK_congr endK_congr drK_congr nxW_congr
attribute [local simp ↓] nxT_some rt_nil rt_gen rt_gate nxP_some rq_nil rq_gen rq_gate nxR_some ru_nil ru_gen ru_gate nxG_some rg_nil rg_gen rg_gate nxF_some rf_nil rf_gen rf_gate ks_promote ks_freeze frz_own ks_rename ghK_some gate_tt gate_tf gate_ft gate_ff gate_u nx_some nxD_some rl_nil rl_mv rl_gen rl_gate rd_nil rd_mv rd_gen rd_gate rd_free rr_false rr_true drK_some drK_none nxW_some rw_nil rw_gen rw_gate ks_region ks_seq ks_cond ks_block seqK_n seqK_e seqK_r regK_some condK_t condK_f blkK_n blkK_r endK_n endK_r calL_some ret2_some opv_t opv_c
section
attribute [-simp] DV.cells sliceD
attribute [local simp] cells_st cells_sl cells_i cells_y cells_b cells_s cells_w
/-! ### the text of a tree -/
def lastK : Tm → Int
  | .tst _ => 0
  | .neg _ => 1
  | .and _ _ => 2
  | .or _ _ => 3
def txt : Tm → List UInt8
  | .tst a => [(97 + (a : Int)).toNat.toUInt8]
  | .neg x => [33] ++ brk 2 (txt x, lastK x)
  | .and x y => brk 3 (txt x, lastK x) ++ [38] ++ brk 2 (txt y, lastK y)
  | .or x y => txt x ++ [124] ++ brk 3 (txt y, lastK y)
theorem val_txt : ∀ x : Tm, valG mkT x = (txt x, lastK x)
  | .tst a => by simp [valG, mkT, txt, lastK]
  | .neg x => by simp [valG, mkT, txt, lastK, val_txt x]
  | .and x y => by simp [valG, mkT, txt, lastK, val_txt x, val_txt y]
  | .or x y => by simp [valG, mkT, txt, lastK, val_txt x, val_txt y]
theorem txt_len : ∀ x : Tm, (txt x).length ≤ 5 * (flt x).length
  | .tst a => by simp [txt, flt]
  | .neg x => by have := txt_len x; have := brk_len 2 (txt x, lastK x); simp [txt, flt] at *; omega
  | .and x y => by have := txt_len x; have := txt_len y; have := brk_len 3 (txt x, lastK x); have := brk_len 2 (txt y, lastK y); simp [txt, flt] at *; omega
  | .or x y => by have := txt_len x; have := txt_len y; have := brk_len 3 (txt y, lastK y); simp [txt, flt] at *; omega
def ttOf (m : Int) (ts : List T) : List UInt8 := if tmOk m ts then ((ts.foldl (stepG mkT) []).headD ([], 0)).1 else []
theorem tt_tree {m : Int} {ts : List T} (h : tmOk m ts = true) : ∃ x, tb m x ∧ flt x = ts ∧ ttOf m ts = txt x ∧ ts.foldl (stepG mkT) [] = [valG mkT x] := by
  obtain ⟨x, h1, h2, h3⟩ := tm_tree h
  refine ⟨x, h1, h2, ?_, h3 _ _⟩
  unfold ttOf
  rw [if_pos h, h3, val_txt]; rfl
theorem c_impl_TermText (m : Int) (ts : List T) (hb : (ts.length : Int) < 1099511627776) : call lf n_impl_TermText [.i m, .sl 0 (ts.map e2)] = some (.s (ttOf m ts), []) := by
  rw [call_k lf n_impl_TermText _ (F := F_impl_TermText) rfl rfl]
  have C := c_impl_TermOk m ts hb
  cases h : tmOk m ts with
  | false =>
    rw [h] at C
    have e : ttOf m ts = [] := by unfold ttOf; rw [h]; rfl
    simp [F_impl_TermText, C, e]
  | true =>
    rw [h] at C
    obtain ⟨x, h1, h2, h3, h4⟩ := tt_tree h
    have W := c_impl_foldTerm_WP h h4
    rw [val_txt] at W
    simp only [e3] at W
    rw [h3]
    simp [F_impl_TermText, C, W]
/-! ### as the given functions write it -/
theorem last_at (x : Tm) : ∃ a : Int, atI ((flt x).map e2) (((flt x).length : Int) - 1) = some (.st [.i (lastK x), .i a]) := by
  have key : ∀ (p : List T) (t : T), atI ((p ++ [t]).map e2) (((p ++ [t]).length : Int) - 1) = some (.st [.i t.1, .i t.2]) := by
    intro p t
    have e : (((p ++ [t]).length : Nat) : Int) - 1 = p.length := by simp
    rw [e]
    have := at_mid (pre := p) (t := t) (post := []) (k := (p.length : Int)) rfl
    rw [this]; rfl
  cases x with
  | tst a => exact ⟨a, key [] (0, (a : Int))⟩
  | neg x => exact ⟨0, key (flt x) (1, 0)⟩
  | and x y => exact ⟨0, key (flt x ++ flt y) (2, 0)⟩
  | or x y => exact ⟨0, key (flt x ++ flt y) (3, 0)⟩
theorem last_or (x : Tm) : lastK x = 0 ∨ lastK x = 1 ∨ lastK x = 2 ∨ lastK x = 3 := by cases x <;> simp [lastK]
theorem c_spec_l2Held {x : Tm} (hl : (flt x).length ≤ 1000) (C : call lf n_spec_l2Text [.sl 0 ((flt x).map e2)] = some (.s (txt x), [])) (b : Int) (hb : b = 0 ∨ b = 1 ∨ b = 2) :
    call lf n_spec_l2Held [.sl 0 ((flt x).map e2), .i b] = some (.s (brk (4 - b) (txt x, lastK x)), []) := by
  obtain ⟨a, hat⟩ := last_at x
  have px := flt_pos x
  have tl := txt_len x
  have w1 : wr (((flt x).length : Int) - 1) = ((flt x).length : Int) - 1 := wr_id (by omega) (by omega)
  have lb1 : 1 + (txt x).length ≤ bound := by unfold bound; omega
  have lb2 : (txt x).length + 1 + 1 ≤ bound := by unfold bound; omega
  have hp : 0 ≤ ((flt x).length : Int) - 1 := by omega
  have hp2 : ((flt x).length : Int) - 1 < (flt x).length := by omega
  rw [call_k lf n_spec_l2Held _ (F := F_spec_l2Held) rfl rfl]
  unfold brk
  rcases last_or x with h | h | h | h <;> rw [h] at hat ⊢ <;> rcases hb with rfl | rfl | rfl <;> simp [F_spec_l2Held, w1, hat, C, lb1, lb2]
theorem e2_wd (ts : List T) : ∀ e ∈ ts.map e2, e.cells.length = 2 := e2_wid ts
set_option maxHeartbeats 4000000 in
theorem c_spec_l2Text {m : Int} (hm : m ≤ 5) : ∀ {x : Tm}, tb m x → (flt x).length ≤ 1000 → call lf n_spec_l2Text [.sl 0 ((flt x).map e2)] = some (.s (txt x), []) := by
  intro x
  induction x with
  | tst a =>
    intro hb hl
    rw [call_k lf n_spec_l2Text _ (F := F_spec_l2Text) rfl rfl]
    have ha : (a : Int) < m := hb
    have w0 : wr (0 : Int) = 0 := wr_id (by omega) (by omega)
    have c5 : a = 0 ∨ a = 1 ∨ a = 2 ∨ a = 3 ∨ a = 4 := by omega
    rcases c5 with rfl | rfl | rfl | rfl | rfl <;> simp [F_spec_l2Text, flt, e2, atI, w0, txt, show wr 1 = 1 from wr_id (by omega) (by omega), show wr 2 = 2 from wr_id (by omega) (by omega), show wr 3 = 3 from wr_id (by omega) (by omega), show wr 4 = 4 from wr_id (by omega) (by omega), show wr 5 = 5 from wr_id (by omega) (by omega)]
  | neg x ih =>
    intro hb hl
    have ih := ih hb (by simp [flt] at hl; omega)
    simp [flt] at hl
    have H := c_spec_l2Held (x := x) (by omega) ih 2 (by omega)
    rw [call_k lf n_spec_l2Text _ (F := F_spec_l2Text) rfl rfl]
    have hat := at_mid (pre := flt x) (t := (1, 0)) (post := []) (k := ((flt x).length : Int)) rfl
    simp [e2] at hat
    have w1 : wr ((flt x).length : Int) = (flt x).length := wr_id (by omega) (by omega)
    have S1 := fun ob => cut_hi ob 2 (e2_wid (flt x ++ [(1, 0)])) (h := (flt x).length) (by simp)
    have t1 : List.take (flt x).length ((flt x ++ [(1, 0)]).map e2) = (flt x).map e2 := by simp
    rw [t1] at S1
    simp [e2] at S1
    have bl := brk_len 2 (txt x, lastK x)
    have tl := txt_len x
    have lb1 : 1 + (brk 2 (txt x, lastK x)).length ≤ bound := by unfold bound; simp at bl; omega
    rw [show (4 : Int) - 2 = 2 from rfl] at H
    simp [F_spec_l2Text, flt, e2, w1, hat, H, S1, lb1, txt]
  | and x y ihx ihy =>
    intro hb hl
    simp [flt] at hl
    have ix := ihx hb.1 (by omega)
    have iy := ihy hb.2 (by omega)
    have Hx := c_spec_l2Held (x := x) (by omega) ix 1 (by omega)
    have Hy := c_spec_l2Held (x := y) (by omega) iy 2 (by omega)
    rw [call_k lf n_spec_l2Text _ (F := F_spec_l2Text) rfl rfl]
    have hat := at_mid (pre := flt x ++ flt y) (t := (2, 0)) (post := []) (k := ((flt x).length : Int) + (flt y).length) (by simp)
    simp [e2] at hat
    have w1 : wr (((flt x).length : Int) + ((flt y).length + 1) - 1) = (flt x).length + (flt y).length := by rw [wr_id (by omega) (by omega)]; omega
    have w2 : wr ((flt x).length + (flt y).length - 1 : Int) = (flt x).length + (flt y).length - 1 := wr_id (by have := flt_pos x; omega) (by omega)
    have S := c_spec_l2Starts y (flt x) [(2, 0)] (by simp; omega)
    simp [e2] at S
    have S1 := fun ob => cut_hi ob 2 (e2_wid (flt x ++ flt y ++ [(2, 0)])) (h := (flt x).length) (by simp)
    have t1 : List.take (flt x).length ((flt x ++ flt y ++ [(2, 0)]).map e2) = (flt x).map e2 := by simp
    rw [t1] at S1
    simp [e2] at S1
    have S2 := fun ob => cut_lohi ob 2 (e2_wid (flt x ++ flt y ++ [(2, 0)])) (l := (flt x).length) (h := (flt x).length + (flt y).length) (by omega) (by simp)
    have t2 : List.drop (flt x).length (List.take ((flt x).length + (flt y).length) ((flt x ++ flt y ++ [(2, 0)]).map e2)) = (flt y).map e2 := by
      rw [← List.map_take, ← List.map_drop]
      congr 1
      have : List.take ((flt x).length + (flt y).length) (flt x ++ flt y ++ [(2, 0)]) = flt x ++ flt y := by
        rw [← List.length_append]; exact List.take_left
      rw [this]; exact List.drop_left
    rw [t2] at S2
    simp [e2] at S2
    rw [show (4 : Int) - 1 = 3 from rfl] at Hx
    rw [show (4 : Int) - 2 = 2 from rfl] at Hy
    have bx := brk_len 3 (txt x, lastK x)
    have bY := brk_len 2 (txt y, lastK y)
    have tx := txt_len x
    have ty := txt_len y
    simp only at bx bY
    have lb1 : (brk 3 (txt x, lastK x)).length + 1 ≤ bound := by unfold bound; omega
    have lb2 : (brk 3 (txt x, lastK x)).length + 1 + (brk 2 (txt y, lastK y)).length ≤ bound := by unfold bound; omega
    have lb3 : (brk 3 (txt x, lastK x)).length + ((brk 2 (txt y, lastK y)).length + 1) ≤ bound := by omega
    simp [F_spec_l2Text, flt, e2, w1, w2, hat, Hx, Hy, S, S1, S2, lb1, lb2, lb3, txt]
  | or x y ihx ihy =>
    intro hb hl
    simp [flt] at hl
    have ix := ihx hb.1 (by omega)
    have iy := ihy hb.2 (by omega)
    have Hx := c_spec_l2Held (x := x) (by omega) ix 0 (by omega)
    have Hy := c_spec_l2Held (x := y) (by omega) iy 1 (by omega)
    have e4 : brk (4 - 0) (txt x, lastK x) = txt x := by
      unfold brk
      rw [if_neg]
      rcases last_or x with h | h | h | h <;> rw [h] <;> simp
    rw [e4] at Hx
    rw [call_k lf n_spec_l2Text _ (F := F_spec_l2Text) rfl rfl]
    have hat := at_mid (pre := flt x ++ flt y) (t := (3, 0)) (post := []) (k := ((flt x).length : Int) + (flt y).length) (by simp)
    simp [e2] at hat
    have w1 : wr (((flt x).length : Int) + ((flt y).length + 1) - 1) = (flt x).length + (flt y).length := by rw [wr_id (by omega) (by omega)]; omega
    have w2 : wr ((flt x).length + (flt y).length - 1 : Int) = (flt x).length + (flt y).length - 1 := wr_id (by have := flt_pos x; omega) (by omega)
    have S := c_spec_l2Starts y (flt x) [(3, 0)] (by simp; omega)
    simp [e2] at S
    have S1 := fun ob => cut_hi ob 2 (e2_wid (flt x ++ flt y ++ [(3, 0)])) (h := (flt x).length) (by simp)
    have t1 : List.take (flt x).length ((flt x ++ flt y ++ [(3, 0)]).map e2) = (flt x).map e2 := by simp
    rw [t1] at S1
    simp [e2] at S1
    have S2 := fun ob => cut_lohi ob 2 (e2_wid (flt x ++ flt y ++ [(3, 0)])) (l := (flt x).length) (h := (flt x).length + (flt y).length) (by omega) (by simp)
    have t2 : List.drop (flt x).length (List.take ((flt x).length + (flt y).length) ((flt x ++ flt y ++ [(3, 0)]).map e2)) = (flt y).map e2 := by
      rw [← List.map_take, ← List.map_drop]
      congr 1
      have : List.take ((flt x).length + (flt y).length) (flt x ++ flt y ++ [(3, 0)]) = flt x ++ flt y := by
        rw [← List.length_append]; exact List.take_left
      rw [this]; exact List.drop_left
    rw [t2] at S2
    simp [e2] at S2
    rw [show (4 : Int) - 1 = 3 from rfl] at Hy
    have bY := brk_len 3 (txt y, lastK y)
    have tx := txt_len x
    have ty := txt_len y
    simp only at bY
    have lb1 : (txt x).length + 1 ≤ bound := by unfold bound; omega
    have lb2 : (txt x).length + 1 + (brk 3 (txt y, lastK y)).length ≤ bound := by unfold bound; omega
    have lb3 : (txt x).length + ((brk 3 (txt y, lastK y)).length + 1) ≤ bound := by omega
    simp [F_spec_l2Text, flt, e2, w1, w2, hat, Hx, Hy, S, S1, S2, lb1, lb2, lb3, txt]
theorem c_spec_TermText (m : Int) (ts : List T) (hb : (ts.length : Int) < 1099511627776) : call lf n_spec_TermText [.i m, .sl 0 (ts.map e2)] = some (.s (ttOf m ts), []) := by
  rw [call_k lf n_spec_TermText _ (F := F_spec_TermText) rfl rfl]
  have C := c_spec_TermOk m ts hb
  cases h : tmOk m ts with
  | false =>
    rw [h] at C
    have e : ttOf m ts = [] := by unfold ttOf; rw [h]; rfl
    simp [F_spec_TermText, C, e]
  | true =>
    rw [h] at C
    obtain ⟨h5, h6, _⟩ := tmOk_iff.1 h
    obtain ⟨x, h1, h2, h3, h4⟩ := tt_tree h
    have W := c_spec_l2Text (m := m) (by omega) h1 (by rw [h2]; omega)
    rw [h2] at W
    rw [h3]
    simp [F_spec_TermText, C, W]
end
section
attribute [-simp] DV.cells
attribute [local simp] cells_st cells_sl cells_i cells_y cells_b cells_s cells_w
/-! ### reading terms -/
abbrev PR := Option (List T × List UInt8)
def rowL (part : List UInt8 → PR) (sign : Nat) (kind : Int) : Nat → List T → List UInt8 → PR
  | 0, p, r => some (p, r)
  | n + 1, p, r => match r with
    | [] => some (p, [])
    | c :: r' => if c.toNat = sign then match part r' with
        | none => none
        | some (q, r'') => rowL part sign kind n (p ++ q ++ [(kind, 0)]) r''
      else some (p, c :: r')
def rowP (part : List UInt8 → PR) (sign : Nat) (kind : Int) (s : List UInt8) : PR := match part s with
  | none => none
  | some (p, r) => rowL part sign kind r.length p r
def pA : Nat → List UInt8 → PR
  | 0, _ => none
  | _ + 1, [] => none
  | f + 1, c :: r =>
    if c.toNat = 33 then match pA f r with
      | none => none
      | some (p, q) => some (p ++ [(1, 0)], q)
    else if c.toNat = 40 then match rowP (rowP (pA f) 38 2) 124 3 r with
      | some (p, d :: q) => if d.toNat = 41 then some (p, q) else none
      | _ => none
    else if 97 ≤ c.toNat ∧ c.toNat ≤ 101 then some ([(0, (c.toNat : Int) - 97)], r) else none
def pAnd (f : Nat) (s : List UInt8) : PR := rowP (pA f) 38 2 s
def pOr (f : Nat) (s : List UInt8) : PR := rowP (pAnd f) 124 3 s
/-- what a part leaves is a rest, and marks fewer than twice what it took -/
def fine (part : List UInt8 → PR) : Prop := ∀ s p r, part s = some (p, r) → p ≠ [] ∧ (∃ a, a ≠ [] ∧ s = a ++ r ∧ p.length + 1 ≤ 2 * a.length)
theorem fine_len {part : List UInt8 → PR} (h : fine part) {s : List UInt8} {p : List T} {r : List UInt8} (e : part s = some (p, r)) : r.length < s.length ∧ p.length + 2 * r.length + 1 ≤ 2 * s.length ∧ 0 < p.length := by
  obtain ⟨h1, a, h2, h3, h4⟩ := h s p r e
  have := List.length_pos_iff.2 h2
  have := List.length_pos_iff.2 h1
  have := congrArg List.length h3
  simp at this
  omega
theorem rowL_fine {part : List UInt8 → PR} (h : fine part) (sign : Nat) (kind : Int) : ∀ (n : Nat) (p : List T) (r : List UInt8) (p' : List T) (r' : List UInt8), p ≠ [] → rowL part sign kind n p r = some (p', r') → p' ≠ [] ∧ ∃ a, r = a ++ r' ∧ p'.length ≤ p.length + 2 * a.length
  | 0, p, r, p', r', hp, e => by
    simp only [rowL, Option.some.injEq, Prod.mk.injEq] at e
    obtain ⟨rfl, rfl⟩ := e
    exact ⟨hp, [], rfl, by simp⟩
  | n + 1, p, r, p', r', hp, e => by
    simp only [rowL] at e
    cases r with
    | nil =>
      simp only [Option.some.injEq, Prod.mk.injEq] at e
      obtain ⟨rfl, rfl⟩ := e
      exact ⟨hp, [], rfl, by simp⟩
    | cons c r0 =>
      simp only at e
      split at e
      · split at e
        · cases e
        · rename_i q r1 hq
          obtain ⟨_, a, _, ha, hb⟩ := h r0 q r1 hq
          obtain ⟨g1, a', g2, g3⟩ := rowL_fine h sign kind n _ r1 p' r' (by simp) e
          refine ⟨g1, c :: a ++ a', by rw [ha, g2]; simp, ?_⟩
          simp at g3 ⊢
          omega
      · simp only [Option.some.injEq, Prod.mk.injEq] at e
        obtain ⟨rfl, rfl⟩ := e
        exact ⟨hp, [], rfl, by simp⟩
theorem rowP_fine {part : List UInt8 → PR} (h : fine part) (sign : Nat) (kind : Int) : fine (rowP part sign kind) := by
  intro s p r e
  unfold rowP at e
  split at e
  · cases e
  · rename_i p0 r0 h0
    obtain ⟨g1, a, g2, g3, g4⟩ := h s p0 r0 h0
    obtain ⟨k1, a', k2, k3⟩ := rowL_fine h sign kind _ _ _ _ _ g1 e
    exact ⟨k1, a ++ a', by simp [g2], by rw [g3, k2]; simp, by simp; omega⟩
theorem pA_fine : ∀ f, fine (pA f)
  | 0 => fun s p r e => by simp [pA] at e
  | f + 1 => fun s p r e => by
    cases s with
    | nil => simp [pA] at e
    | cons c s =>
      simp only [pA] at e
      split at e
      · split at e
        · cases e
        · rename_i q r1 hq
          obtain ⟨g1, a, g2, g3, g4⟩ := pA_fine f _ _ _ hq
          simp only [Option.some.injEq, Prod.mk.injEq] at e
          obtain ⟨rfl, rfl⟩ := e
          exact ⟨by simp, c :: a, by simp, by rw [g3]; simp, by simp; omega⟩
      · split at e
        · split at e
          · rename_i q d r1 hq
            obtain ⟨g1, a, g2, g3, g4⟩ := rowP_fine (rowP_fine (pA_fine f) 38 2) 124 3 _ _ _ hq
            split at e
            · simp only [Option.some.injEq, Prod.mk.injEq] at e
              obtain ⟨rfl, rfl⟩ := e
              exact ⟨g1, c :: a ++ [d], by simp, by rw [g3]; simp, by simp; omega⟩
            · cases e
          · cases e
        · split at e
          · simp only [Option.some.injEq, Prod.mk.injEq] at e
            obtain ⟨rfl, rfl⟩ := e
            exact ⟨by simp, [c], by simp, by simp, by simp⟩
          · cases e
/-! ### as the program reads -/
def encP (o : PR) : DV := match o with
  | none => .tup [.fr 2 [], .s []]
  | some (p, r) => .tup [.fr 2 (p.map e2), .s r]
def stR (sign : Nat) (kind : Int) (f : Nat) (p : List T) (r : List UInt8) : LS :=
  ⟨[(1, .y sign), (2, .i kind), (3, .fn f []), (10, .own 8209 p.length 0 p.length), (11, .s r)], [(8209, p.map e2)]⟩
set_option maxHeartbeats 4000000 in
theorem l_readRow {part : List UInt8 → PR} (hf : fine part) {f : Nat} (sign : Nat) (kind : Int) : ∀ (n : Nat) (p : List T) (r : List UInt8), r.length ≤ n → (∀ s, s.length < r.length → call lf f [.s s] = some (encP (part s), [])) → p ≠ [] → p.length + 2 * r.length ≤ 1000000 →
    ex lf F_impl_readRow_W0 (stR sign kind f p r) = match rowL part sign kind n p r with
      | none => some (.ret, ⟨[(8, .own 4112 0 0 0), (9, .s [])], [(4112, [])]⟩)
      | some (p', r') => some (.exit 0, stR sign kind f p' r') := by
  intro n
  induction n with
  | zero =>
    intro p r hn H hp hl
    have : r = [] := List.eq_nil_of_length_eq_zero (by omega)
    subst this
    have lp : 0 < p.length := List.length_pos_iff.2 hp
    rw [w_impl_readRow_0]
    unfold stR
    simp [F_impl_readRow_L0, lp, rowL]
  | succ n ih =>
    intro p r hn H hp hl
    have lp : 0 < p.length := List.length_pos_iff.2 hp
    rw [w_impl_readRow_0]
    cases r with
    | nil =>
      unfold stR
      simp [F_impl_readRow_L0, lp, rowL]
    | cons c r0 =>
      simp only [List.length_cons] at hn hl
      simp only [rowL]
      by_cases hc : c.toNat = sign
      · rw [if_pos hc]
        have K := H r0 (by simp)
        have l1 : 1 ≤ (r0.length : Int) + 1 := by omega
        cases hq : part r0 with
        | none =>
          rw [hq] at K
          simp only [encP] at K
          unfold stR
          simp [F_impl_readRow_L0, lp, hc, l1, K]
        | some v =>
          obtain ⟨q, r1⟩ := v
          rw [hq] at K
          simp only [encP] at K
          obtain ⟨g1, g2, g3⟩ := fine_len hf hq
          have I := ih (p ++ q ++ [(kind, 0)]) r1 (by omega) (fun s hs => H s (by simp; omega)) (by simp) (by simp; omega)
          have lb1 : p.length + q.length ≤ bound := by unfold bound; omega
          have lb2 : p.length + (q.length + 1) ≤ bound := by unfold bound; omega
          have lq : ¬ q = [] := fun h => by rw [h] at g3; simp at g3
          have qn : ¬ q.length = 0 := by omega
          have qn' : ((q.length : Int) == 0) = false := beq_eq_false_iff_ne.2 (by omega)
          simp only [hq]
          rw [← I]
          unfold stR
          simp [F_impl_readRow_L0, lp, hc, l1, K, lb1, lb2, qn', lq, if_pos (e2_wid q), e2, Nat.add_assoc]
      · rw [if_neg hc]
        have hc' : (c.toNat == sign) = false := beq_eq_false_iff_ne.2 hc
        unfold stR
        simp [F_impl_readRow_L0, lp, hc']
set_option maxHeartbeats 4000000 in
theorem c_readRow {part : List UInt8 → PR} (hf : fine part) {f : Nat} (sign : Nat) (kind : Int) (s : List UInt8) (hl : s.length ≤ 100000) (H : ∀ s', s'.length ≤ s.length → call lf f [.s s'] = some (encP (part s'), [])) :
    call lf n_impl_readRow [.s s, .y sign, .i kind, .fn f []] = some (encP (rowP part sign kind s), []) := by
  rw [call_k lf n_impl_readRow _ (F := F_impl_readRow) rfl rfl]
  have K := H s (Nat.le_refl _)
  unfold rowP
  cases hp : part s with
  | none =>
    rw [hp] at K
    simp only [encP] at K
    have W : ex lf F_impl_readRow_W0 ⟨[(1, .y sign), (2, .i kind), (3, .fn f []), (10, .own 8209 0 0 0), (11, .s [])], [(8209, [])]⟩ = some (.exit 0, ⟨[(1, .y sign), (2, .i kind), (3, .fn f []), (10, .own 8209 0 0 0), (11, .s [])], [(8209, [])]⟩) := by
      rw [w_impl_readRow_0]
      simp [F_impl_readRow_L0]
    simp [F_impl_readRow, K, W, encP]
  | some v =>
    obtain ⟨p, r⟩ := v
    rw [hp] at K
    simp only [encP] at K
    obtain ⟨g1, g2, g3⟩ := fine_len hf hp
    have L := l_readRow hf (f := f) sign kind r.length p r (Nat.le_refl _) (fun s' hs => H s' (by omega)) (List.length_pos_iff.1 g3) (by omega)
    simp only
    cases hw : rowL part sign kind r.length p r with
    | none =>
      rw [hw] at L
      unfold stR at L
      simp only at L
      simp [F_impl_readRow, K, L, encP]
    | some u =>
      obtain ⟨p', r'⟩ := u
      rw [hw] at L
      unfold stR at L
      simp only at L
      simp [F_impl_readRow, K, L, encP]
theorem c_readLetter (c : UInt8) (r : List UInt8) : call lf n_impl_readLetter [.s (c :: r)] = some (encP (if 97 ≤ c.toNat ∧ c.toNat ≤ 101 then some ([(0, (c.toNat : Int) - 97)], r) else none), []) := by
  rw [call_k lf n_impl_readLetter _ (F := F_impl_readLetter) rfl rfl]
  have hc : c.toNat < 256 := c.toNat_lt
  have w1 : wr ((c.toNat : Int) - 97) = (c.toNat : Int) - 97 := wr_id (by omega) (by omega)
  have l1 : 1 ≤ (r.length : Int) + 1 := by omega
  have W := c_impl_isWithin ((c.toNat : Int) - 97) 0 4
  by_cases h : 97 ≤ c.toNat ∧ c.toNat ≤ 101
  · have e : decide ((0 : Int) ≤ (c.toNat : Int) - 97 ∧ (c.toNat : Int) - 97 ≤ 4) = true := decide_eq_true (by omega)
    rw [e] at W
    rw [if_pos h]
    simp [F_impl_readLetter, w1, W, l1, encP, e2]
  · have e : decide ((0 : Int) ≤ (c.toNat : Int) - 97 ∧ (c.toNat : Int) - 97 ≤ 4) = false := decide_eq_false (by omega)
    rw [e] at W
    rw [if_neg h]
    simp [F_impl_readLetter, w1, W, encP]
theorem c_readAnd {n : Nat} (hn : n ≤ 100000) (H : ∀ s, s.length ≤ n → call lf n_impl_readNot [.s s] = some (encP (pA n s), [])) : ∀ s, s.length ≤ n → call lf n_impl_readAnd [.s s] = some (encP (pAnd n s), []) := by
  intro s hs
  have R := c_readRow (pA_fine n) (f := n_impl_readNot) 38 2 s (by omega) (fun s' h => H s' (by omega))
  have e : rowP (pA n) 38 2 s = pAnd n s := rfl
  rw [e] at R
  rw [call_k lf n_impl_readAnd _ (F := F_impl_readAnd) rfl rfl]
  cases h : pAnd n s with
  | none => rw [h] at R; simp only [encP] at R; simp [F_impl_readAnd, R, encP]
  | some v => obtain ⟨p, r⟩ := v; rw [h] at R; simp only [encP] at R; simp [F_impl_readAnd, R, encP]
theorem c_readOr {n : Nat} (hn : n ≤ 100000) (H : ∀ s, s.length ≤ n → call lf n_impl_readNot [.s s] = some (encP (pA n s), [])) : ∀ s, s.length ≤ n → call lf n_impl_readOr [.s s] = some (encP (pOr n s), []) := by
  intro s hs
  have R := c_readRow (rowP_fine (pA_fine n) 38 2) (f := n_impl_readAnd) 124 3 s (by omega) (fun s' h => c_readAnd hn H s' (by omega))
  have e : rowP (rowP (pA n) 38 2) 124 3 s = pOr n s := rfl
  rw [e] at R
  rw [call_k lf n_impl_readOr _ (F := F_impl_readOr) rfl rfl]
  cases h : pOr n s with
  | none => rw [h] at R; simp only [encP] at R; simp [F_impl_readOr, R, encP]
  | some v => obtain ⟨p, r⟩ := v; rw [h] at R; simp only [encP] at R; simp [F_impl_readOr, R, encP]
set_option maxHeartbeats 4000000 in
theorem c_readNot : ∀ (n : Nat), n ≤ 100000 → ∀ s : List UInt8, s.length ≤ n → call lf n_impl_readNot [.s s] = some (encP (pA n s), []) := by
  intro n
  induction n with
  | zero =>
    intro _ s hs
    have : s = [] := List.eq_nil_of_length_eq_zero (by omega)
    subst this
    rw [call_k lf n_impl_readNot _ (F := F_impl_readNot) rfl rfl]
    simp [F_impl_readNot, pA, encP]
  | succ n ih =>
    intro hn s hs
    have ih := ih (by omega)
    cases s with
    | nil =>
      rw [call_k lf n_impl_readNot _ (F := F_impl_readNot) rfl rfl]
      simp [F_impl_readNot, pA, encP]
    | cons c r =>
      simp only [List.length_cons] at hs
      have N := ih r (by omega)
      have O := c_readOr (by omega) ih r (by omega)
      have E : rowP (rowP (pA n) 38 2) 124 3 r = pOr n r := rfl
      have Lt := c_readLetter c r
      have l1 : 1 ≤ (r.length : Int) + 1 := by omega
      rw [call_k lf n_impl_readNot _ (F := F_impl_readNot) rfl rfl]
      simp only [pA, E]
      by_cases h1 : c.toNat = 33
      · rw [if_pos h1]
        cases hq : pA n r with
        | none =>
          rw [hq] at N
          simp only [encP] at N
          simp [F_impl_readNot, h1, l1, N, encP]
        | some v =>
          obtain ⟨p, q⟩ := v
          rw [hq] at N
          simp only [encP] at N
          obtain ⟨g1, g2, g3⟩ := fine_len (pA_fine n) hq
          have pn : ((p.length : Int) == 0) = false := beq_eq_false_iff_ne.2 (by omega)
          have pn2 : ¬ p = [] := List.length_pos_iff.1 g3
          have lb : p.length + 1 ≤ bound := by unfold bound; omega
          simp [F_impl_readNot, h1, l1, N, encP, pn, pn2, lb, e2]
      · rw [if_neg h1]
        have h1' : (c.toNat == 33) = false := beq_eq_false_iff_ne.2 h1
        by_cases h2 : c.toNat = 40
        · rw [if_pos h2]
          cases hq : pOr n r with
          | none =>
            rw [hq] at O
            simp only [encP] at O
            simp [F_impl_readNot, h2, l1, O, encP]
          | some v =>
            obtain ⟨p, q⟩ := v
            rw [hq] at O
            simp only [encP] at O
            cases q with
            | nil => simp [F_impl_readNot, h2, l1, O, encP]
            | cons d q =>
              have l2 : 1 ≤ (q.length : Int) + 1 := by omega
              by_cases h3 : d.toNat = 41
              · simp [F_impl_readNot, h2, l1, l2, O, encP, h3]
              · have h3' : (d.toNat != 41) = true := bne_iff_ne.2 h3
                simp [F_impl_readNot, h2, l1, O, encP, h3, h3']
        · rw [if_neg h2]
          have h2' : (c.toNat == 40) = false := beq_eq_false_iff_ne.2 h2
          by_cases h4 : 97 ≤ c.toNat ∧ c.toNat ≤ 101
          · rw [if_pos h4] at Lt ⊢
            simp only [encP] at Lt
            simp [F_impl_readNot, h1', h2', Lt, encP, e2]
          · rw [if_neg h4] at Lt ⊢
            simp only [encP] at Lt
            simp [F_impl_readNot, h1', h2', Lt, encP]
/-- the term whose text a text is -/
def rdOf (m : Int) (s : List UInt8) : Option (List T) := if 80 < s.length then none else match pOr s.length s with
  | some (p, []) => if tmOk m p = true ∧ ttOf m p = s then some p else none
  | _ => none
theorem pOr_len {n : Nat} {s : List UInt8} {p : List T} {r : List UInt8} (h : pOr n s = some (p, r)) : p.length ≤ 2 * s.length := by
  have := fine_len (rowP_fine (rowP_fine (pA_fine n) 38 2) 124 3) h
  omega
set_option maxHeartbeats 4000000 in
theorem c_impl_ReadTerm (m : Int) (s : List UInt8) (hl : s.length ≤ 1073741824) : call lf n_impl_ReadTerm [.i m, .s s] = some (.tup [.fr 2 (((rdOf m s).getD []).map e2), .b (rdOf m s).isSome], []) := by
  rw [call_k lf n_impl_ReadTerm _ (F := F_impl_ReadTerm) rfl rfl]
  unfold rdOf
  by_cases h : 80 < s.length
  · have h' : (80 : Int) < s.length := by omega
    simp [F_impl_ReadTerm, h, h']
  · have h' : ¬ ((80 : Int) < s.length) := by omega
    have O := c_readOr (n := s.length) (by omega) (c_readNot s.length (by omega)) s (Nat.le_refl _)
    rw [if_neg h]
    cases hq : pOr s.length s with
    | none =>
      rw [hq] at O
      simp only [encP] at O
      have C := c_impl_TermOk m [] (by simp)
      have e : tmOk m [] = false := by
        rw [← Bool.not_eq_true]; intro hh
        have := (tmOk_iff.1 hh).2.2
        simp [runM] at this
      rw [e] at C
      simp at C
      simp [F_impl_ReadTerm, h, h', O, C]
    | some v =>
      obtain ⟨p, r⟩ := v
      rw [hq] at O
      simp only [encP] at O
      have pl := pOr_len hq
      have C := c_impl_TermOk m p (by omega)
      have X := c_impl_TermText m p (by omega)
      have lb : p.length ≤ bound := by unfold bound; omega
      cases r with
      | cons c r => simp [F_impl_ReadTerm, h, h', O]
      | nil =>
        simp only
        cases ht : tmOk m p with
        | false => rw [ht] at C; simp [F_impl_ReadTerm, h, h', O, C, lb]
        | true =>
          rw [ht] at C
          by_cases hx : ttOf m p = s
          · simp [F_impl_ReadTerm, h, h', O, C, X, lb, hx]
          · have hx' : (ttOf m p == s) = false := beq_eq_false_iff_ne.2 hx
            simp [F_impl_ReadTerm, h, h', O, C, X, lb, hx, hx']
end
section
attribute [-simp] DV.cells
attribute [local simp] cells_st cells_sl cells_i cells_y cells_b cells_s cells_w
/-! ### as the given functions read -/
def sp (f : Nat) (part : List UInt8 → PR) (s : List UInt8) (k : Nat) : Prop :=
  ∃ (g : List T) (z : Int), g.length ≤ 2 * (s.length - k) + 2 ∧ call lf f [.s s, .i k] = some (.tup [.fr 2 (g.map e2), .i z], []) ∧
    match part (s.drop k) with
      | none => z = -1
      | some (p, r) => g = p ∧ z = (s.length : Int) - r.length
def stS (s : List UInt8) (K : Nat) (p : List T) (z : Int) : LS := ⟨[(0, .s s), (6, .own K p.length 0 p.length), (7, .i z)], [(K, p.map e2)]⟩
theorem drop_rest {part : List UInt8 → PR} (hf : fine part) {s : List UInt8} {k : Nat} {p : List T} {r : List UInt8} (h : part (s.drop k) = some (p, r)) : s.drop (s.length - r.length) = r := by
  obtain ⟨_, a, _, ha, _⟩ := hf _ _ _ h
  obtain ⟨b, hb⟩ : ∃ b, s = b ++ r := ⟨s.take k ++ a, by rw [List.append_assoc, ← ha, List.take_append_drop]⟩
  rw [hb, List.length_append, Nat.add_sub_cancel, List.drop_left]

set_option maxHeartbeats 4000000 in
theorem l_spec_l2And {part : List UInt8 → PR} (hf : fine part) (s : List UInt8) (hl : s.length ≤ 1000) (n0 : Nat) (H : ∀ k, k ≤ s.length → s.length - k ≤ n0 → sp n_spec_l2Atom part s k) : ∀ (n : Nat) (p : List T) (k : Nat) (K : Nat), (K = 6673 ∨ K = 18960) → k ≤ s.length → s.length - k ≤ n → s.length - k ≤ n0 + 1 → p.length + 2 * (s.length - k) ≤ 10000 →
    ∃ (g : List T) (z : Int), g.length ≤ p.length + 2 * (s.length - k) + 1 ∧ ex lf F_spec_l2And_W0 (stS s K p k) = some (.exit 0, stS s 6673 g z) ∧
      match rowL part 38 2 n p (s.drop k) with
        | none => z = -1
        | some (p', r') => g = p' ∧ z = (s.length : Int) - r'.length := by
  intro n
  induction n with
  | zero =>
    intro p k K hK hk hn hn0 hp
    have : k = s.length := by omega
    subst this
    refine ⟨p, s.length, by omega, ?_, by simp [rowL]⟩
    rw [w_spec_l2And_0]
    unfold stS
    rcases hK with rfl | rfl <;> simp [F_spec_l2And_L0]
  | succ n ih =>
    intro p k K hK hk hn hn0 hp
    rw [w_spec_l2And_0]
    by_cases hks : k = s.length
    · subst hks
      refine ⟨p, s.length, by omega, ?_, by simp [rowL]⟩
      unfold stS
      rcases hK with rfl | rfl <;> simp [F_spec_l2And_L0]
    · have hlt : k < s.length := by omega
      have hlt' : (k : Int) < s.length := by omega
      have dk : s.drop k = s[k] :: s.drop (k + 1) := List.drop_eq_getElem_cons hlt
      have at1 : s[k]? = some s[k] := List.getElem?_eq_getElem hlt
      rw [dk]
      simp only [rowL]
      by_cases hc : s[k].toNat = 38
      · rw [if_pos hc]
        obtain ⟨q, z1, q1, q2, q3⟩ := H (k + 1) (by omega) (by omega)
        have w1 : wr ((k : Int) + 1) = ((k + 1 : Nat) : Int) := by rw [wr_id (by omega) (by omega)]; omega
        have lb1 : p.length ≤ bound := by unfold bound; omega
        have lb2 : p.length + q.length ≤ bound := by unfold bound; omega
        have lb3 : p.length + (q.length + 1) ≤ bound := by unfold bound; omega
        have step : ex lf F_spec_l2And_L0 (stS s K p k) = some (.normal, stS s 18960 (p ++ q ++ [(2, 0)]) z1) := by
          unfold stS
          rcases hK with rfl | rfl <;> simp [F_spec_l2And_L0, hlt, hlt', at1, hc, w1, q2, lb1, lb2, lb3, if_pos (e2_wid p), if_pos (e2_wid q), e2, Nat.add_assoc, -Int.natCast_add]
        rw [step]
        simp only
        cases hq : part (s.drop (k + 1)) with
        | none =>
          rw [hq] at q3
          simp only at q3
          subst q3
          refine ⟨p ++ q ++ [(2, 0)], -1, by simp; omega, ?_, rfl⟩
          rw [w_spec_l2And_0]
          unfold stS
          simp [F_spec_l2And_L0]
        | some v =>
          obtain ⟨q', r1⟩ := v
          rw [hq] at q3
          simp only at q3
          obtain ⟨rfl, hz⟩ := q3
          obtain ⟨f1, f2, f3⟩ := fine_len hf hq
          rw [List.length_drop] at f1 f2
          have suff : s.drop (s.length - r1.length) = r1 := drop_rest hf hq
          have hz' : z1 = ((s.length - r1.length : Nat) : Int) := by omega
          subst hz'
          obtain ⟨g, z, g1, g2, g3⟩ := ih (p ++ q ++ [(2, 0)]) (s.length - r1.length) 18960 (.inr rfl) (by omega) (by omega) (by omega) (by simp; omega)
          rw [suff] at g3
          refine ⟨g, z, by simp at g1; omega, g2, g3⟩
      · rw [if_neg hc]
        have hc' : (s[k].toNat == 38) = false := beq_eq_false_iff_ne.2 hc
        refine ⟨p, k, by omega, ?_, ?_⟩
        · unfold stS
          rcases hK with rfl | rfl <;> simp [F_spec_l2And_L0, hlt, hlt', at1, hc']
        · refine ⟨rfl, ?_⟩
          rw [← dk, List.length_drop]; omega
set_option maxHeartbeats 4000000 in
theorem c_spec_l2And {part : List UInt8 → PR} (hf : fine part) (s : List UInt8) (hl : s.length ≤ 1000) (n0 : Nat) (H : ∀ k, k ≤ s.length → s.length - k ≤ n0 → sp n_spec_l2Atom part s k) : ∀ k, k ≤ s.length → s.length - k ≤ n0 → sp n_spec_l2And (rowP part 38 2) s k := by
  intro k hk hn
  obtain ⟨p, z1, q1, q2, q3⟩ := H k hk hn
  unfold sp
  rw [call_k lf n_spec_l2And _ (F := F_spec_l2And) rfl rfl]
  unfold rowP
  cases hp : part (s.drop k) with
  | none =>
    rw [hp] at q3
    simp only at q3
    subst q3
    have W : ex lf F_spec_l2And_W0 (stS s 6673 p (-1)) = some (.exit 0, stS s 6673 p (-1)) := by
      rw [w_spec_l2And_0]
      unfold stS
      simp [F_spec_l2And_L0]
    unfold stS at W
    exact ⟨p, -1, q1, by simp [F_spec_l2And, q2, W], rfl⟩
  | some v =>
    obtain ⟨p', r⟩ := v
    rw [hp] at q3
    simp only at q3
    obtain ⟨rfl, hz⟩ := q3
    obtain ⟨f1, f2, f3⟩ := fine_len hf hp
    rw [List.length_drop] at f1 f2
    have suff : s.drop (s.length - r.length) = r := drop_rest hf hp
    have hz' : z1 = ((s.length - r.length : Nat) : Int) := by omega
    subst hz'
    obtain ⟨g, z, g1, g2, g3⟩ := l_spec_l2And hf s hl n0 H r.length p (s.length - r.length) 6673 (.inl rfl) (by omega) (by omega) (by omega) (by omega)
    rw [suff] at g3
    unfold stS at g2
    refine ⟨g, z, by omega, ?_, g3⟩
    simp [F_spec_l2And, q2, g2]

set_option maxHeartbeats 4000000 in
theorem l_spec_l2Or {part : List UInt8 → PR} (hf : fine part) (s : List UInt8) (hl : s.length ≤ 1000) (n0 : Nat) (H : ∀ k, k ≤ s.length → s.length - k ≤ n0 → sp n_spec_l2And part s k) : ∀ (n : Nat) (p : List T) (k : Nat) (K : Nat), (K = 6673 ∨ K = 18960) → k ≤ s.length → s.length - k ≤ n → s.length - k ≤ n0 + 1 → p.length + 2 * (s.length - k) ≤ 10000 →
    ∃ (g : List T) (z : Int), g.length ≤ p.length + 2 * (s.length - k) + 1 ∧ ex lf F_spec_l2Or_W0 (stS s K p k) = some (.exit 0, stS s 6673 g z) ∧
      match rowL part 124 3 n p (s.drop k) with
        | none => z = -1
        | some (p', r') => g = p' ∧ z = (s.length : Int) - r'.length := by
  intro n
  induction n with
  | zero =>
    intro p k K hK hk hn hn0 hp
    have : k = s.length := by omega
    subst this
    refine ⟨p, s.length, by omega, ?_, by simp [rowL]⟩
    rw [w_spec_l2Or_0]
    unfold stS
    rcases hK with rfl | rfl <;> simp [F_spec_l2Or_L0]
  | succ n ih =>
    intro p k K hK hk hn hn0 hp
    rw [w_spec_l2Or_0]
    by_cases hks : k = s.length
    · subst hks
      refine ⟨p, s.length, by omega, ?_, by simp [rowL]⟩
      unfold stS
      rcases hK with rfl | rfl <;> simp [F_spec_l2Or_L0]
    · have hlt : k < s.length := by omega
      have hlt' : (k : Int) < s.length := by omega
      have dk : s.drop k = s[k] :: s.drop (k + 1) := List.drop_eq_getElem_cons hlt
      have at1 : s[k]? = some s[k] := List.getElem?_eq_getElem hlt
      rw [dk]
      simp only [rowL]
      by_cases hc : s[k].toNat = 124
      · rw [if_pos hc]
        obtain ⟨q, z1, q1, q2, q3⟩ := H (k + 1) (by omega) (by omega)
        have w1 : wr ((k : Int) + 1) = ((k + 1 : Nat) : Int) := by rw [wr_id (by omega) (by omega)]; omega
        have lb1 : p.length ≤ bound := by unfold bound; omega
        have lb2 : p.length + q.length ≤ bound := by unfold bound; omega
        have lb3 : p.length + (q.length + 1) ≤ bound := by unfold bound; omega
        have step : ex lf F_spec_l2Or_L0 (stS s K p k) = some (.normal, stS s 18960 (p ++ q ++ [(3, 0)]) z1) := by
          unfold stS
          rcases hK with rfl | rfl <;> simp [F_spec_l2Or_L0, hlt, hlt', at1, hc, w1, q2, lb1, lb2, lb3, if_pos (e2_wid p), if_pos (e2_wid q), e2, Nat.add_assoc, -Int.natCast_add]
        rw [step]
        simp only
        cases hq : part (s.drop (k + 1)) with
        | none =>
          rw [hq] at q3
          simp only at q3
          subst q3
          refine ⟨p ++ q ++ [(3, 0)], -1, by simp; omega, ?_, rfl⟩
          rw [w_spec_l2Or_0]
          unfold stS
          simp [F_spec_l2Or_L0]
        | some v =>
          obtain ⟨q', r1⟩ := v
          rw [hq] at q3
          simp only at q3
          obtain ⟨rfl, hz⟩ := q3
          obtain ⟨f1, f2, f3⟩ := fine_len hf hq
          rw [List.length_drop] at f1 f2
          have suff : s.drop (s.length - r1.length) = r1 := drop_rest hf hq
          have hz' : z1 = ((s.length - r1.length : Nat) : Int) := by omega
          subst hz'
          obtain ⟨g, z, g1, g2, g3⟩ := ih (p ++ q ++ [(3, 0)]) (s.length - r1.length) 18960 (.inr rfl) (by omega) (by omega) (by omega) (by simp; omega)
          rw [suff] at g3
          refine ⟨g, z, by simp at g1; omega, g2, g3⟩
      · rw [if_neg hc]
        have hc' : (s[k].toNat == 124) = false := beq_eq_false_iff_ne.2 hc
        refine ⟨p, k, by omega, ?_, ?_⟩
        · unfold stS
          rcases hK with rfl | rfl <;> simp [F_spec_l2Or_L0, hlt, hlt', at1, hc']
        · refine ⟨rfl, ?_⟩
          rw [← dk, List.length_drop]; omega
set_option maxHeartbeats 4000000 in
theorem c_spec_l2Or {part : List UInt8 → PR} (hf : fine part) (s : List UInt8) (hl : s.length ≤ 1000) (n0 : Nat) (H : ∀ k, k ≤ s.length → s.length - k ≤ n0 → sp n_spec_l2And part s k) : ∀ k, k ≤ s.length → s.length - k ≤ n0 → sp n_spec_l2Or (rowP part 124 3) s k := by
  intro k hk hn
  obtain ⟨p, z1, q1, q2, q3⟩ := H k hk hn
  unfold sp
  rw [call_k lf n_spec_l2Or _ (F := F_spec_l2Or) rfl rfl]
  unfold rowP
  cases hp : part (s.drop k) with
  | none =>
    rw [hp] at q3
    simp only at q3
    subst q3
    have W : ex lf F_spec_l2Or_W0 (stS s 6673 p (-1)) = some (.exit 0, stS s 6673 p (-1)) := by
      rw [w_spec_l2Or_0]
      unfold stS
      simp [F_spec_l2Or_L0]
    unfold stS at W
    exact ⟨p, -1, q1, by simp [F_spec_l2Or, q2, W], rfl⟩
  | some v =>
    obtain ⟨p', r⟩ := v
    rw [hp] at q3
    simp only at q3
    obtain ⟨rfl, hz⟩ := q3
    obtain ⟨f1, f2, f3⟩ := fine_len hf hp
    rw [List.length_drop] at f1 f2
    have suff : s.drop (s.length - r.length) = r := drop_rest hf hp
    have hz' : z1 = ((s.length - r.length : Nat) : Int) := by omega
    subst hz'
    obtain ⟨g, z, g1, g2, g3⟩ := l_spec_l2Or hf s hl n0 H r.length p (s.length - r.length) 6673 (.inl rfl) (by omega) (by omega) (by omega) (by omega)
    rw [suff] at g3
    unfold stS at g2
    refine ⟨g, z, by omega, ?_, g3⟩
    simp [F_spec_l2Or, q2, g2]

set_option maxHeartbeats 4000000 in
theorem c_spec_l2Atom (s : List UInt8) (hl : s.length ≤ 1000) : ∀ (n k : Nat), k ≤ s.length → s.length - k ≤ n → sp n_spec_l2Atom (pA n) s k := by
  intro n
  induction n with
  | zero =>
    intro k hk hn
    have : k = s.length := by omega
    subst this
    unfold sp
    rw [call_k lf n_spec_l2Atom _ (F := F_spec_l2Atom) rfl rfl]
    have z0 : ¬ ((s.length : Int) < 0) := by omega
    refine ⟨[], -1, by simp, ?_, by simp [pA]⟩
    simp [F_spec_l2Atom, z0]
  | succ n ih =>
    intro k hk hn
    by_cases hks : k = s.length
    · subst hks
      unfold sp
      rw [call_k lf n_spec_l2Atom _ (F := F_spec_l2Atom) rfl rfl]
      have z0 : ¬ ((s.length : Int) < 0) := by omega
      refine ⟨[], -1, by simp, ?_, by simp [pA]⟩
      simp [F_spec_l2Atom, z0]
    · have hlt : k < s.length := by omega
      have hlt' : (k : Int) < s.length := by omega
      have dk : s.drop k = s[k] :: s.drop (k + 1) := List.drop_eq_getElem_cons hlt
      have at1 : s[k]? = some s[k] := List.getElem?_eq_getElem hlt
      have w1 : wr ((k : Int) + 1) = ((k + 1 : Nat) : Int) := by rw [wr_id (by omega) (by omega)]; omega
      have N := ih (k + 1) (by omega) (by omega)
      have A := c_spec_l2And (pA_fine n) s hl n (fun k h1 h2 => ih k h1 h2)
      have O := c_spec_l2Or (rowP_fine (pA_fine n) 38 2) s hl n A (k + 1) (by omega) (by omega)
      have k0 : ¬ ((k : Int) < 0) := by omega
      have k1 : ¬ ((s.length : Int) ≤ k) := by omega
      have k2 : ¬ (s.length ≤ k) := by omega
      have hc256 : s[k].toNat < 256 := s[k].toNat_lt
      unfold sp at N O ⊢
      rw [dk]
      simp only [pA]
      rw [call_k lf n_spec_l2Atom _ (F := F_spec_l2Atom) rfl rfl]
      by_cases h4 : 97 ≤ s[k].toNat ∧ s[k].toNat ≤ 101
      · have h1 : ¬ s[k].toNat = 33 := by omega
        have h2 : ¬ s[k].toNat = 40 := by omega
        rw [if_neg h1, if_neg h2, if_pos h4]
        have y1 : (wr8 ((s[k].toNat : Int) - 97) : Int) = (s[k].toNat : Int) - 97 := by unfold wr8; omega
        have g1 : 97 ≤ s[k].toNat := h4.1
        have g2 : s[k].toNat ≤ 101 := h4.2
        refine ⟨[(0, (s[k].toNat : Int) - 97)], ((k + 1 : Nat) : Int), by simp, ?_, rfl, by rw [List.length_drop]; omega⟩
        simp [F_spec_l2Atom, k0, k1, k2, hlt, hlt', at1, g1, g2, y1, w1, e2, -Int.natCast_add]
      · by_cases h1 : s[k].toNat = 33
        · rw [if_pos h1]
          obtain ⟨g, z, g1, g2, g3⟩ := N
          have lb1 : g.length ≤ bound := by unfold bound; omega
          have lb2 : g.length + 1 ≤ bound := by unfold bound; omega
          refine ⟨g ++ [(1, 0)], z, by simp; omega, ?_, ?_⟩
          · simp [F_spec_l2Atom, k0, k1, k2, hlt, hlt', at1, h1, w1, g2, lb1, lb2, if_pos (e2_wid g), e2, -Int.natCast_add]
          · cases hq : pA n (s.drop (k + 1)) with
            | none => rw [hq] at g3; exact g3
            | some v => obtain ⟨p, r⟩ := v; rw [hq] at g3; exact ⟨by rw [g3.1], g3.2⟩
        · rw [if_neg h1]
          have h1' : (s[k].toNat == 33) = false := beq_eq_false_iff_ne.2 h1
          by_cases h2 : s[k].toNat = 40
          · rw [if_pos h2]
            obtain ⟨g, z, g1, g2, g3⟩ := O
            cases hq : rowP (rowP (pA n) 38 2) 124 3 (s.drop (k + 1)) with
            | none =>
              rw [hq] at g3
              simp only at g3
              subst g3
              refine ⟨[], -1, by simp, ?_, rfl⟩
              simp [F_spec_l2Atom, k0, k1, k2, hlt, hlt', at1, h2, w1, g2, -Int.natCast_add]
            | some v =>
              obtain ⟨p, r⟩ := v
              rw [hq] at g3
              simp only at g3
              obtain ⟨rfl, hz⟩ := g3
              obtain ⟨f1, f2, f3⟩ := fine_len (rowP_fine (rowP_fine (pA_fine n) 38 2) 124 3) hq
              rw [List.length_drop] at f1 f2
              have suff : s.drop (s.length - r.length) = r := drop_rest (rowP_fine (rowP_fine (pA_fine n) 38 2) 124 3) hq
              have hz' : z = ((s.length - r.length : Nat) : Int) := by omega
              subst hz'
              generalize hj : s.length - r.length = j at *
              have j0 : ¬ ((j : Int) < 0) := by omega
              cases r with
              | nil =>
                have jl : j = s.length := by simp at hj; omega
                have z0 : ¬ ((s.length : Int) < 0) := by omega
                refine ⟨[], -1, by simp, ?_, rfl⟩
                simp [F_spec_l2Atom, k0, k1, k2, hlt, hlt', at1, h2, w1, g2, j0, jl, z0, -Int.natCast_add]
              | cons d q =>
                simp at hj f1
                have jl : j < s.length := by omega
                have jl1 : ¬ ((s.length : Int) ≤ j) := by omega
                have jl2 : ¬ (s.length ≤ j) := by omega
                have atj : s[j] = d := by
                  have := congrArg (fun l => l[0]?) suff
                  simpa [jl] using this
                have jl' : (j : Int) < s.length := by omega
                have w2 : wr ((j : Int) + 1) = ((j + 1 : Nat) : Int) := by rw [wr_id (by omega) (by omega)]; omega
                by_cases h3 : d.toNat = 41
                · simp only [if_pos h3]
                  refine ⟨g, ((j + 1 : Nat) : Int), by omega, ?_, rfl, by omega⟩
                  simp [F_spec_l2Atom, k0, k1, k2, hlt, hlt', at1, h2, w1, w2, g2, j0, jl, jl', jl1, jl2, atj, h3, -Int.natCast_add]
                · simp only [if_neg h3]
                  have h3' : (d.toNat != 41) = true := bne_iff_ne.2 h3
                  refine ⟨[], -1, by simp, ?_, rfl⟩
                  simp [F_spec_l2Atom, k0, k1, k2, hlt, hlt', at1, h2, w1, g2, j0, jl, jl', jl1, jl2, atj, h3, h3', -Int.natCast_add]
          · rw [if_neg h2, if_neg h4]
            have h2' : (s[k].toNat == 40) = false := beq_eq_false_iff_ne.2 h2
            refine ⟨[], -1, by simp, ?_, rfl⟩
            by_cases g1 : 97 ≤ s[k].toNat
            · have g2 : ¬ s[k].toNat ≤ 101 := by omega
              simp [F_spec_l2Atom, k0, k1, k2, hlt, hlt', at1, g1, g2, h1', h2']
            · simp [F_spec_l2Atom, k0, k1, k2, hlt, hlt', at1, g1, h1', h2']
end
section
attribute [-simp] DV.cells
attribute [local simp] cells_st cells_sl cells_i cells_y cells_b cells_s cells_w
theorem rd_len (m : Int) (s : List UInt8) : ((rdOf m s).getD []).length ≤ 13 := by
  unfold rdOf
  split
  · simp
  · split
    · split
      · rename_i h
        obtain ⟨_, h2, _⟩ := tmOk_iff.1 h.1
        simp only [Option.getD_some]; omega
      · simp
    · simp
set_option maxHeartbeats 4000000 in
theorem c_spec_ReadTerm (m : Int) (s : List UInt8) (hl : s.length ≤ 1073741824) : call lf n_spec_ReadTerm [.i m, .s s] = some (.tup [.fr 2 (((rdOf m s).getD []).map e2), .b (rdOf m s).isSome], []) := by
  rw [call_k lf n_spec_ReadTerm _ (F := F_spec_ReadTerm) rfl rfl]
  unfold rdOf
  by_cases h : 80 < s.length
  · have h' : (80 : Int) < s.length := by omega
    simp [F_spec_ReadTerm, h, h']
  · have h' : ¬ ((80 : Int) < s.length) := by omega
    have At := c_spec_l2Atom s (by omega) s.length
    have A := c_spec_l2And (pA_fine s.length) s (by omega) s.length (fun k h1 h2 => At k h1 h2)
    obtain ⟨g, z, g1, g2, g3⟩ := c_spec_l2Or (rowP_fine (pA_fine s.length) 38 2) s (by omega) s.length A 0 (by omega) (by omega)
    rw [List.drop_zero] at g3
    have E : rowP (rowP (pA s.length) 38 2) 124 3 s = pOr s.length s := rfl
    rw [E] at g3
    rw [if_neg h]
    have lb : g.length ≤ bound := by unfold bound; omega
    simp only [Int.natCast_zero] at g2
    cases hq : pOr s.length s with
    | none =>
      rw [hq] at g3
      simp only at g3
      subst g3
      have ne : ((-1 : Int) != s.length) = true := bne_iff_ne.2 (by omega)
      have ne' : ¬ (-1 : Int) = s.length := by omega
      simp [F_spec_ReadTerm, h, h', g2, ne, ne']
    | some v =>
      obtain ⟨p, r⟩ := v
      rw [hq] at g3
      simp only at g3
      obtain ⟨rfl, hz⟩ := g3
      cases r with
      | cons c r =>
        have ne : (z != s.length) = true := bne_iff_ne.2 (by rw [hz]; simp; omega)
        have ne' : ¬ z = s.length := by rw [hz]; simp; omega
        simp [F_spec_ReadTerm, h, h', g2, ne, ne']
      | nil =>
        simp at hz
        subst hz
        simp only
        have C := c_spec_TermOk m g (by omega)
        cases ht : tmOk m g with
        | false => rw [ht] at C; simp [F_spec_ReadTerm, h, h', g2, C, lb]
        | true =>
          rw [ht] at C
          obtain ⟨h5, h6, _⟩ := tmOk_iff.1 ht
          obtain ⟨x, h1, h2, h3, h4⟩ := tt_tree ht
          have W := c_spec_l2Text (m := m) (by omega) h1 (by rw [h2]; omega)
          rw [h2] at W
          rw [← h3] at W
          by_cases hx : ttOf m g = s
          · simp [F_spec_ReadTerm, h, h', g2, C, W, lb, hx]
          · have hx' : (ttOf m g == s) = false := beq_eq_false_iff_ne.2 hx
            simp [F_spec_ReadTerm, h, h', g2, C, W, lb, hx, hx']
/-! ### texts are read -/
theorem rowP_some {part : List UInt8 → PR} {sign : Nat} {kind : Int} {s r : List UInt8} {p : List T} (h : part s = some (p, r)) : rowP part sign kind s = rowL part sign kind r.length p r := by
  unfold rowP; rw [h]
def noS (a : Nat) (r : List UInt8) : Prop := ∀ c t, r = c :: t → c.toNat ≠ a
theorem rowL_end {part : List UInt8 → PR} {sign : Nat} {kind : Int} {n : Nat} {p : List T} {r : List UInt8} (h : noS sign r) : rowL part sign kind n p r = some (p, r) := by
  cases n with
  | zero => rfl
  | succ n =>
    cases r with
    | nil => rfl
    | cons c r => simp only [rowL]; rw [if_neg (h c r rfl)]
theorem rowL_step {part : List UInt8 → PR} {sign : Nat} {kind : Int} {n : Nat} {p q : List T} {c : UInt8} {r r' : List UInt8} (hc : c.toNat = sign) (hp : part r = some (q, r')) (hn : 1 ≤ n) : rowL part sign kind n p (c :: r) = rowL part sign kind (n - 1) (p ++ q ++ [(kind, 0)]) r' := by
  obtain ⟨n, rfl⟩ : ∃ k, n = k + 1 := ⟨n - 1, by omega⟩
  simp only [rowL]
  rw [if_pos hc, hp]; rfl
theorem brk_of (l : Int) (x : Tm) : brk l (txt x, lastK x) = if lastK x ≥ l then 40 :: (txt x ++ [41]) else txt x := by
  unfold brk; split <;> simp
def rdS (x : Tm) : Prop := ∀ f, (txt x).length ≤ f →
  (lastK x ≤ 1 → ∀ r, pA f (txt x ++ r) = some (flt x, r)) ∧
  (lastK x ≤ 2 → ∀ r, ∃ n, r.length ≤ n ∧ rowP (pA f) 38 2 (txt x ++ r) = rowL (pA f) 38 2 n (flt x) r) ∧
  ∀ r, noS 38 r → ∃ n, r.length ≤ n ∧ rowP (rowP (pA f) 38 2) 124 3 (txt x ++ r) = rowL (rowP (pA f) 38 2) 124 3 n (flt x) r
theorem rd_brk {x : Tm} (h : rdS x) {f : Nat} (hf : (txt x).length + 2 ≤ f) (r : List UInt8) : pA f (40 :: (txt x ++ 41 :: r)) = some (flt x, r) := by
  obtain ⟨f, rfl⟩ : ∃ k, f = k + 1 := ⟨f - 1, by omega⟩
  obtain ⟨_, _, h3⟩ := h f (by omega)
  obtain ⟨n, _, hn⟩ := h3 (41 :: r) (fun c t e => by injection e with e _; subst e; decide)
  rw [rowL_end (fun c t e => by injection e with e _; subst e; decide)] at hn
  have c1 : ¬ (40 : UInt8).toNat = 33 := by decide
  have c2 : (40 : UInt8).toNat = 40 := by decide
  have c3 : (41 : UInt8).toNat = 41 := by decide
  simp only [pA]
  rw [if_neg c1, if_pos c2, hn]
  simp only
  rw [if_pos c3]
theorem rd_held {x : Tm} (h : rdS x) {f : Nat} (hf : (brk 2 (txt x, lastK x)).length ≤ f) (r : List UInt8) : pA f (brk 2 (txt x, lastK x) ++ r) = some (flt x, r) := by
  rw [brk_of] at hf ⊢
  by_cases hk : lastK x ≥ 2
  · rw [if_pos hk] at hf ⊢
    simp at hf
    have := rd_brk h (f := f) (by omega) r
    simpa using this
  · rw [if_neg hk] at hf ⊢
    exact (h f hf).1 (by omega) r
theorem rd_all {m : Int} (hm : m ≤ 5) : ∀ x : Tm, tb m x → rdS x
  | .tst a, hb => by
    intro f hf
    have ha : (a : Int) < m := hb
    have A : ∀ r, pA f (txt (.tst a) ++ r) = some (flt (.tst a), r) := by
      intro r
      simp only [txt, List.length_singleton] at hf
      obtain ⟨f, rfl⟩ : ∃ k, f = k + 1 := ⟨f - 1, by omega⟩
      have c5 : a = 0 ∨ a = 1 ∨ a = 2 ∨ a = 3 ∨ a = 4 := by omega
      rcases c5 with rfl | rfl | rfl | rfl | rfl <;> rfl
    have R : ∀ r, ∃ n, r.length ≤ n ∧ rowP (pA f) 38 2 (txt (.tst a) ++ r) = rowL (pA f) 38 2 n (flt (.tst a)) r := fun r => ⟨r.length, Nat.le_refl _, rowP_some (A r)⟩
    refine ⟨fun _ => A, fun _ => R, fun r hr => ⟨r.length, Nat.le_refl _, ?_⟩⟩
    obtain ⟨n, _, e⟩ := R r
    rw [rowL_end hr] at e
    exact rowP_some e
  | .neg x, hb => by
    have ih := rd_all hm x hb
    intro f hf
    have A : ∀ r, pA f (txt (.neg x) ++ r) = some (flt (.neg x), r) := by
      intro r
      simp only [txt, List.length_append, List.length_singleton] at hf
      obtain ⟨f, rfl⟩ : ∃ k, f = k + 1 := ⟨f - 1, by omega⟩
      have H := rd_held ih (f := f) (by omega) r
      have c1 : (33 : UInt8).toNat = 33 := by decide
      simp only [txt, List.singleton_append, List.cons_append, List.nil_append, pA]
      rw [if_pos c1, H]
      rfl
    have R : ∀ r, ∃ n, r.length ≤ n ∧ rowP (pA f) 38 2 (txt (.neg x) ++ r) = rowL (pA f) 38 2 n (flt (.neg x)) r := fun r => ⟨r.length, Nat.le_refl _, rowP_some (A r)⟩
    refine ⟨fun _ => A, fun _ => R, fun r hr => ⟨r.length, Nat.le_refl _, ?_⟩⟩
    obtain ⟨n, _, e⟩ := R r
    rw [rowL_end hr] at e
    exact rowP_some e
  | .and x y, hb => by
    have ix := rd_all hm x hb.1
    have iy := rd_all hm y hb.2
    intro f hf
    simp only [txt, List.length_append, List.length_singleton] at hf
    have c1 : (38 : UInt8).toNat = 38 := by decide
    have R : ∀ r, ∃ n, r.length ≤ n ∧ rowP (pA f) 38 2 (txt (.and x y) ++ r) = rowL (pA f) 38 2 n (flt (.and x y)) r := by
      intro r
      have H := rd_held iy (f := f) (by omega) r
      have first : ∃ n, (38 :: (brk 2 (txt y, lastK y) ++ r)).length ≤ n ∧ rowP (pA f) 38 2 (brk 3 (txt x, lastK x) ++ 38 :: (brk 2 (txt y, lastK y) ++ r)) = rowL (pA f) 38 2 n (flt x) (38 :: (brk 2 (txt y, lastK y) ++ r)) := by
        rw [brk_of 3 x] at hf ⊢
        by_cases hk : lastK x ≥ 3
        · rw [if_pos hk] at hf ⊢
          simp at hf
          have B := rd_brk ix (f := f) (by omega) (38 :: (brk 2 (txt y, lastK y) ++ r))
          refine ⟨_, Nat.le_refl _, ?_⟩
          rw [show (40 :: (txt x ++ [41]) ++ 38 :: (brk 2 (txt y, lastK y) ++ r)) = 40 :: (txt x ++ 41 :: 38 :: (brk 2 (txt y, lastK y) ++ r)) by simp]
          exact rowP_some B
        · rw [if_neg hk] at hf ⊢
          exact (ix f (by omega)).2.1 (by omega) _
      obtain ⟨n, n1, n2⟩ := first
      refine ⟨n - 1, by simp at n1; omega, ?_⟩
      rw [show txt (.and x y) ++ r = brk 3 (txt x, lastK x) ++ 38 :: (brk 2 (txt y, lastK y) ++ r) by simp [txt], n2, rowL_step c1 H (by simp at n1; omega)]
      rfl
    refine ⟨fun h => by simp [lastK] at h, fun _ => R, fun r hr => ⟨r.length, Nat.le_refl _, ?_⟩⟩
    obtain ⟨n, _, e⟩ := R r
    rw [rowL_end hr] at e
    exact rowP_some e
  | .or x y, hb => by
    have ix := rd_all hm x hb.1
    have iy := rd_all hm y hb.2
    intro f hf
    simp only [txt, List.length_append, List.length_singleton] at hf
    have c1 : (124 : UInt8).toNat = 124 := by decide
    refine ⟨fun h => by simp [lastK] at h, fun h => by simp [lastK] at h, fun r hr => ?_⟩
    have H : rowP (pA f) 38 2 (brk 3 (txt y, lastK y) ++ r) = some (flt y, r) := by
      rw [brk_of] at hf ⊢
      by_cases hk : lastK y ≥ 3
      · rw [if_pos hk] at hf ⊢
        simp at hf
        have B := rd_brk iy (f := f) (by omega) r
        rw [show (40 :: (txt y ++ [41]) ++ r) = 40 :: (txt y ++ 41 :: r) by simp, rowP_some B]
        exact rowL_end hr
      · rw [if_neg hk] at hf ⊢
        obtain ⟨n, _, e⟩ := (iy f (by omega)).2.1 (by omega) r
        rw [e]
        exact rowL_end hr
    obtain ⟨n, n1, n2⟩ := (ix f (by omega)).2.2 (124 :: (brk 3 (txt y, lastK y) ++ r)) (fun c t e => by injection e with e _; subst e; decide)
    refine ⟨n - 1, by simp at n1; omega, ?_⟩
    rw [show txt (.or x y) ++ r = txt x ++ 124 :: (brk 3 (txt y, lastK y) ++ r) by simp [txt], n2, rowL_step c1 H (by simp at n1; omega)]
    rfl
theorem rd_txt {m : Int} (hm : m ≤ 5) {x : Tm} (hb : tb m x) {f : Nat} (hf : (txt x).length ≤ f) : pOr f (txt x) = some (flt x, []) := by
  obtain ⟨n, _, e⟩ := (rd_all hm x hb f hf).2.2 [] (fun c t h => by cases h)
  rw [rowL_end (fun c t h => by cases h), List.append_nil] at e
  exact e
theorem rd_self {m : Int} {t : List T} (h : tmOk m t = true) : rdOf m (ttOf m t) = some t := by
  obtain ⟨h5, h6, _⟩ := tmOk_iff.1 h
  obtain ⟨x, h1, h2, h3, h4⟩ := tt_tree h
  have tl := txt_len x
  rw [h2] at tl
  unfold rdOf
  rw [h3, if_neg (by omega), rd_txt (m := m) (by omega) h1 (Nat.le_refl _)]
  simp only
  rw [h2, if_pos ⟨h, h3⟩]
theorem rd_some {m : Int} {s : List UInt8} {t : List T} (h : rdOf m s = some t) : tmOk m t = true ∧ ttOf m t = s := by
  unfold rdOf at h
  split at h
  · cases h
  · split at h
    · split at h
      · rename_i hc
        injection h with h
        subst h
        exact hc
      · cases h
    · cases h
theorem rd_refused {m : Int} {s : List UInt8} {t : List T} (h : rdOf m s = some t) : rdOf m ([40] ++ s ++ [41]) = none := by
  obtain ⟨h0, h1⟩ := rd_some h
  obtain ⟨h5, h6, _⟩ := tmOk_iff.1 h0
  obtain ⟨x, k1, k2, k3, k4⟩ := tt_tree h0
  rw [h1] at k3
  unfold rdOf
  by_cases hl : 80 < ([40] ++ s ++ [41]).length
  · rw [if_pos hl]
  · rw [if_neg hl]
    have e : [40] ++ s ++ [41] = 40 :: (txt x ++ 41 :: []) := by rw [k3]; simp
    have B := rd_brk (rd_all (m := m) (by omega) x k1) (f := ([40] ++ s ++ [41]).length) (by rw [e]; simp) []
    have O : pOr ([40] ++ s ++ [41]).length ([40] ++ s ++ [41]) = some (flt x, []) := by
      have A : pAnd ([40] ++ s ++ [41]).length ([40] ++ s ++ [41]) = some (flt x, []) := by
        conv => lhs; rw [e]
        rw [e] at B
        exact rowP_some B
      exact rowP_some A
    rw [O]
    simp only
    rw [if_neg]
    rintro ⟨_, hc⟩
    rw [k2, h1] at hc
    have := congrArg List.length hc
    simp at this
    omega
end
section
attribute [-simp] DV.cells
attribute [local simp] cells_st cells_sl cells_i cells_y cells_b cells_s cells_w
/-! ### a term that is always drawn well -/
theorem c_odd0 {bs : List Nat} (p : Int) : call lf n_spec_l20Rd_odd [.ref (.st [.sl 0 (bs.map .y), .i p]), .i 0] = some (.b false, [.st [.sl 0 (bs.map .y), .i p]]) := by
  rw [call_k lf n_spec_l20Rd_odd _ (F := F_spec_l20Rd_odd) rfl rfl]
  simp [F_spec_l20Rd_odd]
set_option maxHeartbeats 4000000 in
theorem c_l20Term0 {bs : List Nat} (hb : ∀ y ∈ bs, y < 256) (hl : bs.length ≤ 2000) {p m0 m : Int} (mx : max m0 1 = m) (h0 : 0 ≤ p) (h1 : p < 700000) (hm1 : 1 ≤ m) (hm5 : m ≤ 5) :
    ∃ (t : List T) (p' : Int), t.length ≤ 12 ∧ p ≤ p' ∧ p' ≤ p + 60 ∧ call lf n_spec_l20Term [.ref (.st [.sl 0 (bs.map .y), .i p]), .i m0, .i 0] = some (.fr 2 (t.map e2), [.st [.sl 0 (bs.map .y), .i p']]) := by
  have mn : min m 5 = m := by omega
  have k0 := c_pick hb hl h0 (by omega : p < 1000000) (by omega : (1 : Int) ≤ 2)
  by_cases ho : pk bs p 2 = 0
  · rw [ho] at k0
    obtain ⟨j, rfl⟩ : ∃ j : Nat, m = j := ⟨m.toNat, by omega⟩
    obtain ⟨qs, q1, q2, q3, q4⟩ := l_l20Term0 hb hl j 0 hm5 j 0 (p + 1) [] (by omega) (by omega) (by omega) (by omega) (by simp) (by simp)
    have QNE := q3 (.inr ⟨rfl, by omega⟩)
    simp at q4
    have k1 := c_pick hb hl (by omega : 0 ≤ p + 1 + (j : Int)) (by omega : p + 1 + (j : Int) < 1000000) (by omega : (1 : Int) ≤ 5)
    have a1 := pk_bound hb (by omega : 0 ≤ p + 1 + (j : Int)) (by omega : p + 1 + (j : Int) ≤ 1000000) (by omega : (1 : Int) ≤ 5)
    have w1 : wr (1 + pk bs (p + 1 + (j : Int)) 5) = 1 + pk bs (p + 1 + (j : Int)) 5 := wr_id (by omega) (by omega)
    have u1 := l_l20Term1t (bs := bs) j 0 (1 + pk bs (p + 1 + (j : Int)) 5) (p + 1 + j + 1) qs
    have Q5 : qs.length ≤ 5 := by omega
    generalize hR2 : p + 1 + (j : Int) + 1 = R2 at *
    obtain ⟨t, l', r3, b1, b2, b3, b4, b5⟩ := l_parts hb hl 0 R2 qs QNE q1 Q5 (by omega) (by omega)
    obtain ⟨x, xs, rfl⟩ := atI_e0 b1
    simp [tailS, row, e2] at b5
    simp only [List.length_cons] at b2
    have k3 := c_odd0 (bs := bs) r3
    have lb : xs.length + 1 + 1 ≤ bound := by unfold bound; omega
    refine ⟨x :: xs, r3, by simp only [List.length_cons]; omega, by omega, by omega, ?_⟩
    rw [call_k lf n_spec_l20Term _ (F := F_spec_l20Term) rfl rfl]
    simp [F_spec_l20Term, mx, mn, k0, q4, k1, w1, u1, hR2, k3, b5, row, e2]
  · have k0' : (pk bs p 2 == 0) = false := by simp [ho]
    have k1 := c_pick hb hl (by omega : 0 ≤ p + 1) (by omega : p + 1 < 1000000) (by omega : (1 : Int) ≤ 5)
    have a1 := pk_bound hb (by omega : 0 ≤ p + 1) (by omega : p + 1 ≤ 1000000) (by omega : (1 : Int) ≤ 5)
    obtain ⟨j, hj⟩ : ∃ j : Nat, 1 + pk bs (p + 1) 5 = j := ⟨(1 + pk bs (p + 1) 5).toNat, by omega⟩
    have w1 : wr (j : Int) = j := wr_id (by omega) (by omega)
    have q0 := l_l20Term0f (bs := bs) m 0 0 (p + 1) (by omega)
    obtain ⟨qs, q1, q2, q4⟩ := l_l20Term1 hb hl m 0 hm1 hm5 j (p + 1 + 1) [] (by omega) (by omega) (by simp) (by simp; omega)
    simp at q4 q2
    have QNE : qs ≠ [] := by intro h; rw [h] at q2; simp at q2; omega
    have Q5 : qs.length ≤ 5 := by omega
    generalize hR2 : p + 1 + 1 + (j : Int) = R2 at *
    obtain ⟨t, l', r3, b1, b2, b3, b4, b5⟩ := l_parts hb hl 0 R2 qs QNE q1 Q5 (by omega) (by omega)
    obtain ⟨x, xs, rfl⟩ := atI_e0 b1
    simp [tailS, row, e2] at b5
    simp only [List.length_cons] at b2
    have k3 := c_odd0 (bs := bs) r3
    have lb : xs.length + 1 + 1 ≤ bound := by unfold bound; omega
    refine ⟨x :: xs, r3, by simp only [List.length_cons]; omega, by omega, by omega, ?_⟩
    rw [call_k lf n_spec_l20Term _ (F := F_spec_l20Term) rfl rfl]
    simp [F_spec_l20Term, mx, mn, k0, ho, k0', q0, q4, k1, hj, w1, k3, b5, row, e2]
theorem cut_s1 (l : List UInt8) {k : Int} (h0 : 0 ≤ k) (h1 : k ≤ l.length) : sliceS l none (some k) = some (.s (l.take k.toNat)) := by
  unfold sliceS
  simp only [Option.getD_some, Option.getD_none]
  rw [if_pos ⟨by omega, h0, h1⟩]; simp
theorem cut_s2 (l : List UInt8) {k : Int} (h0 : 0 ≤ k) (h1 : k ≤ l.length) : sliceS l (some k) none = some (.s (l.drop k.toNat)) := by
  unfold sliceS
  simp only [Option.getD_some, Option.getD_none]
  rw [if_pos ⟨h0, h1, by omega⟩]; simp
attribute [-simp] sliceS
set_option maxHeartbeats 4000000 in
theorem c_DrawReadTerm {bs : List Nat} (hb : ∀ y ∈ bs, y < 256) (hl : bs.length ≤ 1048576) :
    ∃ (m : Int) (s : List UInt8), (1 ≤ m ∧ m ≤ 5) ∧ s.length ≤ 100 ∧ call lf n_spec_DrawReadTerm [.sl 0 (bs.map .y)] = some (.tup [.i m, .s s], []) := by
  obtain ⟨c1, c2⟩ := take_b hb
  have o := c_open hl
  generalize bs.take 2000 = cs at *
  have a1 := pk_bound c1 (p := 0) (n := 5) (by omega) (by omega) (by omega)
  have k1 := c_pick c1 c2 (p := 0) (n := 5) (by omega) (by omega) (by omega)
  simp at k1
  have w1 : wr (1 + pk cs 0 5) = 1 + pk cs 0 5 := wr_id (by omega) (by omega)
  obtain ⟨m, hm⟩ : ∃ m, 1 + pk cs 0 5 = m := ⟨_, rfl⟩
  rw [hm] at w1
  obtain ⟨t, p, t1, p1, p2, t4⟩ := c_l20Term0 c1 c2 (p := 1) (m0 := m) (m := m) (by omega) (by omega) (by omega) (by omega) (by omega)
  have X := c_spec_TermText m t (by omega)
  have tl : (ttOf m t).length ≤ 60 := by
    cases hk : tmOk m t with
    | false => unfold ttOf; rw [hk]; simp
    | true =>
      obtain ⟨y, h1, h2, h3, h4⟩ := tt_tree hk
      rw [h3]; have := txt_len y; rw [h2] at this; omega
  have lb : t.length ≤ bound := by unfold bound; omega
  generalize ttOf m t = s at *
  have k2 := c_pick c1 c2 (p := p) (n := 3) (by omega) (by omega) (by omega)
  by_cases hp : pk cs p 3 = 0 ∧ 0 < s.length
  · have hs : 0 < (s.length : Int) := by omega
    have k3 := c_pick c1 c2 (p := p + 1) (n := s.length) (by omega) (by omega) (by omega)
    have a3 := pk_bound c1 (p := p + 1) (n := s.length) (by omega) (by omega) (by omega)
    have k4 := c_pick c1 c2 (p := p + 1 + 1) (n := 8) (by omega) (by omega) (by omega)
    have a4 := pk_bound c1 (p := p + 1 + 1) (n := 8) (by omega) (by omega) (by omega)
    have k5 := c_pick c1 c2 (p := p + 1 + 1 + 1) (n := 2) (by omega) (by omega) (by omega)
    have a5 := pk_bound c1 (p := p + 1 + 1 + 1) (n := 2) (by omega) (by omega) (by omega)
    rw [hp.1] at k2
    generalize pk cs (p + 1) s.length = a at *
    generalize pk cs (p + 1 + 1) 8 = b at *
    generalize pk cs (p + 1 + 1 + 1) 2 = c at *
    have S1 := cut_s1 s a3.1 (by omega)
    have S2 := cut_s2 s (k := a + c) (by omega) (by omega)
    have w2 : wr (a + c) = a + c := wr_id (by omega) (by omega)
    have l1 : (s.take a.toNat).length ≤ 60 := by simp; omega
    have l2 : (s.drop (a + c).toNat).length ≤ 60 := by simp; omega
    have main : ∀ d : List UInt8, d.length ≤ 1 → call lf n_spec_DrawReadTerm [.sl 0 (bs.map .y)] = some (.tup [.i m, .s (s.take a.toNat ++ d ++ s.drop (a + c).toNat)], []) → ∃ (m : Int) (s : List UInt8), (1 ≤ m ∧ m ≤ 5) ∧ s.length ≤ 100 ∧ call lf n_spec_DrawReadTerm [.sl 0 (bs.map .y)] = some (.tup [.i m, .s s], []) := fun d hd h => ⟨m, _, by omega, by simp only [List.length_append, List.length_take, List.length_drop]; omega, h⟩
    have hs2 : 0 < s.length := hp.2
    have bb0 : (s.take a.toNat).length ≤ bound := by unfold bound; omega
    have bb1 : (s.take a.toNat).length + 1 ≤ bound := by unfold bound; omega
    have bb2 : (s.take a.toNat).length + (s.drop (a + c).toNat).length ≤ bound := by unfold bound; omega
    have bb3 : (s.take a.toNat).length + 1 + (s.drop (a + c).toNat).length ≤ bound := by unfold bound; omega
    have bb4 : (s.take a.toNat).length + ((s.drop (a + c).toNat).length + 1) ≤ bound := by omega
    have hb8 : b = 0 ∨ b = 1 ∨ b = 2 ∨ b = 3 ∨ b = 4 ∨ b = 5 ∨ b = 6 ∨ b = 7 := by omega
    generalize s.take a.toNat = u at *
    generalize s.drop (a + c).toNat = v at *
    rcases hb8 with rfl | rfl | rfl | rfl | rfl | rfl | rfl | rfl
    · refine main [] (by simp) ?_
      rw [call_k lf n_spec_DrawReadTerm _ (F := F_spec_DrawReadTerm) rfl rfl]
      simp [F_spec_DrawReadTerm, o, k1, hm, w1, t4, X, lb, k2, hs, hs2, k3, k4, k5, S1, S2, w2, bb0, bb1, bb2, bb3, bb4]
    · refine main [40] (by simp) ?_
      rw [call_k lf n_spec_DrawReadTerm _ (F := F_spec_DrawReadTerm) rfl rfl]
      simp [F_spec_DrawReadTerm, o, k1, hm, w1, t4, X, lb, k2, hs, hs2, k3, k4, k5, S1, S2, w2, bb0, bb1, bb2, bb3, bb4]
    · refine main [41] (by simp) ?_
      rw [call_k lf n_spec_DrawReadTerm _ (F := F_spec_DrawReadTerm) rfl rfl]
      simp [F_spec_DrawReadTerm, o, k1, hm, w1, t4, X, lb, k2, hs, hs2, k3, k4, k5, S1, S2, w2, bb0, bb1, bb2, bb3, bb4]
    · refine main [38] (by simp) ?_
      rw [call_k lf n_spec_DrawReadTerm _ (F := F_spec_DrawReadTerm) rfl rfl]
      simp [F_spec_DrawReadTerm, o, k1, hm, w1, t4, X, lb, k2, hs, hs2, k3, k4, k5, S1, S2, w2, bb0, bb1, bb2, bb3, bb4]
    · refine main [124] (by simp) ?_
      rw [call_k lf n_spec_DrawReadTerm _ (F := F_spec_DrawReadTerm) rfl rfl]
      simp [F_spec_DrawReadTerm, o, k1, hm, w1, t4, X, lb, k2, hs, hs2, k3, k4, k5, S1, S2, w2, bb0, bb1, bb2, bb3, bb4]
    · refine main [33] (by simp) ?_
      rw [call_k lf n_spec_DrawReadTerm _ (F := F_spec_DrawReadTerm) rfl rfl]
      simp [F_spec_DrawReadTerm, o, k1, hm, w1, t4, X, lb, k2, hs, hs2, k3, k4, k5, S1, S2, w2, bb0, bb1, bb2, bb3, bb4]
    · refine main [97] (by simp) ?_
      rw [call_k lf n_spec_DrawReadTerm _ (F := F_spec_DrawReadTerm) rfl rfl]
      simp [F_spec_DrawReadTerm, o, k1, hm, w1, t4, X, lb, k2, hs, hs2, k3, k4, k5, S1, S2, w2, bb0, bb1, bb2, bb3, bb4]
    · refine main [101] (by simp) ?_
      rw [call_k lf n_spec_DrawReadTerm _ (F := F_spec_DrawReadTerm) rfl rfl]
      simp [F_spec_DrawReadTerm, o, k1, hm, w1, t4, X, lb, k2, hs, hs2, k3, k4, k5, S1, S2, w2, bb0, bb1, bb2, bb3, bb4]
  · refine ⟨m, s, by omega, by omega, ?_⟩
    rw [call_k lf n_spec_DrawReadTerm _ (F := F_spec_DrawReadTerm) rfl rfl]
    by_cases h3 : pk cs p 3 = 0
    · have hs : ¬ (0 < s.length) := fun h => hp ⟨h3, h⟩
      have hs' : s = [] := List.eq_nil_of_length_eq_zero (by omega)
      subst hs'
      rw [h3] at k2
      simp [F_spec_DrawReadTerm, o, k1, hm, w1, t4, X, lb, k2]
    · have h3' : (pk cs p 3 == 0) = false := beq_eq_false_iff_ne.2 h3
      simp [F_spec_DrawReadTerm, o, k1, hm, w1, t4, X, lb, k2, h3, h3']
end
end Zz
