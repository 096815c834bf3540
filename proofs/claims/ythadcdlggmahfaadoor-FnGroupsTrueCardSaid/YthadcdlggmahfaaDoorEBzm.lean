/- What the functions answer, as equations: EB. No conditions. -/
import Derived.Test.YthadcdlggmahfaaDoorEAzm
set_option linter.unusedSectionVars false
set_option linter.unusedVariables false
set_option linter.unusedSimpArgs false
namespace Zz
open Go.Lg Md
set_option linter.unusedSimpArgs false
set_option linter.unusedVariables false
attribute [local simp] ia_mv ia_newnil ia_pick ia_bin ia_eqb ia_eqs ia_un ia_len ia_lens ia_chk ia_fld ia_fldv ia_idxa ia_idx ia_load ia_store ia_slice ia_slices ia_make ia_alloc ia_box ia_build ia_bslice ia_app ia_b2i ia_i2b ia_i2i ia_same ia_b2s ia_s2b ia_ext ia_mm ia_idxp ia_calld ia_mkfn ia_i2r ia_r2s ia_call pt_nil pt_cons mi_nil mi_cons md_bslice md_mv md_newnil md_pick md_bin md_eqb md_un md_len md_lens md_fld md_fldv md_idxa md_idx md_load md_store md_slice md_slices md_make md_alloc md_box md_build md_app md_conv md_ext md_call md_calld md_callg md_mkfn md_mm md_idxp md_eqn md_eqs md_chk tg_bslice tg_mv tg_newnil tg_pick tg_bin tg_eqb tg_un tg_len tg_lens tg_fld tg_fldv tg_idxa tg_idx tg_load tg_store tg_slice tg_slices tg_make tg_alloc tg_box tg_build tg_app tg_conv tg_ext tg_call tg_calld tg_callg tg_mkfn tg_mm tg_idxp tg_eqn tg_eqs tg_chk rp_eq ro_eq ifP_t ifP_f np_def ng1_nil ng2_nil ng_gate ng_gen tgA_t tgA_0 tgA_1 tgA_2 aC_nil aC_c aC_t nxP_some nxP_none rq_nil rq_gen rq_gate nxR_some nxR_none ru_nil ru_gen ru_gate pl_none pl_some gt_nil gt_t gt_c di_some di_none an_nil an_cons nxG_some nxG_none rg_nil rg_gen rg_gate oldO_some oa_nil oa_i oa_y oa_b oa_s oa_st oa_sl oa_own oa_oad oa_nl al_nil al_cons al_i al_y al_b al_s al_st al_sl nxF_some nxF_none rf_nil rf_gen rf_gate hk_newnil hk_make hk_alloc hk_box hk_build hk_bslice hk_call hk_store hk_app hk_appn em_cel mm_cel ok_cel ov_cel so_cel il_cel oi_cel oj_cel ol_cel nm_cel hk_appc ef_bslice5 ef_app_cel ks_shut shu_own shc_none shc_cel cl_nil cl_cons ai_nil ai_cons il_i il_y il_b il_s il_st il_sl il_own il_adr il_oad il_ref il_fr il_tup il_nil il_np il_und il_dead ol_adr ol_b ol_dead ol_e ol_fn ol_fr ol_i ol_nil ol_np ol_oad ol_own ol_q ol_r ol_ref ol_s ol_sl ol_st ol_tup ol_und ol_w ol_y oj_e oj_i oj_y oj_b oj_s oj_st oj_sl oj_own oj_adr oj_oad oj_ref oj_fr oj_tup oj_nil oj_np oj_und oj_dead oj_w oj_q oj_r oj_fn oi_e oi_i oi_y oi_b oi_s oi_st oi_sl oi_own oi_adr oi_oad oi_ref oi_fr oi_tup oi_nil oi_np oi_und oi_dead as_nil as_cons ao_nil ao_cons av_i av_y av_b av_s av_st av_sl av_own av_adr av_oad av_ref av_fr av_tup av_nil av_np av_und av_dead pro_cons ghK_some ks_promote ks_freeze frz_own ks_rename ren_own dropO adoptP newP wholeP cutP allOldL ex_skip ex_ret ex_exit ks_region ks_seq ks_cond ks_block seqK_n seqK_e seqK_r regK_some condK_t condK_f blkK_n blkK_r blkK_e endK_n endK_r rr_false rr_true rd_free mo_nil mo_cons drK_some drK_none nxW_some nxW_none rw_nil rw_gen rw_gate ak_newnil ak_make ak_alloc ak_box ak_build ak_bslice ak_call ak_store ak_app iw_mm iw_eqn iw_idxp ef_callg cgK_some gv_e gv_own gv_i gv_sl gv_st gv_b gv_nil gvK_some gvO_some iw_callg ia_callg ak_callg hk_callg is_mv is_newnil is_pick is_bin is_eqb is_eqs is_un is_len is_lens is_chk is_fld is_fldv is_idxa is_idx is_load is_slice is_slices is_make is_alloc is_box is_build is_bslice is_app is_conv is_ext is_call is_calld is_callg is_mkfn is_mm is_idxp is_eqn is_store rt_nil rt_gen rt_gate nxT_some nxT_none ef_eqn_nil ef_eqn_sl ef_eqn_own ia_eqn ef_mmx ef_mmn ef_idxp nxD_some nxD_none ov_i ov_y ov_b ov_s ov_st ov_sl ov_own ov_oad ov_adr ov_nil ov_np ov_und ov_dead ov_tup oldN_some oldN_nil oldN_none so_none so_i so_y so_b so_s so_st so_sl so_adr so_nil so_np so_und so_dead anyM_nil anyM_t anyM_c so_own so_oad rd_nil rd_gen rd_mv rd_gate iw_mv iw_newnil iw_pick iw_bin iw_eqb iw_eqs iw_un iw_len iw_lens iw_chk iw_fld iw_fldv iw_idxa iw_idx iw_load iw_store iw_slice iw_slices iw_make iw_alloc iw_box iw_build iw_bslice iw_app iw_b2i iw_i2b iw_i2i iw_same iw_b2s iw_s2b iw_ext iw_call nm_i nm_y nm_b nm_s nm_st nm_sl nm_own nm_oad nm_adr nm_nil nm_np nm_und nm_dead nm_tup rl_nil rl_gate rl_mv rl_gen opv_t opv_c nx_some nx_none gate_tt gate_tf gate_ft gate_ff gate_u fr_ap em_nil em_i em_y em_b em_s em_st em_sl em_own em_adr em_oad em_ref em_nl em_np em_und em_dead em_tup0 em_tup_i em_tup_b em_tup_s em_tup_sl em_tup_st em_tup_np em_tup_own em_tup_oad mm_i mm_y mm_b mm_s mm_st mm_sl mm_own mm_oad mm_adr mm_nil mm_np mm_und mm_dead ef_mv ef_newnil ef_pickt ef_pickf ef_bin ef_eqb ef_eqs ef_un ef_lens ef_len_sl ef_len_own ef_len_nil ef_chk_adr ef_chk_oad ef_fld_adr ef_fld_oad ef_fldv idxR_some ef_idxa_sl ef_idxa_own ef_idx ef_load_adr_st ef_load_adr_i ef_load_adr_y ef_load_adr_b ef_load_adr_s ef_load_adr_sl atN_nil atN_zero atN_succ ef_load_oad ef_store ef_slice ef_slices ef_make ef_alloc ef_box ef_build ef_bslice ef_app_own ef_app_nil ef_b2i ef_i2b ef_i2i ef_same ef_ext ret1 ret2_some calL_some ef_call retC_i retC_y retC_b retC_s retC_st retC_sl retC_np retC_fr retC_ref retC_tup rk_nil rk_i rk_y rk_b rk_s rk_st rk_sl rk_own rk_oad rk_nl ok_nil ok_i ok_y ok_b ok_s ok_st ok_sl ok_own ok_oad ok_nl lo_nil lo_i lo_y lo_b lo_s lo_st lo_sl lo_own lo_oad lo_nl pr_nil pr_i pr_y pr_b pr_s pr_st pr_sl pr_own pr_nl pr_oad nr_i nr_y nr_b nr_s nr_st nr_sl nr_fr nr_np nr_tup ng_i ng_b ng_s ng_fr ng_nil resV effP_eff binD bi_add bi_sub bi_mul bi_quo bi_rem bi_eql bi_neq bi_lss bi_leq bi_gtr bi_geq bi_shl bi_shr bi_and bi_or bi_xor bi_andNot binY binS unD look put putD LS.get LS.drop killE sweep lookO putO dropO enter leave giveBackL giveBack outs lendArgs lendArg newOuts takeIn takeInL lendL DV.lend adoptL DV.adopt elems apartKs part DV.cells unpart settle settleL over mkId szId fillP fillE tk_e2 tk_i tk_y lt_e2 lt_i lt_y lend_rep al_e2 al_is al_ys al_rep al_app lend_app adopt_app new_app lend_e2 lend_i lend_y adopt_e2 adopt_i adopt_y new_e2 new_i allNewL DV.allNew bounds sliceD sliceS em_w em_q em_r em_fn em_tup_w em_tup_q em_tup_r mm_w mm_q mm_r mm_fn ef_load_adr_w ef_load_adr_q ef_load_adr_r retC_w retC_q retC_r rk_w rk_q rk_r rk_fn ok_w ok_q ok_r ok_fn lo_w lo_q lo_r lo_fn pr_w pr_q pr_r pr_fn nr_w nr_q nr_r ng_w ng_q ng_r oa_w oa_q oa_r oa_fn al_w al_q al_r al_fn ov_w ov_q ov_r ov_fn so_w so_q so_r so_fn il_w il_q il_r il_fn oi_w oi_q oi_r oi_fn av_w av_q av_r av_fn nm_w nm_q nm_r nm_fn ef_i2r ef_r2s ef_mkfn ef_idxp_adr ef_calld capsOk DV.cell List.all_cons List.all_nil rk_own_t lo_own_t lk_f lk_t pr_own_t mutB ak_calld hk_calld iw_calld iw_mkfn iw_i2r iw_r2s bw_and bw_or bw_xor bw_andNot bw_eql bw_neq sw_shl sw_shr sq_shl gEnv_nil rk_adr ok_adr lo_adr pr_adr oa_adr capL capArg DV.cap ak_mkfn hk_mkfn ef_callm gf_ap ga_nil ga_cons tgv_own gk_e gk_giv gk_i gk_y gk_b gk_s gk_w gk_q gk_r gk_fn gk_st gk_sl gk_own gk_oad gk_adr gk_nl gk_np rk_giv ok_giv lo_giv pr_giv oa_giv iw_callm hk_callm ak_callm is_callm ia_callm tg_callm md_callm ef_i2q ef_q2i ef_q2q iw_i2q iw_q2i iw_q2q ia_i2q ia_q2i ia_q2q bq_and bq_add bq_shr sq_shr tgv_nil gk_ref rk_ref ok_ref lo_ref pr_ref oa_ref retC_fn nr_fn ef_load_adr_fn ks_close cls_oad
attribute [local congr] ifP_congr nxP_congr nxR_congr nxT_congr nxG_congr nxF_congr ghK_congr gate_congr nx_congr nxD_congr runL_congr runD_congr eff_congr calL_congr ret2_congr seqK_congr regK_congr condK_congr endK_congr drK_congr nxW_congr
attribute [local simp ↓] nxT_some rt_nil rt_gen rt_gate nxP_some rq_nil rq_gen rq_gate nxR_some ru_nil ru_gen ru_gate nxG_some rg_nil rg_gen rg_gate nxF_some rf_nil rf_gen rf_gate ks_promote ks_freeze frz_own ks_rename ghK_some gate_tt gate_tf gate_ft gate_ff gate_u nx_some nxD_some rl_nil rl_mv rl_gen rl_gate rd_nil rd_mv rd_gen rd_gate rd_free rr_false rr_true drK_some drK_none nxW_some rw_nil rw_gen rw_gate ks_region ks_seq ks_cond ks_block seqK_n seqK_e seqK_r regK_some condK_t condK_f blkK_n blkK_r endK_n endK_r calL_some ret2_some opv_t opv_c
section
attribute [-simp] DV.cells
attribute [local simp] sliceD cells_st cells_sl cells_i cells_y cells_b cells_s cells_w
attribute [local simp] lend_eR al_eR lend_eN adopt_eN new_eN
theorem cells_cel (k n : Nat) : (DV.cel k n).cells = [.cel k n] := rfl
theorem noc_i (xs : List Int) : noCelL (xs.map DV.i) = true := by rw [noCelL_all, List.all_map, List.all_eq_true]; intro x _; rfl
theorem noc_y (xs : List Nat) : noCelL (xs.map DV.y) = true := by rw [noCelL_all, List.all_map, List.all_eq_true]; intro x _; rfl
theorem noc_eN (L : List (List Int)) : noCelL (L.map eN) = true := by
  rw [noCelL_all, List.all_map, List.all_eq_true]
  intro x _
  show noCelL (x.map DV.i) = true
  exact noc_i x
theorem c_odd0 (bs : List Nat) (p : Int) : call lf n_spec_l20Rd_odd [.ref (.st [.sl 0 (bs.map .y), .i p]), .i 0] = some (.b false, [.st [.sl 0 (bs.map .y), .i p]]) := by
  rw [call_k lf n_spec_l20Rd_odd _ (F := F_spec_l20Rd_odd) rfl rfl]
  simp [F_spec_l20Rd_odd]
theorem c_l20OrderG {bs : List Nat} (hb : ∀ y ∈ bs, y < 256) (hl : bs.length ≤ 2000) {p : Int} {m : Nat} (h0 : 0 ≤ p) (h1 : p < 700000) (hm : m ≤ 5) :
    ∃ us : List Int, us.length = m ∧ call lf n_spec_l20Order [.ref (.st [.sl 0 (bs.map .y), .i p]), .i m, .i 0] = some (.fr 1 (us.map .i), [.st [.sl 0 (bs.map .y), .i (p + m)]]) := by
  obtain ⟨us, u1, L⟩ := l_l20Order hb hl m hm 0 m 0 p 5640 [] (.inl rfl) h0 (by omega) (by omega) (by rfl)
  have lu := perm_len u1
  simp only [Int.natCast_zero, List.map_nil] at L
  have k2 := c_odd0 bs (p + m)
  refine ⟨us, lu, ?_⟩
  rw [call_k lf n_spec_l20Order _ (F := F_spec_l20Order) rfl rfl]
  generalize hq : p + (m : Int) = q at *
  simp [F_spec_l20Order, L, k2, lu]
attribute [local simp] cells_cel noc_i noc_y noc_eN noCelE noCelO noCelL DV.noCel
/-- the rows that are done, the row that grows -/
def stG2 (bs : List Nat) (n : Int) (os : List Int) (init : List (List Int)) (last : List Int) (i : Nat) (p : Int) : LS :=
  ⟨[(0, .oad 23 1 0 0), (2, .i n), (7, .own 6664 os.length 0 os.length), (8, .own 7176 (init.length + 1) 0 (init.length + 1)), (9, .i i)],
    [(23, [.st [.sl 0 (bs.map .y), .i p]]), (6664, os.map .i), (7176, init.map eN ++ [.cel 15373 last.length]), (15373, last.map .i)]⟩
set_option maxHeartbeats 8000000 in
theorem g2_step {bs : List Nat} (n : Int) (os : List Int) (hos : os.length ≤ 5) (init : List (List Int)) (last : List Int) {i : Nat} {a : Int} (hi : os[i]? = some a) (hil : init.length ≤ 5) (hl : last.length ≤ 5) {p : Int} {b : Bool}
    (k : call lf n_spec_l20Rd_pick [.ref (.st [.sl 0 (bs.map .y), .i p]), .i 2] = some (.i (if b then 0 else 1), [.st [.sl 0 (bs.map .y), .i (p + 1)]])) :
    ex lf F_spec_l20Groups_L0 (stG2 bs n os init last i p) = some (.normal, if b then stG2 bs n os (init ++ [last]) [a] (i + 1) (p + 1) else stG2 bs n os init (last ++ [a]) (i + 1) (p + 1)) := by
  have hlt : i < os.length := (List.getElem?_eq_some_iff.1 hi).1
  have hlt' : (i : Int) < os.length := by omega
  have w1 := wr_succ (k := i) (by omega)
  have a1 := atI_int hi
  have a2 : atN (os.map DV.i) i = some (.i a) := by
    show (os.map DV.i)[i]? = _
    rw [List.getElem?_map, hi]; rfl
  have tk : List.take os.length (os.map DV.i) = os.map .i := List.take_of_length_le (by simp)
  have r3 : ∀ (I : List (List Int)) (x : DV), atN (I.map eN ++ [x]) I.length = some x := fun I x => by
    show (I.map eN ++ [x])[I.length]? = _
    rw [List.getElem?_append_right (by simp)]
    simp
  have s3 : ∀ (I : List (List Int)) (x y : DV), (I.map eN ++ [x]).set I.length y = I.map eN ++ [y] := fun I x y => by
    rw [List.set_append_right _ _ (by simp)]
    simp
  cases b with
  | true =>
    have c1 : init.length + 1 + 1 ≤ bound := by unfold bound; omega
    have w2 : wr (((init.length + 1 + 1 : Nat) : Int) - 1) = ((init.length + 1 : Nat) : Int) := by rw [wr_id (by omega) (by omega)]; omega
    have e0 : (((init.length + 1 : Nat) : Int) == 0) = false := beq_false_of_ne (by omega)
    have r4 := r3 (init ++ [last]) (.cel 15373 0)
    have s4 := s3 (init ++ [last]) (.cel 15373 0) (.cel 15373 1)
    have sh : init.map eN ++ [DV.sl 1 (last.map .i)] = (init ++ [last]).map eN := by rw [List.map_append]; rfl
    have ln : (init ++ [last]).length = init.length + 1 := by simp
    have lM : ((init ++ [last]).map eN).length = init.length + 1 := by simp
    rw [ln] at r4 s4
    have cb : 1 ≤ bound := by unfold bound; omega
    have nM := noc_eN (init ++ [last])
    rw [if_pos rfl] at k
    simp only [if_true]
    unfold stG2
    rw [ln]
    generalize hM : (init ++ [last]).map eN = M at *
    have tkM : List.take (init.length + 1) M = M := List.take_of_length_le (by omega)
    simp [F_spec_l20Groups_L0, hlt, hlt', w1, w2, e0, k, a1, a2, tk, sh, lM, c1, r4, s4, cb, tkM, nM, -Int.natCast_add]
  | false =>
    have w2 : wr (((init.length + 1 : Nat) : Int) - 1) = (init.length : Nat) := by rw [wr_id (by omega) (by omega)]; omega
    have e0 : (((init.length + 1 : Nat) : Int) == 0) = false := beq_false_of_ne (by omega)
    have cb : last.length + 1 ≤ bound := by unfold bound; omega
    unfold stG2
    simp at k
    simp [F_spec_l20Groups_L0, hlt, hlt', w1, w2, e0, k, a1, a2, tk, r3, s3, cb, -Int.natCast_add]
set_option maxHeartbeats 8000000 in
theorem g2_first {bs : List Nat} (n : Int) {os : List Int} (hos : os.length ≤ 5) {a : Int} (hi : os[0]? = some a) (p : Int) :
    ex lf F_spec_l20Groups_L0 ⟨[(0, .oad 23 1 0 0), (2, .i n), (7, .own 6664 os.length 0 os.length), (8, .own 7176 0 0 0), (9, .i 0)], [(23, [.st [.sl 0 (bs.map .y), .i p]]), (6664, os.map .i), (7176, [])]⟩ = some (.normal, stG2 bs n os [] [a] 1 p) := by
  have hlt : 0 < os.length := (List.getElem?_eq_some_iff.1 hi).1
  have a1 := atI_int hi
  simp only [Int.natCast_zero] at a1
  have a2 : atN (os.map DV.i) 0 = some (.i a) := by
    show (os.map DV.i)[0]? = _
    rw [List.getElem?_map, hi]; rfl
  have tk : List.take os.length (os.map DV.i) = os.map .i := List.take_of_length_le (by simp)
  have cb : 1 ≤ bound := by unfold bound; omega
  have w1 : wr (1 : Int) = 1 := wr_id (by omega) (by omega)
  have w0 : wr (0 : Int) = 0 := wr_id (by omega) (by omega)
  unfold stG2
  simp [F_spec_l20Groups_L0, hlt, a1, a2, tk, cb, w0, w1]
theorem g2_loop {bs : List Nat} (hb : ∀ y ∈ bs, y < 256) (hl : bs.length ≤ 2000) (n : Int) (os : List Int) (hos : os.length ≤ 5) : ∀ (d i : Nat) (init : List (List Int)) (last : List Int) (p : Int), i + d = os.length → 1 ≤ i → init.length + 1 ≤ i → init.flatten.length + last.length = i → 0 ≤ p → p + d < 900000 →
    ∃ (init' : List (List Int)) (last' : List Int) (p' : Int), p ≤ p' ∧ p' ≤ p + d ∧ init'.length + 1 ≤ os.length ∧ init'.flatten.length + last'.length = os.length ∧
      ex lf F_spec_l20Groups_W0 (stG2 bs n os init last i p) = some (.exit 0, stG2 bs n os init' last' os.length p') := by
  intro d
  induction d with
  | zero =>
    intro i init last p hi h1 h2 h3 h4 h5
    have e : i = os.length := by omega
    subst e
    refine ⟨init, last, p, by omega, by omega, h2, h3, ?_⟩
    rw [w_spec_l20Groups_0]
    simp [stG2, F_spec_l20Groups_L0]
  | succ d ih =>
    intro i init last p hi h1 h2 h3 h4 h5
    have hk : os[i]? = some os[i] := List.getElem?_eq_getElem (by omega)
    have k := c_pick hb hl (p := p) (n := 2) h4 (by omega) (by omega)
    have bd := pk_bound hb (p := p) (n := 2) h4 (by omega) (by omega)
    by_cases z : pk bs p 2 = 0
    · rw [z] at k
      have S := g2_step n os hos init last hk (by omega) (by omega) (b := true) (p := p) (by simpa using k)
      obtain ⟨i', l', p', q1, q2, q3, q4, q5⟩ := ih (i + 1) (init ++ [last]) [os[i]] (p + 1) (by omega) (by omega) (by simp; omega) (by simp only [List.flatten_append, List.length_append, List.flatten_cons, List.flatten_nil, List.length_nil, List.length_singleton]; omega) (by omega) (by omega)
      refine ⟨i', l', p', by omega, by omega, q3, q4, ?_⟩
      rw [w_spec_l20Groups_0, S]
      simpa using q5
    · have z1 : pk bs p 2 = 1 := by omega
      rw [z1] at k
      have S := g2_step n os hos init last hk (by omega) (by omega) (b := false) (p := p) (by simpa using k)
      obtain ⟨i', l', p', q1, q2, q3, q4, q5⟩ := ih (i + 1) init (last ++ [os[i]]) (p + 1) (by omega) (by omega) (by omega) (by simp only [List.length_append, List.length_singleton]; omega) (by omega) (by omega)
      refine ⟨i', l', p', by omega, by omega, q3, q4, ?_⟩
      rw [w_spec_l20Groups_0, S]
      simpa using q5
set_option maxHeartbeats 8000000 in
theorem c_l20Groups {bs : List Nat} (hb : ∀ y ∈ bs, y < 256) (hl : bs.length ≤ 2000) {p n : Int} {m : Nat} (h0 : 0 ≤ p) (h1 : p < 600000) (hm : m ≤ 5) (hn : 1 ≤ n) (hn2 : n ≤ 1000000) :
    ∃ (R : List (List Int)) (p' : Int), R.length ≤ 6 ∧ R.flatten.length ≤ 6 ∧ p ≤ p' ∧ p' ≤ p + 30 ∧ call lf n_spec_l20Groups [.ref (.st [.sl 0 (bs.map .y), .i p]), .i m, .i n] = some (.fr 1 (R.map eN), [.st [.sl 0 (bs.map .y), .i p']]) := by
  obtain ⟨os, lo, CO⟩ := c_l20OrderG hb hl (p := p) (m := m) h0 (by omega) hm
  obtain ⟨Q, q, S1, b1, b2, b3, b4, W, H⟩ : ∃ (Q : List (List Int)) (q : Int) (S1 : LS), Q.length ≤ 5 ∧ Q.flatten.length ≤ 5 ∧ p ≤ q ∧ q ≤ p + 15 ∧
      ex lf F_spec_l20Groups_W0 ⟨[(0, .oad 23 1 0 0), (2, .i n), (7, .own 6664 os.length 0 os.length), (8, .own 7176 0 0 0), (9, .i 0)], [(23, [.st [.sl 0 (bs.map .y), .i (p + m)]]), (6664, os.map .i), (7176, [])]⟩ = some (.exit 0, S1) ∧
      ∀ X : LC, ex lf (.ghost (.shut 8) X) S1 = ex lf X ⟨[(0, .oad 23 1 0 0), (2, .i n), (7, .own 6664 os.length 0 os.length), (8, .own 7176 Q.length 0 Q.length), (9, .i os.length)], [(23, [.st [.sl 0 (bs.map .y), .i q]]), (6664, os.map .i), (7176, Q.map eN)]⟩ := by
    cases os with
    | nil =>
      refine ⟨[], p + m, ⟨[(0, .oad 23 1 0 0), (2, .i n), (7, .own 6664 0 0 0), (8, .own 7176 0 0 0), (9, .i 0)], [(23, [.st [.sl 0 (bs.map .y), .i (p + m)]]), (6664, []), (7176, [])]⟩, by simp, by simp, by omega, by omega, ?_, fun X => ?_⟩
      · rw [w_spec_l20Groups_0]
        simp [F_spec_l20Groups_L0]
      · simp
    | cons a os =>
      have S := g2_first (bs := bs) n (os := a :: os) (by omega) (a := a) rfl (p + m)
      have lo' : os.length + 1 = m := by simpa using lo
      obtain ⟨I, l, q, q1, q2, q3, q4, q5⟩ := g2_loop hb hl n (a :: os) (by omega) os.length 1 [] [a] (p + m) (by simp; omega) (by omega) (by simp) (by simp) (by omega) (by omega)
      refine ⟨I ++ [l], q, stG2 bs n (a :: os) I l (a :: os).length q, by simp only [List.length_append, List.length_singleton]; omega, by simp only [List.flatten_append, List.length_append, List.flatten_cons, List.flatten_nil, List.length_nil]; omega, by omega, by simp only [List.length_cons] at lo; omega, ?_, fun X => ?_⟩
      · rw [w_spec_l20Groups_0, S]
        exact q5
      · have sh : I.map eN ++ [DV.sl 1 (l.map .i)] = (I ++ [l]).map eN := by rw [List.map_append]; rfl
        have ln : (I ++ [l]).length = I.length + 1 := by simp
        unfold stG2
        rw [ln]
        generalize (I ++ [l]).map eN = M at *
        simp [sh]
  have k2 := c_odd hb hl (p := q) (n := n) (by omega) (by omega) hn hn2
  have tk : List.take Q.length (Q.map eN) = Q.map eN := List.take_of_length_le (by simp)
  have cb : Q.length + 1 ≤ bound := by unfold bound; omega
  cases ho : (pk bs q n == n - 1) with
  | false =>
    rw [ho] at k2
    refine ⟨Q, q + 1, by omega, by omega, by omega, by omega, ?_⟩
    rw [call_k lf n_spec_l20Groups _ (F := F_spec_l20Groups) rfl rfl]
    generalize hpm : p + (m : Int) = pm at *
    simp [F_spec_l20Groups, CO, W, H, k2, tk, -ks_shut]
  | true =>
    rw [ho] at k2
    have k3 := c_pick hb hl (p := q + 1) (n := 2) (by omega) (by omega) (by omega)
    have a3 := pk_bound hb (p := q + 1) (n := 2) (by omega) (by omega) (by omega)
    by_cases z : pk bs (q + 1) 2 = 0
    · rw [z] at k3
      refine ⟨Q ++ [[]], q + 1 + 1, by simp; omega, by simp only [List.flatten_append, List.length_append, List.flatten_cons, List.flatten_nil, List.length_nil]; omega, by omega, by omega, ?_⟩
      rw [call_k lf n_spec_l20Groups _ (F := F_spec_l20Groups) rfl rfl]
      generalize hpm : p + (m : Int) = pm at *
      simp [F_spec_l20Groups, CO, W, H, k2, k3, tk, cb, -ks_shut, eN]
    · have z1 : pk bs (q + 1) 2 = 1 := by omega
      rw [z1] at k3
      refine ⟨Q ++ [[0]], q + 1 + 1, by simp; omega, by simp only [List.flatten_append, List.length_append, List.flatten_cons, List.flatten_nil, List.length_nil, List.length_singleton]; omega, by omega, by omega, ?_⟩
      rw [call_k lf n_spec_l20Groups _ (F := F_spec_l20Groups) rfl rfl]
      generalize hpm : p + (m : Int) = pm at *
      simp [F_spec_l20Groups, CO, W, H, k2, k3, tk, cb, -ks_shut, eN]
end
section
attribute [-simp] DV.cells
attribute [local simp] sliceD cells_st cells_sl cells_i cells_y cells_b cells_s cells_w
attribute [local simp] lend_eR al_eR lend_eN adopt_eN new_eN
theorem c_l20Grouped {bs : List Nat} (hb : ∀ y ∈ bs, y < 256) (hl : bs.length ≤ 2000) {p : Int} (h0 : 0 ≤ p) (h1 : p < 500000) :
    ∃ (us : List T) (R : List (List Int)) (p' : Int), us.length ≤ 5 ∧ R.length ≤ 6 ∧ R.flatten.length ≤ 6 ∧ p ≤ p' ∧ p' ≤ p + 60 ∧
      call lf n_spec_l20Grouped [.ref (.st [.sl 0 (bs.map .y), .i p])] = some (.tup [.fr 2 (us.map e2), .fr 1 (R.map eN)], [.st [.sl 0 (bs.map .y), .i p']]) := by
  obtain ⟨us, p1, u1, u2, u3, U⟩ := c_l20Tests hb hl (p := p) (n := 14) h0 (by omega) (by omega) (by omega)
  obtain ⟨R, p', q1, q2, q3, q4, G⟩ := c_l20Groups hb hl (p := p1) (n := 14) (m := us.length) (by omega) (by omega) u1 (by omega) (by omega)
  refine ⟨us, R, p', u1, q1, q2, by omega, by omega, ?_⟩
  rw [call_k lf n_spec_l20Grouped _ (F := F_spec_l20Grouped) rfl rfl]
  have tk : List.take R.length (R.map eN) = R.map eN := List.take_of_length_le (by simp)
  have tk2 : List.take us.length (us.map e2) = us.map e2 := List.take_of_length_le (by simp)
  simp [F_spec_l20Grouped, U, G, tk, tk2]
theorem c_DrawGroupAverage {bs : List Nat} (hb : ∀ y ∈ bs, y < 256) (hl : bs.length ≤ 1048576) :
    ∃ (us : List T) (R : List (List Int)), us.length ≤ 5 ∧ R.length ≤ 6 ∧ R.flatten.length ≤ 6 ∧ call lf n_spec_DrawGroupAverage [.sl 0 (bs.map .y)] = some (.tup [.fr 2 (us.map e2), .fr 1 (R.map eN)], []) := by
  obtain ⟨c1, c2⟩ := take_b hb
  have o := c_open hl
  generalize bs.take 2000 = cs at *
  obtain ⟨us, R, p', u1, q1, q2, q3, q4, G⟩ := c_l20Grouped c1 c2 (p := 0) (by omega) (by omega)
  refine ⟨us, R, u1, q1, q2, ?_⟩
  rw [call_k lf n_spec_DrawGroupAverage _ (F := F_spec_DrawGroupAverage) rfl rfl]
  have tk : List.take R.length (R.map eN) = R.map eN := List.take_of_length_le (by simp)
  have tk2 : List.take us.length (us.map e2) = us.map e2 := List.take_of_length_le (by simp)
  simp [F_spec_DrawGroupAverage, o, G, tk, tk2]
end
section
attribute [-simp] DV.cells
attribute [local simp] sliceD cells_st cells_sl cells_i cells_y cells_b cells_s cells_w
attribute [local simp] lend_eR al_eR
def tI : Nat → List Nat → List T
  | _, [] => []
  | i, k :: r => (0, (k : Int)) :: ((if i = 0 then [] else [(3, 0)]) ++ tI (i + 1) r)
def gJ : Nat → List (List Nat) → List T
  | _, [] => []
  | j, g :: R => tI 0 g ++ ((if j = 0 then [] else [(2, 0)]) ++ gJ (j + 1) R)
theorem tI_pos (i : Nat) : ∀ r : List Nat, tI (i + 1) r = r.flatMap fun k : Nat => [(0, (k : Int)), (3, 0)]
  | [] => rfl
  | k :: r => by simp [tI, tI_pos (i + 1) r]
theorem tI_orL : ∀ g : List Nat, tI 0 g = orL g
  | [] => rfl
  | k :: r => by simp [tI, orL, tI_pos]
theorem gJ_pos (j : Nat) : ∀ R : List (List Nat), gJ (j + 1) R = R.flatMap fun g => orL g ++ [(2, 0)]
  | [] => rfl
  | g :: R => by simp [gJ, gJ_pos (j + 1) R, tI_orL]
theorem gJ_grL : ∀ L : List (List Nat), gJ 0 L = grL L
  | [] => rfl
  | g :: R => by simp [gJ, grL, gJ_pos, tI_orL]
theorem tI_len : ∀ (r : List Nat) (i : Nat), (tI i r).length ≤ 2 * r.length
  | [], i => by simp [tI]
  | k :: r, i => by
    have := tI_len r (i + 1)
    simp only [tI, List.length_cons, List.length_append]
    split <;> simp <;> omega
def stT1 (A : List (List Int)) (g : List Nat) (acc : List T) (j i : Nat) : LS :=
  ⟨[(5, .own 2576 acc.length 0 acc.length), (6, .i j), (14, .sl 0 (A.map eR)), (15, .i A.length), (16, .i j), (21, .sl 0 ((ni g).map .i)), (22, .i g.length), (23, .i i)], [(2576, acc.map e2)]⟩
theorem t_inner (A : List (List Int)) (g : List Nat) (j : Nat) (h5 : g.length ≤ 5) : ∀ (r : List Nat) (i : Nat) (acc : List T), acc.length + 2 * r.length ≤ 1000 → g.drop i = r → i + r.length = g.length →
    ex lf F_impl_GroupTerm_W1 (stT1 A g acc j i) = some (.exit 2, stT1 A g (acc ++ tI i r) j g.length) := by
  intro r
  induction r with
  | nil =>
    intro i acc hl hd hi
    have e : i = g.length := by simpa using hi
    subst e
    rw [w_impl_GroupTerm_1]
    simp [stT1, F_impl_GroupTerm_L1, tI]
  | cons k r ih0 =>
    intro i acc hl hd hi
    obtain ⟨k1, k2, k3⟩ := drop_cons hd
    simp only [List.length_cons] at hl hi
    obtain ⟨a1, a2⟩ := at_ni k2
    have k1' : (i : Int) < g.length := by omega
    have ng := ni_len g
    have w1 := wr_succ (k := i) (by omega)
    have b1 : acc.length + 1 ≤ bound := by unfold bound; omega
    have b2 : acc.length + 1 + 1 ≤ bound := by unfold bound; omega
    rw [w_impl_GroupTerm_1]
    have w0 : wr (1 : Int) = 1 := wr_id (by omega) (by omega)
    cases i with
    | zero =>
      simp only [Int.natCast_zero] at a1
      have ih := ih0 1 (acc ++ [(0, (k : Int))]) (by simp; omega) k3 (by omega)
      have e : acc ++ tI 0 (k :: r) = (acc ++ [(0, (k : Int))]) ++ tI 1 r := by simp [tI]
      rw [e]
      unfold stT1 at *
      simp [F_impl_GroupTerm_L1, k1, ng, a1, a2, b1, e2, w0] at ih ⊢
      first | exact ih | simp [ih, -Int.natCast_add]
    | succ i =>
      have ih := ih0 (i + 1 + 1) (acc ++ [(0, (k : Int)), (3, 0)]) (by simp; omega) k3 (by omega)
      have e : acc ++ tI (i + 1) (k :: r) = (acc ++ [(0, (k : Int)), (3, 0)]) ++ tI (i + 1 + 1) r := by simp [tI]
      rw [e]
      have gq : 0 < i + 1 := by omega
      have tk : List.take (acc.length + 1) (acc.map e2 ++ [DV.st [.i 0, .i (k : Int)]]) = acc.map e2 ++ [DV.st [.i 0, .i (k : Int)]] := List.take_of_length_le (by simp)
      unfold stT1 at *
      generalize i + 1 = q at *
      simp [F_impl_GroupTerm_L1, k1, k1', ng, a1, a2, b1, b2, e2, gq, tk, w1, -Int.natCast_add] at ih ⊢
      first | exact ih | simp [ih, -Int.natCast_add]
def stT0 (A : List (List Int)) (acc : List T) (j : Nat) : LS :=
  ⟨[(5, .own 2576 acc.length 0 acc.length), (14, .sl 0 (A.map eR)), (15, .i A.length), (16, .i j)], [(2576, acc.map e2)]⟩
theorem t_outer (A : List (List Int)) (hA : A.length ≤ 1000) : ∀ (L : List (List Nat)) (j : Nat) (acc : List T), (∀ g ∈ L, g.length ≤ 5) → acc.length + (2 * L.flatten.length + L.length) ≤ 1000 → A.drop j = L.map ni → j + L.length = A.length →
    ex lf F_impl_GroupTerm_W0 (stT0 A acc j) = some (.exit 0, stT0 A (acc ++ gJ j L) A.length) := by
  intro L
  induction L with
  | nil =>
    intro j acc h5 hl hd hj
    have e : j = A.length := by simpa using hj
    subst e
    rw [w_impl_GroupTerm_0]
    simp [stT0, F_impl_GroupTerm_L0, gJ]
  | cons g L ih0 =>
    intro j acc h5 hl hd hj
    rw [List.map_cons] at hd
    obtain ⟨k1, k2, k3⟩ := drop_cons hd
    simp only [List.length_cons, List.flatten_cons, List.length_append] at hl hj
    have at1 := at_eR k2
    have k1' : (j : Int) < A.length := by omega
    have ng := ni_len g
    have w1 := wr_succ (k := j) (by omega)
    have g5 := h5 g (by simp)
    have I := t_inner A g j g5 g 0 acc (by omega) rfl (by omega)
    have tl := tI_len g 0
    have b1 : (acc ++ tI 0 g).length + 1 ≤ bound := by rw [List.length_append]; unfold bound; omega
    rw [w_impl_GroupTerm_0]
    unfold stT1 at I
    unfold stT0 at *
    simp only [Int.natCast_zero] at I
    have w0 : wr (1 : Int) = 1 := wr_id (by omega) (by omega)
    cases j with
    | zero =>
      try simp only [Int.natCast_zero] at at1
      have ih := ih0 1 (acc ++ tI 0 g) (fun x hx => h5 x (by simp [hx])) (by rw [List.length_append]; omega) k3 (by omega)
      have e : acc ++ gJ 0 (g :: L) = (acc ++ tI 0 g) ++ gJ 1 L := by simp [gJ]
      rw [e]
      generalize acc ++ tI 0 g = Q at *
      simp [F_impl_GroupTerm_L0, k1, at1, ng, w0, -Int.natCast_add] at ih I ⊢
      first | exact ih | simp [I, ih, w0, -Int.natCast_add]
    | succ j =>
      have ih := ih0 (j + 1 + 1) (acc ++ tI 0 g ++ [(2, 0)]) (fun x hx => h5 x (by simp [hx])) (by simp only [List.length_append, List.length_singleton]; omega) k3 (by omega)
      have e : acc ++ gJ (j + 1) (g :: L) = (acc ++ tI 0 g ++ [(2, 0)]) ++ gJ (j + 1 + 1) L := by simp [gJ]
      rw [e]
      have gq : 0 < j + 1 := by omega
      have e2' : ∀ Q : List T, (Q ++ [(2, 0)]).map e2 = Q.map e2 ++ [DV.st [.i 2, .i 0]] := fun Q => by rw [List.map_append]; rfl
      rw [e2'] at ih
      generalize acc ++ tI 0 g = Q at *
      generalize j + 1 = q at *
      have tk : List.take Q.length (Q.map e2) = Q.map e2 := List.take_of_length_le (by simp)
      simp [F_impl_GroupTerm_L0, k1, k1', at1, ng, b1, gq, w1, tk, -Int.natCast_add] at ih I ⊢
      simp [I, ih, gq, b1, w1, -Int.natCast_add]
def gtL (m : Int) (L : List (List Int)) : List T := if gokB m L = true then grL (L.map (List.map Int.toNat)) else []
theorem toNat_ni (N : List (List Nat)) : (N.map ni).map (List.map Int.toNat) = N := by
  rw [List.map_map]
  conv => rhs; rw [← List.map_id N]
  apply List.map_congr_left
  intro g _
  exact ni_toNat g
theorem row_le {m : Nat} {N : List (List Nat)} (G : Gok m N) {g : List Nat} (hg : g ∈ N) : g.length ≤ m := by
  have l := gok_len G
  obtain ⟨A, B, hAB⟩ := List.append_of_mem hg
  rw [hAB, List.flatten_append, List.flatten_cons, List.length_append, List.length_append] at l; omega
theorem rows_le {m : Nat} {N : List (List Nat)} (G : Gok m N) : N.length ≤ m := by
  have l := gok_len G
  have key : ∀ {N : List (List Nat)}, (∀ g ∈ N, g ≠ []) → N.length ≤ N.flatten.length := by
    intro N
    induction N with
    | nil => intro _; simp
    | cons g N ih =>
      intro h
      have := List.length_pos_iff.2 (h g (by simp))
      have := ih (fun x hx => h x (by simp [hx]))
      rw [List.flatten_cons, List.length_append, List.length_cons]; omega
  have := key G.ne
  omega
theorem grL_bd {m : Nat} (h1 : 1 ≤ m) {N : List (List Nat)} (G : Gok m N) : (grL N).length + 1 = 2 * m := by
  have := grL_len (gok_ne h1 G) G.ne
  rw [gok_len G] at this
  exact this
theorem c_impl_GroupTerm (m : Int) (L : List (List Int)) (hb : (L.length : Int) < 1099511627776) : call lf n_impl_GroupTerm [.i m, .sl 0 (L.map eR)] = some (.fr 2 ((gtL m L).map e2), []) := by
  rw [call_k lf n_impl_GroupTerm _ (F := F_impl_GroupTerm) rfl rfl]
  have C := c_impl_GroupsOk m L hb
  cases h : gokB m L with
  | false =>
    rw [h] at C
    have e : gtL m L = [] := by unfold gtL; rw [h]; rfl
    rw [e]
    simp [F_impl_GroupTerm, C]
  | true =>
    rw [h] at C
    have hh := h
    unfold gokB at hh
    rw [Bool.and_eq_true] at hh
    have hm := (orOk_iff.1 hh.2).1
    obtain ⟨n, rfl⟩ : ∃ n : Nat, m = n := ⟨m.toNat, by omega⟩
    obtain ⟨N, rfl, G⟩ := gok_of (by omega) h
    have e : gtL n (N.map ni) = grL N := by unfold gtL; rw [h, toNat_ni]; rfl
    have lN := rows_le G
    have lf' := gok_len G
    have I := t_outer (N.map ni) (by simp; omega) N 0 [] (fun g hg => by have := row_le G hg; omega) (by simp only [List.length_nil]; omega) rfl (by simp)
    unfold stT0 at I
    rw [List.nil_append, gJ_grL] at I
    rw [e]
    generalize grL N = Q at *
    generalize N.map ni = L at *
    have tk : List.take Q.length (Q.map e2) = Q.map e2 := List.take_of_length_le (by simp)
    simp only [List.length_nil, List.map_nil, Int.natCast_zero] at I
    simp [F_impl_GroupTerm, C, I, tk]
end
section
attribute [-simp] DV.cells
attribute [local simp] sliceD cells_st cells_sl cells_i cells_y cells_b cells_s cells_w
attribute [local simp] lend_eR al_eR lend_eN adopt_eN new_eN
theorem at_eN' {A : List (List Int)} {k : Nat} {r : List Int} (h : A[k]? = some r) : atI (A.map eN) (k : Int) = some (.sl 1 (r.map .i)) ∧ atN (A.map eN) k = some (.sl 1 (r.map .i)) := by
  have e : (A.map eN)[k]? = some (.sl 1 (r.map .i)) := by rw [List.getElem?_map, h]; rfl
  refine ⟨?_, e⟩
  simp only [atI, if_pos (Int.natCast_nonneg k)]
  show (A.map eN)[(k : Int).toNat]? = _
  rw [Int.toNat_natCast]; exact e
def stTp (us : List T) (A : List (List Int)) (pr : Int) (k : Nat) : LS := ⟨[(3, .own 7697 us.length 0 us.length), (4, .own 7690 A.length 0 A.length), (5, .i pr), (6, .i k)], [(7690, A.map eN), (7697, us.map e2)]⟩
set_option maxHeartbeats 8000000 in
theorem tp_loop {us : List T} (h : tsOk us = true) {N : List (List Nat)} (G : Gok us.length N) : ∀ (R : List (List Nat)) (k : Nat) (pr : Int), 0 ≤ pr → pr * 6 ^ R.flatten.length ≤ 6 ^ us.length → N.drop k = R → k + R.length = N.length →
    ex lf F_laws_FnGroupsTrue_W0 (stTp us (N.map ni) pr k) = some (.exit 0, stTp us (N.map ni) (pr * grP us R) N.length) := by
  have h' := tsOk_iff.1 h
  have lN := rows_le G
  have lA : (N.map ni).length = N.length := by simp
  have tk1 := tk_e2 us
  have tk2 : List.take N.length ((N.map ni).map eN) = (N.map ni).map eN := List.take_of_length_le (by simp)
  have gk := gok_to (m := us.length) (by omega) G
  intro R
  induction R with
  | nil =>
    intro k pr p0 p1 hd hk
    have e : k = N.length := by simpa using hk
    subst e
    rw [w_laws_FnGroupsTrue_0]
    simp [stTp, F_laws_FnGroupsTrue_L0, grP, lA]
  | cons g R ih0 =>
    intro k pr p0 p1 hd hk
    obtain ⟨k1, k2, k3⟩ := drop_cons hd
    simp only [List.length_cons] at hk
    have k1' : (k : Int) < N.length := by omega
    have gm := List.mem_of_getElem? k2
    have gl := G.lt g gm
    have g5 : g.length ≤ 5 := by have := row_le G gm; omega
    have C := c_impl_GroupCost us (N.map ni) (k : Int) (by omega) (by omega)
    have ok : gkO us (N.map ni) (k : Int) = true := by
      unfold gkO
      rw [h, gk]
      exact decide_eq_true (by rw [lA]; omega)
    have eg : gkG (N.map ni) (k : Int) = g := by
      unfold gkG
      rw [Int.toNat_natCast, List.getD_eq_getElem?_getD, List.getElem?_map, k2]
      exact ni_toNat g
    unfold gkC gkN at C
    rw [ok, if_pos rfl, if_pos rfl, eg] at C
    obtain ⟨a1, a2⟩ := at_eN' (A := N.map ni) (k := k) (r := ni g) (by rw [List.getElem?_map, k2]; rfl)
    have ng := ni_len g
    have P := c_power (g.length : Int) (by omega) (by omega)
    rw [Int.toNat_natCast] at P
    obtain ⟨b1, b2⟩ := grN_bd h'.2 gl
    have w1 := wr_succ (k := k) (by omega)
    have pg := p6 (n := g.length) g5
    have w2 : wr (6 ^ g.length - grN us g) = 6 ^ g.length - grN us g := wr_id (by omega) (by omega)
    rw [List.flatten_cons, List.length_append, Int.pow_add] at p1
    have pR : (1 : Int) ≤ 6 ^ R.flatten.length := Int.pow_pos (by omega)
    have pu := p6 (n := us.length) (by omega)
    have m0 : 0 ≤ pr * (6 ^ g.length - grN us g) := Int.mul_nonneg p0 (by omega)
    have m1 : pr * (6 ^ g.length - grN us g) * 6 ^ R.flatten.length ≤ 6 ^ us.length := by
      refine Int.le_trans ?_ p1
      rw [← Int.mul_assoc]
      exact Int.mul_le_mul_of_nonneg_right (Int.mul_le_mul_of_nonneg_left (by omega) p0) (by omega)
    have m2 : pr * (6 ^ g.length - grN us g) ≤ 7776 := by
      have : pr * (6 ^ g.length - grN us g) * 1 ≤ pr * (6 ^ g.length - grN us g) * 6 ^ R.flatten.length := Int.mul_le_mul_of_nonneg_left pR m0
      omega
    have w3 : wr (pr * (6 ^ g.length - grN us g)) = pr * (6 ^ g.length - grN us g) := wr_id (by omega) (by omega)
    have ih := ih0 (k + 1) (pr * (6 ^ g.length - grN us g)) m0 m1 k3 (by omega)
    rw [show pr * grP us (g :: R) = pr * (6 ^ g.length - grN us g) * grP us R by simp only [grP]; rw [Int.mul_assoc]]
    rw [w_laws_FnGroupsTrue_0]
    unfold stTp at *
    rw [lA] at ih ⊢
    generalize (6 : Int) ^ g.length = P6 at *
    generalize grN us g = q at *
    generalize grC us g = c at *
    have lA' : ((N.map ni).map eN).length = N.length := by simp
    generalize (N.map ni) = A at *
    simp [F_laws_FnGroupsTrue_L0, k1, k1', C, a1, a2, ng, P, tk1, tk2, w1, w2, w3, ih, lA, -Int.natCast_add]
set_option maxHeartbeats 16000000 in
theorem law_FnGroupsTrue (x : List Nat) (_ : x.length ≤ Go.maxLen) (hb : ∀ y ∈ x, y < 256) : call lf n_laws_FnGroupsTrue [bys x] = some (.b true, []) := by
  show call lf n_laws_FnGroupsTrue [.sl 0 (x.map .y)] = _
  rw [call_k lf n_laws_FnGroupsTrue _ (F := F_laws_FnGroupsTrue) rfl rfl]
  by_cases hl : 1048576 < (x.length : Int)
  · simp (config := { maxSteps := 2000000 }) [F_laws_FnGroupsTrue, hl]
  · obtain ⟨us, R, u1, r1, r2, d⟩ := c_DrawGroupAverage hb (by omega)
    have C1 := c_spec_TestsOk us (by omega)
    have C2 := c_spec_GroupsOk us.length R (by omega) (by omega)
    have lb1 : us.length ≤ bound := by unfold bound; omega
    have lb2 : R.length ≤ bound := by unfold bound; omega
    have tk1 := tk_e2 us
    have tk2 : List.take R.length (R.map eN) = R.map eN := List.take_of_length_le (by simp)
    cases h1 : tsOk us with
    | false =>
      rw [h1] at C1
      simp (config := { maxSteps := 2000000 }) [F_laws_FnGroupsTrue, hl, d, C1, lb1, lb2, tk1, tk2, c_alive]
    | true =>
      rw [h1] at C1
      cases h2 : gokB us.length R with
      | false =>
        rw [h2] at C2
        simp (config := { maxSteps := 2000000 }) [F_laws_FnGroupsTrue, hl, d, C1, C2, lb1, lb2, tk1, tk2, c_alive]
      | true =>
        rw [h2] at C2
        have h1' := tsOk_iff.1 h1
        obtain ⟨N, rfl, G⟩ := gok_of (by omega) h2
        have L := tp_loop h1 G N 0 1 (by omega) (by rw [gok_len G, Int.one_mul]; exact Int.le_refl _) rfl (by omega)
        have GT := c_impl_GroupTerm us.length (N.map ni) (by omega)
        have e : gtL us.length (N.map ni) = grL N := by unfold gtL; rw [h2, toNat_ni]; rfl
        rw [e] at GT
        obtain ⟨t1, t2, t3, t4⟩ := gr_term (by omega) (by omega) G
        have gb := grL_bd (by omega) G
        have TW := c_impl_TrueWeight us (grL N) (by omega) (by omega)
        have et : twOf us (grL N) = grP us N := by
          unfold twOf
          rw [h1, t1]
          exact gr_weight G t4
        rw [et] at TW
        rw [Int.one_mul] at L
        unfold stTp at L
        simp only [Int.natCast_zero] at L
        have lA : (N.map ni).length = N.length := by simp
        rw [lA] at L lb2 tk2
        have tk3 := tk_e2 (grL N)
        generalize grL N = t at *
        generalize grP us N = p at *
        generalize N.map ni = A at *
        simp (config := { maxSteps := 2000000 }) [F_laws_FnGroupsTrue, hl, d, C1, C2, lb1, lb2, tk1, tk2, tk3, lA, L, GT, TW, c_alive]
end
end Zz
