/- What the functions answer, as equations: EC. No conditions. -/
import Derived.Test.YthgklolghalofaaDoorEBn
import Derived.Test.YthgklolghalofaaDoorEAn
set_option linter.unusedSectionVars false
set_option linter.unusedVariables false
set_option linter.unusedSimpArgs false
namespace Zz
open Go.Lg Md
set_option linter.unusedSimpArgs false
set_option linter.unusedVariables false
attribute [local simp] ia_mv ia_newnil ia_pick ia_bin ia_eqb ia_eqs ia_un ia_len ia_lens ia_chk ia_fld ia_fldv ia_idxa ia_idx ia_load ia_store ia_slice ia_slices ia_make ia_alloc ia_box ia_build ia_bslice ia_app ia_b2i ia_i2b ia_i2i ia_same ia_b2s ia_s2b ia_ext ia_mm ia_idxp ia_calld ia_mkfn ia_i2r ia_r2s ia_call pt_nil pt_cons mi_nil mi_cons md_bslice md_mv md_newnil md_pick md_bin md_eqb md_un md_len md_lens md_fld md_fldv md_idxa md_idx md_load md_store md_slice md_slices md_make md_alloc md_box md_build md_app md_conv md_ext md_call md_calld md_callg md_mkfn md_mm md_idxp md_eqn md_eqs md_chk tg_bslice tg_mv tg_newnil tg_pick tg_bin tg_eqb tg_un tg_len tg_lens tg_fld tg_fldv tg_idxa tg_idx tg_load tg_store tg_slice tg_slices tg_make tg_alloc tg_box tg_build tg_app tg_conv tg_ext tg_call tg_calld tg_callg tg_mkfn tg_mm tg_idxp tg_eqn tg_eqs tg_chk rp_eq ro_eq ifP_t ifP_f np_def ng1_nil ng2_nil ng_gate ng_gen tgA_t tgA_0 tgA_1 tgA_2 aC_nil aC_c aC_t nxP_some nxP_none rq_nil rq_gen rq_gate nxR_some nxR_none ru_nil ru_gen ru_gate pl_none pl_some gt_nil gt_t gt_c di_some di_none an_nil an_cons nxG_some nxG_none rg_nil rg_gen rg_gate oldO_some oa_nil oa_i oa_y oa_b oa_s oa_st oa_sl oa_own oa_oad oa_nl al_nil al_cons al_i al_y al_b al_s al_st al_sl nxF_some nxF_none rf_nil rf_gen rf_gate hk_newnil hk_make hk_alloc hk_box hk_build hk_bslice hk_call hk_store hk_app cl_nil cl_cons ai_nil ai_cons il_i il_y il_b il_s il_st il_sl il_own il_adr il_oad il_ref il_fr il_tup il_nil il_np il_und il_dead ol_adr ol_b ol_dead ol_e ol_fn ol_fr ol_i ol_nil ol_np ol_oad ol_own ol_q ol_r ol_ref ol_s ol_sl ol_st ol_tup ol_und ol_w ol_y oj_e oj_i oj_y oj_b oj_s oj_st oj_sl oj_own oj_adr oj_oad oj_ref oj_fr oj_tup oj_nil oj_np oj_und oj_dead oj_w oj_q oj_r oj_fn oi_e oi_i oi_y oi_b oi_s oi_st oi_sl oi_own oi_adr oi_oad oi_ref oi_fr oi_tup oi_nil oi_np oi_und oi_dead as_nil as_cons ao_nil ao_cons av_i av_y av_b av_s av_st av_sl av_own av_adr av_oad av_ref av_fr av_tup av_nil av_np av_und av_dead pro_cons ghK_some ks_promote ks_freeze frz_own ks_rename ren_own dropO adoptP newP wholeP cutP allOldL ex_skip ex_ret ex_exit ks_region ks_seq ks_cond ks_block seqK_n seqK_e seqK_r regK_some condK_t condK_f blkK_n blkK_r blkK_e endK_n endK_r rr_false rr_true rd_free mo_nil mo_cons drK_some drK_none nxW_some nxW_none rw_nil rw_gen rw_gate ak_newnil ak_make ak_alloc ak_box ak_build ak_bslice ak_call ak_store ak_app iw_mm iw_eqn iw_idxp ef_callg cgK_some gv_e gv_own gv_i gv_sl gv_st gv_b gv_nil gvK_some gvO_some iw_callg ia_callg ak_callg hk_callg is_mv is_newnil is_pick is_bin is_eqb is_eqs is_un is_len is_lens is_chk is_fld is_fldv is_idxa is_idx is_load is_slice is_slices is_make is_alloc is_box is_build is_bslice is_app is_conv is_ext is_call is_calld is_callg is_mkfn is_mm is_idxp is_eqn is_store rt_nil rt_gen rt_gate nxT_some nxT_none ef_eqn_nil ef_eqn_sl ef_eqn_own ia_eqn ef_mmx ef_mmn ef_idxp nxD_some nxD_none ov_i ov_y ov_b ov_s ov_st ov_sl ov_own ov_oad ov_adr ov_nil ov_np ov_und ov_dead ov_tup oldN_some oldN_nil oldN_none so_none so_i so_y so_b so_s so_st so_sl so_adr so_nil so_np so_und so_dead anyM_nil anyM_t anyM_c so_own so_oad rd_nil rd_gen rd_mv rd_gate iw_mv iw_newnil iw_pick iw_bin iw_eqb iw_eqs iw_un iw_len iw_lens iw_chk iw_fld iw_fldv iw_idxa iw_idx iw_load iw_store iw_slice iw_slices iw_make iw_alloc iw_box iw_build iw_bslice iw_app iw_b2i iw_i2b iw_i2i iw_same iw_b2s iw_s2b iw_ext iw_call nm_i nm_y nm_b nm_s nm_st nm_sl nm_own nm_oad nm_adr nm_nil nm_np nm_und nm_dead nm_tup rl_nil rl_gate rl_mv rl_gen opv_t opv_c nx_some nx_none gate_tt gate_tf gate_ft gate_ff gate_u fr_ap em_nil em_i em_y em_b em_s em_st em_sl em_own em_adr em_oad em_ref em_nl em_np em_und em_dead em_tup0 em_tup_i em_tup_b em_tup_s em_tup_sl em_tup_st em_tup_np em_tup_own em_tup_oad mm_i mm_y mm_b mm_s mm_st mm_sl mm_own mm_oad mm_adr mm_nil mm_np mm_und mm_dead ef_mv ef_newnil ef_pickt ef_pickf ef_bin ef_eqb ef_eqs ef_un ef_lens ef_len_sl ef_len_own ef_len_nil ef_chk_adr ef_chk_oad ef_fld_adr ef_fld_oad ef_fldv idxR_some ef_idxa_sl ef_idxa_own ef_idx ef_load_adr_st ef_load_adr_i ef_load_adr_y ef_load_adr_b ef_load_adr_s ef_load_adr_sl atN_nil atN_zero atN_succ ef_load_oad ef_store ef_slice ef_slices ef_make ef_alloc ef_box ef_build ef_bslice ef_app_own ef_app_nil ef_b2i ef_i2b ef_i2i ef_same ef_ext ret1 ret2_some calL_some ef_call retC_i retC_y retC_b retC_s retC_st retC_sl retC_np retC_fr retC_ref retC_tup rk_nil rk_i rk_y rk_b rk_s rk_st rk_sl rk_own rk_oad rk_nl ok_nil ok_i ok_y ok_b ok_s ok_st ok_sl ok_own ok_oad ok_nl lo_nil lo_i lo_y lo_b lo_s lo_st lo_sl lo_own lo_oad lo_nl pr_nil pr_i pr_y pr_b pr_s pr_st pr_sl pr_own pr_nl pr_oad nr_i nr_y nr_b nr_s nr_st nr_sl nr_fr nr_np nr_tup ng_i ng_b ng_s ng_fr ng_nil resV effP_eff binD bi_add bi_sub bi_mul bi_quo bi_rem bi_eql bi_neq bi_lss bi_leq bi_gtr bi_geq bi_shl bi_shr bi_and bi_or bi_xor bi_andNot binY binS unD look put putD LS.get LS.drop killE sweep lookO putO dropO enter leave giveBackL giveBack outs lendArgs lendArg newOuts takeIn takeInL lendL DV.lend adoptL DV.adopt elems apartKs part DV.cells unpart settle settleL over mkId szId fillP fillE tk_e2 tk_i tk_y lt_e2 lt_i lt_y lend_rep al_e2 al_is al_ys al_rep al_app lend_app adopt_app new_app lend_e2 lend_i lend_y adopt_e2 adopt_i adopt_y new_e2 new_i allNewL DV.allNew bounds sliceD sliceS em_w em_q em_r em_fn em_tup_w em_tup_q em_tup_r mm_w mm_q mm_r mm_fn ef_load_adr_w ef_load_adr_q ef_load_adr_r retC_w retC_q retC_r rk_w rk_q rk_r rk_fn ok_w ok_q ok_r ok_fn lo_w lo_q lo_r lo_fn pr_w pr_q pr_r pr_fn nr_w nr_q nr_r ng_w ng_q ng_r oa_w oa_q oa_r oa_fn al_w al_q al_r al_fn ov_w ov_q ov_r ov_fn so_w so_q so_r so_fn il_w il_q il_r il_fn oi_w oi_q oi_r oi_fn av_w av_q av_r av_fn nm_w nm_q nm_r nm_fn ef_i2r ef_r2s ef_mkfn ef_idxp_adr ef_calld capsOk DV.cell List.all_cons List.all_nil rk_own_t lo_own_t lk_f lk_t pr_own_t mutB ak_calld hk_calld iw_calld iw_mkfn iw_i2r iw_r2s bw_and bw_or bw_xor bw_andNot bw_eql bw_neq sw_shl sw_shr sq_shl gEnv_nil rk_adr ok_adr lo_adr pr_adr oa_adr capL capArg DV.cap ak_mkfn hk_mkfn ef_callm gf_ap ga_nil ga_cons tgv_own gk_e gk_giv gk_i gk_y gk_b gk_s gk_w gk_q gk_r gk_fn gk_st gk_sl gk_own gk_oad gk_adr gk_nl gk_np rk_giv ok_giv lo_giv pr_giv oa_giv iw_callm hk_callm ak_callm is_callm ia_callm tg_callm md_callm ef_i2q ef_q2i ef_q2q iw_i2q iw_q2i iw_q2q ia_i2q ia_q2i ia_q2q bq_and bq_add bq_shr sq_shr tgv_nil gk_ref rk_ref ok_ref lo_ref pr_ref oa_ref retC_fn nr_fn ef_load_adr_fn ks_close cls_oad
attribute [local congr] ifP_congr nxP_congr nxR_congr nxT_congr nxG_congr nxF_congr ghK_congr gate_congr nx_congr nxD_congr runL_congr runD_congr eff_congr calL_congr ret2_congr seqK_congr regK_congr condK_congr endK_congr drK_congr nxW_congr
attribute [local simp ↓] nxT_some rt_nil rt_gen rt_gate nxP_some rq_nil rq_gen rq_gate nxR_some ru_nil ru_gen ru_gate nxG_some rg_nil rg_gen rg_gate nxF_some rf_nil rf_gen rf_gate ks_promote ks_freeze frz_own ks_rename ghK_some gate_tt gate_tf gate_ft gate_ff gate_u nx_some nxD_some rl_nil rl_mv rl_gen rl_gate rd_nil rd_mv rd_gen rd_gate rd_free rr_false rr_true drK_some drK_none nxW_some rw_nil rw_gen rw_gate ks_region ks_seq ks_cond ks_block seqK_n seqK_e seqK_r regK_some condK_t condK_f blkK_n blkK_r endK_n endK_r calL_some ret2_some opv_t opv_c
attribute [-simp] DV.cells
attribute [local simp] sliceD cells_st cells_sl cells_i cells_y cells_b cells_s cells_w
attribute [local simp] lend_e3 adopt_e3 new_e3 al_e3 lt_e3
def nm1 (d : Nat → Bool) (i k : Nat) (u : T) : T := if (decide (k < i) && d k) = true then (10 - u.1, u.2) else u
def nmL (us : List T) (d : Nat → Bool) (i : Nat) : List T := us.mapIdx (nm1 d i)
theorem nmL_len (us : List T) (d : Nat → Bool) (i : Nat) : (nmL us d i).length = us.length := by simp [nmL]
theorem nmL_at {us : List T} {d : Nat → Bool} {i k : Nat} : (nmL us d i)[k]? = (us[k]?).map (nm1 d i k) := by simp [nmL]
theorem nmL_zero (us : List T) (d : Nat → Bool) : nmL us d 0 = us := by
  apply List.ext_getElem?
  intro k
  rw [nmL_at]
  cases us[k]? <;> simp [nm1]
theorem nmL_set {us : List T} {d : Nat → Bool} {i : Nat} {c q : Int} (h : us[i]? = some (c, q)) : nmL us d (i + 1) = if d i then (nmL us d i).set i (10 - c, q) else nmL us d i := by
  have hlt := (List.getElem?_eq_some_iff.1 h).1
  apply List.ext_getElem?
  intro k
  by_cases e : k = i
  · subst e
    rw [nmL_at, h]
    cases hd : d k with
    | true =>
      rw [if_pos rfl, List.getElem?_set_self (by rw [nmL_len]; exact hlt)]
      simp [nm1, hd]
    | false =>
      rw [if_neg (by simp), nmL_at, h]
      simp [nm1, hd]
  · have key : (nmL us d (i + 1))[k]? = (nmL us d i)[k]? := by
      rw [nmL_at, nmL_at]
      have w : decide (k < i + 1) = decide (k < i) := decide_eq_decide.2 (by omega)
      unfold nm1
      rw [w]
    rw [key]
    cases hd : d i with
    | true => rw [if_pos rfl, List.getElem?_set_ne (fun h => e h.symm)]
    | false => rw [if_neg (by simp)]
theorem wk_snd : ∀ {us vs : List T} (ks : List Int), vs.map Prod.snd = us.map Prod.snd → wk vs ks = wk us ks
  | [], [], _, _ => rfl
  | [], _ :: _, _, h => by simp at h
  | _ :: _, [], _, h => by simp at h
  | u :: us, v :: vs, [], _ => rfl
  | u :: us, v :: vs, k :: ks, h => by
    simp only [List.map_cons, List.cons.injEq] at h
    show (if k = -1 then 6 else if k = 1 then v.2 else 6 - v.2) * wk vs ks = (if k = -1 then 6 else if k = 1 then u.2 else 6 - u.2) * wk us ks
    rw [wk_snd ks h.2, h.1]
theorem nmL_snd (us : List T) (d : Nat → Bool) (i : Nat) : (nmL us d i).map Prod.snd = us.map Prod.snd := by
  apply List.ext_getElem?
  intro k
  rw [List.getElem?_map, List.getElem?_map, nmL_at]
  cases us[k]? with
  | none => rfl
  | some u => simp only [Option.map_some, nm1]; split <;> rfl
theorem nmL_ok {us : List T} (h : tsOk us = true) (d : Nat → Bool) (i : Nat) : tsOk (nmL us d i) = true := by
  have h' := tsOk_iff.1 h
  refine tsOk_iff.2 ⟨by rw [nmL_len]; exact h'.1, List.all_eq_true.2 fun v hv => ?_⟩
  obtain ⟨k, hk⟩ := List.mem_iff_getElem?.1 hv
  rw [nmL_at] at hk
  cases hu : us[k]? with
  | none => rw [hu] at hk; cases hk
  | some u =>
    rw [hu] at hk
    simp only [Option.map_some, Option.some.injEq] at hk
    have tu := tOk_iff.1 (List.all_eq_true.1 h'.2 u (List.mem_of_getElem? hu))
    rw [← hk]
    unfold nm1
    split
    · exact tOk_iff.2 ⟨by simp only; omega, tu.2⟩
    · exact tOk_iff.2 tu
theorem nmL_cA {us : List T} {d : Nat → Bool} {i k : Nat} (h : k < us.length → d k = false) : cA (nmL us d i) k = cA us k := by
  unfold cA
  rw [List.getD_eq_getElem?_getD, List.getD_eq_getElem?_getD, nmL_at]
  cases hu : us[k]? with
  | none => rfl
  | some u =>
    have hd := h (List.getElem?_eq_some_iff.1 hu).1
    simp [nm1, hd]
def stNm (us t : List T) (n : Int) (id : Nat) (vs : List T) (i : Nat) : LS :=
  ⟨[(3, .sl 1 (us.map e2)), (4, .own 8210 t.length 0 t.length), (5, .i n), (6, .i id), (7, .own 14864 us.length 0 us.length), (8, .i i)], [(8210, t.map e2), (14864, vs.map e2)]⟩
set_option maxHeartbeats 4000000 in
theorem nm_loop {us t : List T} (hu : tsOk us = true) (n : Int) {id : Nat} {d : Nat → Bool} (hd : ∀ k, k < us.length → id.testBit k = d k) :
    ex lf F_laws_FnNoMatter_W0 (stNm us t n id us 0) = some (.exit 0, stNm us t n id (nmL us d us.length) us.length) := by
  have hu' := tsOk_iff.1 hu
  have L := loop_count (lf := lf) (L := F_laws_FnNoMatter_L0) us.length (fun i => stNm us t n id (nmL us d i) i) (x := .exit 0) (R := stNm us t n id (nmL us d us.length) us.length) (fun i hi => by
    have hi' : (i : Int) < us.length := by omega
    obtain ⟨c, q, c1, c2, c3⟩ := cA_at (us := us) (a := (i : Int)) (by omega) hi'
    rw [Int.toNat_natCast] at c3
    have hat : us[i]? = some (c, q) := by
      have e : us.getD i (0, 0) = us[i] := by simp [List.getD, hi]
      rw [List.getElem?_eq_getElem hi, ← e, c3]
    have tq := tOk_iff.1 (List.all_eq_true.1 hu'.2 (c, q) (List.mem_of_getElem? hat))
    simp only at tq
    have w1 : wr ((i : Int) + 1) = ((i + 1 : Nat) : Int) := by rw [wr_id (by omega) (by omega)]; omega
    have w2 : wr (10 - c) = 10 - c := wr_id (by omega) (by omega)
    have bb := bit_bI (a := id) (s := i) (by omega)
    rw [hd i hi] at bb
    have ni : ¬ (i : Int) < 0 := by omega
    have ll := nmL_len us d i
    have lm : ((nmL us d i).map e2).length = us.length := by simp [ll]
    have um : (us.map e2).length = us.length := by simp
    have st := nmL_set (d := d) hat
    obtain ⟨v, hv⟩ : ∃ v, (nmL us d i)[i]? = some v := ⟨(nmL us d i)[i]'(by omega), List.getElem?_eq_getElem (by omega)⟩
    have at2 : atN ((nmL us d i).map e2) i = some (.st [.i v.1, .i v.2]) := by
      show ((nmL us d i).map e2)[i]? = _
      rw [List.getElem?_map, hv]; rfl
    rw [st]
    cases hk : d i with
    | true =>
      rw [hk, bI_1] at bb
      have e2' : e2 (10 - c, q) = .st [.i (10 - c), .i q] := rfl
      rw [if_pos rfl]
      unfold stNm
      rw [List.map_set, e2']
      generalize (nmL us d i).map e2 = M at *
      generalize us.map e2 = U at *
      simp [F_laws_FnNoMatter_L0, hi, hi', bb, ni, w1, w2, c1, lm, um, at2, -Int.natCast_add]
    | false =>
      rw [hk, bI_0] at bb
      rw [if_neg (by simp)]
      unfold stNm
      generalize (nmL us d i).map e2 = M at *
      generalize us.map e2 = U at *
      simp [F_laws_FnNoMatter_L0, hi, hi', bb, ni, w1, lm, um, -Int.natCast_add]) (by
    unfold stNm
    simp [F_laws_FnNoMatter_L0, nmL_len]) (by simp)
  rw [nmL_zero] at L
  exact L
set_option maxHeartbeats 8000000 in
theorem law_FnNoMatter (x : List Nat) (_ : x.length ≤ Go.maxLen) (hb : ∀ y ∈ x, y < 256) : call lf n_laws_FnNoMatter [bys x] = some (.b true, []) := by
  show call lf n_laws_FnNoMatter [.sl 0 (x.map .y)] = _
  rw [call_k lf n_laws_FnNoMatter _ (F := F_laws_FnNoMatter) rfl rfl]
  by_cases hl : 1048576 < (x.length : Int)
  · simp (config := { maxSteps := 2000000 }) [F_laws_FnNoMatter, hl]
  · obtain ⟨us, t, u1, t1, d⟩ := c_DrawBestPlan hb (by omega)
    have D1 := c_impl_BestAverage us t (by omega) (by omega)
    have lb0 : us.length ≤ bound := by unfold bound; omega
    have lb1 : t.length ≤ bound := by unfold bound; omega
    have um : (us.map e2).length = us.length := by simp
    have lu := lend_e2 us
    cases h : tsOk us && tmOk us.length t with
    | false =>
      have e : baOf us t = -1 := by unfold baOf; rw [h]; rfl
      rw [e] at D1
      simp (config := { maxSteps := 2000000 }) [F_laws_FnNoMatter, hl, d, D1, c_alive]
    | true =>
      have e0 : baOf us t = bA us t := by unfold baOf; rw [h]; rfl
      rw [e0] at D1
      rw [Bool.and_eq_true] at h
      obtain ⟨hu, ht⟩ := h
      have hu' := tsOk_iff.1 hu
      have o := bX_ok (t := t) hu'.2
      have n0 := tA_nn (t := t) hu'.2 (bX us t) (non us.length)
      rw [o.2] at n0
      have n0' : ¬ bA us t < 0 := by omega
      have D2 := c_impl_IdleTests us.length t (by omega)
      have ei : idOf us.length t = (tabN (idP us.length t) us.length : Nat) := by unfold idOf; rw [ht, Int.toNat_natCast]; rfl
      rw [ei] at D2
      have hd : ∀ k, k < us.length → (tabN (idP us.length t) us.length).testBit k = idP us.length t k := fun k hk => by rw [tabN_bit, decide_eq_true hk, Bool.true_and]
      have L := nm_loop (t := t) hu (bA us t) hd
      have vo := nmL_ok hu (idP us.length t) us.length
      have vl := nmL_len us (idP us.length t) us.length
      have vo' := tsOk_iff.1 vo
      obtain ⟨q1, q2⟩ := bA_idle (t := t) hu'.2 vo'.2 vl (fun ks => wk_snd ks (nmL_snd us _ _)) (fun k hk hi => nmL_cA fun _ => hi) (fun k hk => nmL_cA fun h => absurd h hk)
      have tmv : tmOk (nmL us (idP us.length t) us.length).length t = true := by rw [vl]; exact ht
      have D3 := c_impl_BestPlan (nmL us (idP us.length t) us.length) t (by omega) (by omega)
      have D4 := c_impl_BestAverage (nmL us (idP us.length t) us.length) t (by omega) (by omega)
      have e4' : baOf (nmL us (idP us.length t) us.length) t = bA us t := by unfold baOf; rw [vo, tmv, ← q1]; rfl
      rw [e4'] at D4
      have eb : bpOk (nmL us (idP us.length t) us.length) t = true := by unfold bpOk; rw [vo, tmv]; rfl
      have ep : bpL (nmL us (idP us.length t) us.length) t = ser (bX (nmL us (idP us.length t) us.length) t) 0 := by unfold bpL; rw [eb]; rfl
      rw [eb, ep] at D3
      have ok := (bX_ok (t := t) vo'.2).1
      rw [vl] at ok
      have hP := ser_pl (m := us.length) (t := t) (by omega) ok
      have D5 := c_impl_AverageBy hu ht hP
      rw [lab_er, q2] at D5
      have z := hP.few
      have tk := tk_e3 (ser (bX (nmL us (idP us.length t) us.length) t) 0)
      have vm : ((nmL us (idP us.length t) us.length).map e2).length = us.length := by simp [vl]
      have lv := lend_e2 (nmL us (idP us.length t) us.length)
      generalize ser (bX (nmL us (idP us.length t) us.length) t) 0 = Q at *
      have lQ : (Q.map e3).length = Q.length := by simp
      have nQ := new_e3 Q
      have aQ := fun x => adopt_e3 x Q
      have leQ := lend_e3 Q
      generalize Q.map e3 = M at *
      generalize tabN (idP us.length t) us.length = id at *
      generalize nmL us (idP us.length t) us.length = vs at *
      generalize bA us t = a at *
      unfold stNm at L
      simp only [Int.natCast_zero] at L
      have tv : List.take us.length (vs.map e2) = vs.map e2 := List.take_of_length_le (by simp [vl])
      have tu : List.take us.length (us.map e2) = us.map e2 := List.take_of_length_le (by simp)
      have w2 : ∀ e ∈ us.map e2, e.cells.length = 2 := fun e he => by
        obtain ⟨y, _, rfl⟩ := List.mem_map.1 he
        rfl
      simp (config := { maxSteps := 2000000 }) [F_laws_FnNoMatter, hl, d, D1, D2, D3, D4, D5, L, n0', lb0, lb1, um, vm, tv, tu, tk, lQ, nQ, aQ, leQ, if_pos w2, vl, c_alive]
end Zz
