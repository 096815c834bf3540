/- What the functions answer, as equations: EC. No conditions. -/
import Derived.Test.YthgklolghalofaaDoorEBq
import Derived.Test.YthgklolghalofaaDoorEAq
set_option linter.unusedSectionVars false
set_option linter.unusedVariables false
set_option linter.unusedSimpArgs false
namespace Zz
open Go.Lg Md
set_option linter.unusedSimpArgs false
set_option linter.unusedVariables false
attribute [local simp] ia_mv ia_newnil ia_pick ia_bin ia_eqb ia_eqs ia_un ia_len ia_lens ia_chk ia_fld ia_fldv ia_idxa ia_idx ia_load ia_store ia_slice ia_slices ia_make ia_alloc ia_box ia_build ia_bslice ia_app ia_b2i ia_i2b ia_i2i ia_same ia_b2s ia_s2b ia_ext ia_mm ia_idxp ia_calld ia_mkfn ia_i2r ia_r2s ia_call pt_nil pt_cons mi_nil mi_cons md_bslice md_mv md_newnil md_pick md_bin md_eqb md_un md_len md_lens md_fld md_fldv md_idxa md_idx md_load md_store md_slice md_slices md_make md_alloc md_box md_build md_app md_conv md_ext md_call md_calld md_callg md_mkfn md_mm md_idxp md_eqn md_eqs md_chk tg_bslice tg_mv tg_newnil tg_pick tg_bin tg_eqb tg_un tg_len tg_lens tg_fld tg_fldv tg_idxa tg_idx tg_load tg_store tg_slice tg_slices tg_make tg_alloc tg_box tg_build tg_app tg_conv tg_ext tg_call tg_calld tg_callg tg_mkfn tg_mm tg_idxp tg_eqn tg_eqs tg_chk rp_eq ro_eq ifP_t ifP_f np_def ng1_nil ng2_nil ng_gate ng_gen tgA_t tgA_0 tgA_1 tgA_2 aC_nil aC_c aC_t nxP_some nxP_none rq_nil rq_gen rq_gate nxR_some nxR_none ru_nil ru_gen ru_gate pl_none pl_some gt_nil gt_t gt_c di_some di_none an_nil an_cons nxG_some nxG_none rg_nil rg_gen rg_gate oldO_some oa_nil oa_i oa_y oa_b oa_s oa_st oa_sl oa_own oa_oad oa_nl al_nil al_cons al_i al_y al_b al_s al_st al_sl nxF_some nxF_none rf_nil rf_gen rf_gate hk_newnil hk_make hk_alloc hk_box hk_build hk_bslice hk_call hk_store hk_app cl_nil cl_cons ai_nil ai_cons il_i il_y il_b il_s il_st il_sl il_own il_adr il_oad il_ref il_fr il_tup il_nil il_np il_und il_dead ol_adr ol_b ol_dead ol_e ol_fn ol_fr ol_i ol_nil ol_np ol_oad ol_own ol_q ol_r ol_ref ol_s ol_sl ol_st ol_tup ol_und ol_w ol_y oj_e oj_i oj_y oj_b oj_s oj_st oj_sl oj_own oj_adr oj_oad oj_ref oj_fr oj_tup oj_nil oj_np oj_und oj_dead oj_w oj_q oj_r oj_fn oi_e oi_i oi_y oi_b oi_s oi_st oi_sl oi_own oi_adr oi_oad oi_ref oi_fr oi_tup oi_nil oi_np oi_und oi_dead as_nil as_cons ao_nil ao_cons av_i av_y av_b av_s av_st av_sl av_own av_adr av_oad av_ref av_fr av_tup av_nil av_np av_und av_dead pro_cons ghK_some ks_promote ks_freeze frz_own ks_rename ren_own dropO adoptP newP wholeP cutP allOldL ex_skip ex_ret ex_exit ks_region ks_seq ks_cond ks_block seqK_n seqK_e seqK_r regK_some condK_t condK_f blkK_n blkK_r blkK_e endK_n endK_r rr_false rr_true rd_free mo_nil mo_cons drK_some drK_none nxW_some nxW_none rw_nil rw_gen rw_gate ak_newnil ak_make ak_alloc ak_box ak_build ak_bslice ak_call ak_store ak_app iw_mm iw_eqn iw_idxp ef_callg cgK_some gv_e gv_own gv_i gv_sl gv_st gv_b gv_nil gvK_some gvO_some iw_callg ia_callg ak_callg hk_callg is_mv is_newnil is_pick is_bin is_eqb is_eqs is_un is_len is_lens is_chk is_fld is_fldv is_idxa is_idx is_load is_slice is_slices is_make is_alloc is_box is_build is_bslice is_app is_conv is_ext is_call is_calld is_callg is_mkfn is_mm is_idxp is_eqn is_store rt_nil rt_gen rt_gate nxT_some nxT_none ef_eqn_nil ef_eqn_sl ef_eqn_own ia_eqn ef_mmx ef_mmn ef_idxp nxD_some nxD_none ov_i ov_y ov_b ov_s ov_st ov_sl ov_own ov_oad ov_adr ov_nil ov_np ov_und ov_dead ov_tup oldN_some oldN_nil oldN_none so_none so_i so_y so_b so_s so_st so_sl so_adr so_nil so_np so_und so_dead anyM_nil anyM_t anyM_c so_own so_oad rd_nil rd_gen rd_mv rd_gate iw_mv iw_newnil iw_pick iw_bin iw_eqb iw_eqs iw_un iw_len iw_lens iw_chk iw_fld iw_fldv iw_idxa iw_idx iw_load iw_store iw_slice iw_slices iw_make iw_alloc iw_box iw_build iw_bslice iw_app iw_b2i iw_i2b iw_i2i iw_same iw_b2s iw_s2b iw_ext iw_call nm_i nm_y nm_b nm_s nm_st nm_sl nm_own nm_oad nm_adr nm_nil nm_np nm_und nm_dead nm_tup rl_nil rl_gate rl_mv rl_gen opv_t opv_c nx_some nx_none gate_tt gate_tf gate_ft gate_ff gate_u fr_ap em_nil em_i em_y em_b em_s em_st em_sl em_own em_adr em_oad em_ref em_nl em_np em_und em_dead em_tup0 em_tup_i em_tup_b em_tup_s em_tup_sl em_tup_st em_tup_np em_tup_own em_tup_oad mm_i mm_y mm_b mm_s mm_st mm_sl mm_own mm_oad mm_adr mm_nil mm_np mm_und mm_dead ef_mv ef_newnil ef_pickt ef_pickf ef_bin ef_eqb ef_eqs ef_un ef_lens ef_len_sl ef_len_own ef_len_nil ef_chk_adr ef_chk_oad ef_fld_adr ef_fld_oad ef_fldv idxR_some ef_idxa_sl ef_idxa_own ef_idx ef_load_adr_st ef_load_adr_i ef_load_adr_y ef_load_adr_b ef_load_adr_s ef_load_adr_sl atN_nil atN_zero atN_succ ef_load_oad ef_store ef_slice ef_slices ef_make ef_alloc ef_box ef_build ef_bslice ef_app_own ef_app_nil ef_b2i ef_i2b ef_i2i ef_same ef_ext ret1 ret2_some calL_some ef_call retC_i retC_y retC_b retC_s retC_st retC_sl retC_np retC_fr retC_ref retC_tup rk_nil rk_i rk_y rk_b rk_s rk_st rk_sl rk_own rk_oad rk_nl ok_nil ok_i ok_y ok_b ok_s ok_st ok_sl ok_own ok_oad ok_nl lo_nil lo_i lo_y lo_b lo_s lo_st lo_sl lo_own lo_oad lo_nl pr_nil pr_i pr_y pr_b pr_s pr_st pr_sl pr_own pr_nl pr_oad nr_i nr_y nr_b nr_s nr_st nr_sl nr_fr nr_np nr_tup ng_i ng_b ng_s ng_fr ng_nil resV effP_eff binD bi_add bi_sub bi_mul bi_quo bi_rem bi_eql bi_neq bi_lss bi_leq bi_gtr bi_geq bi_shl bi_shr bi_and bi_or bi_xor bi_andNot binY binS unD look put putD LS.get LS.drop killE sweep lookO putO dropO enter leave giveBackL giveBack outs lendArgs lendArg newOuts takeIn takeInL lendL DV.lend adoptL DV.adopt elems apartKs part DV.cells unpart settle settleL over mkId szId fillP fillE tk_e2 tk_i tk_y lt_e2 lt_i lt_y lend_rep al_e2 al_is al_ys al_rep al_app lend_app adopt_app new_app lend_e2 lend_i lend_y adopt_e2 adopt_i adopt_y new_e2 new_i allNewL DV.allNew bounds sliceD sliceS em_w em_q em_r em_fn em_tup_w em_tup_q em_tup_r mm_w mm_q mm_r mm_fn ef_load_adr_w ef_load_adr_q ef_load_adr_r retC_w retC_q retC_r rk_w rk_q rk_r rk_fn ok_w ok_q ok_r ok_fn lo_w lo_q lo_r lo_fn pr_w pr_q pr_r pr_fn nr_w nr_q nr_r ng_w ng_q ng_r oa_w oa_q oa_r oa_fn al_w al_q al_r al_fn ov_w ov_q ov_r ov_fn so_w so_q so_r so_fn il_w il_q il_r il_fn oi_w oi_q oi_r oi_fn av_w av_q av_r av_fn nm_w nm_q nm_r nm_fn ef_i2r ef_r2s ef_mkfn ef_idxp_adr ef_calld capsOk DV.cell List.all_cons List.all_nil rk_own_t lo_own_t lk_f lk_t pr_own_t mutB ak_calld hk_calld iw_calld iw_mkfn iw_i2r iw_r2s bw_and bw_or bw_xor bw_andNot bw_eql bw_neq sw_shl sw_shr sq_shl gEnv_nil rk_adr ok_adr lo_adr pr_adr oa_adr capL capArg DV.cap ak_mkfn hk_mkfn ef_callm gf_ap ga_nil ga_cons tgv_own gk_e gk_giv gk_i gk_y gk_b gk_s gk_w gk_q gk_r gk_fn gk_st gk_sl gk_own gk_oad gk_adr gk_nl gk_np rk_giv ok_giv lo_giv pr_giv oa_giv iw_callm hk_callm ak_callm is_callm ia_callm tg_callm md_callm ef_i2q ef_q2i ef_q2q iw_i2q iw_q2i iw_q2q ia_i2q ia_q2i ia_q2q bq_and bq_add bq_shr sq_shr tgv_nil gk_ref rk_ref ok_ref lo_ref pr_ref oa_ref retC_fn nr_fn ef_load_adr_fn ks_close cls_oad
attribute [local congr] ifP_congr nxP_congr nxR_congr nxT_congr nxG_congr nxF_congr ghK_congr gate_congr nx_congr nxD_congr runL_congr runD_congr eff_congr calL_congr ret2_congr seqK_congr regK_congr condK_congr endK_congr drK_congr nxW_congr
attribute [local simp ↓] nxT_some rt_nil rt_gen rt_gate nxP_some rq_nil rq_gen rq_gate nxR_some ru_nil ru_gen ru_gate nxG_some rg_nil rg_gen rg_gate nxF_some rf_nil rf_gen rf_gate ks_promote ks_freeze frz_own ks_rename ghK_some gate_tt gate_tf gate_ft gate_ff gate_u nx_some nxD_some rl_nil rl_mv rl_gen rl_gate rd_nil rd_mv rd_gen rd_gate rd_free rr_false rr_true drK_some drK_none nxW_some rw_nil rw_gen rw_gate ks_region ks_seq ks_cond ks_block seqK_n seqK_e seqK_r regK_some condK_t condK_f blkK_n blkK_r endK_n endK_r calL_some ret2_some opv_t opv_c
section
attribute [-simp] DV.cells
attribute [local simp] sliceD cells_st cells_sl cells_i cells_y cells_b cells_s cells_w
attribute [local simp] lend_e3 adopt_e3 new_e3 al_e3 lt_e3
theorem c_nextIn (k : Nat) (no ye : Int) (s : Nat) (hk : k ≤ 40) : call lf n_impl_Choice_nextIn [.st [.i k, .i no, .i ye], .i s] = some (.i (if s.testBit k then ye else no), []) := by
  have C := c_impl_outcomeIn s k (by omega) (by omega)
  rw [Int.toNat_natCast] at C
  have e : (s : Int) / 2 ^ k % 2 = bI (s.testBit k) := by
    unfold bI
    rw [Nat.testBit_eq_decide_div_mod_eq]
    have : (s : Int) / 2 ^ k % 2 = ((s / 2 ^ k % 2 : Nat) : Int) := by simp
    rw [this]
    by_cases h : s / 2 ^ k % 2 = 1
    · simp [h]
    · have : s / 2 ^ k % 2 = 0 := by omega
      simp [this]
  rw [e] at C
  rw [call_k lf n_impl_Choice_nextIn _ (F := F_impl_Choice_nextIn) rfl rfl]
  cases h : s.testBit k with
  | true =>
    rw [h, bI_1] at C
    simp [F_impl_Choice_nextIn, C]
  | false =>
    rw [h, bI_0] at C
    simp [F_impl_Choice_nextIn, C]
def stCb (us : List T) (P : List C3) (s : Int) (cost some_ at_ : Int) : LS := ⟨[(0, .sl 0 (us.map e2)), (2, .sl 0 (P.map e3)), (3, .i s), (12, .i cost), (13, .i some_), (14, .i at_)], []⟩
set_option maxHeartbeats 4000000 in
theorem cb_to {us : List T} (hu : us.all tOk = true) (hm : us.length ≤ 5) {P : List C3} {s : Nat} : ∀ (L : LT) (a sum : Int) (so : Nat), enc P a L → (∀ k ∈ pth L.er s, k < us.length) → so < 2 ^ us.length → 0 ≤ sum → sum + 9 * (pth L.er s).length ≤ 100000 →
    ex lf F_impl_CostBy_W0 (stCb us P s sum so a) = some (.exit 0, stCb us P s (sum + tC us L.er s) (bitsN so (pth L.er s) : Nat) (-1))
  | .stop, a, sum, so, he, hp, hso, h0, h1 => by
    have he : a = -1 := he
    subst he
    rw [w_impl_CostBy_0]
    simp only [LT.er, tC, pth, bitsN, Int.add_zero]
    simp only [stCb]
    simp [F_impl_CostBy_L0]
  | .ask p k n y, a, sum, so, ⟨e, no, ye, h1, h2, h3, h4, h5⟩, hp, hso, hs0, hs1 => by
    subst e
    simp only [LT.er, pth] at hp hs1
    have hk : k < us.length := hp k List.mem_cons_self
    have AT := at_e3 h1
    have pl : p < P.length := (List.getElem?_eq_some_iff.1 h1).1
    have pl' : (p : Int) < P.length := by omega
    have pn : ((p : Int) != -1) = true := bne_iff_ne.2 (by omega)
    obtain ⟨c, cq, c1, c2, c3⟩ := cA_at (us := us) (a := (k : Int)) (by omega) (by omega)
    rw [Int.toNat_natCast] at c2
    have cn := cA_nn hu k
    have hq' : (P.map e3).length = P.length := by simp
    have ul : (us.map e2).length = us.length := by simp
    have kl' : (k : Int) < us.length := by omega
    have NX := c_nextIn k no ye s (by omega)
    have so32 : so < 32 := by
      have : 2 ^ us.length ≤ 2 ^ 5 := Nat.pow_le_pow_right (by omega) hm
      omega
    have O := or_i (so := so) (a := (k : Int)) so32 (by omega) (by omega)
    rw [Int.toNat_natCast] at O
    have so' : so ||| 2 ^ k < 2 ^ us.length := or_lt2 hso hk
    simp only [List.length_cons] at hs1
    have w2 : wr (sum + c) = sum + cA us k := by rw [c2, wr_id (by omega) (by omega)]
    have nk : ¬ (k : Int) < 0 := by omega
    simp only [LT.er, tC, pth, bitsN]
    rw [w_impl_CostBy_0]
    cases hb : s.testBit k with
    | true =>
      rw [hb] at NX
      simp only [if_true] at NX
      rw [hb, if_pos rfl] at hp hs1
      have ih := cb_to hu hm y ye (sum + cA us k) (so ||| 2 ^ k) h5 (fun j hj => hp j (List.mem_cons_of_mem _ hj)) so' (by omega) (by omega)
      rw [if_pos rfl, if_pos rfl, ← Int.add_assoc, ← ih]
      simp only [stCb]
      generalize P.length = N at *
      generalize P.map e3 = E at *
      generalize us.map e2 = U at *
      simp [F_impl_CostBy_L0, AT, pl', pn, c1, hq', ul, kl', NX, O, w2, nk]
    | false =>
      rw [hb] at NX
      simp only [Bool.false_eq_true, if_false] at NX
      rw [hb, if_neg (by simp)] at hp hs1
      have ih := cb_to hu hm n no (sum + cA us k) (so ||| 2 ^ k) h4 (fun j hj => hp j (List.mem_cons_of_mem _ hj)) so' (by omega) (by omega)
      rw [if_neg (by simp), if_neg (by simp), ← Int.add_assoc, ← ih]
      simp only [stCb]
      generalize P.length = N at *
      generalize P.map e3 = E at *
      generalize us.map e2 = U at *
      simp [F_impl_CostBy_L0, AT, pl', pn, c1, hq', ul, kl', NX, O, w2, nk]
theorem c_impl_CostBy {us t : List T} (hu : tsOk us = true) (ht : tmOk us.length t = true) {P : List C3} {L : LT} (h : isPl us.length t P L) {s : Nat} (hs : s < 2 ^ us.length) :
    call lf n_impl_CostBy [.sl 0 (us.map e2), .sl 0 (t.map e2), .sl 0 (P.map e3), .i s] = some (.tup [.i (tC us L.er s), .i (ask0 L.er s : Nat), .b true], []) := by
  have hu' := tsOk_iff.1 hu
  obtain ⟨_, tl, _⟩ := tmOk_iff.1 ht
  have few := h.few
  have C1 := c_impl_TestsOk us (by omega)
  rw [hu] at C1
  have C2 := c_impl_PlanOk (m := us.length) (t := t) (P := P) (by omega) (by omega)
  rw [pk_iff.2 ⟨ht, L, h⟩] at C2
  have C3 := c_impl_StateOk us.length s
  have so : stOk us.length s = true := by
    obtain ⟨p1, p2, p3⟩ := pow5 (m := us.length) (by omega) (by omega)
    simp only [Int.toNat_natCast] at p1 p2 p3
    exact stOk_iff.2 ⟨by omega, by omega, by rw [Int.toNat_natCast]; omega⟩
  rw [so] at C3
  have C4 := c_firstOf P (by omega)
  have nd := pth_nodup L.er (non us.length) s h.ok
  have pk : ∀ k ∈ pth L.er s, k < us.length := fun k hk => by
    have := ks_ex (nd.2 k hk)
    rwa [non_len] at this
  have pl := pth_le L.er s
  have dl := dpT_le L.er (non us.length) (non_len _) h.ok
  rw [uk_non] at dl
  have W := cb_to hu'.2 (by omega) (P := P) (s := s) L (rot P) 0 0 h.e pk (Nat.pow_pos (by omega)) (by omega) (by omega)
  rw [Int.zero_add, show bitsN 0 (pth L.er s) = ask0 L.er s from rfl] at W
  have hLE := lend_e3 P
  simp only [stCb, Int.natCast_zero] at W
  rw [call_k lf n_impl_CostBy _ (F := F_impl_CostBy) rfl rfl]
  generalize tC us L.er s = X at *
  generalize ask0 L.er s = Y at *
  generalize P.map e3 = E at *
  generalize rot P = r0 at *
  simp [F_impl_CostBy, C1, C2, C3, C4, hLE, W]
def csL (us : List T) (x : PT) (N i : Nat) : List Int := (List.range N).map fun k => if k < i then tC us x k else 0
theorem csL_len (us : List T) (x : PT) (N i : Nat) : (csL us x N i).length = N := by simp [csL]
theorem csL_set {us : List T} {x : PT} {N i : Nat} (hi : i < N) : (csL us x N i).set i (tC us x i) = csL us x N (i + 1) := by
  apply List.ext_getElem?
  intro k
  by_cases h : k < N
  · by_cases e : k = i
    · subst e
      rw [List.getElem?_set_self (by simp [csL_len, hi])]
      simp [csL, h]
    · rw [List.getElem?_set_ne (fun q => e q.symm)]
      have e' : k < i ↔ k < i + 1 := by omega
      simp [csL, h, e']
  · rw [List.getElem?_eq_none (by simp [csL_len]; omega), List.getElem?_eq_none (by simp [csL_len]; omega)]
theorem csL_at {us : List T} {x : PT} {N k : Nat} (h : k < N) : (csL us x N N)[k]? = some (tC us x k) := by simp [csL, h]
set_option maxHeartbeats 4000000 in
theorem c_costsBy {us t : List T} (hu : tsOk us = true) (ht : tmOk us.length t = true) {P : List C3} {L : LT} (h : isPl us.length t P L) :
    call lf n_impl_costsBy [.sl 0 (us.map e2), .sl 0 (t.map e2), .sl 0 (P.map e3)] = some (.tup [.fr 1 ((csL us L.er (2 ^ us.length) (2 ^ us.length)).map .i), .b true], []) := by
  have hu' := tsOk_iff.1 hu
  obtain ⟨p1, p2, p3⟩ := pow5 (m := us.length) (by omega) (by omega)
  simp only [Int.toNat_natCast] at p1 p2 p3
  obtain ⟨_, tl, _⟩ := tmOk_iff.1 ht
  have few := h.few
  have C1 := c_impl_TestsOk us (by omega)
  rw [hu] at C1
  have C2 := c_impl_PlanOk (m := us.length) (t := t) (P := P) (by omega) (by omega)
  rw [pk_iff.2 ⟨ht, L, h⟩] at C2
  have C4 := c_impl_statesOf us.length (by omega) (by omega)
  simp only [Int.toNat_natCast] at C4
  rw [← p3] at C4
  have hLE := lend_e3 P
  have LP := loop_count (lf := lf) (L := F_impl_costsBy_L0) (2 ^ us.length) (fun i => ⟨[(0, .sl 0 (us.map e2)), (1, .sl 0 (t.map e2)), (2, .sl 0 (P.map e3)), (9, .own 12808 (2 ^ us.length) 0 (2 ^ us.length)), (27, .i (2 ^ us.length : Nat)), (28, .i i)], [(12808, (csL us L.er (2 ^ us.length) i).map .i)]⟩) (x := .exit 0) (R := ⟨[(0, .sl 0 (us.map e2)), (1, .sl 0 (t.map e2)), (2, .sl 0 (P.map e3)), (9, .own 12808 (2 ^ us.length) 0 (2 ^ us.length)), (27, .i (2 ^ us.length : Nat)), (28, .i (2 ^ us.length : Nat))], [(12808, (csL us L.er (2 ^ us.length) (2 ^ us.length)).map .i)]⟩) (fun i hi => by
    have C := c_impl_CostBy hu ht h hi
    have w1 : wr ((i : Int) + 1) = ((i + 1 : Nat) : Int) := by rw [wr_id (by omega) (by omega)]; omega
    have ll := csL_len us L.er (2 ^ us.length) i
    have st := csL_set (us := us) (x := L.er) (N := 2 ^ us.length) (i := i) hi
    rw [← st]
    obtain ⟨x, hx⟩ : ∃ x : Int, atN ((csL us L.er (2 ^ us.length) i).map DV.i) i = some (.i x) := ⟨(csL us L.er (2 ^ us.length) i)[i]'(by omega), by show ((csL us L.er (2 ^ us.length) i).map DV.i)[i]? = _; rw [List.getElem?_map, List.getElem?_eq_getElem (by omega)]; rfl⟩
    generalize csL us L.er (2 ^ us.length) i = cs at *
    generalize tC us L.er i = c at *
    generalize ask0 L.er i = so at *
    generalize (2 ^ us.length : Nat) = N at *
    generalize P.map e3 = E at *
    have hin : (i : Int) < (N : Int) := by omega
    have hiN : i < N := hi
    simp only [List.map_set]
    simp [F_impl_costsBy_L0, hin, hiN, C, w1, ll, hx, hLE, -Int.natCast_add]) (by
    generalize (2 ^ us.length : Nat) = N at *
    generalize P.map e3 = E at *
    simp [F_impl_costsBy_L0]) (by simp)
  have z : csL us L.er (2 ^ us.length) 0 = List.replicate (2 ^ us.length) 0 := by
    unfold csL
    simp
    apply List.ext_getElem?
    intro k
    by_cases h : k < 2 ^ us.length <;> simp [h]
  rw [z] at LP
  have ll := csL_len us L.er (2 ^ us.length) (2 ^ us.length)
  have lb : ((2 ^ us.length : Nat) : Int) ≤ (bound : Int) := by unfold bound; omega
  rw [call_k lf n_impl_costsBy _ (F := F_impl_costsBy) rfl rfl]
  generalize csL us L.er (2 ^ us.length) (2 ^ us.length) = cs at *
  generalize (2 ^ us.length : Nat) = N at *
  simp only [Int.natCast_zero, List.map_replicate] at LP
  change ex lf F_impl_costsBy_W0 _ = _ at LP
  have n0 : ¬ ((N : Int) < 0) := by omega
  generalize P.map e3 = E at *
  simp [F_impl_costsBy, C1, C2, C4, LP, lb, ll, hLE]
set_option maxHeartbeats 4000000 in
theorem c_impl_AverageBy {us t : List T} (hu : tsOk us = true) (ht : tmOk us.length t = true) {P : List C3} {L : LT} (h : isPl us.length t P L) :
    call lf n_impl_AverageBy [.sl 0 (us.map e2), .sl 0 (t.map e2), .sl 0 (P.map e3)] = some (.i (tA us (non us.length) L.er), []) := by
  have hu' := tsOk_iff.1 hu
  obtain ⟨p1, p2, p3⟩ := pow5 (m := us.length) (by omega) (by omega)
  simp only [Int.toNat_natCast] at p1 p2 p3
  have C := c_costsBy hu ht h
  have hLE := lend_e3 P
  have ll := csL_len us L.er (2 ^ us.length) (2 ^ us.length)
  have LP := loop_count (lf := lf) (L := F_impl_AverageBy_L0) (2 ^ us.length) (fun i => ⟨[(0, .sl 0 (us.map e2)), (9, .i (avN us L.er i)), (21, .own 8201 (2 ^ us.length) 0 (2 ^ us.length)), (22, .i (2 ^ us.length : Nat)), (23, .i i)], [(8201, (csL us L.er (2 ^ us.length) (2 ^ us.length)).map .i)]⟩) (x := .exit 0) (R := ⟨[(0, .sl 0 (us.map e2)), (9, .i (avN us L.er (2 ^ us.length))), (21, .own 8201 (2 ^ us.length) 0 (2 ^ us.length)), (22, .i (2 ^ us.length : Nat)), (23, .i (2 ^ us.length : Nat))], [(8201, (csL us L.er (2 ^ us.length) (2 ^ us.length)).map .i)]⟩) (fun i hi => by
    have W := c_impl_WeightOf us i (by omega)
    rw [wtOf_of hu (by omega) (by omega)] at W
    have e : avN us L.er (i + 1) = avN us L.er i + wt us i * tC us L.er i := rfl
    have b0 := avN_bd hu h.ok (i := i) (by omega)
    have b1 := avN_bd hu h.ok (i := i + 1) (by omega)
    have w1 : wr ((i : Int) + 1) = ((i + 1 : Nat) : Int) := by rw [wr_id (by omega) (by omega)]; omega
    rw [e] at b1 ⊢
    have w2 : wr (wt us i * tC us L.er i) = wt us i * tC us L.er i := wr_id (by omega) (by omega)
    have w3 : wr (avN us L.er i + wt us i * tC us L.er i) = avN us L.er i + wt us i * tC us L.er i := wr_id (by omega) (by omega)
    have A : atN ((csL us L.er (2 ^ us.length) (2 ^ us.length)).map DV.i) i = some (.i (tC us L.er i)) := by
      show ((csL us L.er (2 ^ us.length) (2 ^ us.length)).map DV.i)[i]? = _
      rw [List.getElem?_map, csL_at hi]; rfl
    generalize csL us L.er (2 ^ us.length) (2 ^ us.length) = cs at *
    generalize (2 ^ us.length : Nat) = N at *
    have hin : (i : Int) < (N : Int) := by omega
    have hiN : i < N := hi
    simp [F_impl_AverageBy_L0, hin, hiN, W, A, w1, w2, w3, ll, -Int.natCast_add]) (by
    generalize csL us L.er (2 ^ us.length) (2 ^ us.length) = cs at *
    generalize (2 ^ us.length : Nat) = N at *
    simp [F_impl_AverageBy_L0]) (by simp)
  have z : avN us L.er 0 = 0 := rfl
  have fin : tA us (non us.length) L.er = avN us L.er (2 ^ us.length) := avT h.ok
  rw [z] at LP
  simp only [Int.natCast_zero] at LP
  rw [call_k lf n_impl_AverageBy _ (F := F_impl_AverageBy) rfl rfl, fin]
  generalize avN us L.er (2 ^ us.length) = X at *
  generalize csL us L.er (2 ^ us.length) (2 ^ us.length) = cs at *
  generalize (2 ^ us.length : Nat) = N at *
  generalize P.map e3 = E at *
  change ex lf F_impl_AverageBy_W0 _ = _ at LP
  simp [F_impl_AverageBy, C, LP, hLE, ll]
end
section
/-- the weight of what is known -/
def kp : List T → List Int → Int
  | t :: r, k :: ks => (if k = -1 then 1 else if k = 1 then t.2 else 6 - t.2) * kp r ks
  | _, _ => 1
end
section
attribute [-simp] DV.cells
attribute [local simp] sliceD cells_st cells_sl cells_i cells_y cells_b cells_s cells_w
attribute [local simp] lend_e3 adopt_e3 new_e3 al_e3 lt_e3
def stO1 (m : Nat) (t : List T) (P : List C3) (n : Int) (K i : Nat) : LS :=
  ⟨[(3, .i m), (4, .sl 1 (t.map e2)), (5, .own 9755 P.length 0 P.length), (6, .i n), (7, .own K i 0 i), (8, .i i)], [(9755, P.map e3), (K, (onesT i).map e2)]⟩
theorem ones_len (m : Nat) : (onesT m).length = m := by simp [onesT]
set_option maxHeartbeats 4000000 in
theorem ones_loop {m : Nat} (h5 : m ≤ 5) (t : List T) (P : List C3) (n : Int) (j : Nat) : ∀ (i K : Nat), (K = 24080 ∨ K = 28688) → i + j = m →
    ∃ K', (K' = 24080 ∨ K' = 28688) ∧ ex lf F_laws_FnDepthOf_W0 (stO1 m t P n K i) = some (.exit 0, stO1 m t P n K' m) := by
  induction j with
  | zero =>
    intro i K hK hi
    have e : i = m := by omega
    subst e
    refine ⟨K, hK, ?_⟩
    rw [w_laws_FnDepthOf_0]
    unfold stO1
    simp [F_laws_FnDepthOf_L0]
  | succ j ih =>
    intro i K hK hi
    obtain ⟨K', hK', I⟩ := ih (i + 1) K hK (by omega)
    refine ⟨K', hK', ?_⟩
    have hlt : (i : Int) < m := by omega
    have w1 : wr ((i : Int) + 1) = ((i + 1 : Nat) : Int) := by rw [wr_id (by omega) (by omega)]; omega
    have lb : i + 1 ≤ bound := by unfold bound; omega
    have e : (onesT (i + 1)).map e2 = (onesT i).map e2 ++ [DV.st [.i 1, .i 3]] := by
      unfold onesT
      rw [List.replicate_succ', List.map_append]; rfl
    have ll : ((onesT i).map e2).length = i := by rw [List.length_map, ones_len]
    have lE := lend_e2 (onesT i)
    have aE := fun o => adopt_e2 o (onesT i)
    have cE : ∀ x ∈ (onesT i).map e2, x.cells.length = 2 := fun x hx => by
      obtain ⟨y, _, rfl⟩ := List.mem_map.1 hx
      rfl
    have tk : List.take i ((onesT i).map e2) = (onesT i).map e2 := List.take_of_length_le (by omega)
    rw [← I, w_laws_FnDepthOf_0]
    unfold stO1
    rw [e]
    generalize (onesT i).map e2 = U at *
    rcases hK with rfl | rfl <;> simp [F_laws_FnDepthOf_L0, hlt, w1, lb, ll, lE, aE, if_pos cE, tk, -Int.natCast_add]
def stDw (m : Nat) (t : List T) (P : List C3) (n : Int) (K : Nat) (w : Int) (i : Nat) : LS :=
  ⟨[(3, .i m), (4, .sl 1 (t.map e2)), (5, .own 9755 P.length 0 P.length), (6, .i n), (7, .own K m 0 m), (9, .i w), (10, .i i)], [(9755, P.map e3), (K, (onesT m).map e2)]⟩
set_option maxHeartbeats 4000000 in
theorem law_FnDepthOf (x : List Nat) (_ : x.length ≤ Go.maxLen) (hb : ∀ y ∈ x, y < 256) : call lf n_laws_FnDepthOf [bys x] = some (.b true, []) := by
  show call lf n_laws_FnDepthOf [.sl 0 (x.map .y)] = _
  rw [call_k lf n_laws_FnDepthOf _ (F := F_laws_FnDepthOf) rfl rfl]
  by_cases hl : 1048576 < (x.length : Int)
  · simp (config := { maxSteps := 2000000 }) [F_laws_FnDepthOf, hl]
  · obtain ⟨m, t, P, m5, t1, l1, d⟩ := c_DrawDepthOf hb (by omega)
    have tk := tk_e3 P
    have lE := lend_e3 P
    have D3 := c_impl_PlanOk (m := m) (t := t) (P := P) (by omega) (by omega)
    cases h : pkOk m t P with
    | false =>
      have D1 := c_impl_DepthOf_no (m := m) (t := t) (P := P) (by omega) (by omega) h
      have D2 := c_spec_DepthOf_no (m := m) (t := t) (P := P) (by omega) (by omega) h
      rw [h] at D3
      simp (config := { maxSteps := 2000000 }) [F_laws_FnDepthOf, hl, d, D1, D2, D3, c_alive, tk, lE]
    | true =>
      obtain ⟨ht, L, hP⟩ := pk_iff.1 h
      obtain ⟨⟨m1, _⟩, _, _⟩ := tmOk_iff.1 ht
      have D1 := c_impl_DepthOf ht hP
      have D2 := c_spec_DepthOf ht hP
      obtain ⟨p1, p2, p3⟩ := pow5 (m := m) (by omega) (by omega)
      simp only [Int.toNat_natCast] at p1 p2 p3
      have sh := shl1 (k := (m : Int)) (by omega) (by omega)
      rw [Int.toNat_natCast] at sh
      have nk : ¬ (m : Int) < 0 := by omega
      have ll := ones_len m
      have hu := ones_ok (m := m) (by omega) m5
      have ht' : tmOk (onesT m).length t = true := by rw [ll]; exact ht
      have hP' : isPl (onesT m).length t P L := by rw [ll]; exact hP
      obtain ⟨K, hK, O⟩ := ones_loop m5 t P (dpT L.er) m 0 24080 (.inl rfl) (by omega)
      have tk2 : List.take m ((onesT m).map e2) = (onesT m).map e2 := List.take_of_length_le (by simp [ll])
      have ll2 : ((onesT m).map e2).length = m := by simp [ll]
      have LP := loop_count (lf := lf) (L := F_laws_FnDepthOf_L1) (2 ^ m) (fun i => stDw m t P (dpT L.er) K (wrs (onesT m) L.er i) i) (x := .exit 2) (R := stDw m t P (dpT L.er) K (wrs (onesT m) L.er (2 ^ m)) (2 ^ m)) (fun i hi => by
        have C := c_impl_CostBy hu ht' hP' (s := i) (by rw [ll]; exact hi)
        have hi' : (i : Int) < 2 ^ m := by omega
        have w1 : wr ((i : Int) + 1) = ((i + 1 : Nat) : Int) := by rw [wr_id (by omega) (by omega)]; omega
        have e : wrs (onesT m) L.er (i + 1) = max (wrs (onesT m) L.er i) (tC (onesT m) L.er i) := rfl
        rw [e]
        have lU := lend_e2 (onesT m)
        generalize (2 : Int) ^ m = N at *
        generalize wrs (onesT m) L.er i = q at *
        generalize tC (onesT m) L.er i = c at *
        unfold stDw
        generalize (onesT m).map e2 = U at *
        rcases hK with rfl | rfl <;> simp [F_laws_FnDepthOf_L1, sh, nk, hi', C, w1, tk, lE, tk2, ll2, lU, -Int.natCast_add]) (by
        have hN : ((2 ^ m : Nat) : Int) = (2 : Int) ^ m := by omega
        unfold stDw
        generalize (2 : Nat) ^ m = N at *
        rw [← hN] at sh
        simp [F_laws_FnDepthOf_L1, sh, nk]) (by intro h; cases h)
      rw [ones_wrs (by omega) m5 hP.ok, show wrs (onesT m) L.er 0 = 0 from rfl] at LP
      have pz := pl_zero hP
      have fe : (((dpT L.er : Nat) : Int) == 0) = ((P.length : Int) == 0) := by
        rw [Bool.eq_iff_iff, beq_iff_eq, beq_iff_eq]
        omega
      unfold stDw at LP
      unfold stO1 at O
      simp only [Int.natCast_zero] at LP O
      rw [show (onesT 0).map e2 = [] from rfl] at O
      change ex lf F_laws_FnDepthOf_W1 _ = _ at LP
      have n0 : ¬ ((dpT L.er : Nat) : Int) < 0 := by omega
      generalize ((dpT L.er : Nat) : Int) = n at *
      have sc : (((P.length : Int) == 0) == ((P.length : Int) == 0)) = true := beq_self_eq_true _
      have fe2 : ((n == 0) == ((P.length : Int) == 0)) = true := by rw [fe]; exact sc
      generalize hP.ok = hok at *
      simp (config := { maxSteps := 2000000 }) [F_laws_FnDepthOf, hl, d, D1, D2, n0, O, LP, fe, sc, tk, lE]
end
section
attribute [-simp] DV.cells
attribute [local simp] sliceD cells_st cells_sl cells_i cells_y cells_b cells_s cells_w
attribute [local simp] lend_e3 adopt_e3 new_e3 al_e3 lt_e3
theorem sub_ask {m : Nat} {t : List T} {P : List C3} {g : Nat} : ∀ {L : LT} {a : Int} {ks : List Int}, enc P a L → okT m t ks L.er → 0 < L.cnt g → ∃ (k : Nat) (no ye : Int), P[g]? = some ((k : Int), no, ye) ∧ k < ks.length
  | .stop, _, _, _, _, h => by simp [LT.cnt] at h
  | .ask p k n y, a, ks, ⟨e, no, ye, h1, h2, h3, h4, h5⟩, ⟨o1, o2, o3, o4⟩, h => by
    simp only [LT.cnt] at h
    by_cases hp : p = g
    · subst hp
      exact ⟨k, no, ye, h1, ks_ex o2⟩
    · rw [if_neg hp] at h
      by_cases hn : 0 < n.cnt g
      · clear h
        have := sub_ask h4 o3 hn
        simpa using this
      · have hy : 0 < y.cnt g := by omega
        have := sub_ask h5 o4 hy
        simpa using this
theorem pl_ask {m : Nat} {t : List T} {P : List C3} {L : LT} (h : isPl m t P L) {g : Nat} (hg : g < P.length) : ∃ (k : Nat) (no ye : Int), P[g]? = some ((k : Int), no, ye) ∧ k < m := by
  have := sub_ask h.e h.ok (g := g) (by
    have := all_in h.on.1 h.e h.sz g hg
    omega)
  rwa [non_len] at this
theorem rW_root {us t : List T} {P : List C3} {L : LT} (h : isPl us.length t P L) (hN : 0 < P.length) : rW us 0 (non us.length) L = 6 ^ us.length := by
  have he := h.e
  have e : rot P = 0 := by unfold rot; rw [if_neg (fun h => by rw [h] at hN; exact absurd hN (Nat.not_lt_zero _))]
  rw [e] at he
  cases L with
  | stop => have : (0 : Int) = -1 := he; omega
  | ask p k n y =>
    have : (0 : Int) = p := he.1
    have : p = 0 := by omega
    subst this
    simp only [rW, if_pos]
    exact wk_non us
def cwN (us : List T) (P : List C3) (L : LT) (i : Nat) : Int := sumTo (fun g => rW us g (non us.length) L * cP us P g) i
def stLc (us t : List T) (P : List C3) (s : Int) (i : Nat) : LS :=
  ⟨[(3, .sl 1 (us.map e2)), (4, .sl 1 (t.map e2)), (5, .own 7707 P.length 0 P.length), (8, .i s), (9, .i i)], [(7707, P.map e3)]⟩
theorem cwN_bd {us t : List T} (h : us.all tOk = true) (hm : us.length ≤ 5) {P : List C3} {L : LT} (ho : okT us.length t (non us.length) L.er) {i : Nat} (hi : i ≤ 40) : 0 ≤ cwN us P L i ∧ cwN us P L i ≤ 10000000 := by
  have p6' := p6 (n := us.length) hm
  have := sumTo_nonneg (f := fun g => rW us g (non us.length) L * cP us P g) (B := 69984) (by omega) i (fun g _ => by
    have a := rW_bd h (g := g) L (non us.length) (non_len _) ho
    rw [wk_non] at a
    have c : 0 ≤ cP us P g ∧ cP us P g ≤ 9 := by
      unfold cP
      split
      · rename_i c _
        have := cA_nn h c.1.toNat
        omega
      · omega
    exact ⟨Int.mul_nonneg a.1 c.1, Int.mul_le_mul (show rW us g (non us.length) L ≤ 7776 by omega) c.2 c.1 (by omega)⟩)
  unfold cwN
  omega
set_option maxHeartbeats 8000000 in
theorem law_FnChoiceWeight (x : List Nat) (_ : x.length ≤ Go.maxLen) (hb : ∀ y ∈ x, y < 256) : call lf n_laws_FnChoiceWeight [bys x] = some (.b true, []) := by
  show call lf n_laws_FnChoiceWeight [.sl 0 (x.map .y)] = _
  rw [call_k lf n_laws_FnChoiceWeight _ (F := F_laws_FnChoiceWeight) rfl rfl]
  by_cases hl : 1048576 < (x.length : Int)
  · simp (config := { maxSteps := 2000000 }) [F_laws_FnChoiceWeight, hl]
  · obtain ⟨us, t, P, a, u1, t1, l1, a1, d⟩ := c_DrawChoiceWeight hb (by omega)
    have tk := tk_e3 P
    have lE := lend_e3 P
    cases h : cwOk us t P a with
    | false =>
      have D1 := c_impl_ChoiceWeight_no (us := us) (t := t) (P := P) (by omega) (by omega) (by omega) h
      have D2 := c_spec_ChoiceWeight_no (us := us) (t := t) (P := P) (by omega) (by omega) (by omega) h
      simp (config := { maxSteps := 2000000 }) [F_laws_FnChoiceWeight, hl, d, D1, D2, c_alive, tk, lE]
    | true =>
      unfold cwOk at h
      rw [Bool.and_eq_true, decide_eq_true_eq] at h
      obtain ⟨g, rfl⟩ : ∃ g : Nat, a = g := ⟨a.toNat, by omega⟩
      obtain ⟨hu, ht, L, hP⟩ := plOk_iff.1 h.1
      have hg : g < P.length := by omega
      have hu' := tsOk_iff.1 hu
      have D1 := c_impl_ChoiceWeight hu ht hP hg
      have D2 := c_spec_ChoiceWeight hu ht hP hg
      have D3 := c_impl_AverageBy hu ht hP
      have D4 := c_impl_ChoiceWeight hu ht hP (g := 0) (by omega)
      rw [rW_root hP (by omega)] at D4
      have PW := c_power us.length (by omega) (by omega)
      rw [Int.toNat_natCast] at PW
      have g0 := (rW_bd hu'.2 (g := g) L (non us.length) (non_len _) hP.ok).1
      have few := hP.few
      have LP := loop_count (lf := lf) (L := F_laws_FnChoiceWeight_L0) P.length (fun i => stLc us t P (cwN us P L i) i) (x := .exit 0) (R := stLc us t P (cwN us P L P.length) P.length) (fun i hi => by
        have C := c_impl_ChoiceWeight hu ht hP hi
        obtain ⟨k, no, ye, hk, km⟩ := pl_ask hP hi
        have AT := at_e3 hk
        have AN := atN_e3 hk
        have hi' : (i : Int) < P.length := by omega
        obtain ⟨c, cq, c1, c2, c3⟩ := cA_at (us := us) (a := (k : Int)) (by omega) (by omega)
        rw [Int.toNat_natCast] at c2
        have km' : (k : Int) < us.length := by omega
        have cp : cP us P i = c := by unfold cP; rw [hk, c2]; rfl
        have e : cwN us P L (i + 1) = cwN us P L i + rW us i (non us.length) L * c := by rw [← cp]; rfl
        have b0 := cwN_bd hu'.2 u1 (P := P) hP.ok (i := i) (by omega)
        have b1 := cwN_bd hu'.2 u1 (P := P) hP.ok (i := i + 1) (by omega)
        rw [e] at b1 ⊢
        have w1 : wr ((i : Int) + 1) = ((i + 1 : Nat) : Int) := by rw [wr_id (by omega) (by omega)]; omega
        generalize rW us i (non us.length) L = r at *
        generalize cwN us P L i = s at *
        have w2 : wr (r * c) = r * c := wr_id (by omega) (by omega)
        have w3 : wr (s + r * c) = s + r * c := wr_id (by omega) (by omega)
        have lm : (P.map e3).length = P.length := by simp
        have cE := new_e3 P
        unfold stLc
        simp [F_laws_FnChoiceWeight_L0, hi', C, AT, AN, c1, km', w1, w2, w3, tk, lE, lm, -Int.natCast_add]) (by
        unfold stLc
        simp [F_laws_FnChoiceWeight_L0]) (by intro h; cases h)
      have fin : cwN us P L P.length = tA us (non us.length) L.er := rW_sum L (rot P) (non us.length) hP.e
      rw [fin, show cwN us P L 0 = 0 from rfl] at LP
      generalize rW us g (non us.length) L = r at *
      generalize tA us (non us.length) L.er = A at *
      generalize (6 : Int) ^ us.length = K at *
      have n0 : ¬ r < 0 := by omega
      unfold stLc at LP
      simp only [Int.natCast_zero] at LP D4
      change ex lf F_laws_FnChoiceWeight_W0 _ = _ at LP
      simp (config := { maxSteps := 2000000 }) [F_laws_FnChoiceWeight, hl, d, D1, D2, D3, D4, PW, n0, LP, tk, lE]
end
end Zz
