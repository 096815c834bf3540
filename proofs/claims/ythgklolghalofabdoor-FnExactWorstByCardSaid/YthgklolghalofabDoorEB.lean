/- What the functions answer, as equations: EB. No conditions. -/
import Derived.Test.YthgklolghalofabDoorEA
set_option linter.unusedSectionVars false
set_option linter.unusedVariables false
set_option linter.unusedSimpArgs false
namespace Zz
open Go.Lg Md
set_option linter.unusedSimpArgs false
set_option linter.unusedVariables false
attribute [local simp] ia_mv ia_newnil ia_pick ia_bin ia_eqb ia_eqs ia_un ia_len ia_lens ia_chk ia_fld ia_fldv ia_idxa ia_idx ia_load ia_store ia_slice ia_slices ia_make ia_alloc ia_box ia_build ia_bslice ia_app ia_b2i ia_i2b ia_i2i ia_same ia_b2s ia_s2b ia_ext ia_mm ia_idxp ia_calld ia_mkfn ia_i2r ia_r2s ia_call pt_nil pt_cons mi_nil mi_cons md_bslice md_mv md_newnil md_pick md_bin md_eqb md_un md_len md_lens md_fld md_fldv md_idxa md_idx md_load md_store md_slice md_slices md_make md_alloc md_box md_build md_app md_conv md_ext md_call md_calld md_callg md_mkfn md_mm md_idxp md_eqn md_eqs md_chk tg_bslice tg_mv tg_newnil tg_pick tg_bin tg_eqb tg_un tg_len tg_lens tg_fld tg_fldv tg_idxa tg_idx tg_load tg_store tg_slice tg_slices tg_make tg_alloc tg_box tg_build tg_app tg_conv tg_ext tg_call tg_calld tg_callg tg_mkfn tg_mm tg_idxp tg_eqn tg_eqs tg_chk rp_eq ro_eq ifP_t ifP_f np_def ng1_nil ng2_nil ng_gate ng_gen tgA_t tgA_0 tgA_1 tgA_2 aC_nil aC_c aC_t nxP_some nxP_none rq_nil rq_gen rq_gate nxR_some nxR_none ru_nil ru_gen ru_gate pl_none pl_some gt_nil gt_t gt_c di_some di_none an_nil an_cons nxG_some nxG_none rg_nil rg_gen rg_gate oldO_some oa_nil oa_i oa_y oa_b oa_s oa_st oa_sl oa_own oa_oad oa_nl al_nil al_cons al_i al_y al_b al_s al_st al_sl nxF_some nxF_none rf_nil rf_gen rf_gate hk_newnil hk_make hk_alloc hk_box hk_build hk_bslice hk_call hk_store hk_app cl_nil cl_cons ai_nil ai_cons il_i il_y il_b il_s il_st il_sl il_own il_adr il_oad il_ref il_fr il_tup il_nil il_np il_und il_dead ol_adr ol_b ol_dead ol_e ol_fn ol_fr ol_i ol_nil ol_np ol_oad ol_own ol_q ol_r ol_ref ol_s ol_sl ol_st ol_tup ol_und ol_w ol_y oj_e oj_i oj_y oj_b oj_s oj_st oj_sl oj_own oj_adr oj_oad oj_ref oj_fr oj_tup oj_nil oj_np oj_und oj_dead oj_w oj_q oj_r oj_fn oi_e oi_i oi_y oi_b oi_s oi_st oi_sl oi_own oi_adr oi_oad oi_ref oi_fr oi_tup oi_nil oi_np oi_und oi_dead as_nil as_cons ao_nil ao_cons av_i av_y av_b av_s av_st av_sl av_own av_adr av_oad av_ref av_fr av_tup av_nil av_np av_und av_dead pro_cons ghK_some ks_promote ks_freeze frz_own ks_rename ren_own dropO adoptP newP wholeP cutP allOldL ex_skip ex_ret ex_exit ks_region ks_seq ks_cond ks_block seqK_n seqK_e seqK_r regK_some condK_t condK_f blkK_n blkK_r blkK_e endK_n endK_r rr_false rr_true rd_free mo_nil mo_cons drK_some drK_none nxW_some nxW_none rw_nil rw_gen rw_gate ak_newnil ak_make ak_alloc ak_box ak_build ak_bslice ak_call ak_store ak_app iw_mm iw_eqn iw_idxp ef_callg cgK_some gv_e gv_own gv_i gv_sl gv_st gv_b gv_nil gvK_some gvO_some iw_callg ia_callg ak_callg hk_callg is_mv is_newnil is_pick is_bin is_eqb is_eqs is_un is_len is_lens is_chk is_fld is_fldv is_idxa is_idx is_load is_slice is_slices is_make is_alloc is_box is_build is_bslice is_app is_conv is_ext is_call is_calld is_callg is_mkfn is_mm is_idxp is_eqn is_store rt_nil rt_gen rt_gate nxT_some nxT_none ef_eqn_nil ef_eqn_sl ef_eqn_own ia_eqn ef_mmx ef_mmn ef_idxp nxD_some nxD_none ov_i ov_y ov_b ov_s ov_st ov_sl ov_own ov_oad ov_adr ov_nil ov_np ov_und ov_dead ov_tup oldN_some oldN_nil oldN_none so_none so_i so_y so_b so_s so_st so_sl so_adr so_nil so_np so_und so_dead anyM_nil anyM_t anyM_c so_own so_oad rd_nil rd_gen rd_mv rd_gate iw_mv iw_newnil iw_pick iw_bin iw_eqb iw_eqs iw_un iw_len iw_lens iw_chk iw_fld iw_fldv iw_idxa iw_idx iw_load iw_store iw_slice iw_slices iw_make iw_alloc iw_box iw_build iw_bslice iw_app iw_b2i iw_i2b iw_i2i iw_same iw_b2s iw_s2b iw_ext iw_call nm_i nm_y nm_b nm_s nm_st nm_sl nm_own nm_oad nm_adr nm_nil nm_np nm_und nm_dead nm_tup rl_nil rl_gate rl_mv rl_gen opv_t opv_c nx_some nx_none gate_tt gate_tf gate_ft gate_ff gate_u fr_ap em_nil em_i em_y em_b em_s em_st em_sl em_own em_adr em_oad em_ref em_nl em_np em_und em_dead em_tup0 em_tup_i em_tup_b em_tup_s em_tup_sl em_tup_st em_tup_np em_tup_own em_tup_oad mm_i mm_y mm_b mm_s mm_st mm_sl mm_own mm_oad mm_adr mm_nil mm_np mm_und mm_dead ef_mv ef_newnil ef_pickt ef_pickf ef_bin ef_eqb ef_eqs ef_un ef_lens ef_len_sl ef_len_own ef_len_nil ef_chk_adr ef_chk_oad ef_fld_adr ef_fld_oad ef_fldv idxR_some ef_idxa_sl ef_idxa_own ef_idx ef_load_adr_st ef_load_adr_i ef_load_adr_y ef_load_adr_b ef_load_adr_s ef_load_adr_sl atN_nil atN_zero atN_succ ef_load_oad ef_store ef_slice ef_slices ef_make ef_alloc ef_box ef_build ef_bslice ef_app_own ef_app_nil ef_b2i ef_i2b ef_i2i ef_same ef_ext ret1 ret2_some calL_some ef_call retC_i retC_y retC_b retC_s retC_st retC_sl retC_np retC_fr retC_ref retC_tup rk_nil rk_i rk_y rk_b rk_s rk_st rk_sl rk_own rk_oad rk_nl ok_nil ok_i ok_y ok_b ok_s ok_st ok_sl ok_own ok_oad ok_nl lo_nil lo_i lo_y lo_b lo_s lo_st lo_sl lo_own lo_oad lo_nl pr_nil pr_i pr_y pr_b pr_s pr_st pr_sl pr_own pr_nl pr_oad nr_i nr_y nr_b nr_s nr_st nr_sl nr_fr nr_np nr_tup ng_i ng_b ng_s ng_fr ng_nil resV effP_eff binD bi_add bi_sub bi_mul bi_quo bi_rem bi_eql bi_neq bi_lss bi_leq bi_gtr bi_geq bi_shl bi_shr bi_and bi_or bi_xor bi_andNot binY binS unD look put putD LS.get LS.drop killE sweep lookO putO dropO enter leave giveBackL giveBack outs lendArgs lendArg newOuts takeIn takeInL lendL DV.lend adoptL DV.adopt elems apartKs part DV.cells unpart settle settleL over mkId szId fillP fillE tk_e2 tk_i tk_y lt_e2 lt_i lt_y lend_rep al_e2 al_is al_ys al_rep al_app lend_app adopt_app new_app lend_e2 lend_i lend_y adopt_e2 adopt_i adopt_y new_e2 new_i allNewL DV.allNew bounds sliceD sliceS em_w em_q em_r em_fn em_tup_w em_tup_q em_tup_r mm_w mm_q mm_r mm_fn ef_load_adr_w ef_load_adr_q ef_load_adr_r retC_w retC_q retC_r rk_w rk_q rk_r rk_fn ok_w ok_q ok_r ok_fn lo_w lo_q lo_r lo_fn pr_w pr_q pr_r pr_fn nr_w nr_q nr_r ng_w ng_q ng_r oa_w oa_q oa_r oa_fn al_w al_q al_r al_fn ov_w ov_q ov_r ov_fn so_w so_q so_r so_fn il_w il_q il_r il_fn oi_w oi_q oi_r oi_fn av_w av_q av_r av_fn nm_w nm_q nm_r nm_fn ef_i2r ef_r2s ef_mkfn ef_idxp_adr ef_calld capsOk DV.cell List.all_cons List.all_nil rk_own_t lo_own_t lk_f lk_t pr_own_t mutB ak_calld hk_calld iw_calld iw_mkfn iw_i2r iw_r2s bw_and bw_or bw_xor bw_andNot bw_eql bw_neq sw_shl sw_shr sq_shl gEnv_nil rk_adr ok_adr lo_adr pr_adr oa_adr capL capArg DV.cap ak_mkfn hk_mkfn ef_callm gf_ap ga_nil ga_cons tgv_own gk_e gk_giv gk_i gk_y gk_b gk_s gk_w gk_q gk_r gk_fn gk_st gk_sl gk_own gk_oad gk_adr gk_nl gk_np rk_giv ok_giv lo_giv pr_giv oa_giv iw_callm hk_callm ak_callm is_callm ia_callm tg_callm md_callm ef_i2q ef_q2i ef_q2q iw_i2q iw_q2i iw_q2q ia_i2q ia_q2i ia_q2q bq_and bq_add bq_shr sq_shr tgv_nil gk_ref rk_ref ok_ref lo_ref pr_ref oa_ref retC_fn nr_fn ef_load_adr_fn ks_close cls_oad
attribute [local congr] ifP_congr nxP_congr nxR_congr nxT_congr nxG_congr nxF_congr ghK_congr gate_congr nx_congr nxD_congr runL_congr runD_congr eff_congr calL_congr ret2_congr seqK_congr regK_congr condK_congr endK_congr drK_congr nxW_congr
attribute [local simp ↓] nxT_some rt_nil rt_gen rt_gate nxP_some rq_nil rq_gen rq_gate nxR_some ru_nil ru_gen ru_gate nxG_some rg_nil rg_gen rg_gate nxF_some rf_nil rf_gen rf_gate ks_promote ks_freeze frz_own ks_rename ghK_some gate_tt gate_tf gate_ft gate_ff gate_u nx_some nxD_some rl_nil rl_mv rl_gen rl_gate rd_nil rd_mv rd_gen rd_gate rd_free rr_false rr_true drK_some drK_none nxW_some rw_nil rw_gen rw_gate ks_region ks_seq ks_cond ks_block seqK_n seqK_e seqK_r regK_some condK_t condK_f blkK_n blkK_r endK_n endK_r calL_some ret2_some opv_t opv_c
section
attribute [-simp] DV.cells
attribute [local simp] sliceD cells_st cells_sl cells_i cells_y cells_b cells_s cells_w
attribute [local simp] lend_e3 adopt_e3 new_e3 al_e3 lt_e3
def stDp (P : List C3) (F : List Int) (best k : Int) : LS := ⟨[(2, .sl 0 (P.map e3)), (7, .own 8712 P.length 0 P.length), (8, .i best), (9, .i k)], [(8712, F.map .i)]⟩
set_option maxHeartbeats 4000000 in
theorem dep_step {P : List C3} (hN : P.length ≤ 40) {k : Nat} {q no ye : Int} (hk : P[k]? = some (q, no, ye)) {F : List Int} (hF : F.length = P.length) {best dn dy : Int} (h0 : 0 ≤ dn ∧ dn ≤ 1000) (h1 : 0 ≤ dy ∧ dy ≤ 1000)
    (hno : (no = -1 ∧ dn = 0) ∨ ((k : Int) + 1 ≤ no ∧ F[no.toNat]? = some dn)) (hye : (ye = -1 ∧ dy = 0) ∨ ((k : Int) + 1 ≤ ye ∧ F[ye.toNat]? = some dy)) :
    ex lf F_spec_DepthOf_L0 (stDp P F best k) = some (.normal, stDp P (F.set k (1 + max dn dy)) (max best (1 + max dn dy)) ((k : Int) - 1)) := by
  have AT := at_e3 hk
  have kl := (List.getElem?_eq_some_iff.1 hk).1
  have kl' : (k : Int) < P.length := by omega
  have kn : 0 ≤ (k : Int) := by omega
  have wk1 : wr ((k : Int) - 1) = (k : Int) - 1 := wr_id (by omega) (by omega)
  have w0 : wr (1 : Int) = 1 := wr_id (by omega) (by omega)
  have wn : wr (dn + 1) = dn + 1 := wr_id (by omega) (by omega)
  have wy : wr (dy + 1) = dy + 1 := wr_id (by omega) (by omega)
  have hq' : (P.map e3).length = P.length := by simp
  have ls : ∀ v : DV, ((F.map DV.i).set k v).length = P.length := fun v => by simp [hF]
  have tk : ∀ v : DV, List.take P.length ((F.map DV.i).set k v) = (F.map .i).set k v := fun v => List.take_of_length_le (by simp [hF])
  have tk0 : List.take P.length (F.map DV.i) = F.map .i := List.take_of_length_le (by simp [hF])
  have kF : k < F.length := by omega
  have ak : ∀ v : DV, atN ((F.map DV.i).set k v) k = some v := fun v => by show ((F.map DV.i).set k v)[k]? = _; simp [kF]
  have ak2 : ∀ v : DV, atI ((F.map DV.i).set k v) (k : Int) = some v := fun v => by
    simp only [atI, if_pos kn]
    show ((F.map DV.i).set k v)[(k : Int).toNat]? = _
    simp [kF]
  obtain ⟨u, a0⟩ : ∃ u : Int, atN (F.map DV.i) k = some (.i u) := ⟨F[k], by show (F.map DV.i)[k]? = _; simp [kF]⟩
  have oth : ∀ (a d : Int), (k : Int) + 1 ≤ a → F[a.toNat]? = some d → a < (P.length : Int) ∧ a.toNat < P.length ∧ 0 ≤ a ∧ ∀ v : DV, atI ((F.map DV.i).set k v) a = some (.i d) ∧ atN ((F.map DV.i).set k v) a.toNat = some (.i d) := fun a d h1 h2 => by
    have := (List.getElem?_eq_some_iff.1 h2).1
    have e : ∀ v : DV, ((F.map DV.i).set k v)[a.toNat]? = some (.i d) := fun v => by
      rw [List.getElem?_set_ne (by omega), List.getElem?_map, h2]; rfl
    exact ⟨by omega, by omega, by omega, fun v => ⟨by simp only [atI, if_pos (show 0 ≤ a by omega)]; exact e v, e v⟩⟩
  have bq : ∀ a : Int, (k : Int) + 1 ≤ a → (a != -1) = true := fun a h => bne_iff_ne.2 (by omega)
  unfold stDp
  generalize P.length = N at *
  generalize P.map e3 = E at *
  rcases hno with ⟨rfl, rfl⟩ | ⟨n1, n2⟩
  · rcases hye with ⟨rfl, rfl⟩ | ⟨y1, y2⟩
    · have e : (1 : Int) + max 0 0 = 1 := rfl
      rw [e]
      simp [F_spec_DepthOf_L0, AT, kl, kl', kn, wk1, w0, hq', ls, tk, tk0, ak, ak2, a0, List.map_set, hF]
    · obtain ⟨y3, y4, y5, y6⟩ := oth ye dy y1 y2
      have yb := bq ye y1
      have e : (1 : Int) + max 0 dy = dy + 1 := by omega
      have e2 : max (1 : Int) (dy + 1) = dy + 1 := by omega
      rw [e]
      simp [F_spec_DepthOf_L0, AT, kl, kl', kn, wk1, w0, wy, hq', ls, tk, tk0, ak, ak2, a0, y3, y4, y5, y6, yb, e2, List.map_set, hF]
  · obtain ⟨n3, n4, n5, n6⟩ := oth no dn n1 n2
    have nb := bq no n1
    rcases hye with ⟨rfl, rfl⟩ | ⟨y1, y2⟩
    · have e : (1 : Int) + max dn 0 = dn + 1 := by omega
      rw [e]
      simp [F_spec_DepthOf_L0, AT, kl, kl', kn, wk1, w0, wn, hq', ls, tk, tk0, ak, ak2, a0, n3, n4, n5, n6, nb, List.map_set, hF]
    · obtain ⟨y3, y4, y5, y6⟩ := oth ye dy y1 y2
      have yb := bq ye y1
      have e : (1 : Int) + max dn dy = max (dn + 1) (dy + 1) := by omega
      rw [e]
      simp [F_spec_DepthOf_L0, AT, kl, kl', kn, wk1, w0, wn, wy, hq', ls, tk, tk0, ak, ak2, a0, n3, n4, n5, n6, nb, y3, y4, y5, y6, yb, List.map_set, hF]
theorem dep_loop {m : Nat} {t : List T} {P : List C3} {L : LT} (h : isPl m t P L) (hD : dpT L.er ≤ 900) : ∀ (j : Nat) (F : List Int) (best : Int), j ≤ P.length → F.length = P.length →
    (∀ g, j ≤ g → g < P.length → ∃ M, enc P (g : Int) M ∧ F[g]? = some (dpT M.er : Int)) → 0 ≤ best → best ≤ dpT L.er → (∀ g, j ≤ g → g < P.length → ∀ M, enc P (g : Int) M → (dpT M.er : Int) ≤ best) →
    ∃ F' : List Int, F'.length = P.length ∧ ex lf F_spec_DepthOf_W0 (stDp P F best ((j : Int) - 1)) = some (.exit 0, stDp P F' (dpT L.er) (-1))
  | 0, F, best, hj, hF, hJ, hb0, hb1, hb2 => by
    have e : best = dpT L.er := by
      by_cases hz : P.length = 0
      · have := (pl_zero h).2 hz
        omega
      · have hr : rot P = 0 := by unfold rot; rw [if_neg (fun e => hz (by rw [e]; rfl))]
        have he := h.e
        rw [hr] at he
        have := hb2 0 (Nat.le_refl _) (by omega) L he
        omega
    refine ⟨F, hF, ?_⟩
    rw [← e, w_spec_DepthOf_0]
    unfold stDp
    rw [show ((0 : Nat) : Int) - 1 = -1 from rfl]
    generalize P.length = N at *
    generalize P.map e3 = E at *
    simp [F_spec_DepthOf_L0]
  | j + 1, F, best, hj, hF, hJ, hb0, hb1, hb2 => by
    obtain ⟨M, hM, hMd⟩ := sub_all h (g := j) (by omega)
    cases M with
    | stop => have : (j : Int) = -1 := hM; omega
    | ask p k n y =>
      obtain ⟨e, no, ye, g1, g2, g3, g4, g5⟩ := hM
      have e : j = p := by omega
      subst e
      have dM : dpT (LT.ask j k n y).er = 1 + max (dpT n.er) (dpT y.er) := rfl
      have few := h.few
      have hx : ∀ (a : Int) (X : LT), nxt P.length j a → enc P a X → (a = -1 ∧ (dpT X.er : Int) = 0) ∨ ((j : Int) + 1 ≤ a ∧ F[a.toNat]? = some (dpT X.er : Int)) := fun a X h1 h2 => by
        rcases h1 with rfl | ⟨h1, h3⟩
        · left
          rw [enc_stop h2]
          exact ⟨rfl, rfl⟩
        · right
          obtain ⟨Y, hY, hY2⟩ := hJ a.toNat (by omega) (by omega)
          rw [show ((a.toNat : Nat) : Int) = a by omega] at hY
          rw [enc_one h2 hY]
          exact ⟨h1, hY2⟩
      have S := dep_step (best := best) (by omega) g1 hF (dn := (dpT n.er : Int)) (dy := (dpT y.er : Int)) (by omega) (by omega) (hx no n g2 g4) (hx ye y g3 g5)
      have v : (1 : Int) + max (dpT n.er : Int) (dpT y.er : Int) = (dpT (LT.ask j k n y).er : Int) := by rw [dM]; omega
      rw [v] at S
      have hM' : enc P (j : Int) (LT.ask j k n y) := ⟨rfl, no, ye, g1, g2, g3, g4, g5⟩
      obtain ⟨F', hF', IH⟩ := dep_loop h hD j (F.set j (dpT (LT.ask j k n y).er : Int)) (max best (dpT (LT.ask j k n y).er : Int)) (by omega) (by simpa using hF) (fun g hg1 hg2 => by
        by_cases e : g = j
        · subst e
          exact ⟨_, hM', by rw [List.getElem?_set_self (by omega)]⟩
        · obtain ⟨X, h1, h2⟩ := hJ g (by omega) hg2
          exact ⟨X, h1, by rw [List.getElem?_set_ne (fun q => e q.symm)]; exact h2⟩) (by omega) (by omega) (fun g hg1 hg2 X hX => by
        by_cases e : g = j
        · subst e
          rw [enc_one hX hM']
          omega
        · have := hb2 g (by omega) hg2 X hX
          omega)
      refine ⟨F', hF', ?_⟩
      rw [show ((j + 1 : Nat) : Int) - 1 = (j : Int) by omega, w_spec_DepthOf_0, S]
      exact IH
theorem c_spec_DepthOf {m : Nat} {t : List T} {P : List C3} {L : LT} (ht : tmOk m t = true) (h : isPl m t P L) :
    call lf n_spec_DepthOf [.i m, .sl 0 (t.map e2), .sl 0 (P.map e3)] = some (.i (dpT L.er), []) := by
  obtain ⟨⟨m1, m5⟩, tl, _⟩ := tmOk_iff.1 ht
  have few := h.few
  have C2 := c_spec_PlanOk (m := m) (t := t) (P := P) (by omega) (by omega)
  rw [pk_iff.2 ⟨ht, L, h⟩] at C2
  have dl := dpT_le L.er (non m) (non_len _) h.ok
  rw [uk_non] at dl
  obtain ⟨F', hF', W⟩ := dep_loop h (by omega) P.length (List.replicate P.length 0) 0 (Nat.le_refl _) (by simp) (fun g h1 h2 => by omega) (by omega) (by omega) (fun g h1 h2 => by omega)
  have hq' : (P.map e3).length = P.length := by simp
  have lb : (P.length : Int) ≤ bound := by unfold bound; omega
  have lb' : P.length ≤ bound := by unfold bound; omega
  have w1 : wr ((P.length : Int) - 1) = (P.length : Int) - 1 := wr_id (by omega) (by omega)
  have hLE := lend_e3 P
  unfold stDp at W
  rw [List.map_replicate] at W
  rw [call_k lf n_spec_DepthOf _ (F := F_spec_DepthOf) rfl rfl]
  generalize P.length = N at *
  generalize P.map e3 = E at *
  simp [F_spec_DepthOf, C2, hLE, hq', lb, lb', w1, W]
theorem c_spec_DepthOf_no {m : Int} {t : List T} {P : List C3} (hb : (t.length : Int) < 1099511627776) (hc : (P.length : Int) < 1099511627776) (h : pkOk m t P = false) :
    call lf n_spec_DepthOf [.i m, .sl 0 (t.map e2), .sl 0 (P.map e3)] = some (.i (-1), []) := by
  have C2 := c_spec_PlanOk (m := m) (t := t) (P := P) hb hc
  rw [h] at C2
  have hLE := lend_e3 P
  rw [call_k lf n_spec_DepthOf _ (F := F_spec_DepthOf) rfl rfl]
  generalize P.map e3 = E at *
  simp [F_spec_DepthOf, C2, hLE]
end
section
attribute [-simp] DV.cells sliceD
attribute [local simp] cells_st cells_sl cells_i cells_y cells_b cells_s cells_w
attribute [local simp] lend_e3 adopt_e3 new_e3 al_e3 lt_e3
theorem rW_bd {us t : List T} (h : us.all tOk = true) {g : Nat} : ∀ (L : LT) (ks : List Int), ks.length = us.length → okT us.length t ks L.er → 0 ≤ rW us g ks L ∧ rW us g ks L ≤ wk us ks
  | .stop, ks, hl, ho => by
    have := (wk_bound (ts := us) (ks := ks) h).1
    simp only [rW]
    omega
  | .ask p k n y, ks, hl, ⟨_, h2, h3, h4⟩ => by
    have a := rW_bd h (g := g) n (ks.set k 0) (by simpa using hl) h3
    have b := rW_bd h (g := g) y (ks.set k 1) (by simpa using hl) h4
    have tw := wk_two hl h2
    have := (wk_bound (ts := us) (ks := ks) h).1
    simp only [rW]
    split <;> omega
theorem ww_wk {us : List T} (h : tsOk us = true) {ks : List Int} (hl : ks.length = us.length) (hk : ks.all kOk = true) : ww us ks = wk us ks := by
  have h' := tsOk_iff.1 h
  rw [← wa_wk hl hk]
  unfold ww wa
  rw [h, ksOk_iff.2 ⟨by omega, by omega, hk⟩]
  rfl
def stRe (us : List T) (P : List C3) (p g : Nat) (ks : List Int) (sum sd : Int) : LS :=
  ⟨[(0, .sl 0 (us.map e2)), (1, .sl 0 (P.map e3)), (2, .i p), (3, .i g), (4, .sl 0 (ks.map .i)), (11, .i sum), (12, .i sd)], []⟩
set_option maxHeartbeats 4000000 in
theorem reach_step {us : List T} {P : List C3} {p g : Nat} {ks : List Int} {sum : Int} {b : Bool} {r : Int} (hl : ks.length ≤ 5) {k : Nat} (hk : k < ks.length) {no ye : Int} (hP : P[p]? = some ((k : Int), no, ye)) (hs : 0 ≤ sum ∧ sum ≤ 1000000) (hr : 0 ≤ r ∧ r ≤ 1000000)
    (C : call lf n_spec_l6Reach [.sl 0 (us.map e2), .sl 0 (P.map e3), .i (if b then ye else no), .i g, .sl 0 ((ks.set k (bI b)).map .i)] = some (.i r, [])) :
    ex lf F_spec_l6Reach_L0 (stRe us P p g ks sum (bI b)) = some (.normal, stRe us P p g ks (sum + r) (bI b + 1)) := by
  unfold stRe
  have AT := at_e3 hP
  have pl := (List.getElem?_eq_some_iff.1 hP).1
  have pl' : (p : Int) < P.length := by omega
  have lb : ks.length ≤ bound := by unfold bound; omega
  have kk' : (k : Int) < ks.length := by omega
  have w2 : wr (sum + r) = sum + r := wr_id (by omega) (by omega)
  have w0 : wr (1 : Int) = 1 := wr_id (by omega) (by omega)
  have w02 : wr (2 : Int) = 2 := wr_id (by omega) (by omega)
  obtain ⟨u, atk⟩ : ∃ u : Int, atN (ks.map DV.i) k = some (.i u) := ⟨ks[k], by show (ks.map DV.i)[k]? = _; simp [hk]⟩
  have hq' : (P.map e3).length = P.length := by simp
  have lE := lend_e3 P
  have oE := al_e3 P
  generalize P.length = N at *
  generalize P.map e3 = E at *
  rw [List.map_set] at C
  cases b with
  | true =>
    simp only [bI, if_true] at C ⊢
    have t1 : List.take ks.length ((ks.map DV.i).set k (.i 1)) = (ks.map .i).set k (.i 1) := List.take_of_length_le (by simp)
    simp [F_spec_l6Reach_L0, lb, hk, kk', AT, pl', hq', lE, oE, atk, w0, w02, w2, t1, lend_set, C, -Int.natCast_add]
  | false =>
    simp only [bI, Bool.false_eq_true, if_false] at C ⊢
    have t1 : List.take ks.length ((ks.map DV.i).set k (.i 0)) = (ks.map .i).set k (.i 0) := List.take_of_length_le (by simp)
    simp [F_spec_l6Reach_L0, lb, hk, kk', AT, pl', hq', lE, oE, atk, w0, w02, w2, t1, lend_set, C, -Int.natCast_add]
set_option maxHeartbeats 4000000 in
theorem c_spec_l6Reach {us t : List T} (hu : tsOk us = true) {P : List C3} (g : Nat) : ∀ (L : LT) (a : Int) (ks : List Int), enc P a L → ks.length = us.length → ks.all kOk = true → okT us.length t ks L.er →
    call lf n_spec_l6Reach [.sl 0 (us.map e2), .sl 0 (P.map e3), .i a, .i g, .sl 0 (ks.map .i)] = some (.i (rW us g ks L), [])
  | .stop, a, ks, he, hl, hk, ho => by
    have he : a = -1 := he
    subst he
    have ng : ((-1 : Int) == (g : Int)) = false := beq_eq_false_iff_ne.2 (by omega)
    rw [call_k lf n_spec_l6Reach _ (F := F_spec_l6Reach) rfl rfl]
    simp [F_spec_l6Reach, ng, rW]
  | .ask p k n y, a, ks, ⟨e, no, ye, h1, h2, h3, h4, h5⟩, hl, hk, ⟨o1, o2, o3, o4⟩ => by
    subst e
    have hu' := tsOk_iff.1 hu
    have W := c_spec_WeightWhere us ks (by omega) (by omega)
    rw [ww_wk hu hl hk] at W
    rw [call_k lf n_spec_l6Reach _ (F := F_spec_l6Reach) rfl rfl]
    have lE := lend_e3 P
    simp only [rW]
    by_cases e : p = g
    · subst e
      rw [if_pos rfl]
      simp [F_spec_l6Reach, W]
    · rw [if_neg e]
      have ng : ((p : Int) == (g : Int)) = false := beq_eq_false_iff_ne.2 (by omega)
      have np : ((p : Int) == -1) = false := beq_eq_false_iff_ne.2 (by omega)
      have kl := (List.getElem?_eq_some_iff.1 o2).1
      have l6 := p6 (n := us.length) (by omega)
      have B := fun b => wk_bound (ts := us) (ks := ks.set k (bI b)) hu'.2
      have B0 := B false
      have B1 := B true
      rw [bI_0] at B0
      rw [bI_1] at B1
      have R0 := rW_bd hu'.2 (g := g) n (ks.set k 0) (by simpa using hl) o3
      have R1 := rW_bd hu'.2 (g := g) y (ks.set k 1) (by simpa using hl) o4
      have I0 := c_spec_l6Reach hu g n no (ks.set k 0) h4 (by simpa using hl) (by have := kOk_set hk k false; rwa [bI_0] at this) o3
      have I1 := c_spec_l6Reach hu g y ye (ks.set k 1) h5 (by simpa using hl) (by have := kOk_set hk k true; rwa [bI_1] at this) o4
      have S0 := reach_step (us := us) (g := g) (ks := ks) (sum := 0) (b := false) (r := rW us g (ks.set k 0) n) (by omega) kl h1 (by omega) (by omega) (by simpa [bI] using I0)
      have S1 := reach_step (us := us) (g := g) (ks := ks) (sum := rW us g (ks.set k 0) n) (b := true) (r := rW us g (ks.set k 1) y) (by omega) kl h1 (by omega) (by omega) (by simpa [bI] using I1)
      simp only [bI, Bool.false_eq_true, if_false, if_true, Int.zero_add] at S0 S1
      generalize rW us g (ks.set k 0) n = r0 at *
      generalize rW us g (ks.set k 1) y = r1 at *
      have LP : ex lf F_spec_l6Reach_W0 (stRe us P p g ks 0 0) = some (.exit 0, stRe us P p g ks (r0 + r1) 2) := by
        rw [w_spec_l6Reach_0, S0]
        simp only
        rw [w_spec_l6Reach_0, S1]
        simp only
        have w02 : wr (2 : Int) = 2 := wr_id (by omega) (by omega)
        rw [show (1 : Int) + 1 = 2 from rfl, w_spec_l6Reach_0]
        unfold stRe
        generalize P.map e3 = E at *
        simp [F_spec_l6Reach_L0]
      unfold stRe at LP
      generalize P.map e3 = E at *
      simp [F_spec_l6Reach, ng, np, LP]
theorem c_spec_ChoiceWeight {us t : List T} (hu : tsOk us = true) (ht : tmOk us.length t = true) {P : List C3} {L : LT} (h : isPl us.length t P L) {g : Nat} (hg : g < P.length) :
    call lf n_spec_ChoiceWeight [.sl 0 (us.map e2), .sl 0 (t.map e2), .sl 0 (P.map e3), .i g] = some (.i (rW us g (non us.length) L), []) := by
  have hu' := tsOk_iff.1 hu
  obtain ⟨_, tl, _⟩ := tmOk_iff.1 ht
  have few := h.few
  have C1 := c_spec_TestsOk us (by omega)
  rw [hu] at C1
  have C2 := c_spec_PlanOk (m := us.length) (t := t) (P := P) (by omega) (by omega)
  rw [pk_iff.2 ⟨ht, L, h⟩] at C2
  have C3 := c_spec_l4None (m := us.length) (by omega) (by omega)
  rw [Int.toNat_natCast] at C3
  have e : rot P = 0 := by unfold rot; rw [if_neg (fun h => by rw [h] at hg; exact absurd hg (Nat.not_lt_zero _))]
  have he := h.e
  rw [e] at he
  have C4 := c_spec_l6Reach hu g L 0 (non us.length) he (non_len _) (non_all _) h.ok
  have w1 : wr ((P.length : Int) - 1) = (P.length : Int) - 1 := wr_id (by omega) (by omega)
  have C5 := c_spec_l1In g 0 ((P.length : Int) - 1)
  have d : decide ((0 : Int) ≤ g ∧ (g : Int) ≤ (P.length : Int) - 1) = true := decide_eq_true ⟨by omega, by omega⟩
  rw [d] at C5
  have nl := non_len us.length
  have tk : List.take us.length ((non us.length).map DV.i) = (non us.length).map .i := List.take_of_length_le (by simp [nl])
  have hq' : (P.map e3).length = P.length := by simp
  have lE := lend_e3 P
  rw [call_k lf n_spec_ChoiceWeight _ (F := F_spec_ChoiceWeight) rfl rfl]
  generalize P.length = N at *
  generalize P.map e3 = E at *
  simp [F_spec_ChoiceWeight, C1, C2, C3, C4, C5, w1, nl, tk, hq', lE]
def cwOk (us t : List T) (P : List C3) (a : Int) : Bool := plOk us t P && decide (0 ≤ a ∧ a ≤ (P.length : Int) - 1)
theorem c_spec_ChoiceWeight_no {us t : List T} {P : List C3} {a : Int} (ha : (us.length : Int) < 1099511627776) (hb : (t.length : Int) < 1099511627776) (hc : (P.length : Int) < 1099511627776) (h : cwOk us t P a = false) :
    call lf n_spec_ChoiceWeight [.sl 0 (us.map e2), .sl 0 (t.map e2), .sl 0 (P.map e3), .i a] = some (.i (-1), []) := by
  have C1 := c_spec_TestsOk us ha
  have C2 := c_spec_PlanOk (m := us.length) (t := t) (P := P) hb hc
  have w1 : wr ((P.length : Int) - 1) = (P.length : Int) - 1 := wr_id (by omega) (by omega)
  have C5 := c_spec_l1In a 0 ((P.length : Int) - 1)
  have hq' : (P.map e3).length = P.length := by simp
  have hLE := lend_e3 P
  rw [call_k lf n_spec_ChoiceWeight _ (F := F_spec_ChoiceWeight) rfl rfl]
  unfold cwOk plOk at h
  generalize P.length = N at *
  generalize P.map e3 = E at *
  cases h1 : tsOk us with
  | false => rw [h1] at C1; simp [F_spec_ChoiceWeight, C1]
  | true =>
    rw [h1] at C1 h
    cases h2 : pkOk us.length t P with
    | false => rw [h2] at C2; simp [F_spec_ChoiceWeight, C1, C2, hLE]
    | true =>
      rw [h2] at C2 h
      simp only [Bool.true_and] at h
      rw [h] at C5
      simp [F_spec_ChoiceWeight, C1, C2, C5, w1, hq', hLE]
end
section
attribute [-simp] DV.cells sliceD
attribute [local simp] cells_st cells_sl cells_i cells_y cells_b cells_s cells_w
attribute [local simp] lend_e3 adopt_e3 new_e3 al_e3 lt_e3
def cbOk (us t : List T) (P : List C3) (s : Int) : Bool := plOk us t P && stOk us.length s
theorem c_spec_CostBy {us t : List T} (hu : tsOk us = true) (ht : tmOk us.length t = true) {P : List C3} {L : LT} (h : isPl us.length t P L) {s : Nat} (hs : s < 2 ^ us.length) :
    call lf n_spec_CostBy [.sl 0 (us.map e2), .sl 0 (t.map e2), .sl 0 (P.map e3), .i s] = some (.tup [.i (tC us L.er s), .i (ask0 L.er s : Nat), .b true], []) := by
  have hu' := tsOk_iff.1 hu
  obtain ⟨_, tl, _⟩ := tmOk_iff.1 ht
  have few := h.few
  have C1 := c_spec_TestsOk us (by omega)
  rw [hu] at C1
  have C2 := c_spec_PlanOk (m := us.length) (t := t) (P := P) (by omega) (by omega)
  rw [pk_iff.2 ⟨ht, L, h⟩] at C2
  have C3 := c_spec_StateOk us.length s
  have so : stOk us.length s = true := by
    obtain ⟨p1, p2, p3⟩ := pow5 (m := us.length) (by omega) (by omega)
    simp only [Int.toNat_natCast] at p1 p2 p3
    exact stOk_iff.2 ⟨by omega, by omega, by rw [Int.toNat_natCast]; omega⟩
  rw [so] at C3
  have C4 := c_spec_l6Walk hu h s
  have hLE := lend_e3 P
  rw [call_k lf n_spec_CostBy _ (F := F_spec_CostBy) rfl rfl]
  generalize P.map e3 = E at *
  simp [F_spec_CostBy, C1, C2, C3, C4, hLE]
theorem c_spec_CostBy_no {us t : List T} {P : List C3} {s : Int} (ha : (us.length : Int) < 1099511627776) (hb : (t.length : Int) < 1099511627776) (hc : (P.length : Int) < 1099511627776) (h : cbOk us t P s = false) :
    call lf n_spec_CostBy [.sl 0 (us.map e2), .sl 0 (t.map e2), .sl 0 (P.map e3), .i s] = some (.tup [.i 0, .i 0, .b false], []) := by
  have C1 := c_spec_TestsOk us ha
  have C2 := c_spec_PlanOk (m := us.length) (t := t) (P := P) hb hc
  have C3 := c_spec_StateOk us.length s
  have hLE := lend_e3 P
  unfold cbOk plOk at h
  rw [call_k lf n_spec_CostBy _ (F := F_spec_CostBy) rfl rfl]
  generalize P.map e3 = E at *
  cases h1 : tsOk us with
  | false => rw [h1] at C1; simp [F_spec_CostBy, C1]
  | true =>
    rw [h1] at C1 h
    cases h2 : pkOk us.length t P with
    | false => rw [h2] at C2; simp [F_spec_CostBy, C1, C2, hLE]
    | true =>
      rw [h2] at C2 h
      simp only [Bool.true_and] at h
      rw [h] at C3
      simp [F_spec_CostBy, C1, C2, C3, hLE]
end
section
def aN : List Int → Nat
  | [] => 0
  | k :: r => (if k = -1 then 0 else 1) + 2 * aN r
def kn : List Int → Nat
  | [] => 0
  | k :: r => (if k = -1 then 0 else 1) + kn r
theorem kn_uk : ∀ ks : List Int, kn ks + uk ks = ks.length
  | [] => rfl
  | k :: r => by
    have ih := kn_uk r
    simp only [kn, uk, List.length_cons]
    split <;> omega
theorem kn_non (m : Nat) : kn (non m) = 0 := by
  have h := kn_uk (non m)
  rw [uk_non, non_len] at h
  omega
theorem kn_set {ks : List Int} {k : Nat} {b : Int} (hb : b ≠ -1) (h : ks[k]? = some (-1)) : kn (ks.set k b) = kn ks + 1 := by
  have h1 := kn_uk ks
  have h2 := kn_uk (ks.set k b)
  have h3 := uk_set hb h
  rw [List.length_set] at h2
  omega
theorem aN_lt : ∀ ks : List Int, aN ks < 2 ^ ks.length
  | [] => by decide
  | k :: r => by
    have ih := aN_lt r
    simp only [aN, List.length_cons, Nat.pow_succ]
    split <;> omega
theorem aN_non : ∀ m : Nat, aN (non m) = 0
  | 0 => rfl
  | m + 1 => by
    show (if (-1 : Int) = -1 then 0 else 1) + 2 * aN (non m) = 0
    rw [aN_non m]
    rfl
theorem aN_b0 (k : Int) (r : List Int) : (aN (k :: r)).testBit 0 = !decide (k = -1) := by
  simp only [aN, Nat.testBit_zero]
  by_cases h : k = -1
  · simp [h]
  · simp [h]
theorem aN_div (k : Int) (r : List Int) : aN (k :: r) / 2 = aN r := by
  simp only [aN]
  split <;> omega
theorem aN_bs (k : Int) (r : List Int) (i : Nat) : (aN (k :: r)).testBit (i + 1) = (aN r).testBit i := by
  rw [Nat.testBit_succ, aN_div]
theorem aN_bit : ∀ {ks : List Int} {i : Nat}, i < ks.length → ((aN ks).testBit i = !decide (ks[i]? = some (-1)))
  | [], i, h => by simp at h
  | k :: r, 0, _ => by rw [aN_b0]; simp
  | k :: r, i + 1, h => by
    rw [aN_bs, aN_bit (ks := r) (by simpa using h)]
    simp
theorem aN_set {ks : List Int} {k : Nat} {b : Int} (hb : b ≠ -1) (h : ks[k]? = some (-1)) : aN (ks.set k b) = aN ks ||| 2 ^ k := by
  apply Nat.eq_of_testBit_eq
  intro i
  have hk := ks_ex h
  rw [Nat.testBit_or, Nat.testBit_two_pow]
  by_cases hi : i < ks.length
  · rw [aN_bit (by simpa using hi), aN_bit hi]
    by_cases e : k = i
    · subst e
      rw [List.getElem?_set_self hk]
      simp [hb]
    · rw [List.getElem?_set_ne e]
      simp [e]
  · have l1 := aN_lt (ks.set k b)
    have l2 := aN_lt ks
    rw [List.length_set] at l1
    have p : 2 ^ ks.length ≤ 2 ^ i := Nat.pow_le_pow_right (by omega) (by omega)
    rw [Nat.testBit_lt_two_pow (by omega), Nat.testBit_lt_two_pow (by omega)]
    simp; omega
/-- how many ones there are, for small numbers -/
def pc (x : Nat) : Nat := x % 2 + x / 2 % 2 + x / 4 % 2 + x / 8 % 2 + x / 16 % 2
theorem pc_kn {ks : List Int} (h : ks.length ≤ 5) : pc (aN ks) = kn ks := by
  have key : ∀ k : Int, (if k = -1 then (0 : Nat) else 1) = 0 ∨ (if k = -1 then (0 : Nat) else 1) = 1 := fun k => by split <;> simp
  unfold pc
  match ks, h with
  | [], _ => rfl
  | [a], _ =>
    simp only [aN, kn]
    have hx := key a
    generalize (if a = -1 then (0 : Nat) else 1) = x at *
    rcases hx with rfl | rfl <;> rfl
  | [a, b], _ =>
    simp only [aN, kn]
    have hx := key a
    generalize (if a = -1 then (0 : Nat) else 1) = x at *
    have hy := key b
    generalize (if b = -1 then (0 : Nat) else 1) = y at *
    rcases hx with rfl | rfl <;> rcases hy with rfl | rfl <;> rfl
  | [a, b, c], _ =>
    simp only [aN, kn]
    have hx := key a
    generalize (if a = -1 then (0 : Nat) else 1) = x at *
    have hy := key b
    generalize (if b = -1 then (0 : Nat) else 1) = y at *
    have hz := key c
    generalize (if c = -1 then (0 : Nat) else 1) = z at *
    rcases hx with rfl | rfl <;> rcases hy with rfl | rfl <;> rcases hz with rfl | rfl <;> rfl
  | [a, b, c, d], _ =>
    simp only [aN, kn]
    have hx := key a
    generalize (if a = -1 then (0 : Nat) else 1) = x at *
    have hy := key b
    generalize (if b = -1 then (0 : Nat) else 1) = y at *
    have hz := key c
    generalize (if c = -1 then (0 : Nat) else 1) = z at *
    have hu := key d
    generalize (if d = -1 then (0 : Nat) else 1) = u at *
    rcases hx with rfl | rfl <;> rcases hy with rfl | rfl <;> rcases hz with rfl | rfl <;> rcases hu with rfl | rfl <;> rfl
  | [a, b, c, d, e], _ =>
    simp only [aN, kn]
    have hx := key a
    generalize (if a = -1 then (0 : Nat) else 1) = x at *
    have hy := key b
    generalize (if b = -1 then (0 : Nat) else 1) = y at *
    have hz := key c
    generalize (if c = -1 then (0 : Nat) else 1) = z at *
    have hu := key d
    generalize (if d = -1 then (0 : Nat) else 1) = u at *
    have hv := key e
    generalize (if e = -1 then (0 : Nat) else 1) = v at *
    rcases hx with rfl | rfl <;> rcases hy with rfl | rfl <;> rcases hz with rfl | rfl <;> rcases hu with rfl | rfl <;> rcases hv with rfl | rfl <;> rfl
  | _ :: _ :: _ :: _ :: _ :: _ :: _, h => simp at h
/-- what agrees, as a number -/
def lfW (ks : List Int) : BitVec 32 := agW ks 0 (4294967295#32)
theorem lfW_bit {ks : List Int} (hk : ks.all kOk = true) (hl : ks.length ≤ 5) {s : Nat} (hs : s < 32) : (lfW ks).getLsbD s = agB ks s := by
  unfold lfW
  rw [agW_bit hk (by omega) hs, ones_bit hs]
  simp
theorem lfW_non (m : Nat) (hm : m ≤ 5) : lfW (non m) = 4294967295#32 := by
  apply BitVec.eq_of_getLsbD_eq
  intro s hs
  rw [lfW_bit (non_all m) (by rw [non_len]; exact hm) hs, agB_non, ones_bit hs]
def syW (k : Nat) (b : Bool) : BitVec 32 := if b then yesW k else ~~~ yesW k
theorem lfW_set {ks : List Int} {k : Nat} (b : Bool) (hk : ks.all kOk = true) (hl : ks.length ≤ 5) (h : ks[k]? = some (-1)) : lfW (ks.set k (bI b)) = lfW ks &&& syW k b := by
  have hk5 := ks_ex h
  apply BitVec.eq_of_getLsbD_eq
  intro s hs
  have y := yes_bit ⟨k, by omega⟩ ⟨s, hs⟩
  simp only at y
  rw [lfW_bit (kOk_set hk k b) (by simpa using hl) hs, agB_put h, BitVec.getLsbD_and, lfW_bit hk hl hs]
  unfold syW
  cases b with
  | true => rw [if_pos rfl, y]; cases agB ks s <;> cases s.testBit k <;> rfl
  | false =>
    rw [if_neg (by simp), BitVec.getLsbD_not, y]
    cases agB ks s <;> cases s.testBit k <;> simp [hs]
theorem vaW_fcd {m : Nat} {t : List T} {ks : List Int} (h1 : tmOk m t = true) (hl : ks.length = m) (hk : ks.all kOk = true) : vaW (tsW t) (lfW ks) = foT m t ks := by
  obtain ⟨h3, _, _⟩ := tmOk_iff.1 h1
  exact vaW_foT h1 (ksOk_iff.2 ⟨h3, by omega, hk⟩)
end
section
abbrev Pts := List (Option (List Int))
def cTo (m : Nat) (t : List T) (pts : Pts) (p a : Int) (ks : List Int) : Option Pts :=
  if a = -1 ∨ fcd m t ks = true then (if a = -1 ∧ fcd m t ks = true then some pts else none)
  else if p + 1 ≤ a ∧ a ≤ (pts.length : Int) - 1 ∧ pts[a.toNat]? = some none then some (pts.set a.toNat (some ks)) else none
def rn1 (m : Nat) (t : List T) (pts : Pts) (p : Nat) (c : C3) : Option Pts :=
  match pts[p]? with
  | some (some ks) => if (0 ≤ c.1 ∧ c.1 < m) ∧ ks[c.1.toNat]? = some (-1) then
      (cTo m t pts p c.2.1 (ks.set c.1.toNat 0)).bind fun q => cTo m t q p c.2.2 (ks.set c.1.toNat 1) else none
  | _ => none
def rnA (m : Nat) (t : List T) : List C3 → Nat → Pts → Option Pts
  | [], _, pts => some pts
  | c :: r, p, pts => (rn1 m t pts p c).bind fun q => rnA m t r (p + 1) q
def rnS (m : Nat) (t : List T) (P : List C3) : Option Pts := (cTo m t (List.replicate P.length none) (-1) (rot P) (non m)).bind fun q => rnA m t P 0 q
theorem cTo_of {m : Nat} {t : List T} {pts q : Pts} {p a : Int} {ks : List Int} (hp : -1 ≤ p) (h : cTo m t pts p a ks = some q) :
    (a = -1 ∧ fcd m t ks = true ∧ q = pts) ∨ (fcd m t ks = false ∧ p + 1 ≤ a ∧ a ≤ (pts.length : Int) - 1 ∧ pts[a.toNat]? = some none ∧ q = pts.set a.toNat (some ks)) := by
  unfold cTo at h
  split at h
  · split at h
    · rename_i h1
      injection h with h
      exact .inl ⟨h1.1, h1.2, h.symm⟩
    · cases h
  · rename_i h1
    split at h
    · rename_i h2
      injection h with h
      rw [not_or] at h1
      exact .inr ⟨by simpa using h1.2, h2.1, h2.2.1, h2.2.2, h.symm⟩
    · cases h
theorem cTo_len {m : Nat} {t : List T} {pts q : Pts} {p a : Int} {ks : List Int} (hp : -1 ≤ p) (h : cTo m t pts p a ks = some q) : q.length = pts.length := by
  rcases cTo_of hp h with ⟨_, _, rfl⟩ | ⟨_, _, _, _, rfl⟩
  · rfl
  · simp
/-- what is there stays -/
theorem cTo_keep {m : Nat} {t : List T} {pts q : Pts} {p a : Int} {ks : List Int} (hp : -1 ≤ p) (h : cTo m t pts p a ks = some q) {b : Nat} {ls : List Int} (hb : pts[b]? = some (some ls)) : q[b]? = some (some ls) := by
  rcases cTo_of hp h with ⟨_, _, rfl⟩ | ⟨_, _, _, h4, rfl⟩
  · exact hb
  · rw [List.getElem?_set_ne]
    · exact hb
    · intro e
      rw [e, hb] at h4
      cases h4
/-- one goes on to where it is noted -/
def go3 (m : Nat) (t : List T) (N : Nat) (pts : Pts) (p : Int) (a : Int) (ks : List Int) : Prop :=
  (a = -1 ∧ fcd m t ks = true) ∨ (p + 1 ≤ a ∧ a ≤ (N : Int) - 1 ∧ pts[a.toNat]? = some (some ks))
theorem go3_of {m : Nat} {t : List T} {pts q : Pts} {p a : Int} {ks : List Int} (hp : -1 ≤ p) (h : cTo m t pts p a ks = some q) : go3 m t pts.length q p a ks := by
  rcases cTo_of hp h with ⟨h1, h2, rfl⟩ | ⟨h1, h2, h3, h4, rfl⟩
  · exact .inl ⟨h1, h2⟩
  · refine .inr ⟨h2, h3, ?_⟩
    rw [List.getElem?_set_self (by omega)]
structure Inv (m : Nat) (t : List T) (P : List C3) (p : Nat) (pts : Pts) : Prop where
  len : pts.length = P.length
  nd : (rfs (P.take p)).Nodup
  rng : ∀ a ∈ rfs (P.take p), 1 ≤ a ∧ a < P.length
  iff_ : ∀ a : Nat, a < P.length → (pts[a]? ≠ some none ↔ (a = 0 ∨ (a : Int) ∈ rfs (P.take p)))
  ok : ∀ (a : Nat) (ks : List Int), pts[a]? = some (some ks) → ks.length = m ∧ ks.all kOk = true ∧ fcd m t ks = false
  loc : ∀ q : Nat, q < p → ∃ (ks : List Int) (k no ye : Int), P[q]? = some (k, no, ye) ∧ pts[q]? = some (some ks) ∧ (0 ≤ k ∧ k < m) ∧ ks[k.toNat]? = some (-1) ∧ go3 m t P.length pts q no (ks.set k.toNat 0) ∧ go3 m t P.length pts q ye (ks.set k.toNat 1)
theorem go3_keep {m : Nat} {t : List T} {N : Nat} {pts q : Pts} {p a : Int} {ks : List Int} (hk : ∀ (b : Nat) (ls : List Int), pts[b]? = some (some ls) → q[b]? = some (some ls)) (h : go3 m t N pts p a ks) : go3 m t N q p a ks := by
  rcases h with h | ⟨h1, h2, h3⟩
  · exact .inl h
  · exact .inr ⟨h1, h2, hk _ _ h3⟩
/-- what one step adds to what is gone on to -/
def ad1 (a : Int) : List Int := if a = -1 then [] else [a]
theorem step_iff {m : Nat} {t : List T} {N : Nat} {pts q : Pts} {p a : Int} {ks : List Int} {R : List Int} (hp : 0 ≤ p) (hN : pts.length = N) (h : cTo m t pts p a ks = some q) (nd : R.Nodup) (rng : ∀ a ∈ R, 1 ≤ a ∧ a < N)
    (hi : ∀ a : Nat, a < N → (pts[a]? ≠ some none ↔ (a = 0 ∨ (a : Int) ∈ R))) :
    (R ++ ad1 a).Nodup ∧ (∀ x ∈ R ++ ad1 a, 1 ≤ x ∧ x < N) ∧ ∀ b : Nat, b < N → (q[b]? ≠ some none ↔ (b = 0 ∨ (b : Int) ∈ R ++ ad1 a)) := by
  rcases cTo_of (by omega) h with ⟨rfl, _, rfl⟩ | ⟨_, h2, h3, h4, rfl⟩
  · have e : ad1 (-1) = [] := rfl
    rw [e, List.append_nil]
    exact ⟨nd, rng, hi⟩
  · have e : ad1 a = [a] := if_neg (by omega)
    rw [e]
    have ha : a.toNat < N := by omega
    have hn : a ∉ R := fun hm => by
      have := (hi a.toNat ha).2 (.inr (by rw [Int.toNat_of_nonneg (by omega)]; exact hm))
      exact this h4
    refine ⟨List.nodup_append.2 ⟨nd, by simp, fun x hx y hy e => ?_⟩, fun x hx => ?_, fun b hb => ?_⟩
    · have : y = a := by simpa using hy
      exact hn (by rw [← this, ← e]; exact hx)
    · rcases List.mem_append.1 hx with hx | hx
      · exact rng x hx
      · have : x = a := by simpa using hx
        omega
    · by_cases eb : a.toNat = b
      · subst eb
        rw [List.getElem?_set_self (by omega)]
        constructor
        · intro _
          right
          rw [Int.toNat_of_nonneg (by omega)]
          simp
        · intro _ h
          cases h
      · rw [List.getElem?_set_ne eb, hi b hb]
        have : (b : Int) ≠ a := by omega
        simp [this]
theorem step_ok {m : Nat} {t : List T} {pts q : Pts} {p a : Int} {ks : List Int} (hp : -1 ≤ p) (h : cTo m t pts p a ks = some q) (hl : ks.length = m) (hk : ks.all kOk = true)
    (ho : ∀ (a : Nat) (ks : List Int), pts[a]? = some (some ks) → ks.length = m ∧ ks.all kOk = true ∧ fcd m t ks = false) :
    ∀ (a : Nat) (ks : List Int), q[a]? = some (some ks) → ks.length = m ∧ ks.all kOk = true ∧ fcd m t ks = false := by
  intro b ls hb
  rcases cTo_of hp h with ⟨_, _, rfl⟩ | ⟨h1, h2, h3, h4, rfl⟩
  · exact ho b ls hb
  · by_cases eb : a.toNat = b
    · subst eb
      rw [List.getElem?_set_self (by omega)] at hb
      simp only [Option.some.injEq] at hb
      subst hb
      exact ⟨hl, hk, h1⟩
    · rw [List.getElem?_set_ne eb] at hb
      exact ho b ls hb
theorem rfs_snoc (P : List C3) (k no ye : Int) : rfs (P ++ [(k, no, ye)]) = rfs P ++ ad1 no ++ ad1 ye := by
  rw [rfs_app]
  simp only [rfs, List.append_nil]
  unfold ad1
  rw [List.append_assoc]
theorem take_snoc {P : List C3} {p : Nat} {c : C3} (h : P[p]? = some c) : P.take (p + 1) = P.take p ++ [c] := by
  rw [List.take_add_one, h]
  rfl
theorem inv_step {m : Nat} {t : List T} {P : List C3} {p : Nat} {pts q : Pts} {c : C3} (hc : P[p]? = some c) (h : Inv m t P p pts) (hr : rn1 m t pts p c = some q) : Inv m t P (p + 1) q := by
  obtain ⟨k, no, ye⟩ := c
  unfold rn1 at hr
  split at hr
  · rename_i ks hks
    split at hr
    · rename_i hk
      simp only [Option.bind_eq_some_iff] at hr
      obtain ⟨q1, h1, h2⟩ := hr
      obtain ⟨o1, o2, o3⟩ := h.ok p ks hks
      have hp : (0 : Int) ≤ p := by omega
      have l1 := cTo_len (by omega) h1
      have l2 := cTo_len (by omega) h2
      have k0 : (ks.set k.toNat 0).all kOk = true := kOk_set o2 k.toNat false
      have k1 : (ks.set k.toNat 1).all kOk = true := kOk_set o2 k.toNat true
      obtain ⟨n1, r1, i1⟩ := step_iff hp h.len h1 h.nd h.rng h.iff_
      obtain ⟨n2, r2, i2⟩ := step_iff hp (l1.trans h.len) h2 n1 r1 i1
      have ok1 := step_ok (by omega) h1 (by simpa using o1) k0 h.ok
      have ok2 := step_ok (by omega) h2 (by simpa using o1) k1 ok1
      have kp : ∀ (b : Nat) (ls : List Int), pts[b]? = some (some ls) → q[b]? = some (some ls) := fun b ls hb => cTo_keep (by omega) h2 (cTo_keep (by omega) h1 hb)
      refine ⟨(l2.trans l1).trans h.len, ?_, ?_, ?_, ok2, fun j hj => ?_⟩
      · rw [take_snoc hc, rfs_snoc]; exact n2
      · rw [take_snoc hc, rfs_snoc]; exact r2
      · rw [take_snoc hc, rfs_snoc]; exact i2
      · by_cases e : j = p
        · subst e
          have g1 := go3_of (by omega) h1
          have g2 := go3_of (by omega) h2
          rw [h.len] at g1
          rw [l1, h.len] at g2
          exact ⟨ks, k, no, ye, hc, kp _ _ hks, hk.1, hk.2, go3_keep (fun b ls hb => cTo_keep (by omega) h2 hb) g1, g2⟩
        · obtain ⟨ks', k', no', ye', a1, a2, a3, a4, a5, a6⟩ := h.loc j (by omega)
          exact ⟨ks', k', no', ye', a1, kp _ _ a2, a3, a4, go3_keep kp a5, go3_keep kp a6⟩
    · cases hr
  · cases hr
theorem inv_all {m : Nat} {t : List T} {P : List C3} : ∀ (rest : List C3) (p : Nat) (pts q : Pts), P.drop p = rest → p ≤ P.length → Inv m t P p pts → rnA m t rest p pts = some q → Inv m t P P.length q
  | [], p, pts, q, hd, hp, h, hr => by
    have : P.length ≤ p := List.drop_eq_nil_iff.1 hd
    have e : p = P.length := by omega
    subst e
    simp only [rnA, Option.some.injEq] at hr
    subst hr
    exact h
  | c :: r, p, pts, q, hd, hp, h, hr => by
    simp only [rnA, Option.bind_eq_some_iff] at hr
    obtain ⟨q1, h1, h2⟩ := hr
    have hc : P[p]? = some c := by
      have : (P.drop p)[0]? = some c := by rw [hd]; rfl
      rw [List.getElem?_drop, Nat.add_zero] at this
      exact this
    have hlt : p < P.length := (List.getElem?_eq_some_iff.1 hc).1
    have hd' : P.drop (p + 1) = r := by
      rw [← List.drop_drop, hd]
      rfl
    exact inv_all r (p + 1) q1 q hd' (by omega) (inv_step hc h h1) h2
theorem inv_start {m : Nat} {t : List T} {P : List C3} {q : Pts} (h : cTo m t (List.replicate P.length none) (-1) (rot P) (non m) = some q) : Inv m t P 0 q ∧ go3 m t P.length q (-1) (rot P) (non m) := by
  have g := go3_of (by omega) h
  have l := cTo_len (by omega) h
  rw [List.length_replicate] at g l
  have ok := step_ok (by omega) h (non_len m) (non_all m) (fun a ks ha => by
    rw [List.getElem?_replicate] at ha
    split at ha <;> cases ha)
  refine ⟨⟨l, by simp [rfs], by simp [rfs], fun a ha => ?_, ok, fun j hj => by omega⟩, g⟩
  have hP : P ≠ [] := fun e => by subst e; simp at ha
  have r0 : rot P = 0 := if_neg hP
  rcases cTo_of (by omega) h with ⟨h1, _, _⟩ | ⟨_, _, _, _, rfl⟩
  · omega
  · rw [r0]
    simp only [List.take_zero, rfs, List.not_mem_nil, or_false, Int.toNat_zero]
    by_cases e : a = 0
    · subst e
      rw [List.getElem?_set_self (by simpa using ha)]
      simp
    · rw [List.getElem?_set_ne (by omega), List.getElem?_replicate, if_pos ha]
      simp [e]
theorem inv_tree {m : Nat} {t : List T} {P : List C3} {pts : Pts} (h : Inv m t P P.length pts) : ∀ (n a : Nat) (ks : List Int), P.length - a ≤ n → pts[a]? = some (some ks) → ∃ L, enc P (a : Int) L ∧ okT m t ks L.er
  | 0, a, ks, hn, ha => by
    have := (List.getElem?_eq_some_iff.1 ha).1
    rw [h.len] at this
    omega
  | n + 1, a, ks, hn, ha => by
    have hlt := (List.getElem?_eq_some_iff.1 ha).1
    rw [h.len] at hlt
    obtain ⟨ks', k, no, ye, a1, a2, a3, a4, a5, a6⟩ := h.loc a hlt
    rw [ha] at a2
    simp only [Option.some.injEq] at a2
    subst a2
    obtain ⟨_, _, o3⟩ := h.ok a ks ha
    have key : ∀ (b : Int) (ls : List Int), go3 m t P.length pts a b ls → ∃ L, enc P b L ∧ okT m t ls L.er ∧ nxt P.length a b := fun b ls g => by
      rcases g with ⟨rfl, g⟩ | ⟨g1, g2, g3⟩
      · exact ⟨.stop, rfl, g, .inl rfl⟩
      · obtain ⟨L, l1, l2⟩ := inv_tree h n b.toNat ls (by omega) g3
        rw [Int.toNat_of_nonneg (by omega)] at l1
        exact ⟨L, l1, l2, .inr ⟨g1, g2⟩⟩
    obtain ⟨L0, e0, k0, x0⟩ := key no _ a5
    obtain ⟨L1, e1, k1, x1⟩ := key ye _ a6
    exact ⟨.ask a k.toNat L0 L1, ⟨rfl, no, ye, by rw [a1, Int.toNat_of_nonneg a3.1], x0, x1, e0, e1⟩, ⟨o3, a4, k0, k1⟩⟩
theorem rcn_ge {P : List C3} {a q : Nat} {d : C3} (hq : P[q]? = some d) (hd : d.2.1 = (a : Int) ∨ d.2.2 = (a : Int)) : ∀ {L : LT}, L.cnt q ≤ L.rcn P a
  | .stop => Nat.le_refl _
  | .ask p k n y => by
    have c0 := rcn_ge hq hd (L := n)
    have c1 := rcn_ge hq hd (L := y)
    simp only [LT.rcn, LT.cnt]
    by_cases e : p = q
    · subst e
      rw [if_pos rfl, hq]
      simp only [Option.map_some, Option.some.injEq]
      rcases hd with hd | hd
      · rw [if_pos hd]; omega
      · rw [if_pos hd]; omega
    · rw [if_neg e]; omega
theorem sN_one : ∀ {f : Nat → Nat} {n : Nat}, (∀ a, a < n → f a = 1) → sN f n = n
  | f, 0, _ => rfl
  | f, n + 1, h => by
    simp only [sN]
    rw [sN_one (f := f) (n := n) (fun a ha => h a (by omega)), h n (by omega)]
theorem inv_pl {m : Nat} {t : List T} {P : List C3} {pts : Pts} (h31 : P.length ≤ 31) (h : Inv m t P P.length pts) (hg : go3 m t P.length pts (-1) (rot P) (non m)) : ∃ L, isPl m t P L := by
  have nd := h.nd
  have rng := h.rng
  have hi := h.iff_
  rw [List.take_length] at nd rng hi
  have ht : ∃ L, enc P (rot P) L ∧ okT m t (non m) L.er := by
    rcases hg with ⟨g1, g2⟩ | ⟨g1, g2, g3⟩
    · rw [g1]; exact ⟨.stop, rfl, g2⟩
    · obtain ⟨L, l1, l2⟩ := inv_tree h P.length (rot P).toNat (non m) (by omega) g3
      rw [Int.toNat_of_nonneg (by omega)] at l1
      exact ⟨L, l1, l2⟩
  obtain ⟨L, e, ok⟩ := ht
  have all1 : ∀ a, a < P.length → 0 < L.cnt a := by
    intro a
    induction a using Nat.strongRecOn with
    | ind a ih =>
      intro ha
      have r := cnt_root (a := a) e
      by_cases a0 : a = 0
      · subst a0
        have : rot P = 0 := if_neg (fun e => by subst e; simp at ha)
        rw [this] at r
        simp at r
        omega
      · obtain ⟨ks, k, no, ye, _, a2, _⟩ := h.loc a ha
        have hm := (hi a ha).1 (by rw [a2]; simp)
        rcases hm with hm | hm
        · exact absurd hm a0
        · obtain ⟨_, q, d, d1, d2⟩ := rfs_mem.1 hm
          obtain ⟨ks', k', no', ye', b1, b2, b3, b4, b5, b6⟩ := h.loc q (List.getElem?_eq_some_iff.1 d1).1
          rw [d1] at b1
          simp only [Option.some.injEq] at b1
          subst b1
          have hqa : q < a := by
            rcases d2 with d2 | d2
            · simp only at d2
              subst d2
              rcases b5 with ⟨b, _⟩ | ⟨b, _⟩ <;> omega
            · simp only at d2
              subst d2
              rcases b6 with ⟨b, _⟩ | ⟨b, _⟩ <;> omega
          have c := ih q hqa (by omega)
          have g := rcn_ge d1 d2 (L := L)
          omega
  have le1 := cnt_le nd e
  refine ⟨L, e, ok, ?_, ⟨nd, fun a ha => by have := rng a ha; omega⟩, h31⟩
  rw [← size_sN e]
  exact sN_one fun a ha => by have := all1 a ha; have := le1 a; omega
theorem cTo_some {m : Nat} {t : List T} {pts : Pts} {p a : Int} {ks : List Int} (h : (a = -1 ∧ fcd m t ks = true) ∨ (a ≠ -1 ∧ fcd m t ks = false ∧ p + 1 ≤ a ∧ a ≤ (pts.length : Int) - 1 ∧ pts[a.toNat]? = some none)) : ∃ q, cTo m t pts p a ks = some q := by
  unfold cTo
  rcases h with ⟨h1, h2⟩ | ⟨h1, h2, h3⟩
  · exact ⟨pts, by rw [if_pos (.inl h1), if_pos ⟨h1, h2⟩]⟩
  · exact ⟨_, by rw [if_neg (by rw [h2]; rintro (h | h); exact h1 h; cases h), if_pos h3]⟩
/-- what is noted is come to by the tree -/
def CIv (m : Nat) (t : List T) (P : List C3) (pts : Pts) : Prop := ∀ (a : Nat) (ks : List Int), pts[a]? = some (some ks) → ∃ M, enc P (a : Int) M ∧ okT m t ks M.er
theorem civ_step {m : Nat} {t : List T} {P : List C3} {pts q : Pts} {p a : Int} {ks : List Int} (hp : -1 ≤ p) (h : cTo m t pts p a ks = some q) (hc : CIv m t P pts) {M : LT} (hM : enc P a M) (hk : okT m t ks M.er) : CIv m t P q := by
  intro b ls hb
  rcases cTo_of hp h with ⟨_, _, rfl⟩ | ⟨h1, h2, h3, h4, rfl⟩
  · exact hc b ls hb
  · by_cases eb : a.toNat = b
    · subst eb
      rw [List.getElem?_set_self (by omega)] at hb
      simp only [Option.some.injEq] at hb
      subst hb
      rw [Int.toNat_of_nonneg (by omega)]
      exact ⟨M, hM, hk⟩
    · rw [List.getElem?_set_ne eb] at hb
      exact hc b ls hb
theorem go_some {m : Nat} {t : List T} {P : List C3} {pts : Pts} {p : Nat} {a : Int} {ks : List Int} {M : LT} (hM : enc P a M) (hk : okT m t ks M.er) (hn : nxt P.length p a) (hl : pts.length = P.length) (hf : a ≠ -1 → pts[a.toNat]? = some none) : ∃ q, cTo m t pts p a ks = some q := by
  apply cTo_some
  cases M with
  | stop => exact .inl ⟨hM, hk⟩
  | ask p' k n y =>
    obtain ⟨e, _⟩ := hM
    obtain ⟨o1, _⟩ := hk
    have ha : a ≠ -1 := by omega
    rcases hn with hn | hn
    · exact absurd hn ha
    · exact .inr ⟨ha, o1, hn.1, by rw [hl]; exact hn.2, hf ha⟩
theorem none_of {pts : Pts} {a : Nat} (h : a < pts.length) (hn : ¬ pts[a]? ≠ some none) : pts[a]? = some none := Classical.not_not.1 hn
theorem pl_step {m : Nat} {t : List T} {P : List C3} {L : LT} (hL : isPl m t P L) {p : Nat} {c : C3} (hc : P[p]? = some c) {pts : Pts} (h : Inv m t P p pts) (hv : CIv m t P pts) : ∃ q, rn1 m t pts p c = some q ∧ CIv m t P q := by
  have hlt : p < P.length := (List.getElem?_eq_some_iff.1 hc).1
  have nd := hL.on.1
  -- it has been come to
  have hin : p = 0 ∨ (p : Int) ∈ rfs (P.take p) := by
    by_cases p0 : p = 0
    · exact .inl p0
    · right
      have c1 := all_in nd hL.e hL.sz p hlt
      have r := cnt_root (a := p) hL.e
      have rp : ¬ rot P = (p : Int) := by
        unfold rot
        split <;> omega
      rw [if_neg rp] at r
      obtain ⟨q, d, q1, q2, q3⟩ := rcn_pos hL.e (a := p) (by omega)
      refine rfs_mem.2 ⟨by omega, q, d, ?_, q2⟩
      rw [List.getElem?_take, if_pos q3]
      exact q1
  have hne := (h.iff_ p hlt).2 hin
  cases hpp : pts[p]? with
  | none =>
    rw [List.getElem?_eq_none_iff, h.len] at hpp
    omega
  | some o =>
    cases o with
    | none => exact absurd hpp hne
    | some ks =>
      obtain ⟨M, m1, m2⟩ := hv p ks hpp
      obtain ⟨o1, o2, o3⟩ := h.ok p ks hpp
      cases M with
      | stop =>
        have m1 : (p : Int) = -1 := m1
        omega
      | ask p' k n y =>
        obtain ⟨e, no, ye, d1, d2, d3, d4, d5⟩ := m1
        obtain ⟨u1, u2, u3, u4⟩ := m2
        have ep : p = p' := by omega
        subst ep
        rw [hc] at d1
        simp only [Option.some.injEq] at d1
        subst d1
        have hk : k < m := by rw [← o1]; exact ks_ex u2
        have ndp : (rfs (P.take p) ++ ad1 no ++ ad1 ye).Nodup := by
          rw [← rfs_snoc _ (k : Int), ← take_snoc hc]
          have : rfs P = rfs (P.take (p + 1)) ++ rfs (P.drop (p + 1)) := by rw [← rfs_app, List.take_append_drop]
          rw [this] at nd
          exact (List.nodup_append.1 nd).1
        obtain ⟨nd1, _, nd3⟩ := List.nodup_append.1 ndp
        obtain ⟨_, _, nd2⟩ := List.nodup_append.1 nd1
        have free0 : no ≠ -1 → pts[no.toNat]? = some none := fun hno => by
          have hr : (p : Int) + 1 ≤ no ∧ no ≤ (P.length : Int) - 1 := d2.resolve_left hno
          refine none_of (by rw [h.len]; omega) (fun hx => ?_)
          rcases (h.iff_ no.toNat (by omega)).1 hx with h0 | h0
          · omega
          · rw [Int.toNat_of_nonneg (by omega)] at h0
            exact nd2 no h0 no (by unfold ad1; rw [if_neg hno]; simp) rfl
        obtain ⟨q1, c1⟩ := go_some (p := p) d4 u3 d2 h.len free0
        have iv1 := step_iff (by omega) h.len c1 h.nd h.rng h.iff_
        have l1 := cTo_len (by omega) c1
        have free1 : ye ≠ -1 → q1[ye.toNat]? = some none := fun hye => by
          have hr : (p : Int) + 1 ≤ ye ∧ ye ≤ (P.length : Int) - 1 := d3.resolve_left hye
          refine none_of (by rw [l1, h.len]; omega) (fun hx => ?_)
          rcases (iv1.2.2 ye.toNat (by omega)).1 hx with h0 | h0
          · omega
          · rw [Int.toNat_of_nonneg (by omega)] at h0
            exact nd3 ye h0 ye (by unfold ad1; rw [if_neg hye]; simp) rfl
        obtain ⟨q2, c2⟩ := go_some (p := p) d5 u4 d3 (l1.trans h.len) free1
        refine ⟨q2, ?_, civ_step (by omega) c2 (civ_step (by omega) c1 hv d4 u3) d5 u4⟩
        unfold rn1
        rw [hpp]
        simp only [Int.toNat_natCast]
        rw [if_pos ⟨⟨by omega, by omega⟩, u2⟩, c1]
        exact c2
theorem pl_all {m : Nat} {t : List T} {P : List C3} {L : LT} (hL : isPl m t P L) : ∀ (rest : List C3) (p : Nat) (pts : Pts), P.drop p = rest → p ≤ P.length → Inv m t P p pts → CIv m t P pts → ∃ q, rnA m t rest p pts = some q
  | [], p, pts, _, _, _, _ => ⟨pts, rfl⟩
  | c :: r, p, pts, hd, hp, h, hv => by
    have hc : P[p]? = some c := by
      have : (P.drop p)[0]? = some c := by rw [hd]; rfl
      rw [List.getElem?_drop, Nat.add_zero] at this
      exact this
    have hlt : p < P.length := (List.getElem?_eq_some_iff.1 hc).1
    have hd' : P.drop (p + 1) = r := by
      rw [← List.drop_drop, hd]
      rfl
    obtain ⟨q1, h1, h2⟩ := pl_step hL hc h hv
    obtain ⟨q, h3⟩ := pl_all hL r (p + 1) q1 hd' (by omega) (inv_step hc h h1) h2
    exact ⟨q, by simp only [rnA]; rw [h1]; exact h3⟩
theorem rnA_keep {m : Nat} {t : List T} : ∀ (rest : List C3) (p : Nat) (a b : Pts), rnA m t rest p a = some b → ∀ (x : Nat) (ls : List Int), a[x]? = some (some ls) → b[x]? = some (some ls) := by
  intro rest
  induction rest with
  | nil =>
    intro p a b h x ls hx
    simp only [rnA, Option.some.injEq] at h
    subst h
    exact hx
  | cons c r ih =>
    intro p a b h x ls hx
    simp only [rnA, Option.bind_eq_some_iff] at h
    obtain ⟨a1, e1, e2⟩ := h
    refine ih (p + 1) a1 b e2 x ls ?_
    unfold rn1 at e1
    split at e1
    · split at e1
      · simp only [Option.bind_eq_some_iff] at e1
        obtain ⟨a2, f1, f2⟩ := e1
        exact cTo_keep (by omega) f2 (cTo_keep (by omega) f1 hx)
      · cases e1
    · cases e1
theorem rn_keep {m : Nat} {t : List T} {N : Nat} {x a : Int} {ks : List Int} (rest : List C3) (p : Nat) (q0 q : Pts) (h : rnA m t rest p q0 = some q) (g : go3 m t N q0 x a ks) : go3 m t N q x a ks := go3_keep (rnA_keep rest p q0 q h) g
theorem rnS_iff {m : Nat} {t : List T} {P : List C3} (h31 : P.length ≤ 31) : (∃ q, rnS m t P = some q) ↔ ∃ L, isPl m t P L := by
  constructor
  · rintro ⟨q, h⟩
    unfold rnS at h
    simp only [Option.bind_eq_some_iff] at h
    obtain ⟨q0, h1, h2⟩ := h
    obtain ⟨i, g⟩ := inv_start h1
    have i2 := inv_all P 0 q0 q rfl (Nat.zero_le _) i h2
    refine inv_pl h31 i2 ?_
    exact rn_keep P 0 q0 q h2 g
  · rintro ⟨L, hL⟩
    unfold rnS
    have hs : ∃ q, cTo m t (List.replicate P.length none) (-1) (rot P) (non m) = some q := by
      apply cTo_some
      have he := hL.e
      have hk := hL.ok
      cases L with
      | stop => exact .inl ⟨he, hk⟩
      | ask p k n y =>
        obtain ⟨e, no, ye, d1, _⟩ := he
        have hlt : p < P.length := (List.getElem?_eq_some_iff.1 d1).1
        have r0 : rot P = 0 := if_neg (fun e => by subst e; simp at hlt)
        refine .inr ⟨by omega, hk.1, by omega, by rw [List.length_replicate]; omega, ?_⟩
        rw [r0, List.getElem?_replicate, if_pos (by simp; omega)]
    obtain ⟨q0, h1⟩ := hs
    obtain ⟨i, g⟩ := inv_start h1
    have cv : CIv m t P q0 := civ_step (by omega) h1 (fun a ks ha => by
      rw [List.getElem?_replicate] at ha
      split at ha <;> cases ha) hL.e hL.ok
    obtain ⟨q, h2⟩ := pl_all hL P 0 q0 rfl (Nat.zero_le _) i cv
    exact ⟨q, by rw [h1]; exact h2⟩
end
section
attribute [-simp] DV.cells
attribute [local simp] sliceD cells_st cells_sl cells_i cells_y cells_b cells_s cells_w
attribute [local simp] lend_e3 adopt_e3 new_e3 al_e3 lt_e3
def pv (m a : Int) (w v : BitVec 32) : DV := .st [.i m, .i a, .w w, .w v]
/-- the point at which so much is known -/
def pD (m : Nat) (t : List T) (ks : List Int) : DV := pv m (aN ks) (lfW ks) (tsW t)
/-- 64 bits: how many are ones -/
theorem c_OnesCount64 {n : Nat} (h : n < 32) : call lf n_math_bits_OnesCount64 [.q n] = some (.i (pc n), []) := by
  rw [call_k lf n_math_bits_OnesCount64 _ (F := F_math_bits_OnesCount64) rfl rfl]
  have c : n = 0 ∨ n = 1 ∨ n = 2 ∨ n = 3 ∨ n = 4 ∨ n = 5 ∨ n = 6 ∨ n = 7 ∨ n = 8 ∨ n = 9 ∨ n = 10 ∨ n = 11 ∨ n = 12 ∨ n = 13 ∨ n = 14 ∨ n = 15 ∨ n = 16 ∨ n = 17 ∨ n = 18 ∨ n = 19 ∨ n = 20 ∨ n = 21 ∨ n = 22 ∨ n = 23 ∨ n = 24 ∨ n = 25 ∨ n = 26 ∨ n = 27 ∨ n = 28 ∨ n = 29 ∨ n = 30 ∨ n = 31 := by omega
  rcases c with rfl | rfl | rfl | rfl | rfl | rfl | rfl | rfl | rfl | rfl | rfl | rfl | rfl | rfl | rfl | rfl | rfl | rfl | rfl | rfl | rfl | rfl | rfl | rfl | rfl | rfl | rfl | rfl | rfl | rfl | rfl | rfl <;>
    simp [F_math_bits_OnesCount64, pc, andI, wr, Go.IntKind.wrap, Go.IntKind.signed, Go.IntKind.bits]
theorem c_OnesCount {n : Nat} (h : n < 32) : call lf n_math_bits_OnesCount [.q n] = some (.i (pc n), []) := by
  have C := c_OnesCount64 h
  rw [call_k lf n_math_bits_OnesCount _ (F := F_math_bits_OnesCount) rfl rfl]
  simp [F_math_bits_OnesCount, C]
theorem c_howMany {m : Nat} {t : List T} {ks : List Int} (hl : ks.length ≤ 5) : call lf n_impl_point_howManyAsked [pD m t ks] = some (.i (kn ks), []) := by
  have l := aN_lt ks
  have p : 2 ^ ks.length ≤ 2 ^ 5 := Nat.pow_le_pow_right (by omega) hl
  have C := c_OnesCount (n := aN ks) (by omega)
  rw [pc_kn hl] at C
  have e : ((aN ks : Int) % 18446744073709551616).toNat = aN ks := by omega
  unfold pD pv
  rw [call_k lf n_impl_point_howManyAsked _ (F := F_impl_point_howManyAsked) rfl rfl]
  generalize aN ks = a at *
  simp [F_impl_point_howManyAsked, C, e]
theorem c_isForced {m : Nat} {t : List T} {ks : List Int} (h1 : tmOk m t = true) (hl : ks.length = m) (hk : ks.all kOk = true) : call lf n_impl_point_isForced [pD m t ks] = some (.b (fcd m t ks), []) := by
  have C := c_impl_valueAmong (tsW t) (lfW ks)
  rw [vaW_fcd h1 hl hk] at C
  unfold pD pv
  rw [call_k lf n_impl_point_isForced _ (F := F_impl_point_isForced) rfl rfl]
  unfold fcd
  simp [F_impl_point_isForced, C]
/-- may it be asked? -/
def caK (m : Nat) (ks : List Int) (a : Int) : Bool := decide (0 ≤ a ∧ a < m) && decide (ks[a.toNat]? = some (-1))
theorem c_canAsk {m : Nat} {t : List T} {ks : List Int} (hm : m ≤ 5) (hl : ks.length = m) (a : Int) : call lf n_impl_point_canAsk [pD m t ks, .i a] = some (.b (caK m ks a), []) := by
  have W := c_impl_isWithin a 0 ((m : Int) - 1)
  have w1 : wr ((m : Int) - 1) = (m : Int) - 1 := wr_id (by omega) (by omega)
  unfold pD pv
  rw [call_k lf n_impl_point_canAsk _ (F := F_impl_point_canAsk) rfl rfl]
  unfold caK
  by_cases h : 0 ≤ a ∧ a < m
  · obtain ⟨k, rfl⟩ := Int.eq_ofNat_of_zero_le h.1
    have e : decide (0 ≤ (k : Int) ∧ (k : Int) ≤ (m : Int) - 1) = true := decide_eq_true ⟨h.1, by omega⟩
    have H := c_impl_hasTest (aN ks) k (by omega)
    have hb := aN_bit (ks := ks) (i := k) (by omega)
    rw [hb] at H
    rw [e] at W
    rw [decide_eq_true h, Int.toNat_natCast]
    generalize aN ks = x at *
    generalize lfW ks = y at *
    simp [F_impl_point_canAsk, w1, W, H]
  · have e : decide (0 ≤ a ∧ a ≤ (m : Int) - 1) = false := decide_eq_false (by omega)
    rw [e] at W
    rw [decide_eq_false h]
    simp [F_impl_point_canAsk, w1, W]
/-- nowhere nothing may be asked -/
theorem c_canAsk0 (a : Int) : call lf n_impl_point_canAsk [pv 0 0 (0#32) (0#32), .i a] = some (.b false, []) := by
  have W := c_impl_isWithin a 0 (-1)
  have e : decide (0 ≤ a ∧ a ≤ -1) = false := decide_eq_false (by omega)
  rw [e] at W
  have w1 : wr (-1) = -1 := wr_id (by omega) (by omega)
  unfold pv
  rw [call_k lf n_impl_point_canAsk _ (F := F_impl_point_canAsk) rfl rfl]
  simp [F_impl_point_canAsk, w1, W]
theorem c_answered {m : Nat} {t : List T} {ks : List Int} {k : Nat} (b : Bool) (hl : ks.length ≤ 5) (hk : ks.all kOk = true) (h : ks[k]? = some (-1)) : call lf n_impl_point_answered [pD m t ks, .i k, .i (bI b)] = some (pD m t (ks.set k (bI b)), []) := by
  have hlt := ks_ex h
  have C := c_impl_statesSaying (k := k) (by omega) (bI b)
  have e1 : syI k (bI b) = syW k b := by cases b <;> rfl
  rw [e1] at C
  have sh := shl1 (k := (k : Int)) (by omega) (by omega)
  have nk : ¬ (k : Int) < 0 := by omega
  have l := aN_lt ks
  have p : 2 ^ ks.length ≤ 2 ^ 5 := Nat.pow_le_pow_right (by omega) hl
  have p2 : 2 ^ k ≤ 2 ^ 5 := Nat.pow_le_pow_right (by omega) (by omega)
  have o := orI_nat (a := aN ks) (b := 2 ^ k) (by omega) (by omega)
  rw [← aN_set (b := bI b) (by cases b <;> simp [bI]) h] at o
  have e2 := lfW_set b hk hl h
  unfold pD pv
  rw [call_k lf n_impl_point_answered _ (F := F_impl_point_answered) rfl rfl]
  rw [e2]
  have o' : orI (aN ks) (2 ^ k) = aN (ks.set k (bI b)) := by
    have : ((2 ^ k : Nat) : Int) = 2 ^ k := by simp
    rw [← this]; exact o
  rw [Int.toNat_natCast] at sh
  generalize aN (ks.set k (bI b)) = x at *
  generalize aN ks = y at *
  generalize lfW ks = z at *
  generalize (2 : Int) ^ k = w at *
  simp [F_impl_point_answered, C, sh, nk, o']
theorem c_startOf {m : Nat} {t : List T} (hm : m ≤ 5) (h : tmOk m t = true) : call lf n_impl_startOf [.i m, .sl 0 (t.map e2)] = some (pD m t (non m), []) := by
  have C := c_impl_trueStates h
  unfold pD pv
  rw [aN_non, lfW_non m hm]
  rw [call_k lf n_impl_startOf _ (F := F_impl_startOf) rfl rfl]
  simp [F_impl_startOf, C]
theorem c_firstOf (P : List C3) (h : (P.length : Int) < 1099511627776) : call lf n_impl_firstOf [.sl 0 (P.map e3)] = some (.i (rot P), []) := by
  rw [call_k lf n_impl_firstOf _ (F := F_impl_firstOf) rfl rfl]
  unfold rot
  cases P with
  | nil => simp [F_impl_firstOf]
  | cons c r =>
    have e : (((r.length : Int) + 1) == 0) = false := beq_eq_false_iff_ne.2 (by omega)
    simp [F_impl_firstOf, e]
end
section
attribute [-simp] DV.cells
attribute [local simp] sliceD cells_st cells_sl cells_i cells_y cells_b cells_s cells_w
attribute [local simp] lend_e3 adopt_e3 new_e3 al_e3 lt_e3
def e4 (m : Nat) (t : List T) : Option (List Int) → DV
  | some ks => pD m t ks
  | none => pv 0 0 (0#32) (0#32)
theorem e4_st (m : Nat) (t : List T) (o : Option (List Int)) : ∃ (a b : Int) (w v : BitVec 32), e4 m t o = .st [.i a, .i b, .w w, .w v] := by
  cases o with
  | none => exact ⟨_, _, _, _, rfl⟩
  | some ks => exact ⟨_, _, _, _, rfl⟩
theorem e4_lend (m : Nat) (t : List T) (o : Option (List Int)) : (e4 m t o).lend = e4 m t o := by
  obtain ⟨a, b, w, v, e⟩ := e4_st m t o
  rw [e]; rfl
theorem e4_adopt (m : Nat) (t : List T) (o : Option (List Int)) (x : Bool) : (e4 m t o).adopt x = e4 m t o := by
  obtain ⟨a, b, w, v, e⟩ := e4_st m t o
  rw [e]; rfl
theorem e4_cells (m : Nat) (t : List T) (o : Option (List Int)) : (e4 m t o).cells.length = 4 := by
  obtain ⟨a, b, w, v, e⟩ := e4_st m t o
  rw [e]; rfl
theorem lend_e4 (m : Nat) (t : List T) (P : Pts) : lendL (P.map (e4 m t)) = P.map (e4 m t) := by
  rw [lendL_map, List.map_map]
  exact List.map_congr_left fun o _ => e4_lend m t o
theorem adopt_e4 (m : Nat) (t : List T) (x : Bool) (P : Pts) : adoptL x (P.map (e4 m t)) = P.map (e4 m t) := by
  rw [adoptL_map, List.map_map]
  exact List.map_congr_left fun o _ => e4_adopt m t o x
theorem new_e4 (m : Nat) (t : List T) (P : Pts) : allNewL (P.map (e4 m t)) = true := by
  rw [allNewL_all, List.all_map, List.all_eq_true]
  intro o _
  obtain ⟨a, b, w, v, e⟩ := e4_st m t o
  show (e4 m t o).allNew = true
  rw [e]; rfl
theorem wid_e4 (m : Nat) (t : List T) (P : Pts) : ∀ e ∈ P.map (e4 m t), e.cells.length = 4 := fun e he => by
  obtain ⟨o, _, rfl⟩ := List.mem_map.1 he
  exact e4_cells m t o
theorem atN_e4 {m : Nat} {t : List T} {P : Pts} {p : Nat} {o : Option (List Int)} (h : P[p]? = some o) : atN (P.map (e4 m t)) p = some (e4 m t o) := by
  show (P.map (e4 m t))[p]? = _
  rw [List.getElem?_map, h]; rfl
/-- what comesTo answers, and what it leaves of the row -/
def ctR (m : Nat) (t : List T) (pts : Pts) : Option Pts → DV × List DV
  | some q => (.b true, [.fr 4 (q.map (e4 m t))])
  | none => (.b false, [.fr 4 (pts.map (e4 m t))])
set_option maxHeartbeats 4000000 in
theorem c_comesTo {m : Nat} {t : List T} {pts : Pts} {p a : Int} {ks : List Int} (h1 : tmOk m t = true) (hl : ks.length = m) (hk : ks.all kOk = true) (hp : -1 ≤ p ∧ p ≤ 100) (hn : pts.length ≤ 40) :
    call lf n_impl_comesTo [.fr 4 (pts.map (e4 m t)), .i p, .i a, pD m t ks] = some (ctR m t pts (cTo m t pts p a ks)) := by
  obtain ⟨h3, _, _⟩ := tmOk_iff.1 h1
  have F := c_isForced h1 hl hk
  have W := c_impl_isWithin a (p + 1) ((pts.length : Int) - 1)
  have w1 : wr (p + 1) = p + 1 := wr_id (by omega) (by omega)
  have w2 : wr ((pts.length : Int) - 1) = (pts.length : Int) - 1 := wr_id (by omega) (by omega)
  have len : (pts.map (e4 m t)).length = pts.length := by simp
  have wid := wid_e4 m t pts
  have ad := fun x => adopt_e4 m t x pts
  rw [call_k lf n_impl_comesTo _ (F := F_impl_comesTo) rfl rfl]
  unfold cTo
  by_cases ha : a = -1
  · subst ha
    unfold pD pv at *
    cases hf : fcd m t ks with
    | true =>
      rw [hf] at F
      rw [if_pos (.inl rfl), if_pos ⟨rfl, rfl⟩]
      simp only [ctR]
      generalize pts.map (e4 m t) = M at *
      simp [F_impl_comesTo, F, len]
    | false =>
      rw [hf] at F
      rw [if_pos (.inl rfl), if_neg (by simp)]
      simp only [ctR]
      generalize pts.map (e4 m t) = M at *
      simp [F_impl_comesTo, F, len]
  · have na : (a == -1) = false := beq_eq_false_iff_ne.2 ha
    cases hf : fcd m t ks with
    | true =>
      rw [hf] at F
      rw [if_pos (.inr rfl), if_neg (fun h => ha h.1)]
      simp only [ctR]
      unfold pD pv at *
      generalize pts.map (e4 m t) = M at *
      simp [F_impl_comesTo, F, na, len]
    | false =>
      rw [hf] at F
      rw [if_neg (by simp [ha])]
      by_cases hw : p + 1 ≤ a ∧ a ≤ (pts.length : Int) - 1
      · rw [decide_eq_true hw] at W
        obtain ⟨n, rfl⟩ := Int.eq_ofNat_of_zero_le (a := a) (by omega)
        rw [Int.toNat_natCast]
        have hlt : n < pts.length := by omega
        have hlt' : (n : Int) < pts.length := by omega
        obtain ⟨o, ho⟩ : ∃ o, pts[n]? = some o := ⟨pts[n], List.getElem?_eq_getElem hlt⟩
        have A := atN_e4 (m := m) (t := t) ho
        cases o with
        | none =>
          rw [if_pos ⟨hw.1, hw.2, ho⟩]
          simp only [ctR]
          have e : (pts.set n (some ks)).map (e4 m t) = (pts.map (e4 m t)).set n (pD m t ks) := by rw [List.map_set]; rfl
          rw [e]
          simp only [e4] at A
          unfold pD pv at *
          have z1 : ((0 : Int) == 0) = true := rfl
          have z2 : ((0#32 : BitVec 32) == 0#32) = true := rfl
          generalize pts.map (e4 m t) = M at *
          generalize pts.length = N at *
          simp [F_impl_comesTo, F, na, w1, w2, W, len, hlt, hlt', A, eqI]
        | some ls =>
          rw [if_neg (by rw [ho]; rintro ⟨_, _, h⟩; cases h)]
          simp only [ctR]
          simp only [e4] at A
          unfold pD pv at *
          have m0 : ((m : Int) == 0) = false := beq_eq_false_iff_ne.2 (by omega)
          generalize pts.map (e4 m t) = M at *
          generalize pts.length = N at *
          simp [F_impl_comesTo, F, na, w1, w2, W, len, hlt, hlt', A, eqI, m0]
      · rw [decide_eq_false hw] at W
        rw [if_neg (fun h => hw ⟨h.1, h.2.1⟩)]
        simp only [ctR]
        unfold pD pv at *
        generalize pts.map (e4 m t) = M at *
        simp [F_impl_comesTo, F, na, w1, w2, W, len]
def stPt (m : Nat) (t : List T) (P : List C3) (p : Nat) (pts : Pts) : LS :=
  ⟨[(8, .own 11808 P.length 0 P.length), (32, .sl 0 (P.map e3)), (33, .i P.length), (34, .i p)], [(11808, pts.map (e4 m t))]⟩
def noPt : LS := ⟨[(6, .own 3104 0 0 0), (7, .b false)], [(3104, [])]⟩
set_option maxHeartbeats 8000000 in
theorem pt_step {m : Nat} {t : List T} {P : List C3} {p : Nat} {pts : Pts} {c : C3} (h1 : tmOk m t = true) (hc : P[p]? = some c) (hP : P.length ≤ 31) (hl : pts.length = P.length)
    (ho : ∀ (a : Nat) (ks : List Int), pts[a]? = some (some ks) → ks.length = m ∧ ks.all kOk = true) :
    ex lf F_impl_pointsOf_L0 (stPt m t P p pts) = match rn1 m t pts p c with
      | some q => some (.normal, stPt m t P (p + 1) q)
      | none => some (.ret, noPt) := by
  obtain ⟨h3, _, _⟩ := tmOk_iff.1 h1
  obtain ⟨k, no, ye⟩ := c
  have hlt : p < P.length := (List.getElem?_eq_some_iff.1 hc).1
  have hlt' : (p : Int) < P.length := by omega
  have AP := at_e3 hc
  have AN := atN_e3 hc
  simp only at AP AN
  obtain ⟨o, hpo⟩ : ∃ o, pts[p]? = some o := ⟨pts[p]'(by omega), List.getElem?_eq_getElem (by omega)⟩
  have A := atN_e4 (m := m) (t := t) hpo
  have len : (pts.map (e4 m t)).length = P.length := by simp [hl]
  have wid := wid_e4 m t pts
  have ld := lend_e4 m t pts
  have ad := fun x => adopt_e4 m t x pts
  have w1 : wr ((p : Int) + 1) = ((p + 1 : Nat) : Int) := by rw [wr_id (by omega) (by omega)]; omega
  unfold rn1
  rw [hpo]
  cases o with
  | none =>
    simp only
    have C := c_canAsk0 k
    simp only [e4] at A
    unfold stPt noPt
    unfold pv at *
    generalize pts.map (e4 m t) = M at *
    generalize P.length = N at *
    simp [F_impl_pointsOf_L0, hlt, hlt', AP, AN, len, A, C, w1, -Int.natCast_add]
  | some ks =>
    simp only
    obtain ⟨o1, o2⟩ := ho p ks hpo
    have C := c_canAsk (t := t) (ks := ks) (by omega) o1 k
    simp only [e4] at A
    by_cases hk : (0 ≤ k ∧ k < m) ∧ ks[k.toNat]? = some (-1)
    · have ca : caK m ks k = true := by unfold caK; rw [decide_eq_true hk.1, decide_eq_true hk.2]; rfl
      rw [ca] at C
      rw [if_pos hk]
      obtain ⟨j, rfl⟩ := Int.eq_ofNat_of_zero_le hk.1.1
      rw [Int.toNat_natCast] at hk ⊢
      have B0 := c_answered (m := m) (t := t) false (by omega) o2 hk.2
      have B1 := c_answered (m := m) (t := t) true (by omega) o2 hk.2
      rw [bI_0] at B0
      rw [bI_1] at B1
      have k0 : (ks.set j 0).all kOk = true := kOk_set o2 j false
      have k1 : (ks.set j 1).all kOk = true := kOk_set o2 j true
      have G0 := c_comesTo (pts := pts) (p := p) (a := no) h1 (ks := ks.set j 0) (by simpa using o1) k0 ⟨by omega, by omega⟩ (by omega)
      cases hc0 : cTo m t pts p no (ks.set j 0) with
      | none =>
        rw [hc0] at G0
        simp only [ctR] at G0
        rw [Option.bind_none]
        simp only
        unfold stPt noPt
        unfold pD pv at *
        generalize pts.map (e4 m t) = M at *
        generalize P.length = N at *
        simp [F_impl_pointsOf_L0, hlt, hlt', AP, AN, len, A, C, B0, G0, ld, ad, w1, -Int.natCast_add]
      | some q1 =>
        rw [hc0] at G0
        simp only [ctR] at G0
        rw [Option.bind_some]
        have l1 := cTo_len (by omega) hc0
        have len1 : (q1.map (e4 m t)).length = P.length := by simp [l1, hl]
        have ld1 := lend_e4 m t q1
        have ad1 := fun x => adopt_e4 m t x q1
        have G1 := c_comesTo (pts := q1) (p := p) (a := ye) h1 (ks := ks.set j 1) (by simpa using o1) k1 ⟨by omega, by omega⟩ (by omega)
        cases hc1 : cTo m t q1 p ye (ks.set j 1) with
        | none =>
          rw [hc1] at G1
          simp only [ctR] at G1
          simp only
          unfold stPt noPt
          unfold pD pv at *
          generalize pts.map (e4 m t) = M at *
          generalize q1.map (e4 m t) = M1 at *
          generalize P.length = N at *
          simp [F_impl_pointsOf_L0, hlt, hlt', AP, AN, len, A, C, B0, B1, G0, G1, len1, ld, ad, ld1, ad1, w1, -Int.natCast_add]
        | some q2 =>
          rw [hc1] at G1
          simp only [ctR] at G1
          simp only
          have ad2 := fun x => adopt_e4 m t x q2
          unfold stPt
          unfold pD pv at *
          generalize pts.map (e4 m t) = M at *
          generalize q1.map (e4 m t) = M1 at *
          generalize q2.map (e4 m t) = M2 at *
          generalize P.length = N at *
          simp [F_impl_pointsOf_L0, hlt, hlt', AP, AN, len, A, C, B0, B1, G0, G1, len1, ld, ad, ld1, ad1, ad2, w1, -Int.natCast_add]
    · have ca : caK m ks k = false := by
        unfold caK
        by_cases q : 0 ≤ k ∧ k < m
        · rw [decide_eq_true q, decide_eq_false (fun h => hk ⟨q, h⟩)]; rfl
        · rw [decide_eq_false q]; rfl
      rw [ca] at C
      rw [if_neg hk]
      simp only
      unfold stPt noPt
      unfold pD pv at *
      generalize pts.map (e4 m t) = M at *
      generalize P.length = N at *
      simp [F_impl_pointsOf_L0, hlt, hlt', AP, AN, len, A, C, w1, -Int.natCast_add]
end
section
attribute [-simp] DV.cells
attribute [local simp] sliceD cells_st cells_sl cells_i cells_y cells_b cells_s cells_w
attribute [local simp] lend_e3 adopt_e3 new_e3 al_e3 lt_e3
theorem pt_loop {m : Nat} {t : List T} {P : List C3} (h1 : tmOk m t = true) (hP : P.length ≤ 31) : ∀ (rest : List C3) (p : Nat) (pts : Pts), P.drop p = rest → p ≤ P.length → Inv m t P p pts →
    ex lf F_impl_pointsOf_W0 (stPt m t P p pts) = match rnA m t rest p pts with
      | some q => some (.exit 0, stPt m t P P.length q)
      | none => some (.ret, noPt)
  | [], p, pts, hd, hp, h => by
    have : P.length ≤ p := List.drop_eq_nil_iff.1 hd
    have e : p = P.length := by omega
    subst e
    rw [w_impl_pointsOf_0]
    unfold stPt
    have nlt : ¬ ((P.length : Int) < P.length) := by omega
    simp [F_impl_pointsOf_L0, nlt, rnA]
  | c :: r, p, pts, hd, hp, h => by
    have hc : P[p]? = some c := by
      have : (P.drop p)[0]? = some c := by rw [hd]; rfl
      rw [List.getElem?_drop, Nat.add_zero] at this
      exact this
    have hlt : p < P.length := (List.getElem?_eq_some_iff.1 hc).1
    have hd' : P.drop (p + 1) = r := by
      rw [← List.drop_drop, hd]
      rfl
    have S := pt_step h1 hc hP h.len (fun a ks ha => by obtain ⟨q1, q2, _⟩ := h.ok a ks ha; exact ⟨q1, q2⟩)
    rw [w_impl_pointsOf_0, S]
    simp only [rnA]
    cases hr : rn1 m t pts p c with
    | none => rfl
    | some q =>
      rw [Option.bind_some]
      exact pt_loop h1 hP r (p + 1) q hd' (by omega) (inv_step hc h hr)
/-- the rows of points, and whether there is one -/
def ptR (m : Int) (t : List T) (P : List C3) : Option Pts := if tmOk m t && decide (P.length ≤ 31) then rnS m.toNat t P else none
theorem ptR_iff {m : Int} {t : List T} {P : List C3} : (∃ q, ptR m t P = some q) ↔ pkOk m t P = true := by
  unfold ptR
  cases h1 : tmOk m t with
  | false =>
    simp only [Bool.false_and, Bool.false_eq_true, if_false]
    unfold pkOk
    rw [h1]
    simp
  | true =>
    obtain ⟨h3, _, _⟩ := tmOk_iff.1 h1
    obtain ⟨n, rfl⟩ := Int.eq_ofNat_of_zero_le (a := m) (by omega)
    rw [pk_iff, Int.toNat_natCast]
    by_cases h : P.length ≤ 31
    · rw [decide_eq_true h, Bool.and_self, if_pos rfl, rnS_iff h]
      exact ⟨fun q => ⟨h1, q⟩, fun q => q.2⟩
    · rw [decide_eq_false h]
      simp only [Bool.and_false, Bool.false_eq_true, if_false]
      constructor
      · rintro ⟨q, h⟩; cases h
      · rintro ⟨_, L, hL⟩; exact absurd hL.few h
def ptD (m : Int) (t : List T) : Option Pts → List DV
  | some q => q.map (e4 m.toNat t)
  | none => []
set_option maxHeartbeats 4000000 in
theorem c_pointsOf {m : Int} {t : List T} {P : List C3} (ht : (t.length : Int) < 1099511627776) (hN : (P.length : Int) < 1099511627776) :
    call lf n_impl_pointsOf [.i m, .sl 0 (t.map e2), .sl 0 (P.map e3)] = some (.tup [.fr 4 (ptD m t (ptR m t P)), .b (ptR m t P).isSome], []) := by
  have C1 := c_impl_TermOk m t ht
  rw [call_k lf n_impl_pointsOf _ (F := F_impl_pointsOf) rfl rfl]
  have lP : (P.map e3).length = P.length := by simp
  unfold ptR
  cases h1 : tmOk m t with
  | false => rw [h1] at C1; simp [F_impl_pointsOf, C1, ptD]
  | true =>
    rw [h1] at C1
    obtain ⟨h3, _, _⟩ := tmOk_iff.1 h1
    obtain ⟨n, rfl⟩ := Int.eq_ofNat_of_zero_le (a := m) (by omega)
    rw [Int.toNat_natCast]
    by_cases h : P.length ≤ 31
    · have ng : ¬ (31 : Int) < P.length := by omega
      rw [decide_eq_true h, Bool.and_self, if_pos rfl]
      have C2 := c_firstOf P hN
      have C3 := c_startOf (t := t) (by omega) h1
      have r1 : -1 ≤ rot P := by unfold rot; split <;> omega
      have C4 := c_comesTo (pts := List.replicate P.length none) (p := -1) (a := rot P) h1 (non_len n) (non_all n) ⟨by omega, by omega⟩ (by rw [List.length_replicate]; omega)
      have lE := lend_e3 P
      have rp : (List.replicate P.length (none : Option (List Int))).map (e4 n t) = List.replicate P.length (.st [.i 0, .i 0, .w (0#32), .w (0#32)]) := by rw [List.map_replicate]; rfl
      have ldr := lend_e4 n t (List.replicate P.length none)
      have adr := fun x => adopt_e4 n t x (List.replicate P.length none)
      rw [rp] at C4 ldr adr
      have lb : (P.length : Int) ≤ (bound : Int) := by unfold bound; omega
      unfold rnS
      cases hq : cTo n t (List.replicate P.length none) (-1) (rot P) (non n) with
      | none =>
        rw [hq] at C4
        simp only [ctR] at C4
        rw [rp] at C4
        rw [Option.bind_none]
        unfold pD pv at *
        generalize P.map e3 = Q at *
        generalize rot P = r0 at *
        generalize P.length = N at *
        have lr : (List.replicate N (DV.st [.i 0, .i 0, .w (0#32), .w (0#32)])).length = N := by simp
        simp [F_impl_pointsOf, C1, C2, C3, C4, ng, lb, lP, lE, ldr, adr, lr, ptD]
      | some q0 =>
        rw [hq] at C4
        simp only [ctR] at C4
        rw [Option.bind_some]
        obtain ⟨iv, _⟩ := inv_start hq
        have L := pt_loop h1 h P 0 q0 rfl (Nat.zero_le _) iv
        have ad0 := fun x => adopt_e4 n t x q0
        have lq0 : (q0.map (e4 n t)).length = P.length := by rw [List.length_map, iv.len]
        cases hr : rnA n t P 0 q0 with
        | none =>
          rw [hr] at L
          simp only at L
          unfold stPt noPt at L
          unfold pD pv at *
          generalize q0.map (e4 n t) = M at *
          generalize P.map e3 = Q at *
          generalize rot P = r0 at *
          generalize P.length = N at *
          have lr : (List.replicate N (DV.st [.i 0, .i 0, .w (0#32), .w (0#32)])).length = N := by simp
          simp only [Int.natCast_zero] at L
          simp [F_impl_pointsOf, C1, C2, C3, C4, ng, lb, lP, lE, ldr, ad0, lr, L, ptD]
        | some q =>
          rw [hr] at L
          simp only at L
          have iv2 := inv_all P 0 q0 q rfl (Nat.zero_le _) iv hr
          have lq : (q.map (e4 n t)).length = P.length := by rw [List.length_map, iv2.len]
          unfold stPt at L
          unfold pD pv at *
          simp only [ptD, Int.toNat_natCast]
          generalize q.map (e4 n t) = M2 at *
          generalize q0.map (e4 n t) = M at *
          generalize P.map e3 = Q at *
          generalize rot P = r0 at *
          generalize P.length = N at *
          have lr : (List.replicate N (DV.st [.i 0, .i 0, .w (0#32), .w (0#32)])).length = N := by simp
          simp only [Int.natCast_zero] at L
          simp [F_impl_pointsOf, C1, C2, C3, C4, ng, lb, lP, lE, ldr, ad0, lr, L, lq]
    · have ng : (31 : Int) < P.length := by omega
      rw [decide_eq_false h]
      generalize P.map e3 = Q at *
      generalize P.length = N at *
      simp [F_impl_pointsOf, C1, ng, lP, ptD]
theorem c_impl_PlanOk {m : Int} {t : List T} {P : List C3} (ht : (t.length : Int) < 1099511627776) (hN : (P.length : Int) < 1099511627776) :
    call lf n_impl_PlanOk [.i m, .sl 0 (t.map e2), .sl 0 (P.map e3)] = some (.b (pkOk m t P), []) := by
  have C := c_pointsOf (m := m) (t := t) (P := P) ht hN
  have e : (ptR m t P).isSome = pkOk m t P := by
    have q := ptR_iff (m := m) (t := t) (P := P)
    rw [Bool.eq_iff_iff, Option.isSome_iff_exists]
    exact q
  rw [e] at C
  have nw : allNewL (ptD m t (ptR m t P)) = true := by
    cases ptR m t P with
    | none => rfl
    | some q => exact new_e4 _ _ _
  rw [call_k lf n_impl_PlanOk _ (F := F_impl_PlanOk) rfl rfl]
  generalize ptD m t (ptR m t P) = M at *
  simp [F_impl_PlanOk, C, nw]
structure Fin (m : Nat) (t : List T) (P : List C3) (L : LT) (pts : Pts) : Prop where
  inv : Inv m t P P.length pts
  start : go3 m t P.length pts (-1) (rot P) (non m)
theorem fin_of {m : Nat} {t : List T} {P : List C3} {L : LT} (ht : tmOk m t = true) (h : isPl m t P L) : ∃ q, ptR m t P = some q ∧ Fin m t P L q := by
  have pk : pkOk m t P = true := pk_iff.2 ⟨ht, L, h⟩
  obtain ⟨q, hq⟩ := ptR_iff.2 pk
  refine ⟨q, hq, ?_⟩
  unfold ptR at hq
  split at hq
  · rw [Int.toNat_natCast] at hq
    unfold rnS at hq
    simp only [Option.bind_eq_some_iff] at hq
    obtain ⟨q0, h1, h2⟩ := hq
    obtain ⟨i, g⟩ := inv_start h1
    exact ⟨inv_all P 0 q0 q rfl (Nat.zero_le _) i h2, rn_keep P 0 q0 q h2 g⟩
  · cases hq
theorem fin_all {us t : List T} {P : List C3} {pts : Pts} (hI : Inv us.length t P P.length pts) : ∀ (L : LT) (a : Int) (ks : List Int), enc P a L → okT us.length t ks L.er → (∀ g, L.cnt g ≤ 1) → (a ≠ -1 → pts[a.toNat]? = some (some ks)) → ∀ b, 0 < L.cnt b →
    ∃ ks', pts[b]? = some (some ks') ∧ kn ks' + 1 ≤ kn ks + dpT L.er ∧ rW us b ks L = wk us ks'
  | .stop, a, ks, _, _, _, _, b, hb => by simp [LT.cnt] at hb
  | .ask p k n y, a, ks, ⟨e, no, ye, d1, d2, d3, d4, d5⟩, ⟨o1, o2, o3, o4⟩, hc, hp, b, hb => by
    have hpa : pts[p]? = some (some ks) := by
      have := hp (by omega)
      rw [e, Int.toNat_natCast] at this
      exact this
    obtain ⟨ks', k', no', ye', a1, a2, a3, a4, a5, a6⟩ := hI.loc p (List.getElem?_eq_some_iff.1 d1).1
    rw [hpa] at a2
    rw [d1] at a1
    simp only [Option.some.injEq, Prod.mk.injEq] at a1 a2
    obtain ⟨rfl, rfl, rfl⟩ := a1
    subst a2
    rw [Int.toNat_natCast] at a5 a6
    have s0 := kn_set (b := 0) (by decide) o2
    have s1 := kn_set (b := 1) (by decide) o2
    simp only [LT.er, dpT]
    by_cases hpb : p = b
    · subst hpb
      exact ⟨ks, hpa, by omega, by simp [rW]⟩
    · simp only [LT.cnt] at hb
      rw [if_neg hpb] at hb
      have hcb := hc b
      simp only [LT.cnt] at hcb
      rw [if_neg hpb] at hcb
      have cn : ∀ g, n.cnt g ≤ 1 := fun g => by have := hc g; simp only [LT.cnt] at this; omega
      have cy : ∀ g, y.cnt g ≤ 1 := fun g => by have := hc g; simp only [LT.cnt] at this; omega
      have pn : no ≠ -1 → pts[no.toNat]? = some (some (ks.set k 0)) := fun h => by
        rcases a5 with ⟨q, _⟩ | ⟨_, _, q⟩
        · exact absurd q h
        · exact q
      have py : ye ≠ -1 → pts[ye.toNat]? = some (some (ks.set k 1)) := fun h => by
        rcases a6 with ⟨q, _⟩ | ⟨_, _, q⟩
        · exact absurd q h
        · exact q
      by_cases h0 : 0 < n.cnt b
      · obtain ⟨ks', q1, q2, q3⟩ := fin_all hI n no (ks.set k 0) d4 o3 cn pn b h0
        refine ⟨ks', q1, by omega, ?_⟩
        simp only [rW]
        rw [if_neg hpb, rW_zero y _ (by omega), q3]
        omega
      · obtain ⟨ks', q1, q2, q3⟩ := fin_all hI y ye (ks.set k 1) d5 o4 cy py b (by omega)
        refine ⟨ks', q1, by omega, ?_⟩
        simp only [rW]
        rw [if_neg hpb, rW_zero n _ (by omega), q3]
        omega
theorem fin_max {m : Nat} {t : List T} {P : List C3} {pts : Pts} (hI : Inv m t P P.length pts) : ∀ (L : LT) (a : Int) (ks : List Int), enc P a L → okT m t ks L.er → (a ≠ -1 → pts[a.toNat]? = some (some ks)) → 0 < dpT L.er →
    ∃ b ks', b < P.length ∧ pts[b]? = some (some ks') ∧ kn ks' + 1 = kn ks + dpT L.er
  | .stop, a, ks, _, _, _, h => by simp [LT.er, dpT] at h
  | .ask p k n y, a, ks, ⟨e, no, ye, d1, d2, d3, d4, d5⟩, ⟨o1, o2, o3, o4⟩, hp, hd => by
    have hpl := (List.getElem?_eq_some_iff.1 d1).1
    have hpa : pts[p]? = some (some ks) := by
      have := hp (by omega)
      rw [e, Int.toNat_natCast] at this
      exact this
    obtain ⟨ks', k', no', ye', a1, a2, a3, a4, a5, a6⟩ := hI.loc p hpl
    rw [hpa] at a2
    rw [d1] at a1
    simp only [Option.some.injEq, Prod.mk.injEq] at a1 a2
    obtain ⟨rfl, rfl, rfl⟩ := a1
    subst a2
    rw [Int.toNat_natCast] at a5 a6
    have s0 := kn_set (b := 0) (by decide) o2
    have s1 := kn_set (b := 1) (by decide) o2
    simp only [LT.er, dpT]
    have pn : no ≠ -1 → pts[no.toNat]? = some (some (ks.set k 0)) := fun h => by
      rcases a5 with ⟨q, _⟩ | ⟨_, _, q⟩
      · exact absurd q h
      · exact q
    have py : ye ≠ -1 → pts[ye.toNat]? = some (some (ks.set k 1)) := fun h => by
      rcases a6 with ⟨q, _⟩ | ⟨_, _, q⟩
      · exact absurd q h
      · exact q
    by_cases hz : max (dpT n.er) (dpT y.er) = 0
    · exact ⟨p, ks, hpl, hpa, by omega⟩
    · by_cases hm : dpT y.er ≤ dpT n.er
      · obtain ⟨b, ks', q0, q1, q2⟩ := fin_max hI n no (ks.set k 0) d4 o3 pn (by omega)
        exact ⟨b, ks', q0, q1, by omega⟩
      · obtain ⟨b, ks', q0, q1, q2⟩ := fin_max hI y ye (ks.set k 1) d5 o4 py (by omega)
        exact ⟨b, ks', q0, q1, by omega⟩
theorem fin_root {m : Nat} {t : List T} {P : List C3} {L : LT} {pts : Pts} (h : Fin m t P L pts) : rot P ≠ -1 → pts[(rot P).toNat]? = some (some (non m)) := fun hr => by
  rcases h.start with ⟨q, _⟩ | ⟨_, _, q⟩
  · exact absurd q hr
  · exact q
end
section
attribute [-simp] DV.cells
attribute [local simp] sliceD cells_st cells_sl cells_i cells_y cells_b cells_s cells_w
attribute [local simp] lend_e3 adopt_e3 new_e3 al_e3 lt_e3
def dmx (pts : Pts) : Nat → Int
  | 0 => 0
  | i + 1 => max (dmx pts i) (match pts[i]? with
    | some (some ks) => (kn ks : Int) + 1
    | _ => 0)
theorem dmx_le {pts : Pts} {d : Int} (h0 : 0 ≤ d) : ∀ {n : Nat}, (∀ b ks, b < n → pts[b]? = some (some ks) → (kn ks : Int) + 1 ≤ d) → dmx pts n ≤ d
  | 0, _ => h0
  | n + 1, h => by
    have ih := dmx_le (n := n) h0 (fun b ks hb => h b ks (by omega))
    simp only [dmx]
    split
    · rename_i ks hk
      have := h n ks (by omega) hk
      omega
    · omega
theorem dmx_ge {pts : Pts} : ∀ {n b : Nat} {ks : List Int}, b < n → pts[b]? = some (some ks) → (kn ks : Int) + 1 ≤ dmx pts n
  | 0, b, ks, h, _ => by omega
  | n + 1, b, ks, h, hk => by
    simp only [dmx]
    by_cases e : b = n
    · subst e
      rw [hk]
      simp only
      omega
    · have := dmx_ge (n := n) (b := b) (by omega) hk
      omega
theorem fin_depth {us t : List T} {P : List C3} {L : LT} {pts : Pts} (h : isPl us.length t P L) (hF : Fin us.length t P L pts) : dmx pts P.length = dpT L.er := by
  have le1 := cnt_le h.on.1 h.e
  have r := fin_root hF
  have n0 := kn_non us.length
  have a := dmx_le (pts := pts) (d := dpT L.er) (by omega) (n := P.length) (fun b ks hb hk => by
    obtain ⟨ks', q1, q2, _⟩ := fin_all hF.inv L (rot P) (non us.length) h.e h.ok le1 r b (by rw [all_in h.on.1 h.e h.sz b hb]; omega)
    rw [hk] at q1
    simp only [Option.some.injEq] at q1
    subst q1
    omega)
  by_cases hd : 0 < dpT L.er
  · obtain ⟨b, ks', q0, q1, q2⟩ := fin_max hF.inv L (rot P) (non us.length) h.e h.ok r hd
    have := dmx_ge q0 q1
    omega
  · have : 0 ≤ dmx pts P.length := by
      generalize P.length = n
      induction n with
      | zero => exact Int.le_refl _
      | succ n ih => simp only [dmx]; omega
    omega
theorem ptD_some (m : Int) (t : List T) (q : Pts) : ptD m t (some q) = q.map (e4 m.toNat t) := rfl
set_option maxHeartbeats 4000000 in
theorem c_impl_DepthOf {m : Nat} {t : List T} {P : List C3} {L : LT} (ht : tmOk m t = true) (h : isPl m t P L) :
    call lf n_impl_DepthOf [.i m, .sl 0 (t.map e2), .sl 0 (P.map e3)] = some (.i (dpT L.er), []) := by
  obtain ⟨⟨m1, m5⟩, tl, _⟩ := tmOk_iff.1 ht
  have few := h.few
  have C := c_pointsOf (m := m) (t := t) (P := P) (by omega) (by omega)
  obtain ⟨q, hq, hF⟩ := fin_of ht h
  rw [hq, ptD_some, Int.toNat_natCast] at C
  have ll := List.length_replicate (n := m) (a := ((1 : Int), (1 : Int)))
  have D := fin_depth (us := List.replicate m ((1 : Int), (1 : Int))) (t := t) (P := P) (L := L) (pts := q) (by rw [ll]; exact h) (by rw [ll]; exact hF)
  have lq : q.length = P.length := hF.inv.len
  have len : (q.map (e4 m t)).length = P.length := by rw [List.length_map, lq]
  have nw := new_e4 m t q
  have ad := fun x => adopt_e4 m t x q
  have LP := loop_count (lf := lf) (L := F_impl_DepthOf_L0) P.length (fun i => ⟨[(9, .i (dmx q i)), (21, .own 8225 P.length 0 P.length), (22, .i P.length), (23, .i i)], [(8225, q.map (e4 m t))]⟩) (x := .exit 0) (R := ⟨[(9, .i (dmx q P.length)), (21, .own 8225 P.length 0 P.length), (22, .i P.length), (23, .i P.length)], [(8225, q.map (e4 m t))]⟩) (fun i hi => by
    obtain ⟨ks, _, _, _, _, hk, _⟩ := hF.inv.loc i hi
    obtain ⟨o1, o2, _⟩ := hF.inv.ok i ks hk
    have A := atN_e4 (m := m) (t := t) hk
    have H := c_howMany (m := m) (t := t) (ks := ks) (by omega)
    have e : dmx q (i + 1) = max (dmx q i) ((kn ks : Int) + 1) := by simp only [dmx]; rw [hk]
    have kl : kn ks ≤ 5 := by have := kn_uk ks; omega
    have w1 : wr ((i : Int) + 1) = ((i + 1 : Nat) : Int) := by rw [wr_id (by omega) (by omega)]; omega
    have w2 : wr ((kn ks : Int) + 1) = (kn ks : Int) + 1 := wr_id (by omega) (by omega)
    have hi' : (i : Int) < P.length := by omega
    rw [e]
    simp only [e4] at A
    unfold pD pv at *
    generalize q.map (e4 m t) = M at *
    generalize P.length = N at *
    simp [F_impl_DepthOf_L0, hi, hi', len, A, H, w1, w2, -Int.natCast_add]) (by
    generalize q.map (e4 m t) = M at *
    generalize P.length = N at *
    simp [F_impl_DepthOf_L0]) (by simp)
  rw [D] at LP
  have z : dmx q 0 = 0 := rfl
  rw [z] at LP
  simp only [Int.natCast_zero] at LP
  change ex lf F_impl_DepthOf_W0 _ = _ at LP
  rw [call_k lf n_impl_DepthOf _ (F := F_impl_DepthOf) rfl rfl]
  generalize q.map (e4 m t) = M at *
  generalize P.length = N at *
  simp [F_impl_DepthOf, C, LP, nw, ad, len]
theorem c_impl_DepthOf_no {m : Int} {t : List T} {P : List C3} (hb : (t.length : Int) < 1099511627776) (hc : (P.length : Int) < 1099511627776) (h : pkOk m t P = false) :
    call lf n_impl_DepthOf [.i m, .sl 0 (t.map e2), .sl 0 (P.map e3)] = some (.i (-1), []) := by
  have C := c_pointsOf (m := m) (t := t) (P := P) hb hc
  have e : ptR m t P = none := by
    cases hq : ptR m t P with
    | none => rfl
    | some q =>
      have := ptR_iff.1 ⟨q, hq⟩
      rw [h] at this
      cases this
  rw [e] at C
  simp only [ptD, Option.isSome_none] at C
  rw [call_k lf n_impl_DepthOf _ (F := F_impl_DepthOf) rfl rfl]
  simp [F_impl_DepthOf, C]
theorem wsW_wk {us : List T} {ks : List Int} (h : tsOk us = true) (hl : ks.length = us.length) (hk : ks.all kOk = true) : wsW us (lfW ks) (2 ^ us.length) = wk us ks := by
  have h' := tsOk_iff.1 h
  obtain ⟨p1, p2, p3⟩ := pow5 (m := us.length) (by omega) (by omega)
  simp only [Int.toNat_natCast] at p1 p2 p3
  rw [← wa_wk hl hk]
  unfold wsW wa
  refine sumTo_congr fun s hs => ?_
  rw [lfW_bit hk (by omega) (by omega)]
  rfl
set_option maxHeartbeats 4000000 in
theorem c_impl_ChoiceWeight {us t : List T} (hu : tsOk us = true) (ht : tmOk us.length t = true) {P : List C3} {L : LT} (h : isPl us.length t P L) {g : Nat} (hg : g < P.length) :
    call lf n_impl_ChoiceWeight [.sl 0 (us.map e2), .sl 0 (t.map e2), .sl 0 (P.map e3), .i g] = some (.i (rW us g (non us.length) L), []) := by
  have hu' := tsOk_iff.1 hu
  obtain ⟨_, tl, _⟩ := tmOk_iff.1 ht
  have few := h.few
  have C := c_pointsOf (m := us.length) (t := t) (P := P) (by omega) (by omega)
  have C1 := c_impl_TestsOk us (by omega)
  rw [hu] at C1
  obtain ⟨q, hq, hF⟩ := fin_of ht h
  rw [hq, ptD_some, Int.toNat_natCast] at C
  obtain ⟨ks, hk, _, rw_⟩ := fin_all hF.inv L (rot P) (non us.length) h.e h.ok (cnt_le h.on.1 h.e) (fin_root hF) g (by rw [all_in h.on.1 h.e h.sz g hg]; omega)
  obtain ⟨o1, o2, _⟩ := hF.inv.ok g ks hk
  have W := c_impl_weightOfStates hu (lfW ks)
  rw [wsW_wk hu o1 o2] at W
  have I := c_impl_isWithin g 0 ((P.length : Int) - 1)
  rw [decide_eq_true (show (0 : Int) ≤ g ∧ (g : Int) ≤ (P.length : Int) - 1 by omega)] at I
  have A := atN_e4 (m := us.length) (t := t) hk
  have len : (q.map (e4 us.length t)).length = P.length := by rw [List.length_map, hF.inv.len]
  have nw := new_e4 us.length t q
  have ad := fun x => adopt_e4 us.length t x q
  have lP : (P.map e3).length = P.length := by simp
  have lE := lend_e3 P
  have ul : (us.map e2).length = us.length := by simp
  have w1 : wr ((P.length : Int) - 1) = (P.length : Int) - 1 := wr_id (by omega) (by omega)
  have hg' : (g : Int) < P.length := by omega
  rw [rw_]
  rw [call_k lf n_impl_ChoiceWeight _ (F := F_impl_ChoiceWeight) rfl rfl]
  simp only [e4] at A
  unfold pD pv at *
  generalize q.map (e4 us.length t) = M at *
  generalize P.map e3 = Q at *
  generalize P.length = N at *
  simp [F_impl_ChoiceWeight, C, C1, I, W, A, len, nw, ad, lP, lE, w1, hg, hg']
theorem c_impl_ChoiceWeight_no {us t : List T} {P : List C3} {a : Int} (ha : (us.length : Int) < 1099511627776) (hb : (t.length : Int) < 1099511627776) (hc : (P.length : Int) < 1099511627776) (h : cwOk us t P a = false) :
    call lf n_impl_ChoiceWeight [.sl 0 (us.map e2), .sl 0 (t.map e2), .sl 0 (P.map e3), .i a] = some (.i (-1), []) := by
  have C := c_pointsOf (m := us.length) (t := t) (P := P) hb hc
  have C1 := c_impl_TestsOk us ha
  have I := c_impl_isWithin a 0 ((P.length : Int) - 1)
  have w1 : wr ((P.length : Int) - 1) = (P.length : Int) - 1 := wr_id (by omega) (by omega)
  have lP : (P.map e3).length = P.length := by simp
  have lE := lend_e3 P
  have e : (ptR us.length t P).isSome = pkOk us.length t P := by
    rw [Bool.eq_iff_iff, Option.isSome_iff_exists]
    exact ptR_iff
  rw [e] at C
  have nw : allNewL (ptD us.length t (ptR us.length t P)) = true := by
    cases ptR us.length t P with
    | none => rfl
    | some q => exact new_e4 _ _ _
  unfold cwOk plOk at h
  rw [call_k lf n_impl_ChoiceWeight _ (F := F_impl_ChoiceWeight) rfl rfl]
  generalize ptD us.length t (ptR us.length t P) = M at *
  generalize P.map e3 = Q at *
  cases h2 : pkOk us.length t P with
  | false =>
    rw [h2] at C
    simp [F_impl_ChoiceWeight, C, nw, lE]
  | true =>
    rw [h2] at C
    cases h1 : tsOk us with
    | false => rw [h1] at C1; simp [F_impl_ChoiceWeight, C, C1, nw, lE]
    | true =>
      rw [h1, h2] at h
      rw [h1] at C1
      simp only [Bool.true_and] at h
      rw [h] at I
      generalize P.length = N at *
      simp [F_impl_ChoiceWeight, C, C1, I, nw, lP, lE, w1]
end
section
attribute [-simp] DV.cells
attribute [local simp] sliceD cells_st cells_sl cells_i cells_y cells_b cells_s cells_w
attribute [local simp] lend_e3 adopt_e3 new_e3 al_e3 lt_e3
theorem c_nextIn (k : Nat) (no ye : Int) (s : Nat) (hk : k ≤ 40) : call lf n_impl_Choice_nextIn [.st [.i k, .i no, .i ye], .i s] = some (.i (if s.testBit k then ye else no), []) := by
  have C := c_impl_outcomeIn s k (by omega) (by omega)
  rw [Int.toNat_natCast] at C
  have e : (s : Int) / 2 ^ k % 2 = bI (s.testBit k) := by
    unfold bI
    rw [Nat.testBit_eq_decide_div_mod_eq]
    have : (s : Int) / 2 ^ k % 2 = ((s / 2 ^ k % 2 : Nat) : Int) := by simp
    rw [this]
    by_cases h : s / 2 ^ k % 2 = 1
    · simp [h]
    · have : s / 2 ^ k % 2 = 0 := by omega
      simp [this]
  rw [e] at C
  rw [call_k lf n_impl_Choice_nextIn _ (F := F_impl_Choice_nextIn) rfl rfl]
  cases h : s.testBit k with
  | true =>
    rw [h, bI_1] at C
    simp [F_impl_Choice_nextIn, C]
  | false =>
    rw [h, bI_0] at C
    simp [F_impl_Choice_nextIn, C]
def stCb (us : List T) (P : List C3) (s : Int) (cost some_ at_ : Int) : LS := ⟨[(0, .sl 0 (us.map e2)), (2, .sl 0 (P.map e3)), (3, .i s), (12, .i cost), (13, .i some_), (14, .i at_)], []⟩
set_option maxHeartbeats 4000000 in
theorem cb_to {us : List T} (hu : us.all tOk = true) (hm : us.length ≤ 5) {P : List C3} {s : Nat} : ∀ (L : LT) (a sum : Int) (so : Nat), enc P a L → (∀ k ∈ pth L.er s, k < us.length) → so < 2 ^ us.length → 0 ≤ sum → sum + 9 * (pth L.er s).length ≤ 100000 →
    ex lf F_impl_CostBy_W0 (stCb us P s sum so a) = some (.exit 0, stCb us P s (sum + tC us L.er s) (bitsN so (pth L.er s) : Nat) (-1))
  | .stop, a, sum, so, he, hp, hso, h0, h1 => by
    have he : a = -1 := he
    subst he
    rw [w_impl_CostBy_0]
    simp only [LT.er, tC, pth, bitsN, Int.add_zero]
    simp only [stCb]
    simp [F_impl_CostBy_L0]
  | .ask p k n y, a, sum, so, ⟨e, no, ye, h1, h2, h3, h4, h5⟩, hp, hso, hs0, hs1 => by
    subst e
    simp only [LT.er, pth] at hp hs1
    have hk : k < us.length := hp k List.mem_cons_self
    have AT := at_e3 h1
    have pl : p < P.length := (List.getElem?_eq_some_iff.1 h1).1
    have pl' : (p : Int) < P.length := by omega
    have pn : ((p : Int) != -1) = true := bne_iff_ne.2 (by omega)
    obtain ⟨c, cq, c1, c2, c3⟩ := cA_at (us := us) (a := (k : Int)) (by omega) (by omega)
    rw [Int.toNat_natCast] at c2
    have cn := cA_nn hu k
    have hq' : (P.map e3).length = P.length := by simp
    have ul : (us.map e2).length = us.length := by simp
    have kl' : (k : Int) < us.length := by omega
    have NX := c_nextIn k no ye s (by omega)
    have so32 : so < 32 := by
      have : 2 ^ us.length ≤ 2 ^ 5 := Nat.pow_le_pow_right (by omega) hm
      omega
    have O := or_i (so := so) (a := (k : Int)) so32 (by omega) (by omega)
    rw [Int.toNat_natCast] at O
    have so' : so ||| 2 ^ k < 2 ^ us.length := or_lt2 hso hk
    simp only [List.length_cons] at hs1
    have w2 : wr (sum + c) = sum + cA us k := by rw [c2, wr_id (by omega) (by omega)]
    have nk : ¬ (k : Int) < 0 := by omega
    simp only [LT.er, tC, pth, bitsN]
    rw [w_impl_CostBy_0]
    cases hb : s.testBit k with
    | true =>
      rw [hb] at NX
      simp only [if_true] at NX
      rw [hb, if_pos rfl] at hp hs1
      have ih := cb_to hu hm y ye (sum + cA us k) (so ||| 2 ^ k) h5 (fun j hj => hp j (List.mem_cons_of_mem _ hj)) so' (by omega) (by omega)
      rw [if_pos rfl, if_pos rfl, ← Int.add_assoc, ← ih]
      simp only [stCb]
      generalize P.length = N at *
      generalize P.map e3 = E at *
      generalize us.map e2 = U at *
      simp [F_impl_CostBy_L0, AT, pl', pn, c1, hq', ul, kl', NX, O, w2, nk]
    | false =>
      rw [hb] at NX
      simp only [Bool.false_eq_true, if_false] at NX
      rw [hb, if_neg (by simp)] at hp hs1
      have ih := cb_to hu hm n no (sum + cA us k) (so ||| 2 ^ k) h4 (fun j hj => hp j (List.mem_cons_of_mem _ hj)) so' (by omega) (by omega)
      rw [if_neg (by simp), if_neg (by simp), ← Int.add_assoc, ← ih]
      simp only [stCb]
      generalize P.length = N at *
      generalize P.map e3 = E at *
      generalize us.map e2 = U at *
      simp [F_impl_CostBy_L0, AT, pl', pn, c1, hq', ul, kl', NX, O, w2, nk]
theorem c_impl_CostBy {us t : List T} (hu : tsOk us = true) (ht : tmOk us.length t = true) {P : List C3} {L : LT} (h : isPl us.length t P L) {s : Nat} (hs : s < 2 ^ us.length) :
    call lf n_impl_CostBy [.sl 0 (us.map e2), .sl 0 (t.map e2), .sl 0 (P.map e3), .i s] = some (.tup [.i (tC us L.er s), .i (ask0 L.er s : Nat), .b true], []) := by
  have hu' := tsOk_iff.1 hu
  obtain ⟨_, tl, _⟩ := tmOk_iff.1 ht
  have few := h.few
  have C1 := c_impl_TestsOk us (by omega)
  rw [hu] at C1
  have C2 := c_impl_PlanOk (m := us.length) (t := t) (P := P) (by omega) (by omega)
  rw [pk_iff.2 ⟨ht, L, h⟩] at C2
  have C3 := c_impl_StateOk us.length s
  have so : stOk us.length s = true := by
    obtain ⟨p1, p2, p3⟩ := pow5 (m := us.length) (by omega) (by omega)
    simp only [Int.toNat_natCast] at p1 p2 p3
    exact stOk_iff.2 ⟨by omega, by omega, by rw [Int.toNat_natCast]; omega⟩
  rw [so] at C3
  have C4 := c_firstOf P (by omega)
  have nd := pth_nodup L.er (non us.length) s h.ok
  have pk : ∀ k ∈ pth L.er s, k < us.length := fun k hk => by
    have := ks_ex (nd.2 k hk)
    rwa [non_len] at this
  have pl := pth_le L.er s
  have dl := dpT_le L.er (non us.length) (non_len _) h.ok
  rw [uk_non] at dl
  have W := cb_to hu'.2 (by omega) (P := P) (s := s) L (rot P) 0 0 h.e pk (Nat.pow_pos (by omega)) (by omega) (by omega)
  rw [Int.zero_add, show bitsN 0 (pth L.er s) = ask0 L.er s from rfl] at W
  have hLE := lend_e3 P
  simp only [stCb, Int.natCast_zero] at W
  rw [call_k lf n_impl_CostBy _ (F := F_impl_CostBy) rfl rfl]
  generalize tC us L.er s = X at *
  generalize ask0 L.er s = Y at *
  generalize P.map e3 = E at *
  generalize rot P = r0 at *
  simp [F_impl_CostBy, C1, C2, C3, C4, hLE, W]
theorem c_impl_CostBy_no {us t : List T} {P : List C3} {s : Int} (ha : (us.length : Int) < 1099511627776) (hb : (t.length : Int) < 1099511627776) (hc : (P.length : Int) < 1099511627776) (h : cbOk us t P s = false) :
    call lf n_impl_CostBy [.sl 0 (us.map e2), .sl 0 (t.map e2), .sl 0 (P.map e3), .i s] = some (.tup [.i 0, .i 0, .b false], []) := by
  have C1 := c_impl_TestsOk us ha
  have C2 := c_impl_PlanOk (m := us.length) (t := t) (P := P) hb hc
  have C3 := c_impl_StateOk us.length s
  have hLE := lend_e3 P
  unfold cbOk plOk at h
  rw [call_k lf n_impl_CostBy _ (F := F_impl_CostBy) rfl rfl]
  generalize P.map e3 = E at *
  cases h1 : tsOk us with
  | false => rw [h1] at C1; simp [F_impl_CostBy, C1]
  | true =>
    rw [h1] at C1 h
    cases h2 : pkOk us.length t P with
    | false => rw [h2] at C2; simp [F_impl_CostBy, C1, C2, hLE]
    | true =>
      rw [h2] at C2 h
      simp only [Bool.true_and] at h
      rw [h] at C3
      simp [F_impl_CostBy, C1, C2, C3, hLE]
def csL (us : List T) (x : PT) (N i : Nat) : List Int := (List.range N).map fun k => if k < i then tC us x k else 0
theorem csL_len (us : List T) (x : PT) (N i : Nat) : (csL us x N i).length = N := by simp [csL]
theorem csL_set {us : List T} {x : PT} {N i : Nat} (hi : i < N) : (csL us x N i).set i (tC us x i) = csL us x N (i + 1) := by
  apply List.ext_getElem?
  intro k
  by_cases h : k < N
  · by_cases e : k = i
    · subst e
      rw [List.getElem?_set_self (by simp [csL_len, hi])]
      simp [csL, h]
    · rw [List.getElem?_set_ne (fun q => e q.symm)]
      have e' : k < i ↔ k < i + 1 := by omega
      simp [csL, h, e']
  · rw [List.getElem?_eq_none (by simp [csL_len]; omega), List.getElem?_eq_none (by simp [csL_len]; omega)]
theorem csL_at {us : List T} {x : PT} {N k : Nat} (h : k < N) : (csL us x N N)[k]? = some (tC us x k) := by simp [csL, h]
set_option maxHeartbeats 4000000 in
theorem c_costsBy {us t : List T} (hu : tsOk us = true) (ht : tmOk us.length t = true) {P : List C3} {L : LT} (h : isPl us.length t P L) :
    call lf n_impl_costsBy [.sl 0 (us.map e2), .sl 0 (t.map e2), .sl 0 (P.map e3)] = some (.tup [.fr 1 ((csL us L.er (2 ^ us.length) (2 ^ us.length)).map .i), .b true], []) := by
  have hu' := tsOk_iff.1 hu
  obtain ⟨p1, p2, p3⟩ := pow5 (m := us.length) (by omega) (by omega)
  simp only [Int.toNat_natCast] at p1 p2 p3
  obtain ⟨_, tl, _⟩ := tmOk_iff.1 ht
  have few := h.few
  have C1 := c_impl_TestsOk us (by omega)
  rw [hu] at C1
  have C2 := c_impl_PlanOk (m := us.length) (t := t) (P := P) (by omega) (by omega)
  rw [pk_iff.2 ⟨ht, L, h⟩] at C2
  have C4 := c_impl_statesOf us.length (by omega) (by omega)
  simp only [Int.toNat_natCast] at C4
  rw [← p3] at C4
  have hLE := lend_e3 P
  have LP := loop_count (lf := lf) (L := F_impl_costsBy_L0) (2 ^ us.length) (fun i => ⟨[(0, .sl 0 (us.map e2)), (1, .sl 0 (t.map e2)), (2, .sl 0 (P.map e3)), (9, .own 12808 (2 ^ us.length) 0 (2 ^ us.length)), (27, .i (2 ^ us.length : Nat)), (28, .i i)], [(12808, (csL us L.er (2 ^ us.length) i).map .i)]⟩) (x := .exit 0) (R := ⟨[(0, .sl 0 (us.map e2)), (1, .sl 0 (t.map e2)), (2, .sl 0 (P.map e3)), (9, .own 12808 (2 ^ us.length) 0 (2 ^ us.length)), (27, .i (2 ^ us.length : Nat)), (28, .i (2 ^ us.length : Nat))], [(12808, (csL us L.er (2 ^ us.length) (2 ^ us.length)).map .i)]⟩) (fun i hi => by
    have C := c_impl_CostBy hu ht h hi
    have w1 : wr ((i : Int) + 1) = ((i + 1 : Nat) : Int) := by rw [wr_id (by omega) (by omega)]; omega
    have ll := csL_len us L.er (2 ^ us.length) i
    have st := csL_set (us := us) (x := L.er) (N := 2 ^ us.length) (i := i) hi
    rw [← st]
    obtain ⟨x, hx⟩ : ∃ x : Int, atN ((csL us L.er (2 ^ us.length) i).map DV.i) i = some (.i x) := ⟨(csL us L.er (2 ^ us.length) i)[i]'(by omega), by show ((csL us L.er (2 ^ us.length) i).map DV.i)[i]? = _; rw [List.getElem?_map, List.getElem?_eq_getElem (by omega)]; rfl⟩
    generalize csL us L.er (2 ^ us.length) i = cs at *
    generalize tC us L.er i = c at *
    generalize ask0 L.er i = so at *
    generalize (2 ^ us.length : Nat) = N at *
    generalize P.map e3 = E at *
    have hin : (i : Int) < (N : Int) := by omega
    have hiN : i < N := hi
    simp only [List.map_set]
    simp [F_impl_costsBy_L0, hin, hiN, C, w1, ll, hx, hLE, -Int.natCast_add]) (by
    generalize (2 ^ us.length : Nat) = N at *
    generalize P.map e3 = E at *
    simp [F_impl_costsBy_L0]) (by simp)
  have z : csL us L.er (2 ^ us.length) 0 = List.replicate (2 ^ us.length) 0 := by
    unfold csL
    simp
    apply List.ext_getElem?
    intro k
    by_cases h : k < 2 ^ us.length <;> simp [h]
  rw [z] at LP
  have ll := csL_len us L.er (2 ^ us.length) (2 ^ us.length)
  have lb : ((2 ^ us.length : Nat) : Int) ≤ (bound : Int) := by unfold bound; omega
  rw [call_k lf n_impl_costsBy _ (F := F_impl_costsBy) rfl rfl]
  generalize csL us L.er (2 ^ us.length) (2 ^ us.length) = cs at *
  generalize (2 ^ us.length : Nat) = N at *
  simp only [Int.natCast_zero, List.map_replicate] at LP
  change ex lf F_impl_costsBy_W0 _ = _ at LP
  have n0 : ¬ ((N : Int) < 0) := by omega
  generalize P.map e3 = E at *
  simp [F_impl_costsBy, C1, C2, C4, LP, lb, ll, hLE]
theorem c_costsBy_no {us t : List T} {P : List C3} (ha : (us.length : Int) < 1099511627776) (hb : (t.length : Int) < 1099511627776) (hc : (P.length : Int) < 1099511627776) (h : plOk us t P = false) :
    call lf n_impl_costsBy [.sl 0 (us.map e2), .sl 0 (t.map e2), .sl 0 (P.map e3)] = some (.tup [.fr 1 [], .b false], []) := by
  have C1 := c_impl_TestsOk us ha
  have C2 := c_impl_PlanOk (m := us.length) (t := t) (P := P) hb hc
  rw [call_k lf n_impl_costsBy _ (F := F_impl_costsBy) rfl rfl]
  unfold plOk at h
  have hLE := lend_e3 P
  generalize P.map e3 = E at *
  cases h1 : tsOk us with
  | false => rw [h1] at C1; simp [F_impl_costsBy, C1]
  | true =>
    rw [h1] at C1 h
    rw [Bool.true_and] at h
    rw [h] at C2
    simp [F_impl_costsBy, C1, C2, hLE]
def mxF (f : Nat → Int) : Nat → Int
  | 0 => f 0
  | k + 1 => max (mxF f k) (f (k + 1))
theorem c_Max (f : Nat → Int) (es : List Int) (n : Nat) (hl : es.length = n + 1) (hn : n ≤ 1000) (h : ∀ k, k < n + 1 → es[k]? = some (f k)) : call lf n_slices_Max_int_int [.sl 0 (es.map .i)] = some (.i (mxF f n), []) := by
  have A : ∀ k : Nat, k < n + 1 → atI (es.map DV.i) (k : Int) = some (.i (f k)) := fun k hk => by
    simp only [atI, if_pos (Int.natCast_nonneg k)]
    show (es.map DV.i)[(k : Int).toNat]? = _
    rw [Int.toNat_natCast, List.getElem?_map, h k hk]; rfl
  have A0 := A 0 (by omega)
  have len : (es.map DV.i).length = n + 1 := by simp [hl]
  have LP := loop_count (lf := lf) (L := F_slices_Max_int_int_L0) n (fun i => ⟨[(0, .sl 0 (es.map .i)), (3, .i (mxF f i)), (4, .i ((i + 1 : Nat) : Int))], []⟩) (x := .exit 0) (R := ⟨[(0, .sl 0 (es.map .i)), (3, .i (mxF f n)), (4, .i ((n + 1 : Nat) : Int))], []⟩) (fun i hi => by
    have A1 := A (i + 1) (by omega)
    have e : mxF f (i + 1) = max (mxF f i) (f (i + 1)) := rfl
    have w1 : wr (((i + 1 : Nat) : Int) + 1) = ((i + 1 + 1 : Nat) : Int) := by rw [wr_id (by omega) (by omega)]; omega
    have lt : ((i + 1 : Nat) : Int) < ((n + 1 : Nat) : Int) := by omega
    rw [e]
    generalize es.map DV.i = M at *
    generalize ((i + 1 : Nat) : Int) = j at *
    simp [F_slices_Max_int_int_L0, len, lt, A1, w1, -Int.natCast_add]) (by
    generalize es.map DV.i = M at *
    simp [F_slices_Max_int_int_L0, len, -Int.natCast_add]) (by simp)
  have z : mxF f 0 = f 0 := rfl
  rw [z] at LP
  have z1 : ((0 + 1 : Nat) : Int) = 1 := rfl
  rw [z1] at LP
  change ex lf F_slices_Max_int_int_W0 _ = _ at LP
  have n1 : ¬ (((n + 1 : Nat) : Int) < 1) := by omega
  simp only [Int.natCast_zero] at A0
  rw [call_k lf n_slices_Max_int_int _ (F := F_slices_Max_int_int) rfl rfl]
  generalize es.map DV.i = M at *
  simp [F_slices_Max_int_int, len, n1, A0, LP, -Int.natCast_add]
theorem wrs_mx {us : List T} (h : us.all tOk = true) (x : PT) : ∀ n : Nat, wrs us x (n + 1) = mxF (tC us x) n
  | 0 => by
    have := tC_nn h x 0
    simp only [wrs, mxF]
    omega
  | n + 1 => by
    rw [wrs, wrs_mx h x n]
    rfl
set_option maxHeartbeats 4000000 in
theorem c_impl_WorstBy {us t : List T} (hu : tsOk us = true) (ht : tmOk us.length t = true) {P : List C3} {L : LT} (h : isPl us.length t P L) :
    call lf n_impl_WorstBy [.sl 0 (us.map e2), .sl 0 (t.map e2), .sl 0 (P.map e3)] = some (.i (wrs us L.er (2 ^ us.length)), []) := by
  have hu' := tsOk_iff.1 hu
  obtain ⟨p1, p2, p3⟩ := pow5 (m := us.length) (by omega) (by omega)
  simp only [Int.toNat_natCast] at p1 p2 p3
  have C := c_costsBy hu ht h
  obtain ⟨n, hn⟩ : ∃ n, 2 ^ us.length = n + 1 := ⟨2 ^ us.length - 1, by omega⟩
  have M := c_Max (tC us L.er) (csL us L.er (2 ^ us.length) (2 ^ us.length)) n (by rw [csL_len, hn]) (by omega) (fun k hk => csL_at (by omega))
  rw [← wrs_mx hu'.2, ← hn] at M
  have hLE := lend_e3 P
  have ll := csL_len us L.er (2 ^ us.length) (2 ^ us.length)
  rw [call_k lf n_impl_WorstBy _ (F := F_impl_WorstBy) rfl rfl]
  generalize wrs us L.er (2 ^ us.length) = X at *
  generalize csL us L.er (2 ^ us.length) (2 ^ us.length) = cs at *
  generalize (2 ^ us.length : Nat) = N at *
  have tk : List.take N (cs.map DV.i) = cs.map .i := List.take_of_length_le (by simp [ll])
  generalize P.map e3 = E at *
  simp [F_impl_WorstBy, C, M, hLE, ll, tk]
theorem c_impl_WorstBy_no {us t : List T} {P : List C3} (ha : (us.length : Int) < 1099511627776) (hb : (t.length : Int) < 1099511627776) (hc : (P.length : Int) < 1099511627776) (h : plOk us t P = false) :
    call lf n_impl_WorstBy [.sl 0 (us.map e2), .sl 0 (t.map e2), .sl 0 (P.map e3)] = some (.i (-1), []) := by
  have C := c_costsBy_no ha hb hc h
  have hLE := lend_e3 P
  rw [call_k lf n_impl_WorstBy _ (F := F_impl_WorstBy) rfl rfl]
  generalize P.map e3 = E at *
  simp [F_impl_WorstBy, C, hLE]
set_option maxHeartbeats 4000000 in
theorem c_impl_AverageBy {us t : List T} (hu : tsOk us = true) (ht : tmOk us.length t = true) {P : List C3} {L : LT} (h : isPl us.length t P L) :
    call lf n_impl_AverageBy [.sl 0 (us.map e2), .sl 0 (t.map e2), .sl 0 (P.map e3)] = some (.i (tA us (non us.length) L.er), []) := by
  have hu' := tsOk_iff.1 hu
  obtain ⟨p1, p2, p3⟩ := pow5 (m := us.length) (by omega) (by omega)
  simp only [Int.toNat_natCast] at p1 p2 p3
  have C := c_costsBy hu ht h
  have hLE := lend_e3 P
  have ll := csL_len us L.er (2 ^ us.length) (2 ^ us.length)
  have LP := loop_count (lf := lf) (L := F_impl_AverageBy_L0) (2 ^ us.length) (fun i => ⟨[(0, .sl 0 (us.map e2)), (9, .i (avN us L.er i)), (21, .own 8201 (2 ^ us.length) 0 (2 ^ us.length)), (22, .i (2 ^ us.length : Nat)), (23, .i i)], [(8201, (csL us L.er (2 ^ us.length) (2 ^ us.length)).map .i)]⟩) (x := .exit 0) (R := ⟨[(0, .sl 0 (us.map e2)), (9, .i (avN us L.er (2 ^ us.length))), (21, .own 8201 (2 ^ us.length) 0 (2 ^ us.length)), (22, .i (2 ^ us.length : Nat)), (23, .i (2 ^ us.length : Nat))], [(8201, (csL us L.er (2 ^ us.length) (2 ^ us.length)).map .i)]⟩) (fun i hi => by
    have W := c_impl_WeightOf us i (by omega)
    rw [wtOf_of hu (by omega) (by omega)] at W
    have e : avN us L.er (i + 1) = avN us L.er i + wt us i * tC us L.er i := rfl
    have b0 := avN_bd hu h.ok (i := i) (by omega)
    have b1 := avN_bd hu h.ok (i := i + 1) (by omega)
    have w1 : wr ((i : Int) + 1) = ((i + 1 : Nat) : Int) := by rw [wr_id (by omega) (by omega)]; omega
    rw [e] at b1 ⊢
    have w2 : wr (wt us i * tC us L.er i) = wt us i * tC us L.er i := wr_id (by omega) (by omega)
    have w3 : wr (avN us L.er i + wt us i * tC us L.er i) = avN us L.er i + wt us i * tC us L.er i := wr_id (by omega) (by omega)
    have A : atN ((csL us L.er (2 ^ us.length) (2 ^ us.length)).map DV.i) i = some (.i (tC us L.er i)) := by
      show ((csL us L.er (2 ^ us.length) (2 ^ us.length)).map DV.i)[i]? = _
      rw [List.getElem?_map, csL_at hi]; rfl
    generalize csL us L.er (2 ^ us.length) (2 ^ us.length) = cs at *
    generalize (2 ^ us.length : Nat) = N at *
    have hin : (i : Int) < (N : Int) := by omega
    have hiN : i < N := hi
    simp [F_impl_AverageBy_L0, hin, hiN, W, A, w1, w2, w3, ll, -Int.natCast_add]) (by
    generalize csL us L.er (2 ^ us.length) (2 ^ us.length) = cs at *
    generalize (2 ^ us.length : Nat) = N at *
    simp [F_impl_AverageBy_L0]) (by simp)
  have z : avN us L.er 0 = 0 := rfl
  have fin : tA us (non us.length) L.er = avN us L.er (2 ^ us.length) := avT h.ok
  rw [z] at LP
  simp only [Int.natCast_zero] at LP
  rw [call_k lf n_impl_AverageBy _ (F := F_impl_AverageBy) rfl rfl, fin]
  generalize avN us L.er (2 ^ us.length) = X at *
  generalize csL us L.er (2 ^ us.length) (2 ^ us.length) = cs at *
  generalize (2 ^ us.length : Nat) = N at *
  generalize P.map e3 = E at *
  change ex lf F_impl_AverageBy_W0 _ = _ at LP
  simp [F_impl_AverageBy, C, LP, hLE, ll]
theorem c_impl_AverageBy_no {us t : List T} {P : List C3} (ha : (us.length : Int) < 1099511627776) (hb : (t.length : Int) < 1099511627776) (hc : (P.length : Int) < 1099511627776) (h : plOk us t P = false) :
    call lf n_impl_AverageBy [.sl 0 (us.map e2), .sl 0 (t.map e2), .sl 0 (P.map e3)] = some (.i (-1), []) := by
  have C := c_costsBy_no ha hb hc h
  have hLE := lend_e3 P
  rw [call_k lf n_impl_AverageBy _ (F := F_impl_AverageBy) rfl rfl]
  generalize P.map e3 = E at *
  simp [F_impl_AverageBy, C, hLE]
end
section
/-- the weight of what is known -/
def kp : List T → List Int → Int
  | t :: r, k :: ks => (if k = -1 then 1 else if k = 1 then t.2 else 6 - t.2) * kp r ks
  | _, _ => 1
end
section
attribute [local simp] lend_e3 adopt_e3 new_e3 al_e3 lt_e3
theorem same_AverageBy (us t : List T) (P : List C3) (ha : (us.length : Int) < 1099511627776) (hb : (t.length : Int) < 1099511627776) (hc : (P.length : Int) < 1099511627776) :
    ∃ v : Int, call lf n_impl_AverageBy [.sl 0 (us.map e2), .sl 0 (t.map e2), .sl 0 (P.map e3)] = some (.i v, []) ∧ call lf n_spec_AverageBy [.sl 0 (us.map e2), .sl 0 (t.map e2), .sl 0 (P.map e3)] = some (.i v, []) := by
  cases h : plOk us t P with
  | false => exact ⟨_, c_impl_AverageBy_no ha hb hc h, c_spec_AverageBy_no ha hb hc h⟩
  | true =>
    obtain ⟨hu, ht, L, hL⟩ := plOk_iff.1 h
    exact ⟨_, c_impl_AverageBy hu ht hL, c_spec_AverageBy hu ht hL⟩
theorem same_WorstBy (us t : List T) (P : List C3) (ha : (us.length : Int) < 1099511627776) (hb : (t.length : Int) < 1099511627776) (hc : (P.length : Int) < 1099511627776) :
    ∃ v : Int, call lf n_impl_WorstBy [.sl 0 (us.map e2), .sl 0 (t.map e2), .sl 0 (P.map e3)] = some (.i v, []) ∧ call lf n_spec_WorstBy [.sl 0 (us.map e2), .sl 0 (t.map e2), .sl 0 (P.map e3)] = some (.i v, []) := by
  cases h : plOk us t P with
  | false => exact ⟨_, c_impl_WorstBy_no ha hb hc h, c_spec_WorstBy_no ha hb hc h⟩
  | true =>
    obtain ⟨hu, ht, L, hL⟩ := plOk_iff.1 h
    exact ⟨_, c_impl_WorstBy hu ht hL, c_spec_WorstBy hu ht hL⟩
theorem same_DepthOf (m : Int) (t : List T) (P : List C3) (hb : (t.length : Int) < 1099511627776) (hc : (P.length : Int) < 1099511627776) :
    ∃ v : Int, call lf n_impl_DepthOf [.i m, .sl 0 (t.map e2), .sl 0 (P.map e3)] = some (.i v, []) ∧ call lf n_spec_DepthOf [.i m, .sl 0 (t.map e2), .sl 0 (P.map e3)] = some (.i v, []) := by
  cases h : pkOk m t P with
  | false => exact ⟨_, c_impl_DepthOf_no hb hc h, c_spec_DepthOf_no hb hc h⟩
  | true =>
    have ht : tmOk m t = true := by
      unfold pkOk at h
      simp only [Bool.and_eq_true] at h
      exact h.1.1.1.1
    obtain ⟨⟨m1, m5⟩, _, _⟩ := tmOk_iff.1 ht
    obtain ⟨n, rfl⟩ := Int.eq_ofNat_of_zero_le (a := m) (by omega)
    obtain ⟨_, L, hL⟩ := pk_iff.1 h
    exact ⟨_, c_impl_DepthOf ht hL, c_spec_DepthOf ht hL⟩
theorem same_ChoiceWeight (us t : List T) (P : List C3) (a : Int) (ha : (us.length : Int) < 1099511627776) (hb : (t.length : Int) < 1099511627776) (hc : (P.length : Int) < 1099511627776) :
    ∃ v : Int, call lf n_impl_ChoiceWeight [.sl 0 (us.map e2), .sl 0 (t.map e2), .sl 0 (P.map e3), .i a] = some (.i v, []) ∧ call lf n_spec_ChoiceWeight [.sl 0 (us.map e2), .sl 0 (t.map e2), .sl 0 (P.map e3), .i a] = some (.i v, []) := by
  cases h : cwOk us t P a with
  | false => exact ⟨_, c_impl_ChoiceWeight_no ha hb hc h, c_spec_ChoiceWeight_no ha hb hc h⟩
  | true =>
    unfold cwOk at h
    rw [Bool.and_eq_true, decide_eq_true_eq] at h
    obtain ⟨hu, ht, L, hL⟩ := plOk_iff.1 h.1
    obtain ⟨n, rfl⟩ := Int.eq_ofNat_of_zero_le h.2.1
    exact ⟨_, c_impl_ChoiceWeight hu ht hL (by omega), c_spec_ChoiceWeight hu ht hL (by omega)⟩
theorem same_CostBy (us t : List T) (P : List C3) (s : Int) (ha : (us.length : Int) < 1099511627776) (hb : (t.length : Int) < 1099511627776) (hc : (P.length : Int) < 1099511627776) :
    ∃ (v w : Int) (b : Bool), call lf n_impl_CostBy [.sl 0 (us.map e2), .sl 0 (t.map e2), .sl 0 (P.map e3), .i s] = some (.tup [.i v, .i w, .b b], []) ∧ call lf n_spec_CostBy [.sl 0 (us.map e2), .sl 0 (t.map e2), .sl 0 (P.map e3), .i s] = some (.tup [.i v, .i w, .b b], []) := by
  cases h : cbOk us t P s with
  | false => exact ⟨_, _, _, c_impl_CostBy_no ha hb hc h, c_spec_CostBy_no ha hb hc h⟩
  | true =>
    unfold cbOk at h
    rw [Bool.and_eq_true] at h
    obtain ⟨hu, ht, L, hL⟩ := plOk_iff.1 h.1
    have h' := tsOk_iff.1 hu
    obtain ⟨p1, p2, p3⟩ := pow5 (m := us.length) (by omega) (by omega)
    simp only [Int.toNat_natCast] at p1 p2 p3
    obtain ⟨_, s0, s1⟩ := stOk_iff.1 h.2
    obtain ⟨n, rfl⟩ := Int.eq_ofNat_of_zero_le s0
    rw [Int.toNat_natCast] at s1
    have hn : n < 2 ^ us.length := by omega
    exact ⟨_, _, _, c_impl_CostBy hu ht hL hn, c_spec_CostBy hu ht hL hn⟩
set_option maxHeartbeats 4000000 in
theorem law_FnExactPlanOk (m : Int) (_ : -9223372036854775808 ≤ m ∧ m ≤ 9223372036854775807) (x : List (Int × Int)) (hx : x.length ≤ Go.maxLen) (p : List (Int × Int × Int)) (hp : p.length ≤ Go.maxLen) : call lf n_laws_FnExactPlanOk [.i m, rs2 x, rs3 p] = some (.b true, []) := by
  show call lf n_laws_FnExactPlanOk [.i m, .sl 0 (x.map e2), .sl 0 (p.map e3)] = _
  rw [call_k lf n_laws_FnExactPlanOk _ (F := F_laws_FnExactPlanOk) rfl rfl]
  have zx : (x.length : Int) ≤ 9223372036854775807 := by unfold Go.maxLen at hx; omega
  have Sx := c_szMarkS x 1048576 (by omega) (by omega) zx
  by_cases hx1 : (1048576 : Int) < x.length
  · simp [F_laws_FnExactPlanOk, Sx, hx1]
  have nx : ¬ ((1048576 : Int) - x.length < 0) := by omega
  have zp : (p.length : Int) ≤ 9223372036854775807 := by unfold Go.maxLen at hp; omega
  have Sp := c_szChoiceS p (1048576 - x.length) (by omega) (by omega) zp
  by_cases hp1 : (1048576 : Int) - x.length < p.length
  · simp [F_laws_FnExactPlanOk, Sx, hx1, nx, Sp, hp1]
  have np : ¬ ((1048576 : Int) - x.length - p.length < 0) := by omega
  have Ax := c_toMarkS x (by omega)
  have Qx := c_eqMarkS_self x (by omega)
  have Ap := c_toChoiceS p (by omega)
  have Qp := c_eqChoiceS_self p (by omega)
  have C1 := c_impl_PlanOk (m := m) (t := x) (P := p) (by omega) (by omega)
  have C2 := c_spec_PlanOk (m := m) (t := x) (P := p) (by omega) (by omega)
  simp (config := { maxSteps := 2000000 }) [F_laws_FnExactPlanOk, C1, C2, Sx, hx1, nx, Sp, hp1, np, Ax, Qx, Ap, Qp, tk_e3 p]
set_option maxHeartbeats 4000000 in
theorem law_FnExactDepthOf (m : Int) (_ : -9223372036854775808 ≤ m ∧ m ≤ 9223372036854775807) (x : List (Int × Int)) (hx : x.length ≤ Go.maxLen) (p : List (Int × Int × Int)) (hp : p.length ≤ Go.maxLen) : call lf n_laws_FnExactDepthOf [.i m, rs2 x, rs3 p] = some (.b true, []) := by
  show call lf n_laws_FnExactDepthOf [.i m, .sl 0 (x.map e2), .sl 0 (p.map e3)] = _
  rw [call_k lf n_laws_FnExactDepthOf _ (F := F_laws_FnExactDepthOf) rfl rfl]
  have zx : (x.length : Int) ≤ 9223372036854775807 := by unfold Go.maxLen at hx; omega
  have Sx := c_szMarkS x 1048576 (by omega) (by omega) zx
  by_cases hx1 : (1048576 : Int) < x.length
  · simp [F_laws_FnExactDepthOf, Sx, hx1]
  have nx : ¬ ((1048576 : Int) - x.length < 0) := by omega
  have zp : (p.length : Int) ≤ 9223372036854775807 := by unfold Go.maxLen at hp; omega
  have Sp := c_szChoiceS p (1048576 - x.length) (by omega) (by omega) zp
  by_cases hp1 : (1048576 : Int) - x.length < p.length
  · simp [F_laws_FnExactDepthOf, Sx, hx1, nx, Sp, hp1]
  have np : ¬ ((1048576 : Int) - x.length - p.length < 0) := by omega
  have Ax := c_toMarkS x (by omega)
  have Qx := c_eqMarkS_self x (by omega)
  have Ap := c_toChoiceS p (by omega)
  have Qp := c_eqChoiceS_self p (by omega)
  obtain ⟨v, C1, C2⟩ := same_DepthOf m x p (by omega) (by omega)
  simp (config := { maxSteps := 2000000 }) [F_laws_FnExactDepthOf, C1, C2, Sx, hx1, nx, Sp, hp1, np, Ax, Qx, Ap, Qp, tk_e3 p]
set_option maxHeartbeats 4000000 in
theorem law_FnExactAverageBy (y : List (Int × Int)) (hy : y.length ≤ Go.maxLen) (x : List (Int × Int)) (hx : x.length ≤ Go.maxLen) (p : List (Int × Int × Int)) (hp : p.length ≤ Go.maxLen) : call lf n_laws_FnExactAverageBy [rs2 y, rs2 x, rs3 p] = some (.b true, []) := by
  show call lf n_laws_FnExactAverageBy [.sl 0 (y.map e2), .sl 0 (x.map e2), .sl 0 (p.map e3)] = _
  rw [call_k lf n_laws_FnExactAverageBy _ (F := F_laws_FnExactAverageBy) rfl rfl]
  have zy : (y.length : Int) ≤ 9223372036854775807 := by unfold Go.maxLen at hy; omega
  have Sy := c_szTestS y 1048576 (by omega) (by omega) zy
  by_cases hy1 : (1048576 : Int) < y.length
  · simp [F_laws_FnExactAverageBy, Sy, hy1]
  have ny : ¬ ((1048576 : Int) - y.length < 0) := by omega
  have zx : (x.length : Int) ≤ 9223372036854775807 := by unfold Go.maxLen at hx; omega
  have Sx := c_szMarkS x (1048576 - y.length) (by omega) (by omega) zx
  by_cases hx1 : (1048576 : Int) - y.length < x.length
  · simp [F_laws_FnExactAverageBy, Sy, hy1, ny, Sx, hx1]
  have nx : ¬ ((1048576 : Int) - y.length - x.length < 0) := by omega
  have zp : (p.length : Int) ≤ 9223372036854775807 := by unfold Go.maxLen at hp; omega
  have Sp := c_szChoiceS p (1048576 - y.length - x.length) (by omega) (by omega) zp
  by_cases hp1 : (1048576 : Int) - y.length - x.length < p.length
  · simp [F_laws_FnExactAverageBy, Sy, hy1, ny, Sx, hx1, nx, Sp, hp1]
  have np : ¬ ((1048576 : Int) - y.length - x.length - p.length < 0) := by omega
  have Ay := c_toTestS y (by omega)
  have Qy := c_eqTestS_self y (by omega)
  have Ax := c_toMarkS x (by omega)
  have Qx := c_eqMarkS_self x (by omega)
  have Ap := c_toChoiceS p (by omega)
  have Qp := c_eqChoiceS_self p (by omega)
  obtain ⟨v, C1, C2⟩ := same_AverageBy y x p (by omega) (by omega) (by omega)
  simp (config := { maxSteps := 2000000 }) [F_laws_FnExactAverageBy, C1, C2, Sy, hy1, ny, Sx, hx1, nx, Sp, hp1, np, Ay, Qy, Ax, Qx, Ap, Qp, tk_e3 p]
set_option maxHeartbeats 4000000 in
theorem law_FnExactWorstBy (y : List (Int × Int)) (hy : y.length ≤ Go.maxLen) (x : List (Int × Int)) (hx : x.length ≤ Go.maxLen) (p : List (Int × Int × Int)) (hp : p.length ≤ Go.maxLen) : call lf n_laws_FnExactWorstBy [rs2 y, rs2 x, rs3 p] = some (.b true, []) := by
  show call lf n_laws_FnExactWorstBy [.sl 0 (y.map e2), .sl 0 (x.map e2), .sl 0 (p.map e3)] = _
  rw [call_k lf n_laws_FnExactWorstBy _ (F := F_laws_FnExactWorstBy) rfl rfl]
  have zy : (y.length : Int) ≤ 9223372036854775807 := by unfold Go.maxLen at hy; omega
  have Sy := c_szTestS y 1048576 (by omega) (by omega) zy
  by_cases hy1 : (1048576 : Int) < y.length
  · simp [F_laws_FnExactWorstBy, Sy, hy1]
  have ny : ¬ ((1048576 : Int) - y.length < 0) := by omega
  have zx : (x.length : Int) ≤ 9223372036854775807 := by unfold Go.maxLen at hx; omega
  have Sx := c_szMarkS x (1048576 - y.length) (by omega) (by omega) zx
  by_cases hx1 : (1048576 : Int) - y.length < x.length
  · simp [F_laws_FnExactWorstBy, Sy, hy1, ny, Sx, hx1]
  have nx : ¬ ((1048576 : Int) - y.length - x.length < 0) := by omega
  have zp : (p.length : Int) ≤ 9223372036854775807 := by unfold Go.maxLen at hp; omega
  have Sp := c_szChoiceS p (1048576 - y.length - x.length) (by omega) (by omega) zp
  by_cases hp1 : (1048576 : Int) - y.length - x.length < p.length
  · simp [F_laws_FnExactWorstBy, Sy, hy1, ny, Sx, hx1, nx, Sp, hp1]
  have np : ¬ ((1048576 : Int) - y.length - x.length - p.length < 0) := by omega
  have Ay := c_toTestS y (by omega)
  have Qy := c_eqTestS_self y (by omega)
  have Ax := c_toMarkS x (by omega)
  have Qx := c_eqMarkS_self x (by omega)
  have Ap := c_toChoiceS p (by omega)
  have Qp := c_eqChoiceS_self p (by omega)
  obtain ⟨v, C1, C2⟩ := same_WorstBy y x p (by omega) (by omega) (by omega)
  simp (config := { maxSteps := 2000000 }) [F_laws_FnExactWorstBy, C1, C2, Sy, hy1, ny, Sx, hx1, nx, Sp, hp1, np, Ay, Qy, Ax, Qx, Ap, Qp, tk_e3 p]
set_option maxHeartbeats 4000000 in
theorem law_FnExactChoiceWeight (y : List (Int × Int)) (hy : y.length ≤ Go.maxLen) (x : List (Int × Int)) (hx : x.length ≤ Go.maxLen) (p : List (Int × Int × Int)) (hp : p.length ≤ Go.maxLen) (s : Int) (_ : -9223372036854775808 ≤ s ∧ s ≤ 9223372036854775807) : call lf n_laws_FnExactChoiceWeight [rs2 y, rs2 x, rs3 p, .i s] = some (.b true, []) := by
  show call lf n_laws_FnExactChoiceWeight [.sl 0 (y.map e2), .sl 0 (x.map e2), .sl 0 (p.map e3), .i s] = _
  rw [call_k lf n_laws_FnExactChoiceWeight _ (F := F_laws_FnExactChoiceWeight) rfl rfl]
  have zy : (y.length : Int) ≤ 9223372036854775807 := by unfold Go.maxLen at hy; omega
  have Sy := c_szTestS y 1048576 (by omega) (by omega) zy
  by_cases hy1 : (1048576 : Int) < y.length
  · simp [F_laws_FnExactChoiceWeight, Sy, hy1]
  have ny : ¬ ((1048576 : Int) - y.length < 0) := by omega
  have zx : (x.length : Int) ≤ 9223372036854775807 := by unfold Go.maxLen at hx; omega
  have Sx := c_szMarkS x (1048576 - y.length) (by omega) (by omega) zx
  by_cases hx1 : (1048576 : Int) - y.length < x.length
  · simp [F_laws_FnExactChoiceWeight, Sy, hy1, ny, Sx, hx1]
  have nx : ¬ ((1048576 : Int) - y.length - x.length < 0) := by omega
  have zp : (p.length : Int) ≤ 9223372036854775807 := by unfold Go.maxLen at hp; omega
  have Sp := c_szChoiceS p (1048576 - y.length - x.length) (by omega) (by omega) zp
  by_cases hp1 : (1048576 : Int) - y.length - x.length < p.length
  · simp [F_laws_FnExactChoiceWeight, Sy, hy1, ny, Sx, hx1, nx, Sp, hp1]
  have np : ¬ ((1048576 : Int) - y.length - x.length - p.length < 0) := by omega
  have Ay := c_toTestS y (by omega)
  have Qy := c_eqTestS_self y (by omega)
  have Ax := c_toMarkS x (by omega)
  have Qx := c_eqMarkS_self x (by omega)
  have Ap := c_toChoiceS p (by omega)
  have Qp := c_eqChoiceS_self p (by omega)
  obtain ⟨v, C1, C2⟩ := same_ChoiceWeight y x p s (by omega) (by omega) (by omega)
  simp (config := { maxSteps := 2000000 }) [F_laws_FnExactChoiceWeight, C1, C2, Sy, hy1, ny, Sx, hx1, nx, Sp, hp1, np, Ay, Qy, Ax, Qx, Ap, Qp, tk_e3 p]
set_option maxHeartbeats 4000000 in
theorem law_FnExactCostBy (y : List (Int × Int)) (hy : y.length ≤ Go.maxLen) (x : List (Int × Int)) (hx : x.length ≤ Go.maxLen) (p : List (Int × Int × Int)) (hp : p.length ≤ Go.maxLen) (s : Int) (_ : -9223372036854775808 ≤ s ∧ s ≤ 9223372036854775807) : call lf n_laws_FnExactCostBy [rs2 y, rs2 x, rs3 p, .i s] = some (.b true, []) := by
  show call lf n_laws_FnExactCostBy [.sl 0 (y.map e2), .sl 0 (x.map e2), .sl 0 (p.map e3), .i s] = _
  rw [call_k lf n_laws_FnExactCostBy _ (F := F_laws_FnExactCostBy) rfl rfl]
  have zy : (y.length : Int) ≤ 9223372036854775807 := by unfold Go.maxLen at hy; omega
  have Sy := c_szTestS y 1048576 (by omega) (by omega) zy
  by_cases hy1 : (1048576 : Int) < y.length
  · simp [F_laws_FnExactCostBy, Sy, hy1]
  have ny : ¬ ((1048576 : Int) - y.length < 0) := by omega
  have zx : (x.length : Int) ≤ 9223372036854775807 := by unfold Go.maxLen at hx; omega
  have Sx := c_szMarkS x (1048576 - y.length) (by omega) (by omega) zx
  by_cases hx1 : (1048576 : Int) - y.length < x.length
  · simp [F_laws_FnExactCostBy, Sy, hy1, ny, Sx, hx1]
  have nx : ¬ ((1048576 : Int) - y.length - x.length < 0) := by omega
  have zp : (p.length : Int) ≤ 9223372036854775807 := by unfold Go.maxLen at hp; omega
  have Sp := c_szChoiceS p (1048576 - y.length - x.length) (by omega) (by omega) zp
  by_cases hp1 : (1048576 : Int) - y.length - x.length < p.length
  · simp [F_laws_FnExactCostBy, Sy, hy1, ny, Sx, hx1, nx, Sp, hp1]
  have np : ¬ ((1048576 : Int) - y.length - x.length - p.length < 0) := by omega
  have Ay := c_toTestS y (by omega)
  have Qy := c_eqTestS_self y (by omega)
  have Ax := c_toMarkS x (by omega)
  have Qx := c_eqMarkS_self x (by omega)
  have Ap := c_toChoiceS p (by omega)
  have Qp := c_eqChoiceS_self p (by omega)
  obtain ⟨v, w, b, C1, C2⟩ := same_CostBy y x p s (by omega) (by omega) (by omega)
  simp (config := { maxSteps := 2000000 }) [F_laws_FnExactCostBy, C1, C2, Sy, hy1, ny, Sx, hx1, nx, Sp, hp1, np, Ay, Qy, Ax, Qx, Ap, Qp, tk_e3 p]
end
end Zz
