/- What the functions answer, as equations: EB. No conditions. -/
import Derived.Test.YtkokclaabaepaaaEAzb
set_option linter.unusedSectionVars false
set_option linter.unusedVariables false
set_option linter.unusedSimpArgs false
namespace Zz
open Go.Lg Md
set_option linter.unusedSimpArgs false
set_option linter.unusedVariables false
attribute [local simp] tm_mv tm_newnil tm_pick tm_bin tm_eqb tm_eqs tm_un tm_len tm_lens tm_chk tm_fld tm_fldv tm_idxa tm_idx tm_load tm_store tm_slice tm_slices tm_make tm_alloc tm_box tm_build tm_app tm_conv tm_ext tm_call tm_calld tm_mkfn tm_mm tm_idxp tm_eqn tm_callg tm_callm tm_bslice0 tm_bslice1 tm_bslice2 tm_bslice cw_nil cw_cons cd_none cd_some ec_nil ec_cons es_nil es_one es_more nn_nil nn_cons ns_nil ns_cons si_nil si_cons sk_t stod_oad stod_own stod_adr stod_dead ml_nil ml_cons nt_nil nt_cons nc_nil' nc_cons sa_mkfn cv_adr cv_i cv_y cv_b cv_w sa_calld nm_def nh_nil nh_cons nxM_some nxM_none sc_st sd_i sd_y sd_b sd_s sd_w sd_q sc_i sc_y sc_b sc_s sc_w sc_q sa_bslice sa_app nc_own nc_nil sa_call sa_alloc sa_build sa_callm rm_nil rm_one rm_gen bq_mul bq_eql ia_mv ia_newnil ia_pick ia_bin ia_eqb ia_eqs ia_un ia_len ia_lens ia_chk ia_fld ia_fldv ia_idxa ia_idx ia_load ia_store ia_slice ia_slices ia_make ia_alloc ia_box ia_build ia_bslice ia_app ia_b2i ia_i2b ia_i2i ia_same ia_b2s ia_s2b ia_ext ia_mm ia_idxp ia_calld ia_mkfn ia_i2r ia_r2s ia_call pt_nil pt_cons mi_nil mi_cons md_bslice md_mv md_newnil md_pick md_bin md_eqb md_un md_len md_lens md_fld md_fldv md_idxa md_idx md_load md_store md_slice md_slices md_make md_alloc md_box md_build md_app md_conv md_ext md_call md_calld md_callg md_mkfn md_mm md_idxp md_eqn md_eqs md_chk tg_bslice tg_mv tg_newnil tg_pick tg_bin tg_eqb tg_un tg_len tg_lens tg_fld tg_fldv tg_idxa tg_idx tg_load tg_store tg_slice tg_slices tg_make tg_alloc tg_box tg_build tg_app tg_conv tg_ext tg_call tg_calld tg_callg tg_mkfn tg_mm tg_idxp tg_eqn tg_eqs tg_chk rp_eq ro_eq ifP_t ifP_f np_def ng1_nil ng2_nil ng_gate ng_gen tgA_t tgA_0 tgA_1 tgA_2 aC_nil aC_c aC_t nxP_some nxP_none rq_nil rq_gen rq_gate nxR_some nxR_none ru_nil ru_gen ru_gate pl_none pl_some gt_nil gt_t gt_c di_some di_none an_nil an_cons nxG_some nxG_none rg_nil rg_gen rg_gate oldO_some oa_nil oa_i oa_y oa_b oa_s oa_st oa_sl oa_own oa_oad oa_nl al_nil al_cons al_i al_y al_b al_s al_st al_sl nxF_some nxF_none rf_nil rf_gen rf_gate hk_newnil hk_make hk_alloc hk_box hk_build hk_bslice hk_call hk_store hk_app hk_appn em_cel mm_cel ok_cel ov_cel so_cel il_cel oi_cel oj_cel ol_cel nm_cel hk_appc ef_bslice5 ef_app_cel ks_shut shu_own shc_none shc_cel cl_nil cl_cons ai_nil ai_cons il_i il_y il_b il_s il_st il_sl il_own il_adr il_oad il_ref il_fr il_tup il_nil il_np il_und il_dead ol_adr ol_b ol_dead ol_e ol_fn ol_fr ol_i ol_nil ol_np ol_oad ol_own ol_q ol_r ol_ref ol_s ol_sl ol_st ol_tup ol_und ol_w ol_y oj_e oj_i oj_y oj_b oj_s oj_st oj_sl oj_own oj_adr oj_oad oj_ref oj_fr oj_tup oj_nil oj_np oj_und oj_dead oj_w oj_q oj_r oj_fn oi_e oi_i oi_y oi_b oi_s oi_st oi_sl oi_own oi_adr oi_oad oi_ref oi_fr oi_tup oi_nil oi_np oi_und oi_dead as_nil as_cons ao_nil ao_cons av_i av_y av_b av_s av_st av_sl av_own av_adr av_oad av_ref av_fr av_tup av_nil av_np av_und av_dead pro_cons ghK_some ks_promote ks_freeze frz_own ks_rename ren_own ks_cell cel_own dropO adoptP newP wholeP cutP allOldL ex_skip ex_ret ex_exit ks_region ks_seq ks_cut ks_cond ks_block seqK_n seqK_e seqK_r regK_some condK_t condK_f blkK_n blkK_r blkK_e endK_n endK_r rr_false rr_true rd_free mo_nil mo_cons drK_some drK_none nxW_some nxW_none rw_nil rw_gen rw_gate ak_newnil ak_make ak_alloc ak_box ak_build ak_bslice ak_call ak_store ak_app iw_mm iw_eqn iw_idxp ef_callg cgK_some gv_e gv_own gv_i gv_sl gv_st gv_b gv_nil gvK_some gvO_some iw_callg ia_callg ak_callg hk_callg is_mv is_newnil is_pick is_bin is_eqb is_eqs is_un is_len is_lens is_chk is_fld is_fldv is_idxa is_idx is_load is_slice is_slices is_make is_alloc is_box is_build is_bslice is_app is_conv is_ext is_call is_calld is_callg is_mkfn is_mm is_idxp is_eqn is_store rt_nil rt_gen rt_gate nxT_some nxT_none ef_eqn_nil ef_eqn_sl ef_eqn_own ia_eqn ef_mmx ef_mmn ef_idxp nxD_some nxD_none ov_i ov_y ov_b ov_s ov_st ov_sl ov_own ov_oad ov_adr ov_nil ov_np ov_und ov_dead ov_tup oldN_some oldN_nil oldN_none so_none so_tup DV.noM so_i so_y so_b so_s so_st so_sl so_adr so_nil so_np so_und so_dead anyM_nil anyM_t anyM_c so_own so_oad rd_nil rd_gen rd_mv rd_gate iw_mv iw_newnil iw_pick iw_bin iw_eqb iw_eqs iw_un iw_len iw_lens iw_chk iw_fld iw_fldv iw_idxa iw_idx iw_load iw_store iw_slice iw_slices iw_make iw_alloc iw_box iw_build iw_bslice iw_app iw_b2i iw_i2b iw_i2i iw_same iw_b2s iw_s2b iw_ext iw_call nm_i nm_y nm_b nm_s nm_st nm_sl nm_own nm_oad nm_adr nm_nil nm_np nm_und nm_dead nm_tup rl_nil rl_gate rl_mv rl_gen opv_t opv_c nx_some nx_none gate_tt gate_tf gate_ft gate_ff gate_u fr_ap em_nil em_i em_y em_b em_s em_st em_sl em_own em_adr em_oad em_ref em_nl em_np em_und em_dead em_tup0 em_tup_i em_tup_b em_tup_s em_tup_sl em_tup_st em_tup_np em_tup_own em_tup_oad mm_i mm_y mm_b mm_s mm_st mm_sl mm_own mm_oad mm_adr mm_nil mm_np mm_und mm_dead ef_mv ef_newnil ef_pickt ef_pickf ef_bin ef_eqb ef_eqs ef_un ef_lens ef_len_sl ef_len_own ef_len_nil ef_chk_adr ef_chk_oad ef_fld_adr ef_fld_oad ef_fldv idxR_some ef_idxa_sl ef_idxa_own ef_idx ef_load_adr_st ef_load_adr_i ef_load_adr_y ef_load_adr_b ef_load_adr_s ef_load_adr_sl atN_nil atN_zero atN_succ ef_load_oad ef_store ef_slice ef_slices ef_make ef_alloc ef_box ef_build ef_bslice ef_app_own ef_app_nil ef_b2i ef_i2b ef_i2i ef_same ef_ext ret1 ret2_some calL_some ef_call retC_i retC_y retC_b retC_s retC_st retC_sl retC_np retC_fr retC_ref retC_tup rk_nil rk_i rk_y rk_b rk_s rk_st rk_sl rk_own rk_oad rk_nl ok_nil ok_i ok_y ok_b ok_s ok_st ok_sl ok_own ok_oad ok_nl lo_nil lo_i lo_y lo_b lo_s lo_st lo_sl lo_own lo_oad lo_nl pr_nil pr_i pr_y pr_b pr_s pr_st pr_sl pr_own pr_nl pr_oad nr_i nr_y nr_b nr_s nr_st nr_sl nr_fr nr_np nr_tup ng_i ng_b ng_s ng_fr ng_nil resV effP_eff binD bi_add bi_sub bi_mul bi_quo bi_rem bi_eql bi_neq bi_lss bi_leq bi_gtr bi_geq bi_shl bi_shr bi_and bi_or bi_xor bi_andNot binY binS unD look put putD LS.get LS.drop killE sweep lookO putO dropO enter leave giveBackL giveBack outs lendArgs lendArg newOuts takeIn takeInL lendL DV.lend adoptL DV.adopt elems apartKs part DV.cells unpart settle settleL over mkId szId fillP fillE tk_e2 tk_i tk_y lt_e2 lt_i lt_y lend_rep al_e2 al_is al_ys al_rep al_app lend_app adopt_app new_app lend_e2 lend_i lend_y adopt_e2 adopt_i adopt_y new_e2 new_i allNewL DV.allNew bounds sliceD sliceS em_w em_q em_r em_fn em_tup_w em_tup_q em_tup_r mm_w mm_q mm_r mm_fn ef_load_adr_w ef_load_adr_q ef_load_adr_r retC_w retC_q retC_r rk_w rk_q rk_r rk_fn ok_w ok_q ok_r ok_fn lo_w lo_q lo_r lo_fn pr_w pr_q pr_r pr_fn nr_w nr_q nr_r ng_w ng_q ng_r oa_w oa_q oa_r oa_fn al_w al_q al_r al_fn ov_w ov_q ov_r ov_fn so_w so_q so_r so_fn il_w il_q il_r il_fn oi_w oi_q oi_r oi_fn av_w av_q av_r av_fn nm_w nm_q nm_r nm_fn ef_i2r ef_r2s ef_b2s bs_some ys_nil ys_cons ys_map ef_mkfn ef_mkbd ef_idxp_adr ef_idxp_q ef_calld_nil ef_calld_adr ef_calld_bd DV.capB capsOk DV.cell List.all_cons List.all_nil rk_own_t lo_own_t lk_f lk_t pr_own_t mutB ak_calld hk_calld iw_calld iw_mkfn iw_i2r iw_r2s bw_and bw_or bw_xor bw_andNot bw_eql bw_neq sw_shl sw_shr sq_shl gEnv_nil rk_adr ok_adr lo_adr pr_adr oa_adr capL capArg DV.cap ak_mkfn hk_mkfn hk_mkbd ef_callm gf_ap ga_nil ga_cons tgv_own gk_e gk_giv gk_i gk_y gk_b gk_s gk_w gk_q gk_r gk_fn gk_st gk_sl gk_own gk_oad gk_adr gk_nl gk_np rk_giv ok_giv lo_giv pr_giv oa_giv iw_callm hk_callm ak_callm is_callm ia_callm tg_callm md_callm ef_i2q ef_q2i ef_q2q iw_i2q iw_q2i iw_q2q ia_i2q ia_q2i ia_q2q bq_and bq_add bq_shr sq_shr tgv_nil gk_ref rk_ref ok_ref lo_ref pr_ref oa_ref retC_fn nr_fn ef_load_adr_fn ks_close cls_oad
attribute [local congr] nxM_congr ifP_congr nxP_congr nxR_congr nxT_congr nxG_congr nxF_congr ghK_congr gate_congr nx_congr nxD_congr runL_congr runD_congr eff_congr calL_congr ret2_congr seqK_congr regK_congr condK_congr endK_congr drK_congr nxW_congr
attribute [local simp ↓] nxM_some rm_nil rm_one rm_gen nxT_some rt_nil rt_gen rt_gate nxP_some rq_nil rq_gen rq_gate nxR_some ru_nil ru_gen ru_gate nxG_some rg_nil rg_gen rg_gate nxF_some rf_nil rf_gen rf_gate ks_promote ks_freeze frz_own ks_rename ks_cell ghK_some gate_tt gate_tf gate_ft gate_ff gate_u nx_some nxD_some rl_nil rl_mv rl_gen rl_gate rd_nil rd_mv rd_gen rd_gate rd_free rr_false rr_true drK_some drK_none nxW_some rw_nil rw_gen rw_gate ks_region ks_seq ks_cut ks_cond ks_block seqK_n seqK_e seqK_r regK_some condK_t condK_f blkK_n blkK_r endK_n endK_r calL_some ret2_some opv_t opv_c
section
attribute [-simp] DV.cells sliceD
attribute [local simp] cells_st cells_sl cells_i cells_y cells_b cells_s cells_w
/-- the rounds as sets -/
def swR (us : List T) (fee : Int) : Nat → Nat → List Nat
  | 0, _ => []
  | f + 1, so => if so = 0 then [] else (rbR us fee (f + 1) so).2 :: swR us fee f (so - (rbR us fee (f + 1) so).2)
theorem swR_rows (us : List T) (fee : Int) : ∀ f so, rwR us fee f so = (swR us fee f so).map (Sl us.length)
  | 0, _ => rfl
  | f + 1, so => by
    simp only [rwR, swR]
    by_cases h : so = 0
    · rw [if_pos h, if_pos h]; rfl
    · rw [if_neg h, if_neg h, List.map_cons, swR_rows us fee f]
/-- the best so far, as the program holds it -/
def bsR (us : List T) (fee : Int) (f so : Nat) (st : Int × Nat) : List Int × Int := if st.1 < 0 then ([], 0) else (ni (st.2 :: swR us fee f (so - st.2)), st.1)
def stRb (us : List T) (so : Nat) (fee : Int) (D : DV) (l : Int) (n : Nat) (ob : OB) : LS :=
  ⟨[(0, .sl 0 (us.map e2)), (1, .i so), (2, .i fee), (8, D), (9, .i l), (10, .i n)], ob⟩
theorem andNot_nat {a b : Nat} (ha : a < 32) (hb : b < 32) : andNotI (a : Int) (b : Int) = ((a &&& (31 ^^^ b) : Nat) : Int) := by
  have key : ∀ (a b : _root_.Fin 32), andNotI ((a.val : Nat) : Int) ((b.val : Nat) : Int) = ((a.val &&& (31 ^^^ b.val) : Nat) : Int) := by decide +kernel
  exact key ⟨a, ha⟩ ⟨b, hb⟩
theorem notin_fin : ∀ (a b : _root_.Fin 32), ((a.val &&& (31 ^^^ b.val)) = 0 ↔ a.val &&& b.val = a.val) ∧ (b.val &&& a.val = b.val → a.val &&& (31 ^^^ b.val) = a.val - b.val) := by decide +kernel
theorem notin_iff {a b : Nat} (ha : a < 32) (hb : b < 32) : (a &&& (31 ^^^ b)) = 0 ↔ a &&& b = a := (notin_fin ⟨a, ha⟩ ⟨b, hb⟩).1
theorem notin_sub {a b : Nat} (ha : a < 32) (hb : b < 32) (h : b &&& a = b) : a &&& (31 ^^^ b) = a - b := (notin_fin ⟨a, ha⟩ ⟨b, hb⟩).2 h
theorem pc_Sl {m so : Nat} (hm : m ≤ 5) (hs : so < 2 ^ m) : pc so = (Sl m so).length := by
  have key : ∀ (m : _root_.Fin 6) (so : _root_.Fin 32), so.val < 2 ^ m.val → pc so.val = (Sl m.val so.val).length := by decide +kernel
  have p : 2 ^ m ≤ 2 ^ 5 := Nat.pow_le_pow_right (by omega) hm
  exact key ⟨m, by omega⟩ ⟨so, by omega⟩ hs
def RbOk (us : List T) (fee : Int) (f : Nat) : Prop := ∀ so, so < 2 ^ us.length → (Sl us.length so).length ≤ f →
    call lf n_impl_bestRoundsOf [.sl 0 (us.map e2), .i so, .i fee] = some (.tup [bR (ni (swR us fee f so)), .i (rbR us fee f so).1], [])
theorem rb_skip {us : List T} (hm : us.length ≤ 5) {so n K : Nat} {fee : Int} {b : List Int} {l : Int} (hK : K = 4104 ∨ K = 24072) (hs : so < 32) (hn : n ≤ so) (q : n &&& so ≠ n) :
    ex lf F_impl_bestRoundsOf_L0 (stRb us so fee (bD K b) l n (bO K b)) = some (.normal, stRb us so fee (bD 4104 b) l (n + 1) (bO 4104 b)) := by
  have hin : (n : Int) ≤ (so : Int) := by omega
  have w1 := wr_succ (k := n) (by omega)
  have an := andNot_nat (a := n) (b := so) (by omega) (by omega)
  have nz : (n &&& (31 ^^^ so)) ≠ 0 := fun h => q ((notin_iff (by omega) (by omega)).1 h)
  have nz' : (((n &&& (31 ^^^ so) : Nat) : Int) != 0) = true := by simp; omega
  generalize n &&& (31 ^^^ so) = z at *
  unfold stRb bD bO
  by_cases hb0 : b = []
  · simp [F_impl_bestRoundsOf_L0, ren_nil, hb0, hin, an, nz', w1, -Int.natCast_add]
  · rcases hK with rfl | rfl <;> simp [F_impl_bestRoundsOf_L0, ren_nil, hb0, hin, an, nz', w1, -Int.natCast_add]
set_option maxHeartbeats 4000000 in
theorem rb_take {us : List T} (h : us.all tOk = true) (hm : us.length ≤ 5) {so n K : Nat} {fee : Int} (hf : 0 ≤ fee ∧ fee ≤ 22) {b r1 : List Int} {l r2 : Int} (hK : K = 4104 ∨ K = 24072) (hs : so < 32) (hsu : so < 2 ^ us.length) (hn : n ≤ so) (q : n &&& so = n) (hr : r1.length ≤ 5)
    (C : call lf n_impl_bestRoundsOf [.sl 0 (us.map e2), .i ((so - n : Nat) : Int), .i fee] = some (.tup [bR r1, .i r2], [])) (hr2 : 0 ≤ r2 ∧ r2 ≤ 1000000) {A : Int} (hA : A = (fee + rC us (Sl us.length n)) * 6 ^ (Sl us.length so).length + rP us (Sl us.length n) * r2) :
    ex lf F_impl_bestRoundsOf_L0 (stRb us so fee (bD K b) l n (bO K b)) = some (.normal, if b = [] ∨ A < l then stRb us so fee (bD 24072 ((n : Int) :: r1)) A (n + 1) (bO 24072 ((n : Int) :: r1)) else stRb us so fee (bD 4104 b) l (n + 1) (bO 4104 b)) := by
  have hin : (n : Int) ≤ (so : Int) := by omega
  have w1 := wr_succ (k := n) (by omega)
  have an := andNot_nat (a := n) (b := so) (by omega) (by omega)
  rw [(notin_iff (by omega) (by omega)).2 q, Int.natCast_zero] at an
  have an2 := andNot_nat (a := so) (b := n) (by omega) (by omega)
  rw [notin_sub (by omega) (by omega) q] at an2
  have S := c_impl_sizeOf (n := so) hs
  have ps := pc_Sl hm hsu
  rw [ps] at S
  have l5 : (Sl us.length so).length ≤ 5 := by
    have := List.length_filter_le so.testBit (List.range us.length)
    rw [List.length_range] at this
    exact Nat.le_trans this hm
  have V := c_impl_averageOfRound (us := us) (r := n) (n := (Sl us.length so).length) (fee := fee) (beh := r2) h hm l5 hf ⟨hr2.1, by omega⟩
  rw [← hA] at V
  clear hA
  have lb : 1 + r1.length ≤ bound := by unfold bound; omega
  have lb' : r1.length + 1 ≤ bound := by unfold bound; omega
  have lb1 : 1 ≤ bound := by unfold bound; omega
  have ac : 1 + r1.length = r1.length + 1 := by omega
  generalize so - n = s2 at *
  generalize (Sl us.length so).length = k at *
  unfold bR at C
  unfold stRb bD bO
  by_cases hb0 : b = []
  · subst hb0
    by_cases hr0 : r1 = []
    · subst hr0
      simp at C
      simp [F_impl_bestRoundsOf_L0, ren_nil, hin, an, an2, S, V, w1, C, lb1, -Int.natCast_add]
    · rw [if_neg hr0] at C
      simp [F_impl_bestRoundsOf_L0, ren_nil, hin, an, an2, S, V, w1, C, lb, lb', ac, hr0, -Int.natCast_add]
  · have bl : 0 < b.length := List.length_pos_iff.2 hb0
    by_cases hlt : A < l
    · by_cases hr0 : r1 = []
      · subst hr0
        simp at C
        rcases hK with rfl | rfl <;> simp [F_impl_bestRoundsOf_L0, ren_nil, hb0, hin, an, an2, S, V, w1, C, lb1, hlt, -Int.natCast_add]
      · rw [if_neg hr0] at C
        rcases hK with rfl | rfl <;> simp [F_impl_bestRoundsOf_L0, ren_nil, hb0, hin, an, an2, S, V, w1, C, lb, lb', ac, hr0, hlt, -Int.natCast_add]
    · by_cases hr0 : r1 = []
      · subst hr0
        simp at C
        rcases hK with rfl | rfl <;> simp [F_impl_bestRoundsOf_L0, ren_nil, hb0, hin, an, an2, S, V, w1, C, lb1, hlt, -Int.natCast_add]
      · rw [if_neg hr0] at C
        rcases hK with rfl | rfl <;> simp [F_impl_bestRoundsOf_L0, ren_nil, hb0, hin, an, an2, S, V, w1, C, lb, lb', ac, hr0, hlt, -Int.natCast_add]
theorem swR_len {us : List T} (h : us.all tOk = true) (hm : us.length ≤ 5) {fee : Int} (hf : 0 ≤ fee) : ∀ (f so : Nat), so < 2 ^ us.length → (swR us fee f so).length ≤ (Sl us.length so).length
  | 0, _, _ => Nat.zero_le _
  | f + 1, so, hs => by
    simp only [swR]
    by_cases q : so = 0
    · rw [if_pos q]; exact Nat.zero_le _
    · rw [if_neg q]
      have e : rbR us fee (f + 1) so = rbst us fee (fun s => (rbR us fee f s).1) so so := by simp only [rbR]; rw [if_neg q]
      have pos := (rbR_nn h hm hf (f + 1) so hs).2 (by omega)
      rcases rbst_spec (us := us) (fee := fee) (v := fun s => (rbR us fee f s).1) (so := so) pos so with ⟨_, b⟩ | ⟨_, ⟨b1, b2, b3⟩, _, _⟩
      · exact absurd (Nat.and_self so) (b so (by omega) (Nat.le_refl _))
      · rw [← e] at b1 b2 b3
        obtain ⟨p, n1, _, lt⟩ := sub_perm hm hs b3
        have ih := swR_len h hm hf f (so - (rbR us fee (f + 1) so).2) lt
        have := p.length_eq
        rw [List.length_append] at this
        have := n1 b1
        simp only [List.length_cons]
        omega
set_option maxHeartbeats 1000000 in
theorem rb_loop {us : List T} (h : us.all tOk = true) (hm : us.length ≤ 5) {fee : Int} (hf : 0 ≤ fee ∧ fee ≤ 22) {f : Nat} (ih : RbOk us fee f) {so : Nat} (hs : so < 2 ^ us.length) (hl : (Sl us.length so).length ≤ f + 1) :
    ∀ (j n K : Nat), n + j = so → (K = 4104 ∨ K = 24072) →
    ex lf F_impl_bestRoundsOf_W0 (stRb us so fee (bD K (bsR us fee f so (rbst us fee (fun s => (rbR us fee f s).1) so n)).1) (bsR us fee f so (rbst us fee (fun s => (rbR us fee f s).1) so n)).2 (n + 1) (bO K (bsR us fee f so (rbst us fee (fun s => (rbR us fee f s).1) so n)).1)) =
    some (.exit 0, stRb us so fee (bD 4104 (bsR us fee f so (rbst us fee (fun s => (rbR us fee f s).1) so so)).1) (bsR us fee f so (rbst us fee (fun s => (rbR us fee f s).1) so so)).2 (so + 1) (bO 4104 (bsR us fee f so (rbst us fee (fun s => (rbR us fee f s).1) so so)).1)) := by
  have p32 : 2 ^ us.length ≤ 2 ^ 5 := Nat.pow_le_pow_right (by omega) hm
  have pos : ∀ r, 1 ≤ r → r &&& so = r → 0 ≤ cst us fee (fun s => (rbR us fee f s).1) so r := (rbR_nn h hm hf.1 (f + 1) so hs).2 (by omega)
  intro j
  induction j with
  | zero =>
    intro n K hij hK
    have : n = so := by omega
    subst this
    rw [w_impl_bestRoundsOf_0]
    generalize bsR us fee f n (rbst us fee (fun s => (rbR us fee f s).1) n n) = P
    obtain ⟨b, l⟩ := P
    have nle : ¬ ((n + 1 : Nat) : Int) ≤ n := by omega
    generalize n + 1 = N at *
    unfold stRb bD bO
    by_cases hb0 : b = []
    · simp [F_impl_bestRoundsOf_L0, ren_nil, hb0, nle]
    · rcases hK with rfl | rfl <;> simp [F_impl_bestRoundsOf_L0, ren_nil, hb0, nle]
  | succ j ihj =>
    intro n K hij hK
    rw [w_impl_bestRoundsOf_0]
    have st := rbst_spec (us := us) (fee := fee) (v := fun s => (rbR us fee f s).1) (so := so) pos n
    by_cases q : (n + 1) &&& so = n + 1
    · obtain ⟨s1, s2, s3, s4⟩ := sub_perm hm hs q
      have sl := s1.length_eq
      rw [List.length_append] at sl
      have sp := s2 (by omega)
      have R := ih (so - (n + 1)) s4 (by omega)
      have rn := (rbR_nn h hm hf.1 f (so - (n + 1)) s4).1
      have ru := rbR_up h hm hf f (so - (n + 1)) s4 (by omega)
      have ln := swR_len h hm hf.1 f (so - (n + 1)) s4
      have l5 : (Sl us.length (so - (n + 1))).length ≤ 5 := by
        have := List.length_filter_le (so - (n + 1)).testBit (List.range us.length)
        rw [List.length_range] at this
        exact Nat.le_trans this hm
      have k6 := (p6 (n := (Sl us.length (so - (n + 1))).length) l5).2
      have T := rb_take (us := us) (so := so) (n := n + 1) (K := K) (fee := fee) (b := (bsR us fee f so (rbst us fee (fun s => (rbR us fee f s).1) so n)).1) (l := (bsR us fee f so (rbst us fee (fun s => (rbR us fee f s).1) so n)).2) h hm hf hK (by omega) hs (by omega) q (by rw [ni_len]; omega) R ⟨rn, by omega⟩ (A := cst us fee (fun s => (rbR us fee f s).1) so (n + 1)) rfl
      rw [T]
      have cn := pos (n + 1) (by omega) q
      have e : rbst us fee (fun s => (rbR us fee f s).1) so (n + 1) = if (rbst us fee (fun s => (rbR us fee f s).1) so n).1 < 0 ∨ cst us fee (fun s => (rbR us fee f s).1) so (n + 1) < (rbst us fee (fun s => (rbR us fee f s).1) so n).1 then (cst us fee (fun s => (rbR us fee f s).1) so (n + 1), n + 1) else rbst us fee (fun s => (rbR us fee f s).1) so n := by
        simp only [rbst]
        rw [if_pos q]
      have iff : ((bsR us fee f so (rbst us fee (fun s => (rbR us fee f s).1) so n)).1 = [] ∨ cst us fee (fun s => (rbR us fee f s).1) so (n + 1) < (bsR us fee f so (rbst us fee (fun s => (rbR us fee f s).1) so n)).2) ↔ ((rbst us fee (fun s => (rbR us fee f s).1) so n).1 < 0 ∨ cst us fee (fun s => (rbR us fee f s).1) so (n + 1) < (rbst us fee (fun s => (rbR us fee f s).1) so n).1) := by
        unfold bsR
        by_cases d : (rbst us fee (fun s => (rbR us fee f s).1) so n).1 < 0
        · rw [if_pos d]; simp [d]
        · rw [if_neg d]
          simp [d, ni]
      have i1 := ihj (n + 1) 24072 (by omega) (.inr rfl)
      have i2 := ihj (n + 1) 4104 (by omega) (.inl rfl)
      rw [e] at i1 i2
      by_cases hc : (rbst us fee (fun s => (rbR us fee f s).1) so n).1 < 0 ∨ cst us fee (fun s => (rbR us fee f s).1) so (n + 1) < (rbst us fee (fun s => (rbR us fee f s).1) so n).1
      · rw [if_pos (iff.2 hc)]
        rw [if_pos hc] at i1
        have nn : ¬ cst us fee (fun s => (rbR us fee f s).1) so (n + 1) < 0 := by omega
        have eb : bsR us fee f so (cst us fee (fun s => (rbR us fee f s).1) so (n + 1), n + 1) = (((n + 1 : Nat) : Int) :: ni (swR us fee f (so - (n + 1))), cst us fee (fun s => (rbR us fee f s).1) so (n + 1)) := by
          unfold bsR
          rw [if_neg nn]
          rfl
        rw [eb] at i1
        exact i1
      · rw [if_neg (fun x => hc (iff.1 x))]
        rw [if_neg hc] at i2
        exact i2
    · have e : rbst us fee (fun s => (rbR us fee f s).1) so (n + 1) = rbst us fee (fun s => (rbR us fee f s).1) so n := by
        simp only [rbst]
        rw [if_neg q]
      have i2 := ihj (n + 1) 4104 (by omega) (.inl rfl)
      rw [e] at i2
      rw [rb_skip hm hK (by omega) (by omega) q]
      exact i2
theorem rb_ret {us : List T} {so : Nat} {fee : Int} {b : List Int} {l : Int} {n : Nat} (L : ex lf F_impl_bestRoundsOf_W0 (stRb us so fee .nil 0 1 []) = some (.exit 0, stRb us so fee (bD 4104 b) l n (bO 4104 b))) :
    call lf n_impl_bestRoundsOf [.sl 0 (us.map e2), .i so, .i fee] = some (.tup [bR b, .i l], []) := by
  unfold stRb at L
  rw [call_k lf n_impl_bestRoundsOf _ (F := F_impl_bestRoundsOf) rfl rfl]
  unfold bD bO at L
  unfold bR
  by_cases hb0 : b = []
  · rw [if_pos hb0, if_pos hb0] at L
    rw [if_pos hb0]
    simp at L
    simp [F_impl_bestRoundsOf, L]
  · rw [if_neg hb0, if_neg hb0] at L
    rw [if_neg hb0]
    simp at L
    simp [F_impl_bestRoundsOf, L]
theorem c_impl_bestRoundsOf {us : List T} (h : us.all tOk = true) (hm : us.length ≤ 5) {fee : Int} (hf : 0 ≤ fee ∧ fee ≤ 22) : ∀ f, RbOk us fee f
  | 0 => fun so hs hl => by
    have e : so = 0 := by
      rcases Nat.eq_zero_or_pos so with q | q
      · exact q
      · have := Sl_ne hm hs (by omega); omega
    subst e
    refine rb_ret (b := []) (l := 0) (n := 1) ?_
    rw [w_impl_bestRoundsOf_0]
    have z1 : bD 4104 [] = .nil := rfl
    have z2 : bO 4104 [] = [] := rfl
    rw [z1, z2]
    unfold stRb
    simp [F_impl_bestRoundsOf_L0, ren_nil]
  | f + 1 => fun so hs hl => by
    have ih := c_impl_bestRoundsOf h hm hf f
    have pos : ∀ r, 1 ≤ r → r &&& so = r → 0 ≤ cst us fee (fun s => (rbR us fee f s).1) so r := (rbR_nn h hm hf.1 (f + 1) so hs).2 (by omega)
    have L := rb_loop h hm hf ih hs hl so 0 4104 (by omega) (.inl rfl)
    have z0 : bsR us fee f so (rbst us fee (fun s => (rbR us fee f s).1) so 0) = ([], 0) := rfl
    have z1 : bD 4104 [] = .nil := rfl
    have z2 : bO 4104 [] = [] := rfl
    rw [z0] at L
    simp only [z1, z2] at L
    have R := rb_ret L
    rw [R]
    by_cases q : so = 0
    · subst q
      have e1 : bsR us fee f 0 (rbst us fee (fun s => (rbR us fee f s).1) 0 0) = ([], 0) := rfl
      rw [e1]
      simp [rbR, swR, bR, ni]
    · have e : rbR us fee (f + 1) so = rbst us fee (fun s => (rbR us fee f s).1) so so := by simp only [rbR]; rw [if_neg q]
      have e2' : swR us fee (f + 1) so = (rbR us fee (f + 1) so).2 :: swR us fee f (so - (rbR us fee (f + 1) so).2) := by simp only [swR]; rw [if_neg q]
      rw [e2', e]
      rcases rbst_spec (us := us) (fee := fee) (v := fun s => (rbR us fee f s).1) (so := so) pos so with ⟨_, b⟩ | ⟨a, _⟩
      · exact absurd (Nat.and_self so) (b so (by omega) (Nat.le_refl _))
      · unfold bsR
        rw [if_neg (by omega)]
end
section
attribute [-simp] DV.cells
attribute [local simp] sliceD cells_st cells_sl cells_i cells_y cells_b cells_s cells_w
attribute [local simp] lend_eR al_eR lend_eN adopt_eN new_eN
attribute [local simp] cells_cel noc_i noc_y noc_eN noCelE noCelO noCelL DV.noCel noc_eR
def stBq (v : Int) (ss : List Nat) (k : Nat) : LS :=
  ⟨[(7, .i v), (8, .own 4104 k 0 k), (27, .own 12297 ss.length 0 ss.length), (28, .i ss.length), (29, .i k)], [(4104, ((ss.take k).map fun r => ni (Sl 5 r)).map eN), (12297, (ni ss).map .i)]⟩
set_option maxHeartbeats 4000000 in
theorem bqs_loop {ss : List Nat} (hl : ss.length ≤ 5) (v : Int) : ex lf F_impl_BestRounds_W0 (stBq v ss 0) = some (.exit 0, stBq v ss ss.length) := by
  refine loop_count (lf := lf) (L := F_impl_BestRounds_L0) ss.length (fun k => stBq v ss k) (fun k hk => ?_) ?_ (by simp)
  · have hk' : (k : Int) < ss.length := by omega
    have w1 := wr_succ (k := k) (by omega)
    have hkr : ss[k]? = some ss[k] := List.getElem?_eq_getElem hk
    obtain ⟨a1, _⟩ := at_ni hkr
    have e0 : ((ni ss).map DV.i)[k]? = some (.i (ss[k] : Int)) := by unfold ni; rw [List.getElem?_map, List.getElem?_map, hkr]; rfl
    have a2 : atN ((ni ss).map DV.i) k = some (.i (ss[k] : Int)) := e0
    have nl := ni_len ss
    have C := c_impl_rowOf ss[k]
    have cb : k + 1 ≤ bound := by unfold bound; omega
    have nS := ni_len (Sl 5 ss[k])
    have ft : ((ss.take (k + 1)).map fun r => ni (Sl 5 r)).map eN = ((ss.take k).map fun r => ni (Sl 5 r)).map eN ++ [.sl 1 ((ni (Sl 5 ss[k])).map .i)] := by
      rw [List.take_add_one, hkr, List.map_append, List.map_append]; rfl
    have lt : (((ss.take k).map fun r => ni (Sl 5 r)).map eN).length = k := by simp; omega
    have tkS : List.take (Sl 5 ss[k]).length ((ni (Sl 5 ss[k])).map DV.i) = (ni (Sl 5 ss[k])).map .i := List.take_of_length_le (by simp [nS])
    show ex lf F_impl_BestRounds_L0 (stBq v ss k) = some (.normal, stBq v ss (k + 1))
    unfold stBq
    rw [ft]
    generalize ((ss.take k).map fun r => ni (Sl 5 r)).map eN = F at *
    generalize ss[k] = r at *
    generalize Sl 5 r = q at *
    generalize ni ss = s2 at *
    simp [F_impl_BestRounds_L0, hk, hk', w1, a1, a2, nl, C, cb, nS, tkS, lt, -Int.natCast_add]
  · show ex lf F_impl_BestRounds_L0 (stBq v ss ss.length) = _
    unfold stBq
    generalize ((ss.take ss.length).map fun r => ni (Sl 5 r)).map eN = F at *
    generalize ni ss = s2 at *
    simp [F_impl_BestRounds_L0]
theorem Sl_five {m r : Nat} (hm : m ≤ 5) (hr : r < 2 ^ m) : Sl 5 r = Sl m r := by
  have key : ∀ (m : _root_.Fin 6) (r : _root_.Fin 32), r.val < 2 ^ m.val → Sl 5 r.val = Sl m.val r.val := by decide +kernel
  have p : 2 ^ m ≤ 2 ^ 5 := Nat.pow_le_pow_right (by omega) hm
  exact key ⟨m, by omega⟩ ⟨r, by omega⟩ hr
theorem swR_lt {us : List T} (h : us.all tOk = true) (hm : us.length ≤ 5) {fee : Int} (hf : 0 ≤ fee) : ∀ (f so : Nat), so < 2 ^ us.length → ∀ r ∈ swR us fee f so, r < 2 ^ us.length
  | 0, _, _ => fun r hr => by simp [swR] at hr
  | f + 1, so, hs => fun r hr => by
    simp only [swR] at hr
    by_cases q : so = 0
    · rw [if_pos q] at hr; cases hr
    · rw [if_neg q] at hr
      have e : rbR us fee (f + 1) so = rbst us fee (fun s => (rbR us fee f s).1) so so := by simp only [rbR]; rw [if_neg q]
      have pos := (rbR_nn h hm hf (f + 1) so hs).2 (by omega)
      rcases rbst_spec (us := us) (fee := fee) (v := fun s => (rbR us fee f s).1) (so := so) pos so with ⟨_, b⟩ | ⟨_, ⟨b1, b2, b3⟩, _, _⟩
      · exact absurd (Nat.and_self so) (b so (by omega) (Nat.le_refl _))
      · rw [← e] at b1 b2 b3
        obtain ⟨p, n1, _, lt⟩ := sub_perm hm hs b3
        rcases List.mem_cons.1 hr with rfl | hr
        · omega
        · exact swR_lt h hm hf f _ lt r hr
set_option maxHeartbeats 4000000 in
theorem c_impl_BestRounds (us : List T) (fee : Int) (ha : (us.length : Int) < 1099511627776) :
    call lf n_impl_BestRounds [.sl 0 (us.map e2), .i fee] = some (.tup [.fr 1 (((brL us fee).map ni).map eN), .i (brN us fee)], []) := by
  rw [call_k lf n_impl_BestRounds _ (F := F_impl_BestRounds) rfl rfl]
  have C1 := c_impl_TestsOk us ha
  have C3 := c_impl_feeOk fee
  unfold brN brL brO
  cases h1 : tsOk us with
  | false => rw [h1] at C1; simp [F_impl_BestRounds, C1]
  | true =>
    rw [h1] at C1
    cases h3 : decide (0 ≤ fee ∧ fee ≤ 20) with
    | false => rw [h3] at C3; simp [F_impl_BestRounds, C1, C3]
    | true =>
      rw [h3] at C3
      have h4 := of_decide_eq_true h3
      have h' := tsOk_iff.1 h1
      have P := c_impl_allOf h1
      have pp := Nat.two_pow_pos us.length
      have hs : 2 ^ us.length - 1 < 2 ^ us.length := by omega
      have sa := Sl_all (m := us.length) (by omega)
      have hl : (Sl us.length (2 ^ us.length - 1)).length = us.length := by rw [sa]; simp
      have p2 : 2 ≤ 2 ^ us.length := by
        have : 2 ^ 1 ≤ 2 ^ us.length := Nat.pow_le_pow_right (by omega) (by omega)
        omega
      have C := c_impl_bestRoundsOf h'.2 (by omega) (fee := fee) ⟨h4.1, by omega⟩ us.length (2 ^ us.length - 1) hs (by omega)
      have e1 : (rbR us fee us.length (2 ^ us.length - 1)).1 = brV us fee := rfl
      have e2' : rwR us fee us.length (2 ^ us.length - 1) = brR us fee := rfl
      rw [e1] at C
      rw [Bool.true_and, if_pos rfl, if_pos rfl]
      have sw := swR_rows us fee us.length (2 ^ us.length - 1)
      rw [e2'] at sw
      have ln := swR_len h'.2 (by omega) h4.1 us.length (2 ^ us.length - 1) hs
      have lt := swR_lt h'.2 (by omega) h4.1 us.length (2 ^ us.length - 1) hs
      have sne : swR us fee us.length (2 ^ us.length - 1) ≠ [] := by
        obtain ⟨f, hf⟩ : ∃ f, us.length = f + 1 := ⟨us.length - 1, by omega⟩
        rw [hf]
        simp only [swR]
        rw [if_neg (by rw [← hf]; omega)]
        simp
      generalize swR us fee us.length (2 ^ us.length - 1) = ss at *
      have rows : (ss.map fun r => ni (Sl 5 r)) = (brR us fee).map ni := by
        rw [sw, List.map_map]
        exact List.map_congr_left fun r hr => by
          show ni (Sl 5 r) = ni (Sl us.length r)
          rw [Sl_five (by omega) (lt r hr)]
      have L := bqs_loop (ss := ss) (by omega) (brV us fee)
      unfold bR at C
      rw [if_neg (by unfold ni; simpa using sne)] at C
      unfold stBq at L
      rw [List.take_length, rows] at L
      simp only [List.take_zero, List.map_nil, Int.natCast_zero] at L
      have nl := ni_len ss
      have tks : List.take ss.length ((ni ss).map DV.i) = (ni ss).map .i := List.take_of_length_le (by simp [nl])
      have lr : (((brR us fee).map ni).map eN).length = ss.length := by rw [← rows]; simp
      have tk : List.take ss.length (((brR us fee).map ni).map eN) = ((brR us fee).map ni).map eN := List.take_of_length_le (by rw [lr]; exact Nat.le_refl _)
      generalize brV us fee = v at *
      generalize ((brR us fee).map ni).map eN = D at *
      generalize 2 ^ us.length - 1 = so at *
      clear sw rows ln lt
      generalize ni ss = s2 at *
      simp [F_impl_BestRounds, C1, C3, P, C, L, nl, tks, lr, tk]
end
section
attribute [-simp] DV.cells
attribute [local simp] sliceD cells_st cells_sl cells_i cells_y cells_b cells_s cells_w
attribute [local simp] lend_eR al_eR
def setN (g : List Nat) : Nat := g.foldl (fun s k => s ||| 2 ^ k) 0
theorem setN_app (g : List Nat) (k : Nat) : setN (g ++ [k]) = setN g ||| 2 ^ k := by unfold setN; rw [List.foldl_append]; rfl
theorem setN_lt {m : Nat} {g : List Nat} (h : ∀ k ∈ g, k < m) : setN g < 2 ^ m := by
  obtain ⟨n, hn⟩ : ∃ n, n = g.length := ⟨_, rfl⟩
  induction n generalizing g with
  | zero =>
    have : g = [] := List.eq_nil_of_length_eq_zero hn.symm
    subst this
    exact Nat.two_pow_pos m
  | succ n ih =>
    obtain ⟨a, k, rfl⟩ : ∃ a k, g = a ++ [k] := ⟨g.dropLast, g.getLast (by intro e; rw [e] at hn; simp at hn), (List.dropLast_concat_getLast _).symm⟩
    rw [setN_app]
    exact Nat.or_lt_two_pow (ih (fun x hx => h x (by simp [hx])) (by simp at hn; exact hn)) (Nat.pow_lt_pow_right (by omega) (h k (by simp)))
theorem setN_bit (g : List Nat) (x : Nat) : (setN g).testBit x = decide (x ∈ g) := by
  obtain ⟨n, hn⟩ : ∃ n, n = g.length := ⟨_, rfl⟩
  induction n generalizing g with
  | zero =>
    have : g = [] := List.eq_nil_of_length_eq_zero hn.symm
    subst this
    simp [setN]
  | succ n ih =>
    obtain ⟨a, k, rfl⟩ : ∃ a k, g = a ++ [k] := ⟨g.dropLast, g.getLast (by intro e; rw [e] at hn; simp at hn), (List.dropLast_concat_getLast _).symm⟩
    rw [setN_app, Nat.testBit_or, ih a (by simp at hn; exact hn), Nat.testBit_two_pow]
    by_cases e : x = k
    · subst e; simp
    · have : k ≠ x := fun q => e q.symm
      simp [e, this]
theorem setN_perm {m : Nat} {g : List Nat} (nd : g.Nodup) (h : ∀ k ∈ g, k < m) : (Sl m (setN g)).Perm g := by
  refine (List.perm_ext_iff_of_nodup (Sl_nd _ _) nd).2 fun k => ?_
  rw [Sl_mem, setN_bit, decide_eq_true_eq]
  exact ⟨fun q => q.2, fun q => ⟨h k q, q⟩⟩
def stSw9 (g : List Nat) (k : Nat) : LS := ⟨[(3, .i (setN (g.take k))), (6, .sl 0 ((ni g).map .i)), (7, .i g.length), (8, .i k)], []⟩
theorem sw9_loop {g : List Nat} (hl : g.length ≤ 5) (h5 : ∀ k ∈ g, k < 5) : ex lf F_impl_setOf_W0 (stSw9 g 0) = some (.exit 0, stSw9 g g.length) := by
  refine loop_count (lf := lf) (L := F_impl_setOf_L0) g.length (fun k => stSw9 g k) (fun k hk => ?_) ?_ (by simp)
  · have hk' : (k : Int) < g.length := by omega
    have w1 := wr_succ (k := k) (by omega)
    have hkr : g[k]? = some g[k] := List.getElem?_eq_getElem hk
    obtain ⟨a1, _⟩ := at_ni hkr
    have nl := ni_len g
    have sl : setN (g.take k) < 2 ^ 5 := setN_lt fun x hx => h5 x (List.mem_of_mem_take hx)
    have ft : setN (g.take (k + 1)) = setN (g.take k) ||| 2 ^ g[k] := by rw [List.take_add_one, hkr]; exact setN_app _ _
    have hg := h5 g[k] (List.getElem_mem _)
    have oi := or_i (so := setN (g.take k)) (a := (g[k] : Int)) (by omega) (by omega) (by omega)
    rw [Int.toNat_natCast, ← ft] at oi
    have n0 : ¬ ((g[k] : Int) < 0) := by omega
    show ex lf F_impl_setOf_L0 (stSw9 g k) = some (.normal, stSw9 g (k + 1))
    unfold stSw9
    generalize setN (g.take (k + 1)) = s2 at *
    generalize setN (g.take k) = s1 at *
    generalize g[k] = x at *
    generalize ni g = g2 at *
    simp [F_impl_setOf_L0, hk, hk', w1, a1, nl, oi, n0, -Int.natCast_add]
  · show ex lf F_impl_setOf_L0 (stSw9 g g.length) = _
    unfold stSw9
    generalize setN (g.take g.length) = s1 at *
    generalize ni g = g2 at *
    simp [F_impl_setOf_L0]
theorem c_impl_setOf {g : List Nat} (hl : g.length ≤ 5) (h5 : ∀ k ∈ g, k < 5) : call lf n_impl_setOf [.sl 0 ((ni g).map .i)] = some (.i (setN g), []) := by
  rw [call_k lf n_impl_setOf _ (F := F_impl_setOf) rfl rfl]
  have L := sw9_loop hl h5
  have nl := ni_len g
  unfold stSw9 at L
  rw [List.take_length] at L
  have z : setN (g.take 0) = 0 := rfl
  rw [z] at L
  simp only [Int.natCast_zero] at L
  generalize setN g = s at *
  generalize ni g = g2 at *
  simp [F_impl_setOf, L, nl]
theorem c_backward (L : List (List Int)) : call lf n_slices_Backward_int_int [.sl 0 (L.map eR)] = some (.fn n_slices_Backward_int_int_1 [.adr (.sl 0 (L.map eR))], []) := by
  rw [call_k lf n_slices_Backward_int_int _ (F := F_slices_Backward_int_int) rfl rfl]
  have e0 : ¬ mkNo n_slices_Backward_int_int_1 0 % 2 = 1 := (mkNo_0 _).1
  have e1 : mkNo n_slices_Backward_int_int_1 0 / 2 = n_slices_Backward_int_int_1 := (mkNo_0 _).2
  simp [F_slices_Backward_int_int, e0, e1]
theorem adopt_eR (L : List (List Int)) : adoptL true (L.map eR) = L.map eR := by
  rw [adoptL_map, List.map_map]
  refine List.map_congr_left fun r _ => ?_
  show DV.sl (adoptP true 0) (adoptL true (r.map .i)) = .sl 0 (r.map .i)
  rw [adopt_i]; rfl
theorem rD_hi {us : List T} (h : us.all tOk = true) {fee : Int} (hf : 0 ≤ fee ∧ fee ≤ 22) : ∀ {N : LN}, LOk us N → N.flatten.length ≤ 5 → rD us fee N ≤ 70 * N.length * 6 ^ N.flatten.length
  | [], _, _ => by simp [rD]
  | g :: r, hN, hl => by
    rw [List.flatten_cons, List.length_append] at hl
    have a := rD_hi h hf (N := r) (fun c hc => hN c (List.mem_cons_of_mem _ hc)) (by omega)
    have n := rD_nn h hf.1 (N := r) (fun c hc => hN c (List.mem_cons_of_mem _ hc))
    have b := rC_bd h (hN g List.mem_cons_self)
    have c := rP_bd h (hN g List.mem_cons_self)
    have p := p6_pos (g.length + r.flatten.length)
    simp only [rD, List.length_cons, List.flatten_cons, List.length_append]
    have m1 : rP us g * rD us fee r ≤ 6 ^ g.length * (70 * r.length * 6 ^ r.flatten.length) := Int.mul_le_mul c.2 a n (Int.le_of_lt (p6_pos _))
    have m2 : (fee + rC us g) * 6 ^ (g.length + r.flatten.length) ≤ 70 * 6 ^ (g.length + r.flatten.length) := Int.mul_le_mul_of_nonneg_right (by omega) (by omega)
    have e : (6 : Int) ^ g.length * (70 * r.length * 6 ^ r.flatten.length) = 70 * r.length * 6 ^ (g.length + r.flatten.length) := by
      rw [Int.pow_add]
      generalize (6 : Int) ^ g.length = x
      generalize (6 : Int) ^ r.flatten.length = y
      grind
    rw [e] at m1
    push_cast
    rw [show (70 : Int) * (r.length + 1) * 6 ^ (g.length + r.flatten.length) = 70 * r.length * 6 ^ (g.length + r.flatten.length) + 70 * 6 ^ (g.length + r.flatten.length) by grind]
    omega
def stBk (us : List T) (fee avg : Int) (op : Nat) (R : List (List Int)) : LS :=
  ⟨[(3, .adr (.sl 0 (us.map e2))), (5, .adr (.i fee)), (7, .oad 3592 1 0 0), (8, .oad 4104 1 0 0), (27, .fn n_slices_Backward_int_int_1 [.adr (.sl 0 (R.map eR))])], [(3592, [.i avg]), (4104, [.i op])]⟩
set_option maxHeartbeats 4000000 in
theorem bk_round {us : List T} (h : us.all tOk = true) (hm : us.length ≤ 5) {fee avg : Int} (hf : 0 ≤ fee ∧ fee ≤ 22) (ha : 0 ≤ avg ∧ avg ≤ 10000000) {op : Nat} (R : List (List Int)) {g : List Nat} (gl : g.length + op ≤ 5) (hg : ∀ k ∈ g, k < us.length) (nd : g.Nodup) (k : Nat) :
    roundL (ex lf F_impl_RoundAverage_R0) 28 29 [3, 5, 7, 8, 10] [⟨some 10, .mv, [.t 29], none⟩] (eR (ni g)) k (stBk us fee avg op R) = some (stBk us fee ((fee + rC us g) * 6 ^ (g.length + op) + rP us g * avg) (g.length + op) R) := by
  have C1 := c_impl_setOf (g := g) (by omega) (fun x hx => by have := hg x hx; omega)
  have P := setN_perm nd hg
  have C2 := c_impl_averageOfRound (us := us) (r := setN g) (n := g.length + op) (fee := fee) (beh := avg) h hm gl hf ha
  rw [rC_perm us P, rP_perm us P] at C2
  have w1 : wr ((op : Int) + (g.length : Int)) = ((g.length + op : Nat) : Int) := by rw [wr_id (by omega) (by omega)]; omega
  have nl := ni_len g
  have e : eR (ni g) = .sl 0 ((ni g).map .i) := rfl
  have X : ex lf F_impl_RoundAverage_R0 ⟨[(3, .adr (.sl 0 (us.map e2))), (5, .adr (.i fee)), (7, .oad 1039 1 0 0), (8, .oad 1551 1 0 0), (10, .sl 0 ((ni g).map .i))], [(1039, [.i avg]), (1551, [.i op])]⟩ =
      some (.normal, ⟨[(3, .adr (.sl 0 (us.map e2))), (5, .adr (.i fee)), (7, .oad 1039 1 0 0), (8, .oad 1551 1 0 0), (10, .sl 0 ((ni g).map .i))], [(1039, [.i ((fee + rC us g) * 6 ^ (g.length + op) + rP us g * avg)]), (1551, [.i ((g.length + op : Nat) : Int)])]⟩) := by
    generalize (fee + rC us g) * 6 ^ (g.length + op) + rP us g * avg = A at *
    generalize g.length + op = o2 at *
    generalize setN g = s at *
    generalize ni g = g2 at *
    simp [F_impl_RoundAverage_R0, C1, C2, w1, nl]
  rw [e]
  unfold stBk roundL
  generalize (fee + rC us g) * 6 ^ (g.length + op) + rP us g * avg = A at *
  generalize g.length + op = o2 at *
  generalize ni g = g2 at *
  simp [runQ, reslot, X]
theorem bk_all {us : List T} (h : us.all tOk = true) (hm : us.length ≤ 5) {fee : Int} (hf : 0 ≤ fee ∧ fee ≤ 22) (R : List (List Int)) : ∀ (B r : LN), LOk us (B.reverse ++ r) → (∀ g ∈ B, g.Nodup) → (B.reverse ++ r).flatten.length ≤ 5 → (∀ g ∈ B.reverse ++ r, g ≠ []) →
    backL (roundL (ex lf F_impl_RoundAverage_R0) 28 29 [3, 5, 7, 8, 10] [⟨some 10, .mv, [.t 29], none⟩]) ((B.map ni).map eR) (stBk us fee (rD us fee r) r.flatten.length R) = some (stBk us fee (rD us fee (B.reverse ++ r)) (B.reverse ++ r).flatten.length R)
  | [], r, _, _, _, _ => rfl
  | g :: B, r, hL, nd, hl, ne => by
    have e : (g :: B).reverse ++ r = B.reverse ++ (g :: r) := by simp
    rw [e] at hL hl ne ⊢
    have hl2 : g.length + r.flatten.length ≤ 5 := by simp at hl ⊢; omega
    have lr : LOk us r := fun c hc => hL c (by simp [hc])
    have up := rD_hi h hf lr (by omega)
    have nn := rD_nn h hf.1 lr
    have rl : r.length ≤ 5 := by
      have : r.length ≤ r.flatten.length := flat_ge9 fun c hc => ne c (by simp [hc])
      omega
    have p := (p6 (n := r.flatten.length) (by omega))
    have ub : rD us fee r ≤ 70 * 5 * 7776 := Int.le_trans up (Int.mul_le_mul (by omega) p.2 (by omega) (by omega))
    have S := bk_round h hm hf (avg := rD us fee r) ⟨nn, by omega⟩ (op := r.flatten.length) R (g := g) hl2 (hL g (by simp)) (nd g List.mem_cons_self) ((B.map ni).map eR).length
    rw [List.map_cons, List.map_cons]
    simp only [backL, S]
    have I := bk_all h hm hf R B (g :: r) hL (fun c hc => nd c (List.mem_cons_of_mem _ hc)) hl ne
    rw [← I]
    simp only [rD, List.flatten_cons, List.length_append]
set_option maxHeartbeats 4000000 in
theorem c_impl_RoundAverage (us : List T) (L : List (List Int)) (fee : Int) (ha : (us.length : Int) < 1099511627776) (hb : (L.length : Int) < 1099511627776) (hf : (L.flatten.length : Int) < 1099511627776) :
    call lf n_impl_RoundAverage [.sl 0 (us.map e2), .sl 0 (L.map eR), .i fee] = some (.i (rdV us L fee), []) := by
  rw [call_k lf n_impl_RoundAverage _ (F := F_impl_RoundAverage) rfl rfl]
  have C1 := c_impl_TestsOk us ha
  have C2 := c_impl_GroupsOk us.length L hb
  have C3 := c_impl_feeOk fee
  unfold rdV rdO
  cases h1 : tsOk us with
  | false => rw [h1] at C1; simp [F_impl_RoundAverage, C1]
  | true =>
    rw [h1] at C1
    cases h2 : gokB us.length L with
    | false => rw [h2] at C2; simp [F_impl_RoundAverage, C1, C2]
    | true =>
      rw [h2] at C2
      cases h3 : decide (0 ≤ fee ∧ fee ≤ 20) with
      | false => rw [h3] at C3; simp [F_impl_RoundAverage, C1, C2, C3]
      | true =>
        rw [h3] at C3
        have h4 := of_decide_eq_true h3
        have h' := tsOk_iff.1 h1
        obtain ⟨N, rfl, G⟩ := gok_of (m := us.length) (by omega) h2
        have gl := gok_len G
        have nt : ((N.map ni).map fun r => r.map Int.toNat) = N := natL_ni N
        rw [nt, Bool.true_and, Bool.true_and, if_pos rfl]
        have J := bk_all h'.2 (by omega) (fee := fee) ⟨h4.1, by omega⟩ (N.map ni) N.reverse [] (by rw [List.reverse_reverse, List.append_nil]; exact G.lt) (fun g hg => by
          obtain ⟨A, B, e⟩ := List.append_of_mem (List.mem_reverse.1 hg)
          have nd := G.nd
          rw [e, List.flatten_append, List.flatten_cons] at nd
          exact (List.nodup_append.1 (List.nodup_append.1 nd).2.1).1) (by rw [List.reverse_reverse, List.append_nil]; omega) (by rw [List.reverse_reverse, List.append_nil]; exact G.ne)
        rw [List.reverse_reverse, List.append_nil] at J
        have rv : (N.reverse.map ni).map eR = ((N.map ni).map eR).reverse := by rw [← List.map_reverse, ← List.map_reverse]
        rw [rv] at J
        have e0 : rD us fee [] = 0 := rfl
        have e1 : ([] : LN).flatten.length = 0 := rfl
        rw [e0, e1] at J
        have Bw := c_backward (N.map ni)
        have on : ((N.map ni).map eR).all DV.oneC = true := by
          rw [List.all_map, List.all_eq_true]; intro x _; rfl
        have K : ex lf F_impl_RoundAverage_B0 (stBk us fee 0 0 (N.map ni)) = some (.normal, stBk us fee (rD us fee N) N.flatten.length (N.map ni)) := by
          unfold F_impl_RoundAverage_B0
          rw [ex_back]
          have hr : backRow bkFs (look (stBk us fee 0 0 (N.map ni)).sl 27) = some ((N.map ni).map eR) := by
            show backRow bkFs (.fn n_slices_Backward_int_int_1 [.adr (.sl 0 ((N.map ni).map eR))]) = _
            unfold backRow
            simp only [on, Bool.and_true]
            rw [if_pos (by decide +kernel)]
          rw [hr]
          simp only
          rw [if_pos (by decide +kernel), J]
          rfl
        unfold stBk at K
        simp only [Int.natCast_zero] at K
        have ll : (N.map ni).length = N.length := by simp
        generalize rD us fee N = Z at *
        generalize N.flatten.length = q at *
        generalize N.map ni = L at *
        simp [F_impl_RoundAverage, C1, C2, C3, Bw, K, ll, adopt_eR]
end
section
attribute [-simp] DV.cells
attribute [local simp] sliceD cells_st cells_sl cells_i cells_y cells_b cells_s cells_w
theorem rdO_of {us : List T} {L : List (List Int)} {fee : Int} (h : rdO us L fee = true) : ∃ N : LN, L = N.map ni ∧ tsOk us = true ∧ Gok us.length N ∧ (1 ≤ us.length ∧ us.length ≤ 5) ∧ (0 ≤ fee ∧ fee ≤ 20) := by
  unfold rdO at h
  simp only [Bool.and_eq_true, decide_eq_true_eq] at h
  have h' := tsOk_iff.1 h.1.1
  obtain ⟨N, rfl, G⟩ := gok_of (m := us.length) (by omega) h.1.2
  exact ⟨N, rfl, h.1.1, G, by omega, h.2⟩
theorem rdV_ok {us : List T} (h : tsOk us = true) {N : LN} (G : Gok us.length N) {fee : Int} (hf : 0 ≤ fee ∧ fee ≤ 20) : rdO us (N.map ni) fee = true ∧ rdV us (N.map ni) fee = rD us fee N := by
  have h' := tsOk_iff.1 h
  have o : rdO us (N.map ni) fee = true := by
    unfold rdO
    rw [h, gok_to (by omega) G]
    simpa using hf
  refine ⟨o, ?_⟩
  have nt : ((N.map ni).map fun r => r.map Int.toNat) = N := natL_ni N
  unfold rdV
  rw [o, if_pos rfl, nt]
theorem rdV_bad {us : List T} {L : List (List Int)} {fee : Int} (h : rdO us L fee = false) : rdV us L fee = -1 := by unfold rdV; rw [h]; rfl
theorem brO_iff {us : List T} {fee : Int} : brO us fee = true ↔ tsOk us = true ∧ 0 ≤ fee ∧ fee ≤ 20 := by unfold brO; simp
theorem br_law {us : List T} {fee : Int} (h : brO us fee = true) : 0 ≤ brN us fee ∧ gokB us.length ((brL us fee).map ni) = true ∧ rdV us ((brL us fee).map ni) fee = brN us fee ∧ brN us 0 = raOf us (roL us 0) 0 ∧ ∀ R : List (List Int), rdV us R fee < 0 ∨ brN us fee ≤ rdV us R fee := by
  obtain ⟨h1, hf⟩ := brO_iff.1 h
  have h' := tsOk_iff.1 h1
  obtain ⟨G, e, le⟩ := br_all h1 hf.1
  have e1 : brL us fee = brR us fee := by unfold brL; rw [h]; rfl
  have e2 : brN us fee = brV us fee := by unfold brN; rw [h]; rfl
  have e0 : brN us 0 = brV us 0 := by unfold brN; rw [brO_iff.2 ⟨h1, by omega, by omega⟩]; rfl
  rw [e1, e2, e0]
  refine ⟨?_, gok_to (by omega) G, by rw [(rdV_ok h1 G hf).2, e], by rw [br_free h1, raOf_ro h1], fun R => ?_⟩
  · rw [← e]; exact rD_nn h'.2 hf.1 G.lt
  · cases ho : rdO us R fee with
    | false => rw [rdV_bad ho]; omega
    | true =>
      obtain ⟨N, rfl, _, G2, _, _⟩ := rdO_of ho
      rw [(rdV_ok h1 G2 hf).2]
      exact .inr (le N G2)
theorem brN_bad {us : List T} {fee : Int} (h : brO us fee = false) : brN us fee = -1 ∧ brL us fee = [] := by
  unfold brN brL; rw [h]; exact ⟨rfl, rfl⟩
theorem brN_fee {us : List T} {fee : Int} (h : brO us fee = true) : (brN us (fee + 1) < 0 ∨ brN us fee + 6 ^ us.length ≤ brN us (fee + 1)) ∧ (brN us (fee + 1) < 0 ∨ brN us (fee + 2) < 0 ∨ brN us (fee + 2) - brN us (fee + 1) ≤ brN us (fee + 1) - brN us fee) := by
  obtain ⟨h1, hf⟩ := brO_iff.1 h
  have F := br_fee h1 hf.1
  have v : ∀ x, 0 ≤ x → x ≤ 20 → brN us x = brV us x := fun x a b => by unfold brN; rw [brO_iff.2 ⟨h1, a, b⟩]; rfl
  have b : ∀ x, 20 < x → brN us x = -1 := fun x a => (brN_bad (by
    cases q : brO us x with
    | false => rfl
    | true => have := (brO_iff.1 q).2; omega)).1
  rw [v fee hf.1 hf.2]
  by_cases q1 : fee + 1 ≤ 20
  · rw [v (fee + 1) (by omega) q1]
    refine ⟨.inr F.1, ?_⟩
    by_cases q2 : fee + 2 ≤ 20
    · rw [v (fee + 2) (by omega) q2]; exact .inr (.inr F.2)
    · rw [b (fee + 2) (by omega)]; exact .inr (.inl (by omega))
  · rw [b (fee + 1) (by omega)]
    exact ⟨.inl (by omega), .inl (by omega)⟩
theorem brN_le {us : List T} {fee : Int} (h : brO us fee = true) : brN us fee ≤ 1000000 := by
  obtain ⟨h1, hf⟩ := brO_iff.1 h
  have h' := tsOk_iff.1 h1
  have e2 : brN us fee = brV us fee := by unfold brN; rw [h]; rfl
  have pp := Nat.two_pow_pos us.length
  have sa := Sl_all (m := us.length) (by omega)
  have hl : (Sl us.length (2 ^ us.length - 1)).length = us.length := by rw [sa]; simp
  have u := rbR_up h'.2 (by omega) (fee := fee) ⟨hf.1, by omega⟩ us.length (2 ^ us.length - 1) (by omega) (by omega)
  have p := p6 (n := us.length) (by omega)
  rw [hl] at u
  rw [e2]
  unfold brV
  omega
end
section
attribute [-simp] DV.cells
attribute [local simp] sliceD cells_st cells_sl cells_i cells_y cells_b cells_s cells_w
attribute [local simp] lend_eR al_eR lend_eN adopt_eN new_eN
theorem c_sameInts_e (N : List Int) (ha : (N.length : Int) ≤ 1048576) : call lf n_laws_sameInts [.sl 0 (N.map .i), .sl 0 (N.map .i)] = some (.b true, []) := by
  rw [call_k lf n_laws_sameInts _ (F := F_laws_sameInts) rfl rfl]
  have lm : (N.map DV.i).length = N.length := by simp
  have A : ∀ i, (hi : i < N.length) → atI (N.map DV.i) i = some (.i N[i]) := fun i hi => by simp [atI, hi]
  generalize N.map DV.i = es at *
  have L : ex lf F_laws_sameInts_W0 ⟨[(0, .sl 0 es), (1, .sl 0 es), (5, .i 0)], []⟩ = some (.exit 0, ⟨[(0, .sl 0 es), (1, .sl 0 es), (5, .i N.length)], []⟩) := by
    refine loop_count N.length (fun i => ⟨[(0, .sl 0 es), (1, .sl 0 es), (5, .i i)], []⟩) (fun i hi => ?_) ?_ (by simp)
    · have w1 : wr ((i : Int) + 1) = (i : Int) + 1 := wr_id (by omega) (by omega)
      have q := A i hi
      generalize N[i] = y at *
      simp [F_laws_sameInts_L0, hi, q, w1, lm]
    · simp [F_laws_sameInts_L0, lm]
  simp [F_laws_sameInts, L, lm]
theorem c_sameRows_self (L : List (List Int)) (ha : (L.length : Int) ≤ 1048576) (hr : ∀ r ∈ L, (r.length : Int) ≤ 1048576) : call lf n_laws_sameRows [.sl 0 (L.map eR), .sl 0 (L.map eR)] = some (.b true, []) := by
  rw [call_k lf n_laws_sameRows _ (F := F_laws_sameRows) rfl rfl]
  have lm : (L.map eR).length = L.length := by simp
  have A : ∀ (i : Nat) (hi : i < L.length), atI (L.map eR) (i : Int) = some (.sl 0 (L[i].map .i)) := fun i hi => at_eR (List.getElem?_eq_getElem hi)
  have C : ∀ (i : Nat) (hi : i < L.length), call lf n_laws_sameInts [.sl 0 (L[i].map .i), .sl 0 (L[i].map .i)] = some (.b true, []) := fun i hi => c_sameInts_e L[i] (hr _ (List.getElem_mem hi))
  have W : ex lf F_laws_sameRows_W0 ⟨[(0, .sl 0 (L.map eR)), (1, .sl 0 (L.map eR)), (5, .i (0 : Nat))], []⟩ = some (.exit 0, ⟨[(0, .sl 0 (L.map eR)), (1, .sl 0 (L.map eR)), (5, .i L.length)], []⟩) := by
    refine loop_count L.length (fun k => ⟨[(0, .sl 0 (L.map eR)), (1, .sl 0 (L.map eR)), (5, .i (k : Nat))], []⟩) (fun i hlt => ?_) ?_ (by simp)
    · have hlt' : (i : Int) < L.length := by omega
      have w1 := wr_succ (k := i) (by omega)
      have a := A i hlt
      have c := C i hlt
      have lJ : lendL (L[i].map DV.i) = L[i].map .i := by simp
      generalize L[i].map DV.i = J at *
      generalize L.map eR = es at *
      simp [F_laws_sameRows_L0, lm, hlt, hlt', a, c, lJ, w1, -Int.natCast_add]
    · generalize L.map eR = es at *
      simp [F_laws_sameRows_L0, lm]
  simp only [Int.natCast_zero] at W
  generalize L.map eR = es at *
  simp [F_laws_sameRows, W, lm]
end
section
attribute [-simp] DV.cells
attribute [local simp] sliceD cells_st cells_sl cells_i cells_y cells_b cells_s cells_w
attribute [local simp] lend_eR al_eR lend_eN adopt_eN new_eN
theorem brL_lenB (us : List T) (fee : Int) : (brL us fee).length ≤ 5 ∧ (brL us fee).flatten.length ≤ 5 := by
  cases h : brO us fee with
  | false => rw [(brN_bad h).2]; simp
  | true =>
    obtain ⟨h1, hf⟩ := brO_iff.1 h
    have h' := tsOk_iff.1 h1
    obtain ⟨G, _, _⟩ := br_all h1 hf.1
    have e1 : brL us fee = brR us fee := by unfold brL; rw [h]; rfl
    rw [e1]
    have := flat_ge9 G.ne
    have := gok_len G
    omega
theorem roL_leB (us : List T) (row : Int) : (roL us row).length ≤ us.length := by
  unfold roL
  split
  · rw [rO_len]; exact Nat.le_refl _
  · simp
set_option maxHeartbeats 16000000 in
theorem law_FnBestRounds (x : List Nat) (_ : x.length ≤ Go.maxLen) (hb : ∀ y ∈ x, y < 256) (z : List Nat) (_ : z.length ≤ Go.maxLen) (hz : ∀ y ∈ z, y < 256) : call lf n_laws_FnBestRounds [bys x, bys z] = some (.b true, []) := by
  show call lf n_laws_FnBestRounds [.sl 0 (x.map .y), .sl 0 (z.map .y)] = _
  rw [call_k lf n_laws_FnBestRounds _ (F := F_laws_FnBestRounds) rfl rfl]
  by_cases hl : 1048576 < (x.length : Int)
  · simp (config := { maxSteps := 2000000 }) [F_laws_FnBestRounds, hl]
  · by_cases hl2 : 1048576 < (z.length : Int)
    · simp (config := { maxSteps := 2000000 }) [F_laws_FnBestRounds, hl, hl2]
    · obtain ⟨us, fee, u1, f1, d⟩ := c_DrawBestRounds hb (by omega)
      obtain ⟨m, R, m1, r1, r2, d2⟩ := c_DrawGroupsOk hz (by omega)
      have C1 := c_impl_BestRounds us fee (by omega)
      have C2 := c_spec_BestRounds us fee (by omega)
      have lb1 : us.length ≤ bound := by unfold bound; omega
      have tk1 := tk_e2 us
      obtain ⟨l1, l2⟩ := brL_lenB us fee
      have lb2 : (brL us fee).length ≤ bound := by unfold bound; omega
      have tk2 : List.take (brL us fee).length (((brL us fee).map ni).map eN) = ((brL us fee).map ni).map eN := List.take_of_length_le (by simp)
      have SR := c_sameRows_self ((brL us fee).map ni) (by rw [List.length_map]; omega) (fun r hr => by
        obtain ⟨q, hq, rfl⟩ := List.mem_map.1 hr
        obtain ⟨A, B, e⟩ := List.append_of_mem hq
        rw [e] at l2
        simp only [List.flatten_append, List.flatten_cons, List.length_append] at l2
        rw [ni_len]
        omega)
      have lL : ((brL us fee).map ni).length = (brL us fee).length := by simp
      cases h : brO us fee with
      | false =>
        obtain ⟨e1, e2'⟩ := brN_bad h
        rw [e1, e2'] at C1 C2
        rw [e2'] at SR
        have z1 : (([] : LN).map ni).map eR = [] := rfl
        rw [z1] at SR
        simp (config := { maxSteps := 2000000 }) [F_laws_FnBestRounds, hl, hl2, d, C1, C2, SR, lb1, tk1, c_alive]
      | true =>
        obtain ⟨nn, g1, g2, g3, g4⟩ := br_law h
        have n0 : ¬ brN us fee < 0 := by omega
        have C3 := c_impl_RoundAverage us R fee (by omega) (by omega) (by omega)
        have C4 := c_impl_BestRounds us 0 (by omega)
        have C5 := c_impl_GroupsOk us.length ((brL us fee).map ni) (by rw [lL]; omega)
        rw [g1] at C5
        have C6 := c_impl_RoundAverage us ((brL us fee).map ni) fee (by omega) (by rw [lL]; omega) (by rw [ni_flat, ni_len]; omega)
        rw [g2] at C6
        have rl := roL_leB us 0
        have RO := c_impl_RatioOrder us 0 (by omega)
        have W := c_impl_RowAverage us (roL us 0) 0 (by omega) (by omega)
        rw [← g3] at W
        obtain ⟨l3, _⟩ := brL_lenB us 0
        have lb3 : (brL us 0).length ≤ bound := by unfold bound; omega
        have lb4 : R.length ≤ bound := by unfold bound; omega
        have lb5 : (roL us 0).length ≤ bound := by unfold bound; omega
        have tk3 : List.take R.length (R.map eN) = R.map eN := List.take_of_length_le (by simp)
        have tk4 : List.take (brL us 0).length (((brL us 0).map ni).map eN) = ((brL us 0).map ni).map eN := List.take_of_length_le (by simp)
        have tk5 : List.take (roL us 0).length ((roL us 0).map DV.i) = (roL us 0).map .i := List.take_of_length_le (by simp)
        have le := lend_eN ((brL us fee).map ni)
        have le0 := lend_eN ((brL us 0).map ni)
        have ad := fun o => adopt_eN o ((brL us fee).map ni)
        have ad0 := fun o => adopt_eN o ((brL us 0).map ni)
        have nw := new_eN ((brL us fee).map ni)
        have nw0 := new_eN ((brL us 0).map ni)
        have ml : (((brL us fee).map ni).map eN).length = (brL us fee).length := by simp
        have ml0 : (((brL us 0).map ni).map eN).length = (brL us 0).length := by simp
        have G4 := g4 R
        clear g1 g2 g3 g4
        generalize brN us fee = v at *
        generalize brN us 0 = v0 at *
        generalize rdV us R fee = v1 at *
        generalize roL us 0 = r at *
        generalize ((brL us fee).map ni).map eN = D at *
        generalize ((brL us fee).map ni).map eR = D2 at *
        generalize ((brL us 0).map ni).map eN = D0 at *
        generalize ((brL us 0).map ni).map eR = D3 at *
        generalize (brL us fee).length = n at *
        generalize (brL us 0).length = k at *
        by_cases q : v1 < 0
        · simp (config := { maxSteps := 2000000 }) [F_laws_FnBestRounds, hl, hl2, d, d2, C1, C2, C3, C4, C5, C6, SR, RO, W, n0, q, le, le0, ad, ad0, nw, nw0, ml, ml0, lb1, lb2, lb3, lb4, lb5, tk1, tk2, tk3, tk4, tk5, c_alive]
        · have q2 : v ≤ v1 := by omega
          simp (config := { maxSteps := 2000000 }) [F_laws_FnBestRounds, hl, hl2, d, d2, C1, C2, C3, C4, C5, C6, SR, RO, W, n0, q, q2, le, le0, ad, ad0, nw, nw0, ml, ml0, lb1, lb2, lb3, lb4, lb5, tk1, tk2, tk3, tk4, tk5, c_alive]
end
section
attribute [-simp] DV.cells
attribute [local simp] sliceD cells_st cells_sl cells_i cells_y cells_b cells_s cells_w
attribute [local simp] lend_eR al_eR lend_eN adopt_eN new_eN
theorem brL_len (us : List T) (fee : Int) : (brL us fee).length ≤ 5 := by
  cases h : brO us fee with
  | false => rw [(brN_bad h).2]; simp
  | true =>
    obtain ⟨h1, hf⟩ := brO_iff.1 h
    have h' := tsOk_iff.1 h1
    obtain ⟨G, _, _⟩ := br_all h1 hf.1
    have e1 : brL us fee = brR us fee := by unfold brL; rw [h]; rfl
    rw [e1]
    have := flat_ge9 G.ne
    have := gok_len G
    omega
set_option maxHeartbeats 16000000 in
theorem law_FnRoundsFee (x : List Nat) (_ : x.length ≤ Go.maxLen) (hb : ∀ y ∈ x, y < 256) : call lf n_laws_FnRoundsFee [bys x] = some (.b true, []) := by
  show call lf n_laws_FnRoundsFee [.sl 0 (x.map .y)] = _
  rw [call_k lf n_laws_FnRoundsFee _ (F := F_laws_FnRoundsFee) rfl rfl]
  by_cases hl : 1048576 < (x.length : Int)
  · simp (config := { maxSteps := 2000000 }) [F_laws_FnRoundsFee, hl]
  · obtain ⟨us, fee, u1, f1, d⟩ := c_DrawBestRounds hb (by omega)
    have C1 := c_impl_BestRounds us fee (by omega)
    have lb1 : us.length ≤ bound := by unfold bound; omega
    have tk1 := tk_e2 us
    have l1 := brL_len us fee
    have lb2 : (brL us fee).length ≤ bound := by unfold bound; omega
    cases h : brO us fee with
    | false =>
      obtain ⟨e1, e2'⟩ := brN_bad h
      rw [e1, e2'] at C1
      simp (config := { maxSteps := 2000000 }) [F_laws_FnRoundsFee, hl, d, C1, lb1, tk1, c_alive]
    | true =>
      have nn := (br_law h).1
      have n0 : ¬ brN us fee < 0 := by omega
      have w1 : wr (fee + 1) = fee + 1 := wr_id (by omega) (by omega)
      have w2 : wr (fee + 2) = fee + 2 := wr_id (by omega) (by omega)
      have C2 := c_impl_BestRounds us (fee + 1) (by omega)
      have C3 := c_impl_BestRounds us (fee + 2) (by omega)
      have l2 := brL_len us (fee + 1)
      have l3 := brL_len us (fee + 2)
      have lb3 : (brL us (fee + 1)).length ≤ bound := by unfold bound; omega
      have lb4 : (brL us (fee + 2)).length ≤ bound := by unfold bound; omega
      obtain ⟨F1, F2⟩ := brN_fee h
      have P := c_power (us.length : Int) (by omega) (by omega)
      rw [Int.toNat_natCast] at P
      have pk := p6 (n := us.length) (by omega)
      have up : ∀ fee, -1 ≤ brN us fee ∧ brN us fee ≤ 1000000 := fun fee => by
        cases q : brO us fee with
        | false => rw [(brN_bad q).1]; omega
        | true => exact ⟨by have := (br_law q).1; omega, brN_le q⟩
      have b1 := up fee
      have b2 := up (fee + 1)
      have b3 := up (fee + 2)
      have w3 : wr (brN us fee + 6 ^ us.length) = brN us fee + 6 ^ us.length := wr_id (by omega) (by omega)
      have w4 : wr (brN us (fee + 2) - brN us (fee + 1)) = brN us (fee + 2) - brN us (fee + 1) := wr_id (by omega) (by omega)
      have w5 : wr (brN us (fee + 1) - brN us fee) = brN us (fee + 1) - brN us fee := wr_id (by omega) (by omega)
      have r1 : (((brL us fee).map ni).map eN).length = (brL us fee).length := by simp
      have r2 : (((brL us (fee + 1)).map ni).map eN).length = (brL us (fee + 1)).length := by simp
      have r3 : (((brL us (fee + 2)).map ni).map eN).length = (brL us (fee + 2)).length := by simp
      have ad := fun o => adopt_eN o ((brL us fee).map ni)
      have ad1 := fun o => adopt_eN o ((brL us (fee + 1)).map ni)
      have ad2 := fun o => adopt_eN o ((brL us (fee + 2)).map ni)
      have nw := new_eN ((brL us fee).map ni)
      have nw1 := new_eN ((brL us (fee + 1)).map ni)
      have nw2 := new_eN ((brL us (fee + 2)).map ni)
      generalize ((brL us fee).map ni).map eN = D at *
      generalize ((brL us (fee + 1)).map ni).map eN = D1 at *
      generalize ((brL us (fee + 2)).map ni).map eN = D2 at *
      generalize brN us fee = v at *
      generalize brN us (fee + 1) = v1 at *
      generalize brN us (fee + 2) = v2 at *
      generalize (6 : Int) ^ us.length = p at *
      by_cases q1 : v1 < 0
      · simp (config := { maxSteps := 2000000 }) [F_laws_FnRoundsFee, hl, d, C1, C2, C3, P, n0, w1, w2, w3, w4, w5, q1, lb1, lb2, lb3, lb4, tk1, r1, r2, r3, ad, ad1, ad2, nw, nw1, nw2, c_alive]
      · have g1 : v + p ≤ v1 := by omega
        by_cases q2 : v2 < 0
        · simp (config := { maxSteps := 2000000 }) [F_laws_FnRoundsFee, hl, d, C1, C2, C3, P, n0, w1, w2, w3, w4, w5, q1, q2, g1, lb1, lb2, lb3, lb4, tk1, r1, r2, r3, ad, ad1, ad2, nw, nw1, nw2, c_alive]
        · have g2 : v2 - v1 ≤ v1 - v := by omega
          simp (config := { maxSteps := 2000000 }) [F_laws_FnRoundsFee, hl, d, C1, C2, C3, P, n0, w1, w2, w3, w4, w5, q1, q2, g1, g2, lb1, lb2, lb3, lb4, tk1, r1, r2, r3, ad, ad1, ad2, nw, nw1, nw2, c_alive]
end
end Zz
