/- What the functions answer, as equations: EA. No conditions. -/
import Derived.Test.YtkokclaabaepaaaIrzb
import Derived.Test.YtkokclaabaepaaaE0
import Derived.Test.YtkokclaabaepaaaLgEzb
set_option linter.unusedSectionVars false
set_option linter.unusedVariables false
set_option linter.unusedSimpArgs false
namespace Zz
open Go.Lg Md
set_option linter.unusedSimpArgs false
set_option linter.unusedVariables false
attribute [local simp] tm_mv tm_newnil tm_pick tm_bin tm_eqb tm_eqs tm_un tm_len tm_lens tm_chk tm_fld tm_fldv tm_idxa tm_idx tm_load tm_store tm_slice tm_slices tm_make tm_alloc tm_box tm_build tm_app tm_conv tm_ext tm_call tm_calld tm_mkfn tm_mm tm_idxp tm_eqn tm_callg tm_callm tm_bslice0 tm_bslice1 tm_bslice2 tm_bslice cw_nil cw_cons cd_none cd_some ec_nil ec_cons es_nil es_one es_more nn_nil nn_cons ns_nil ns_cons si_nil si_cons sk_t stod_oad stod_own stod_adr stod_dead ml_nil ml_cons nt_nil nt_cons nc_nil' nc_cons sa_mkfn cv_adr cv_i cv_y cv_b cv_w sa_calld nm_def nh_nil nh_cons nxM_some nxM_none sc_st sd_i sd_y sd_b sd_s sd_w sd_q sc_i sc_y sc_b sc_s sc_w sc_q sa_bslice sa_app nc_own nc_nil sa_call sa_alloc sa_build sa_callm rm_nil rm_one rm_gen bq_mul bq_eql ia_mv ia_newnil ia_pick ia_bin ia_eqb ia_eqs ia_un ia_len ia_lens ia_chk ia_fld ia_fldv ia_idxa ia_idx ia_load ia_store ia_slice ia_slices ia_make ia_alloc ia_box ia_build ia_bslice ia_app ia_b2i ia_i2b ia_i2i ia_same ia_b2s ia_s2b ia_ext ia_mm ia_idxp ia_calld ia_mkfn ia_i2r ia_r2s ia_call pt_nil pt_cons mi_nil mi_cons md_bslice md_mv md_newnil md_pick md_bin md_eqb md_un md_len md_lens md_fld md_fldv md_idxa md_idx md_load md_store md_slice md_slices md_make md_alloc md_box md_build md_app md_conv md_ext md_call md_calld md_callg md_mkfn md_mm md_idxp md_eqn md_eqs md_chk tg_bslice tg_mv tg_newnil tg_pick tg_bin tg_eqb tg_un tg_len tg_lens tg_fld tg_fldv tg_idxa tg_idx tg_load tg_store tg_slice tg_slices tg_make tg_alloc tg_box tg_build tg_app tg_conv tg_ext tg_call tg_calld tg_callg tg_mkfn tg_mm tg_idxp tg_eqn tg_eqs tg_chk rp_eq ro_eq ifP_t ifP_f np_def ng1_nil ng2_nil ng_gate ng_gen tgA_t tgA_0 tgA_1 tgA_2 aC_nil aC_c aC_t nxP_some nxP_none rq_nil rq_gen rq_gate nxR_some nxR_none ru_nil ru_gen ru_gate pl_none pl_some gt_nil gt_t gt_c di_some di_none an_nil an_cons nxG_some nxG_none rg_nil rg_gen rg_gate oldO_some oa_nil oa_i oa_y oa_b oa_s oa_st oa_sl oa_own oa_oad oa_nl al_nil al_cons al_i al_y al_b al_s al_st al_sl nxF_some nxF_none rf_nil rf_gen rf_gate hk_newnil hk_make hk_alloc hk_box hk_build hk_bslice hk_call hk_store hk_app hk_appn em_cel mm_cel ok_cel ov_cel so_cel il_cel oi_cel oj_cel ol_cel nm_cel hk_appc ef_bslice5 ef_app_cel ks_shut shu_own shc_none shc_cel cl_nil cl_cons ai_nil ai_cons il_i il_y il_b il_s il_st il_sl il_own il_adr il_oad il_ref il_fr il_tup il_nil il_np il_und il_dead ol_adr ol_b ol_dead ol_e ol_fn ol_fr ol_i ol_nil ol_np ol_oad ol_own ol_q ol_r ol_ref ol_s ol_sl ol_st ol_tup ol_und ol_w ol_y oj_e oj_i oj_y oj_b oj_s oj_st oj_sl oj_own oj_adr oj_oad oj_ref oj_fr oj_tup oj_nil oj_np oj_und oj_dead oj_w oj_q oj_r oj_fn oi_e oi_i oi_y oi_b oi_s oi_st oi_sl oi_own oi_adr oi_oad oi_ref oi_fr oi_tup oi_nil oi_np oi_und oi_dead as_nil as_cons ao_nil ao_cons av_i av_y av_b av_s av_st av_sl av_own av_adr av_oad av_ref av_fr av_tup av_nil av_np av_und av_dead pro_cons ghK_some ks_promote ks_freeze frz_own ks_rename ren_own ks_cell cel_own dropO adoptP newP wholeP cutP allOldL ex_skip ex_ret ex_exit ks_region ks_seq ks_cut ks_cond ks_block seqK_n seqK_e seqK_r regK_some condK_t condK_f blkK_n blkK_r blkK_e endK_n endK_r rr_false rr_true rd_free mo_nil mo_cons drK_some drK_none nxW_some nxW_none rw_nil rw_gen rw_gate ak_newnil ak_make ak_alloc ak_box ak_build ak_bslice ak_call ak_store ak_app iw_mm iw_eqn iw_idxp ef_callg cgK_some gv_e gv_own gv_i gv_sl gv_st gv_b gv_nil gvK_some gvO_some iw_callg ia_callg ak_callg hk_callg is_mv is_newnil is_pick is_bin is_eqb is_eqs is_un is_len is_lens is_chk is_fld is_fldv is_idxa is_idx is_load is_slice is_slices is_make is_alloc is_box is_build is_bslice is_app is_conv is_ext is_call is_calld is_callg is_mkfn is_mm is_idxp is_eqn is_store rt_nil rt_gen rt_gate nxT_some nxT_none ef_eqn_nil ef_eqn_sl ef_eqn_own ia_eqn ef_mmx ef_mmn ef_idxp nxD_some nxD_none ov_i ov_y ov_b ov_s ov_st ov_sl ov_own ov_oad ov_adr ov_nil ov_np ov_und ov_dead ov_tup oldN_some oldN_nil oldN_none so_none so_tup DV.noM so_i so_y so_b so_s so_st so_sl so_adr so_nil so_np so_und so_dead anyM_nil anyM_t anyM_c so_own so_oad rd_nil rd_gen rd_mv rd_gate iw_mv iw_newnil iw_pick iw_bin iw_eqb iw_eqs iw_un iw_len iw_lens iw_chk iw_fld iw_fldv iw_idxa iw_idx iw_load iw_store iw_slice iw_slices iw_make iw_alloc iw_box iw_build iw_bslice iw_app iw_b2i iw_i2b iw_i2i iw_same iw_b2s iw_s2b iw_ext iw_call nm_i nm_y nm_b nm_s nm_st nm_sl nm_own nm_oad nm_adr nm_nil nm_np nm_und nm_dead nm_tup rl_nil rl_gate rl_mv rl_gen opv_t opv_c nx_some nx_none gate_tt gate_tf gate_ft gate_ff gate_u fr_ap em_nil em_i em_y em_b em_s em_st em_sl em_own em_adr em_oad em_ref em_nl em_np em_und em_dead em_tup0 em_tup_i em_tup_b em_tup_s em_tup_sl em_tup_st em_tup_np em_tup_own em_tup_oad mm_i mm_y mm_b mm_s mm_st mm_sl mm_own mm_oad mm_adr mm_nil mm_np mm_und mm_dead ef_mv ef_newnil ef_pickt ef_pickf ef_bin ef_eqb ef_eqs ef_un ef_lens ef_len_sl ef_len_own ef_len_nil ef_chk_adr ef_chk_oad ef_fld_adr ef_fld_oad ef_fldv idxR_some ef_idxa_sl ef_idxa_own ef_idx ef_load_adr_st ef_load_adr_i ef_load_adr_y ef_load_adr_b ef_load_adr_s ef_load_adr_sl atN_nil atN_zero atN_succ ef_load_oad ef_store ef_slice ef_slices ef_make ef_alloc ef_box ef_build ef_bslice ef_app_own ef_app_nil ef_b2i ef_i2b ef_i2i ef_same ef_ext ret1 ret2_some calL_some ef_call retC_i retC_y retC_b retC_s retC_st retC_sl retC_np retC_fr retC_ref retC_tup rk_nil rk_i rk_y rk_b rk_s rk_st rk_sl rk_own rk_oad rk_nl ok_nil ok_i ok_y ok_b ok_s ok_st ok_sl ok_own ok_oad ok_nl lo_nil lo_i lo_y lo_b lo_s lo_st lo_sl lo_own lo_oad lo_nl pr_nil pr_i pr_y pr_b pr_s pr_st pr_sl pr_own pr_nl pr_oad nr_i nr_y nr_b nr_s nr_st nr_sl nr_fr nr_np nr_tup ng_i ng_b ng_s ng_fr ng_nil resV effP_eff binD bi_add bi_sub bi_mul bi_quo bi_rem bi_eql bi_neq bi_lss bi_leq bi_gtr bi_geq bi_shl bi_shr bi_and bi_or bi_xor bi_andNot binY binS unD look put putD LS.get LS.drop killE sweep lookO putO dropO enter leave giveBackL giveBack outs lendArgs lendArg newOuts takeIn takeInL lendL DV.lend adoptL DV.adopt elems apartKs part DV.cells unpart settle settleL over mkId szId fillP fillE tk_e2 tk_i tk_y lt_e2 lt_i lt_y lend_rep al_e2 al_is al_ys al_rep al_app lend_app adopt_app new_app lend_e2 lend_i lend_y adopt_e2 adopt_i adopt_y new_e2 new_i allNewL DV.allNew bounds sliceD sliceS em_w em_q em_r em_fn em_tup_w em_tup_q em_tup_r mm_w mm_q mm_r mm_fn ef_load_adr_w ef_load_adr_q ef_load_adr_r retC_w retC_q retC_r rk_w rk_q rk_r rk_fn ok_w ok_q ok_r ok_fn lo_w lo_q lo_r lo_fn pr_w pr_q pr_r pr_fn nr_w nr_q nr_r ng_w ng_q ng_r oa_w oa_q oa_r oa_fn al_w al_q al_r al_fn ov_w ov_q ov_r ov_fn so_w so_q so_r so_fn il_w il_q il_r il_fn oi_w oi_q oi_r oi_fn av_w av_q av_r av_fn nm_w nm_q nm_r nm_fn ef_i2r ef_r2s ef_b2s bs_some ys_nil ys_cons ys_map ef_mkfn ef_mkbd ef_idxp_adr ef_idxp_q ef_calld_nil ef_calld_adr ef_calld_bd DV.capB capsOk DV.cell List.all_cons List.all_nil rk_own_t lo_own_t lk_f lk_t pr_own_t mutB ak_calld hk_calld iw_calld iw_mkfn iw_i2r iw_r2s bw_and bw_or bw_xor bw_andNot bw_eql bw_neq sw_shl sw_shr sq_shl gEnv_nil rk_adr ok_adr lo_adr pr_adr oa_adr capL capArg DV.cap ak_mkfn hk_mkfn hk_mkbd ef_callm gf_ap ga_nil ga_cons tgv_own gk_e gk_giv gk_i gk_y gk_b gk_s gk_w gk_q gk_r gk_fn gk_st gk_sl gk_own gk_oad gk_adr gk_nl gk_np rk_giv ok_giv lo_giv pr_giv oa_giv iw_callm hk_callm ak_callm is_callm ia_callm tg_callm md_callm ef_i2q ef_q2i ef_q2q iw_i2q iw_q2i iw_q2q ia_i2q ia_q2i ia_q2q bq_and bq_add bq_shr sq_shr tgv_nil gk_ref rk_ref ok_ref lo_ref pr_ref oa_ref retC_fn nr_fn ef_load_adr_fn ks_close cls_oad
attribute [local congr] nxM_congr ifP_congr nxP_congr nxR_congr nxT_congr nxG_congr nxF_congr ghK_congr gate_congr nx_congr nxD_congr runL_congr runD_congr eff_congr calL_congr ret2_congr seqK_congr regK_congr condK_congr endK_congr drK_congr nxW_congr
attribute [local simp ↓] nxM_some rm_nil rm_one rm_gen nxT_some rt_nil rt_gen rt_gate nxP_some rq_nil rq_gen rq_gate nxR_some ru_nil ru_gen ru_gate nxG_some rg_nil rg_gen rg_gate nxF_some rf_nil rf_gen rf_gate ks_promote ks_freeze frz_own ks_rename ks_cell ghK_some gate_tt gate_tf gate_ft gate_ff gate_u nx_some nxD_some rl_nil rl_mv rl_gen rl_gate rd_nil rd_mv rd_gen rd_gate rd_free rr_false rr_true drK_some drK_none nxW_some rw_nil rw_gen rw_gate ks_region ks_seq ks_cut ks_cond ks_block seqK_n seqK_e seqK_r regK_some condK_t condK_f blkK_n blkK_r endK_n endK_r calL_some ret2_some opv_t opv_c
section
theorem c_impl_isWithin (a b c : Int) : call lf n_impl_isWithin [.i a, .i b, .i c] = some (.b (decide (b ≤ a ∧ a ≤ c)), []) := by
  rw [call_k lf n_impl_isWithin _ (F := F_impl_isWithin) rfl rfl]
  by_cases h : b ≤ a <;> simp [F_impl_isWithin, h]
theorem c_spec_l1In (a b c : Int) : call lf n_spec_l1In [.i a, .i b, .i c] = some (.b (decide (b ≤ a ∧ a ≤ c)), []) := by
  rw [call_k lf n_spec_l1In _ (F := F_spec_l1In) rfl rfl]
  by_cases h : b ≤ a <;> simp [F_spec_l1In, h]
theorem c_impl_manyOk (a : Int) : call lf n_impl_manyOk [.i a] = some (.b (nOk a), []) := by
  rw [call_k lf n_impl_manyOk _ (F := F_impl_manyOk) rfl rfl]
  simp [F_impl_manyOk, c_impl_isWithin, nOk]

theorem l_impl_TestsOk (n : Int) (hb : n < 1099511627776) (es : List DV) (rest : List T) : ∀ k : Int, 0 ≤ k → k + (rest.map e2).length = n → es.drop k.toNat = rest.map e2 →
    ex lf F_impl_TestsOk_W0 ⟨[(9, .sl 0 es), (10, .i n), (11, .i k)], []⟩ =
    if rest.all tOk then some (.exit 0, ⟨[(9, .sl 0 es), (10, .i n), (11, .i n)], []⟩) else some (.ret, ⟨[(2, .b false)], []⟩) := by
  induction rest with
  | nil =>
    intro k h0 hn hd
    rw [w_impl_TestsOk_0]
    have hk : k = n := by simpa using hn
    simp [F_impl_TestsOk_L0, hk]
  | cons t rest ih =>
    intro k h0 hn hd
    obtain ⟨q1, q2, q3, q4, q5, q6⟩ := stp h0 hn hb hd
    have ih := ih (k + 1) q4 q5 q6
    simp only [e2] at q2
    rw [w_impl_TestsOk_0]
    have xt := tOk_def t
    cases x1 : decide (1 ≤ t.1 ∧ t.1 ≤ 9) <;> cases x2 : decide (1 ≤ t.2 ∧ t.2 ≤ 5) <;> rw [x1, x2] at xt <;> simp [F_impl_TestsOk_L0, q1, q2, q3, c_impl_isWithin, ih, xt, x1, x2, -List.all_eq_true]
theorem c_impl_TestsOk (ts : List T) (hb : (ts.length : Int) < 1099511627776) : call lf n_impl_TestsOk [.sl 0 (ts.map e2)] = some (.b (tsOk ts), []) := by
  rw [call_k lf n_impl_TestsOk _ (F := F_impl_TestsOk) rfl rfl]
  have L := l_impl_TestsOk ts.length hb (ts.map e2) ts 0 (by omega) (by simp) (by simp)
  cases h1 : nOk ts.length <;> cases h2 : ts.all tOk <;> simp [F_impl_TestsOk, c_impl_manyOk, L, h1, h2, tsOk]

theorem l_spec_TestsOk (n : Int) (hb : n < 1099511627776) (es : List DV) (hE : (es.length : Int) = n) (rest : List T) : ∀ k : Int, 0 ≤ k → k + (rest.map e2).length = n → es.drop k.toNat = rest.map e2 →
    ex lf F_spec_TestsOk_W0 ⟨[(0, .sl 0 es), (3, .i k)], []⟩ =
    if rest.all tOk then some (.exit 0, ⟨[(0, .sl 0 es), (3, .i n)], []⟩) else some (.ret, ⟨[(2, .b false)], []⟩) := by
  induction rest with
  | nil =>
    intro k h0 hn hd
    rw [w_spec_TestsOk_0]
    have hk : k = n := by simpa using hn
    simp [F_spec_TestsOk_L0, hk, hE]
  | cons t rest ih =>
    intro k h0 hn hd
    obtain ⟨q1, q2, q3, q4, q5, q6⟩ := stp h0 hn hb hd
    have ih := ih (k + 1) q4 q5 q6
    simp only [e2] at q2
    rw [w_spec_TestsOk_0]
    have xt := tOk_def t
    cases x1 : decide (1 ≤ t.1 ∧ t.1 ≤ 9) <;> cases x2 : decide (1 ≤ t.2 ∧ t.2 ≤ 5) <;> rw [x1, x2] at xt <;> simp [F_spec_TestsOk_L0, q1, q2, q3, hE, c_spec_l1In, ih, xt, x1, x2, -List.all_eq_true]
theorem c_spec_TestsOk (ts : List T) (hb : (ts.length : Int) < 1099511627776) : call lf n_spec_TestsOk [.sl 0 (ts.map e2)] = some (.b (tsOk ts), []) := by
  rw [call_k lf n_spec_TestsOk _ (F := F_spec_TestsOk) rfl rfl]
  have L := l_spec_TestsOk ts.length hb (ts.map e2) (by simp) ts 0 (by omega) (by simp) (by simp)
  cases h2 : ts.all tOk <;> simp [F_spec_TestsOk, c_spec_l1In, L, h2, tsOk, nOk]

theorem c_impl_statesOf (a : Int) (h0 : 0 ≤ a) (h5 : a ≤ 40) : call lf n_impl_statesOf [.i a] = some (.i (2 ^ a.toNat), []) := by
  rw [call_k lf n_impl_statesOf _ (F := F_impl_statesOf) rfl rfl]
  have h1 : ¬ a < 0 := by omega
  simp [F_impl_statesOf, h1, shl1 h0 h5]
theorem nOk_iff {a : Int} : nOk a = true ↔ 1 ≤ a ∧ a ≤ 5 := by simp [nOk]
theorem tsOk_iff {ts : List T} : tsOk ts = true ↔ (1 ≤ (ts.length : Int) ∧ (ts.length : Int) ≤ 5) ∧ ts.all tOk = true := by
  rw [tsOk, Bool.and_eq_true, nOk_iff]
end
section
theorem p2 {ts : List T} (h : tsOk ts = true) : 1 ≤ (2 : Nat) ^ ts.length ∧ (2 : Nat) ^ ts.length ≤ 32 ∧ ((2 ^ ts.length : Nat) : Int) = 2 ^ ts.length := by
  have h' := tsOk_iff.1 h
  have a : (2 : Nat) ^ ts.length ≤ 2 ^ 5 := Nat.pow_le_pow_right (by omega) (by omega)
  exact ⟨Nat.pow_pos (by omega), by omega, by simp⟩
def ot (ts : List T) (i : Nat) : List DV := ((ts.take i).map other).map e2
def cn (ts : List T) (i : Nat) : List DV := ot ts i ++ List.replicate (ts.length - i) (.st [.i 0, .i 0])
end
section
/-- a mark read with p parts before it -/
def mkS (m p : Int) (t : T) : Option Int :=
  if t.1 = 0 then (if 0 ≤ t.2 ∧ t.2 < m then some (p + 1) else none)
  else if t.1 = 1 then (if t.2 = 0 ∧ 1 ≤ p then some p else none)
  else if t.1 = 2 ∨ t.1 = 3 then (if t.2 = 0 ∧ 2 ≤ p then some (p - 1) else none)
  else none
def runM (m : Int) : Int → List T → Option Int
  | p, [] => some p
  | p, t :: r => match mkS m p t with
    | some q => runM m q r
    | none => none
end
section
/-- how many parts a mark takes -/
def taken (k : Int) : Nat := if k = 0 then 0 else if k = 1 then 1 else 2
def stepG {P : Type} (mk : T → List P → P) (st : List P) (t : T) : List P := st.take (st.length - taken t.1) ++ [mk t (st.drop (st.length - taken t.1))]
def yesW (a : Nat) : BitVec 32 := match a with
  | 0 => 2863311530#32
  | 1 => 3435973836#32
  | 2 => 4042322160#32
  | 3 => 4278255360#32
  | _ => 4294901760#32
def mkW (t : T) (ps : List (BitVec 32)) : BitVec 32 :=
  if t.1 = 0 then yesW t.2.toNat else if t.1 = 1 then ~~~(ps.getD 0 0) else if t.1 = 2 then ps.getD 0 0 &&& ps.getD 1 0 else ps.getD 0 0 ||| ps.getD 1 0
def tsW (ts : List T) : BitVec 32 := (ts.foldl (stepG mkW) []).headD 0
/-- the value of a term in a state -/
def tv (ts : List T) (s : Nat) : Bool := (tsW ts).getLsbD s
end
section
theorem xor_bound {a b : Int} (h1 : 0 ≤ a) (h2 : a < 4611686018427387904) (h3 : 0 ≤ b) (h4 : b < 4611686018427387904) : 0 ≤ xorI a b ∧ xorI a b < 4611686018427387904 := by
  have e : (BitVec.ofInt 64 a ^^^ BitVec.ofInt 64 b).toNat = a.toNat ^^^ b.toNat := by
    simp only [BitVec.toNat_xor, BitVec.toNat_ofInt]
    congr 1 <;> omega
  have k : a.toNat ^^^ b.toNat < 2 ^ 62 := Nat.xor_lt_two_pow (by omega) (by omega)
  unfold xorI
  rw [e, wr_id (by omega) (by omega)]
  omega
def hs (bs : List Nat) (p : Int) : Int := (bs.getD (p.tmod bs.length).toNat 0 : Nat) * 131 + (bs.getD ((p * 7 + 3).tmod bs.length).toNat 0 : Nat) * 1117 + p * 29 + p.tdiv bs.length * 53
def pk (bs : List Nat) (p n : Int) : Int := if bs.length = 0 then 0 else if p < bs.length then ((bs.getD p.toNat 0 : Nat) : Int).tmod n else (xorI (hs bs p) ((hs bs p).tdiv 64)).tmod n
theorem byte_lt {bs : List Nat} (hb : ∀ y ∈ bs, y < 256) (i : Nat) : bs.getD i 0 < 256 := by
  by_cases h : i < bs.length
  · have : bs.getD i 0 = bs[i] := by simp [List.getD, h]
    rw [this]
    exact hb _ (List.getElem_mem h)
  · have : bs.getD i 0 = 0 := by simp [List.getD, List.getElem?_eq_none (by omega : bs.length ≤ i)]
    omega
theorem tdiv_bound {p l : Int} (h0 : 0 ≤ p) (hl : 1 ≤ l) : 0 ≤ p.tdiv l ∧ p.tdiv l ≤ p := by
  rw [Int.tdiv_eq_ediv_of_nonneg h0]
  exact ⟨Int.ediv_nonneg h0 (by omega), Int.ediv_le_self _ h0⟩
theorem tmod_bound {p l : Int} (h0 : 0 ≤ p) (hl : 1 ≤ l) : 0 ≤ p.tmod l ∧ p.tmod l < l := by
  rw [Int.tmod_eq_emod_of_nonneg h0]
  exact ⟨Int.emod_nonneg _ (by omega), Int.emod_lt_of_pos _ (by omega)⟩
theorem hs_bound {bs : List Nat} (hb : ∀ y ∈ bs, y < 256) {p : Int} (h0 : 0 ≤ p) (h1 : p ≤ 1000000) (hl : 1 ≤ bs.length) : 0 ≤ hs bs p ∧ hs bs p < 1000000000 := by
  have a := byte_lt hb (p.tmod bs.length).toNat
  have b := byte_lt hb ((p * 7 + 3).tmod bs.length).toNat
  have c := tdiv_bound (p := p) (l := bs.length) h0 (by omega)
  unfold hs
  omega
theorem pk_bound {bs : List Nat} (hb : ∀ y ∈ bs, y < 256) {p n : Int} (h0 : 0 ≤ p) (h1 : p ≤ 1000000) (hn : 1 ≤ n) : 0 ≤ pk bs p n ∧ pk bs p n < n := by
  unfold pk
  split
  · omega
  · split
    · exact tmod_bound (by omega) hn
    · have a := hs_bound hb h0 h1 (by omega)
      have b := tdiv_bound (p := hs bs p) (l := 64) a.1 (by omega)
      have c := xor_bound a.1 (by omega) b.1 (by omega)
      exact tmod_bound c.1 hn
theorem atI_y {bs : List Nat} {i : Int} (h0 : 0 ≤ i) (h1 : i < bs.length) : atI (bs.map .y) i = some (.y (bs.getD i.toNat 0)) := by
  have : i.toNat < bs.length := by omega
  simp [atI, h0, List.getD, this]

theorem c_pick {bs : List Nat} (hb : ∀ y ∈ bs, y < 256) (hl : bs.length ≤ 2000) {p n : Int} (h0 : 0 ≤ p) (h1 : p < 1000000) (hn : 1 ≤ n) :
    call lf n_spec_l20Rd_pick [.ref (.st [.sl 0 (bs.map .y), .i p]), .i n] = some (.i (pk bs p n), [.st [.sl 0 (bs.map .y), .i (p + 1)]]) := by
  rw [call_k lf n_spec_l20Rd_pick _ (F := F_spec_l20Rd_pick) rfl rfl]
  have w1 : wr (p + 1) = p + 1 := wr_id (by omega) (by omega)
  have w2 : wr p = p := wr_id (by omega) (by omega)
  have n1 : ¬ n < 1 := by omega
  have n2 : ¬ n = 0 := by omega
  by_cases e : bs.length = 0
  · have e1 : ((bs.length : Int) == 0) = true := by rw [e]; rfl
    simp [F_spec_l20Rd_pick, w1, n1, e1, pk, e]
  · have e1 : ((bs.length : Int) == 0) = false := beq_eq_false_iff_ne.2 (by omega)
    by_cases f : p < bs.length
    · have a := atI_y (bs := bs) h0 f
      simp [F_spec_l20Rd_pick, w1, w2, n1, n2, e1, pk, e, f, a]
    · have lpos : (1 : Int) ≤ bs.length := by omega
      have l0 : ¬ bs = [] := fun h => e (by rw [h]; rfl)
      have t1 := tmod_bound h0 lpos
      have t2 := tmod_bound (p := p * 7 + 3) (by omega) lpos
      have a1 := atI_y t1.1 t1.2
      have a2 := atI_y t2.1 t2.2
      have b1 := byte_lt hb (p.tmod bs.length).toNat
      have b2 := byte_lt hb ((p * 7 + 3).tmod bs.length).toNat
      have d := tdiv_bound h0 lpos
      have H := hs_bound hb h0 (by omega) (by omega : 1 ≤ bs.length)
      have hd : hs bs p = (bs.getD (p.tmod bs.length).toNat 0 : Nat) * 131 + (bs.getD ((p * 7 + 3).tmod bs.length).toNat 0 : Nat) * 1117 + p * 29 + p.tdiv bs.length * 53 := rfl
      have hp : pk bs p n = (xorI (hs bs p) ((hs bs p).tdiv 64)).tmod n := by unfold pk; rw [if_neg e, if_neg f]
      generalize bs.getD (p.tmod bs.length).toNat 0 = u at *
      generalize bs.getD ((p * 7 + 3).tmod bs.length).toNat 0 = v at *
      have v1 : wr (p * 7) = p * 7 := wr_id (by omega) (by omega)
      have v2 : wr (p * 7 + 3) = p * 7 + 3 := wr_id (by omega) (by omega)
      have v3 : wr ((u : Int) * 131) = u * 131 := wr_id (by omega) (by omega)
      have v4 : wr ((v : Int) * 1117) = v * 1117 := wr_id (by omega) (by omega)
      have v5 : wr ((u : Int) * 131 + v * 1117) = u * 131 + v * 1117 := wr_id (by omega) (by omega)
      have v6 : wr (p * 29) = p * 29 := wr_id (by omega) (by omega)
      have v7 : wr ((u : Int) * 131 + v * 1117 + p * 29) = u * 131 + v * 1117 + p * 29 := wr_id (by omega) (by omega)
      have v8 : wr (p.tdiv bs.length) = p.tdiv bs.length := wr_id (by omega) (by omega)
      have v9 : wr (p.tdiv bs.length * 53) = p.tdiv bs.length * 53 := wr_id (by omega) (by omega)
      have va : wr ((u : Int) * 131 + v * 1117 + p * 29 + p.tdiv bs.length * 53) = hs bs p := by rw [hd]; exact wr_id (by omega) (by omega)
      have b := tdiv_bound (p := hs bs p) (l := 64) H.1 (by omega)
      have vb : wr ((hs bs p).tdiv 64) = (hs bs p).tdiv 64 := wr_id (by omega) (by omega)
      simp [F_spec_l20Rd_pick, w1, w2, n1, n2, e1, f, l0, a1, a2, v1, v2, v3, v4, v5, v6, v7, v8, v9, va, vb, hp]
theorem c_odd {bs : List Nat} (hb : ∀ y ∈ bs, y < 256) (hl : bs.length ≤ 2000) {p n : Int} (h0 : 0 ≤ p) (h1 : p < 1000000) (hn : 1 ≤ n) (hn2 : n ≤ 1000000) :
    call lf n_spec_l20Rd_odd [.ref (.st [.sl 0 (bs.map .y), .i p]), .i n] = some (.b (pk bs p n == n - 1), [.st [.sl 0 (bs.map .y), .i (p + 1)]]) := by
  rw [call_k lf n_spec_l20Rd_odd _ (F := F_spec_l20Rd_odd) rfl rfl]
  have n1 : 0 < n := by omega
  have w : wr (n - 1) = n - 1 := wr_id (by omega) (by omega)
  simp [F_spec_l20Rd_odd, n1, w, c_pick hb hl h0 h1 hn]
theorem c_open {bs : List Nat} (hl : bs.length ≤ 1048576) : call lf n_spec_l20Open [.sl 0 (bs.map .y)] = some (.ref (.st [.sl 0 ((bs.take 2000).map .y), .i 0]), []) := by
  rw [call_k lf n_spec_l20Open _ (F := F_spec_l20Open) rfl rfl]
  by_cases h : 2000 < (bs.length : Int)
  · have h2 : (2000 : Int) ≤ bs.length := by omega
    have h3 : ∀ x ∈ bs, (DV.y x).cells.length = 1 := fun _ _ => rfl
    simp [F_spec_l20Open, h, h2, List.map_take]
  · have h2 : bs.take 2000 = bs := List.take_of_length_le (by omega)
    simp [F_spec_l20Open, h, h2]

theorem l_l20Tests {bs : List Nat} (hb : ∀ y ∈ bs, y < 256) (hl : bs.length ≤ 2000) (nn : Int) (j : Nat) : ∀ (p : Int) (ts : List T), 0 ≤ p → p + 2 * j < 900000 → ts.length + j ≤ 100 →
    ∃ us : List T, us.length = ts.length + j ∧
    ex lf F_spec_l20Tests_W0 ⟨[(0, .oad 23 1 0 0), (1, .i nn), (5, .own 3600 ts.length 0 ts.length), (6, .i j)], [(23, [.st [.sl 0 (bs.map .y), .i p]]), (3600, ts.map e2)]⟩ =
      some (.exit 0, ⟨[(0, .oad 23 1 0 0), (1, .i nn), (5, .own 3600 us.length 0 us.length), (6, .i 0)], [(23, [.st [.sl 0 (bs.map .y), .i (p + 2 * j)]]), (3600, us.map e2)]⟩) := by
  induction j with
  | zero =>
    intro p ts h0 h1 h2
    refine ⟨ts, by omega, ?_⟩
    rw [w_spec_l20Tests_0]
    simp [F_spec_l20Tests_L0]
  | succ j ih =>
    intro p ts h0 h1 h2
    have a1 := pk_bound hb h0 (by omega : p ≤ 1000000) (by omega : (1 : Int) ≤ 9)
    have a2 := pk_bound hb (by omega : 0 ≤ p + 1) (by omega : p + 1 ≤ 1000000) (by omega : (1 : Int) ≤ 5)
    have k1 := c_pick hb hl h0 (by omega : p < 1000000) (by omega : (1 : Int) ≤ 9)
    have k2 := c_pick hb hl (by omega : 0 ≤ p + 1) (by omega : p + 1 < 1000000) (by omega : (1 : Int) ≤ 5)
    have w1 : wr (1 + pk bs p 9) = 1 + pk bs p 9 := wr_id (by omega) (by omega)
    have w2 : wr (1 + pk bs (p + 1) 5) = 1 + pk bs (p + 1) 5 := wr_id (by omega) (by omega)
    have w3 : wr (j : Int) = j := wr_id (by omega) (by omega)
    obtain ⟨us, u1, u2⟩ := ih (p + 1 + 1) (ts ++ [(1 + pk bs p 9, 1 + pk bs (p + 1) 5)]) (by omega) (by omega) (by simp; omega)
    refine ⟨us, by rw [u1]; simp; omega, ?_⟩
    rw [w_spec_l20Tests_0]
    have c1 : (0 : Int) < (j : Int) + 1 := by omega
    have c2 : ts.length + 1 ≤ bound := by unfold bound; omega
    simp [e2, Int.natCast_add] at u2
    rw [show p + 2 * ((j + 1 : Nat) : Int) = p + 1 + 1 + 2 * j by omega]
    simp [F_spec_l20Tests_L0, c1, c2, k1, k2, w1, w2, w3, e2, u2]
theorem c_l20Tests {bs : List Nat} (hb : ∀ y ∈ bs, y < 256) (hl : bs.length ≤ 2000) {p n : Int} (h0 : 0 ≤ p) (h1 : p < 800000) (hn : 1 ≤ n) (hn2 : n ≤ 1000000) :
    ∃ (us : List T) (p' : Int), us.length ≤ 5 ∧ p ≤ p' ∧ p' ≤ p + 20 ∧ call lf n_spec_l20Tests [.ref (.st [.sl 0 (bs.map .y), .i p]), .i n] = some (.fr 2 (us.map e2), [.st [.sl 0 (bs.map .y), .i p']]) := by
  have a1 := pk_bound hb h0 (by omega : p ≤ 1000000) (by omega : (1 : Int) ≤ 5)
  have k1 := c_pick hb hl h0 (by omega : p < 1000000) (by omega : (1 : Int) ≤ 5)
  obtain ⟨j, hj⟩ : ∃ j : Nat, 1 + pk bs p 5 = j := ⟨(1 + pk bs p 5).toNat, by omega⟩
  have w1 : wr (j : Int) = j := wr_id (by omega) (by omega)
  obtain ⟨us, u1, u2⟩ := l_l20Tests hb hl n j (p + 1) [] (by omega) (by omega) (by simp; omega)
  simp at u1 u2
  have q0 : 0 ≤ p + 1 + 2 * (j : Int) := by omega
  have k2 := c_odd hb hl q0 (by omega) hn hn2
  generalize hq : p + 1 + 2 * (j : Int) = q at *
  cases ho : (pk bs q n == n - 1) with
  | false =>
    rw [ho] at k2
    refine ⟨us, q + 1, by omega, by omega, by omega, ?_⟩
    rw [call_k lf n_spec_l20Tests _ (F := F_spec_l20Tests) rfl rfl]
    simp [F_spec_l20Tests, k1, hj, w1, u2, k2]
  | true =>
    rw [ho] at k2
    have k3 := c_pick hb hl (by omega : 0 ≤ q + 1) (by omega : q + 1 < 1000000) (by omega : (1 : Int) ≤ 3)
    have a3 := pk_bound hb (by omega : 0 ≤ q + 1) (by omega : q + 1 ≤ 1000000) (by omega : (1 : Int) ≤ 3)
    have k4 := c_pick hb hl (by omega : 0 ≤ q + 1 + 1) (by omega : q + 1 + 1 < 1000000) (by omega : (1 : Int) ≤ 2)
    have a4 := pk_bound hb (by omega : 0 ≤ q + 1 + 1) (by omega : q + 1 + 1 ≤ 1000000) (by omega : (1 : Int) ≤ 2)
    match us, u1 with
    | [], u1 => simp at u1; omega
    | t :: r, u1 =>
      simp [e2, Int.natCast_add] at u2
      generalize pk bs (q + 1) 3 = x3 at *
      generalize pk bs (q + 1 + 1) 2 = x4 at *
      have c3 : x3 = 0 ∨ x3 = 1 ∨ x3 = 2 := by omega
      have c4 : x4 = 0 ∨ x4 = 1 := by omega
      have e0 : ∀ (a b : Int), DV.st [.i a, .i b] = e2 (a, b) := fun _ _ => rfl
      rcases c3 with rfl | rfl | rfl
      · refine ⟨[], q + 1 + 1, by simp, by omega, by omega, ?_⟩
        rw [call_k lf n_spec_l20Tests _ (F := F_spec_l20Tests) rfl rfl]
        simp [F_spec_l20Tests, k1, hj, w1, u2, k2, k3]
      · rcases c4 with rfl | rfl
        · refine ⟨(0, t.2) :: r, q + 1 + 1 + 1, by simp at u1 ⊢; omega, by omega, by omega, ?_⟩
          rw [call_k lf n_spec_l20Tests _ (F := F_spec_l20Tests) rfl rfl]
          simp [F_spec_l20Tests, k1, hj, w1, u2, k2, k3, k4, e2]
        · refine ⟨(10, t.2) :: r, q + 1 + 1 + 1, by simp at u1 ⊢; omega, by omega, by omega, ?_⟩
          rw [call_k lf n_spec_l20Tests _ (F := F_spec_l20Tests) rfl rfl]
          simp [F_spec_l20Tests, k1, hj, w1, u2, k2, k3, k4, e2]
      · rcases c4 with rfl | rfl
        · refine ⟨(t.1, 0) :: r, q + 1 + 1 + 1, by simp at u1 ⊢; omega, by omega, by omega, ?_⟩
          rw [call_k lf n_spec_l20Tests _ (F := F_spec_l20Tests) rfl rfl]
          simp [F_spec_l20Tests, k1, hj, w1, u2, k2, k3, k4, e2]
        · refine ⟨(t.1, 6) :: r, q + 1 + 1 + 1, by simp at u1 ⊢; omega, by omega, by omega, ?_⟩
          rw [call_k lf n_spec_l20Tests _ (F := F_spec_l20Tests) rfl rfl]
          simp [F_spec_l20Tests, k1, hj, w1, u2, k2, k3, k4, e2]

theorem take_b {bs : List Nat} (hb : ∀ y ∈ bs, y < 256) : (∀ y ∈ bs.take 2000, y < 256) ∧ (bs.take 2000).length ≤ 2000 :=
  ⟨fun y h => hb y (List.mem_of_mem_take h), by simp; omega⟩
end
section
theorem cells_st (cs : List DV) : (DV.st cs).cells = cs := rfl
theorem cells_sl (p : Nat) (es : List DV) : (DV.sl p es).cells = [DV.sl p es] := rfl
theorem cells_i (n : Int) : (DV.i n).cells = [DV.i n] := rfl
theorem cells_y (n : Nat) : (DV.y n).cells = [DV.y n] := rfl
theorem cells_b (n : Bool) : (DV.b n).cells = [DV.b n] := rfl
theorem cells_s (n : List UInt8) : (DV.s n).cells = [DV.s n] := rfl
attribute [-simp] DV.cells
attribute [local simp] cells_st cells_sl cells_i cells_y cells_b cells_s
def row (t : List T) : DV := .sl 1 (t.map e2)
theorem flat_set (m : T) : ∀ {ps : List (List T)} {A : Nat} {t : List T}, ps[A]? = some t → (ps.set A (t ++ [m])).flatten.length = ps.flatten.length + 1
  | [], _, _, h => by simp at h
  | x :: ps, 0, t, h => by simp at h; subst h; simp; omega
  | x :: ps, A + 1, t, h => by
    simp only [List.getElem?_cons_succ] at h
    have := flat_set m h
    simp at this ⊢
    omega
theorem flat_len : ∀ {ps : List (List T)} {A : Nat} {t : List T}, ps[A]? = some t → t.length ≤ ps.flatten.length
  | [], _, _, h => by simp at h
  | x :: ps, 0, t, h => by simp at h; subst h; simp
  | x :: ps, A + 1, t, h => by
    simp only [List.getElem?_cons_succ] at h
    have := flat_len h
    simp only [List.flatten_cons, List.length_append]; omega
end
section
attribute [-simp] DV.cells
attribute [local simp] cells_st cells_sl cells_i cells_y cells_b cells_s
theorem cells_w (x : BitVec 32) : (DV.w x).cells = [DV.w x] := rfl
attribute [local simp] cells_w
end
section
attribute [-simp] DV.cells
attribute [local simp] cells_st cells_sl cells_i cells_y cells_b cells_s cells_w
attribute [-simp] sliceD
def bI (b : Bool) : Int := if b then 1 else 0
end
section
attribute [-simp] DV.cells sliceD
attribute [local simp] cells_st cells_sl cells_i cells_y cells_b cells_s cells_w
theorem shl_bI (b : Bool) {s : Nat} (hs : s ≤ 40) : shlI (bI b) s = ((if b then 2 ^ s else 0 : Nat) : Int) := by
  cases b with
  | true =>
    have := shl1 (k := (s : Int)) (by omega) (by omega)
    simp [bI, this]
  | false =>
    unfold shlI bI
    simp
    exact wr_id (by omega) (by omega)
theorem bit_bI {a s : Nat} (hs : s ≤ 60) : (shrI (a : Int) (s : Int)).tmod 2 = bI (a.testBit s) := by
  rw [shr1 (by omega) (by omega), tmod2 (Int.ediv_nonneg (by omega) (Int.le_of_lt (Int.pow_pos (by omega))))]
  unfold bI
  rw [Nat.testBit_eq_decide_div_mod_eq, Int.toNat_natCast]
  have : (a : Int) / 2 ^ s % 2 = ((a / 2 ^ s % 2 : Nat) : Int) := by simp
  rw [this]
  by_cases h : a / 2 ^ s % 2 = 1
  · simp [h]
  · have : a / 2 ^ s % 2 = 0 := by omega
    simp [this]
theorem pow5 {m : Int} (h1 : 1 ≤ m) (h5 : m ≤ 5) : 2 ≤ 2 ^ m.toNat ∧ 2 ^ m.toNat ≤ 32 ∧ ((2 ^ m.toNat : Nat) : Int) = 2 ^ m.toNat := by
  have c : m = 1 ∨ m = 2 ∨ m = 3 ∨ m = 4 ∨ m = 5 := by omega
  rcases c with rfl | rfl | rfl | rfl | rfl <;> decide
end
section
attribute [-simp] DV.cells sliceD
attribute [local simp] cells_st cells_sl cells_i cells_y cells_b cells_s cells_w
/-- 1 if f holds wherever g does below N, 0 if nowhere, else -1 -/
def fo (f g : Nat → Bool) (N : Nat) : Int := if allTo (fun s => !g s || f s) N then 1 else if allTo (fun s => !g s || !f s) N then 0 else -1
/-- What the states say that agree. -/
def agB (ks : List Int) (s : Nat) : Bool := ag ks (s : Int)
end
section
attribute [-simp] DV.cells sliceD
attribute [local simp] cells_st cells_sl cells_i cells_y cells_b cells_s cells_w
/-- what is known of a term by what is known of its tests -/
def foT (m : Int) (ts : List T) (ks : List Int) : Int := fo (tv ts) (agB ks) (2 ^ m.toNat)
def told (m : Nat) (st so : Nat) : List Int := (List.range m).map fun k => if so.testBit k then bI (st.testBit k) else -1
theorem bI_eq1 (b : Bool) : (bI b == 1) = b := by cases b <;> rfl
end
section
attribute [-simp] DV.cells sliceD
attribute [local simp] cells_st cells_sl cells_i cells_y cells_b cells_s cells_w
def agW : List Int → Nat → BitVec 32 → BitVec 32
  | [], _, w => w
  | k :: r, i, w => agW r (i + 1) (if k = 0 then w &&& ~~~(yesW i) else if k = 1 then w &&& yesW i else w)
end
section
attribute [-simp] DV.cells sliceD
attribute [local simp] cells_st cells_sl cells_i cells_y cells_b cells_s cells_w
theorem div_bI (a s : Nat) : (a : Int) / 2 ^ s % 2 = bI (a.testBit s) := by
  unfold bI
  rw [Nat.testBit_eq_decide_div_mod_eq]
  have : (a : Int) / 2 ^ s % 2 = ((a / 2 ^ s % 2 : Nat) : Int) := by simp
  rw [this]
  by_cases h : a / 2 ^ s % 2 = 1
  · simp [h]
  · have : a / 2 ^ s % 2 = 0 := by omega
    simp [this]
theorem c_impl_hasTest (so k : Nat) (hk : k ≤ 40) : call lf n_impl_hasTest [.i so, .i k] = some (.b (so.testBit k), []) := by
  rw [call_k lf n_impl_hasTest _ (F := F_impl_hasTest) rfl rfl]
  have ni : ¬ (k : Int) < 0 := by omega
  have e : andI (shrI (so : Int) (k : Int)) 1 = bI (so.testBit k) := by
    rw [bit_and, shr1 (by omega) (by omega), Int.toNat_natCast, div_bI]
  simp [F_impl_hasTest, ni, e, bI_eq1]
end
section
attribute [-simp] DV.cells
attribute [local simp] cells_st cells_sl cells_i cells_y cells_b cells_s
def dT (t : T) : T := if t.1 = 2 then (3, 0) else if t.1 = 3 then (2, 0) else t
end
section
theorem c_alive : call lf n_laws_alive [] = some (.b true, []) := by
  rw [call_k lf n_laws_alive _ (F := F_laws_alive) rfl rfl]
  have a := c_impl_TestsOk [(1, 1)] (by simp)
  have b := c_impl_TestsOk [(0, 0)] (by simp)
  have a1 : tsOk [(1, 1)] = true := by decide
  have b1 : tsOk [(0, 0)] = false := by decide
  rw [a1] at a
  rw [b1] at b
  simp [e2] at a b
  simp [F_laws_alive, a, b]
theorem c_power (n : Int) (h0 : 0 ≤ n) (h5 : n ≤ 5) : call lf n_laws_power [.i n] = some (.i (6 ^ n.toNat), []) := by
  rw [call_k lf n_laws_power _ (F := F_laws_power) rfl rfl]
  have c : n = 0 ∨ n = 1 ∨ n = 2 ∨ n = 3 ∨ n = 4 ∨ n = 5 := by omega
  have w : ∀ m : Int, 0 ≤ m → m ≤ 8000 → wr m = m := fun m a b => wr_id (by omega) (by omega)
  have L : ex lf F_laws_power_W0 ⟨[(0, .i n), (3, .i 1), (4, .i 0)], []⟩ = some (.exit 0, ⟨[(0, .i n), (3, .i (6 ^ n.toNat)), (4, .i n)], []⟩) := by
    have := loop_count (lf := lf) (L := F_laws_power_L0) n.toNat (fun i => ⟨[(0, .i n), (3, .i (6 ^ i)), (4, .i i)], []⟩) (x := .exit 0) (R := ⟨[(0, .i n), (3, .i (6 ^ n.toNat)), (4, .i n)], []⟩) (fun i hi => ?_) ?_ (by simp)
    · rw [show F_laws_power_W0 = .loop F_laws_power_L0 from rfl]
      simpa using this
    · have hlt : ((i : Nat) : Int) < n := by omega
      have b := pow_le (n := i + 1) (m := 5) (by omega) 6 (by omega)
      have b0 : (0 : Int) ≤ 6 ^ i := Int.le_of_lt (Int.pow_pos (by omega))
      simp only [Int.pow_succ] at b
      have w2 : wr (6 ^ i * 6) = 6 ^ i * 6 := w _ (by omega) (by simp at b; omega)
      have w1 : wr ((i : Int) + 1) = (i : Int) + 1 := wr_id (by omega) (by omega)
      simp [F_laws_power_L0, hlt, w2, w1, Int.pow_succ]
    · have e : max n 0 = n := by omega
      simp [F_laws_power_L0, e]
  simp [F_laws_power, L]
end
section
attribute [-simp] DV.cells
attribute [local simp] cells_st cells_sl cells_i cells_y cells_b cells_s cells_w
theorem or_fin : ∀ (s : _root_.Fin 32) (k : _root_.Fin 5), orI (s.val : Int) ((2 : Int) ^ k.val) = ((s.val ||| 2 ^ k.val : Nat) : Int) := by decide +kernel
theorem or_nat {s k : Nat} (hs : s < 32) (hk : k < 5) : orI (s : Int) ((2 : Int) ^ k) = ((s ||| 2 ^ k : Nat) : Int) := or_fin ⟨s, hs⟩ ⟨k, hk⟩
end
section
/-- each of the tests once, from those on that some tests are -/
def orS (m : Int) : Nat → List Int → Bool
  | _, [] => true
  | so, a :: r => decide (0 ≤ a ∧ a < m) && !so.testBit a.toNat && orS m (so ||| 2 ^ a.toNat) r
def orOk (m : Int) (os : List Int) : Bool := nOk m && decide ((os.length : Int) = m) && orS m 0 os
def setO : Nat → List Int → Nat
  | so, [] => so
  | so, a :: r => setO (so ||| 2 ^ a.toNat) r
theorem orS_cons {m : Int} {so : Nat} {a : Int} {r : List Int} : orS m so (a :: r) = true ↔ (0 ≤ a ∧ a < m) ∧ so.testBit a.toNat = false ∧ orS m (so ||| 2 ^ a.toNat) r = true := by
  simp [orS, and_assoc]
theorem orOk_iff {m : Int} {os : List Int} : orOk m os = true ↔ (1 ≤ m ∧ m ≤ 5) ∧ (os.length : Int) = m ∧ orS m 0 os = true := by
  rw [orOk, Bool.and_eq_true, Bool.and_eq_true, nOk_iff, decide_eq_true_eq, and_assoc]
theorem or_bit (so a k : Nat) : (so ||| 2 ^ a).testBit k = (so.testBit k || decide (a = k)) := by
  rw [Nat.testBit_or, Nat.testBit_two_pow]
theorem or_lt2 {m so a : Nat} (h : so < 2 ^ m) (ha : a < m) : so ||| 2 ^ a < 2 ^ m := Nat.or_lt_two_pow h (Nat.pow_lt_pow_right (by omega) ha)
theorem setO_bit : ∀ {os : List Int} {so k : Nat}, (∀ o ∈ os, 0 ≤ o) → ((setO so os).testBit k = true ↔ so.testBit k = true ∨ (k : Int) ∈ os)
  | [], _, _, _ => by simp [setO]
  | a :: r, so, k, h => by
    have ha := h a (by simp)
    rw [setO, setO_bit (os := r) (fun o ho => h o (by simp [ho])), or_bit]
    simp only [Bool.or_eq_true, decide_eq_true_eq, List.mem_cons]
    have : a.toNat = k ↔ (k : Int) = a := by omega
    rw [this, or_assoc]
/-- how many tests are not among some -/
def uc (so : Nat) : Nat → Nat
  | 0 => 0
  | i + 1 => uc so i + if so.testBit i then 0 else 1
theorem uc_zero : ∀ n, uc 0 n = n
  | 0 => rfl
  | n + 1 => by simp [uc, uc_zero n]
theorem uc_congr {a b : Nat} : ∀ {n}, (∀ k, k < n → a.testBit k = b.testBit k) → uc a n = uc b n
  | 0, _ => rfl
  | n + 1, h => by simp only [uc]; rw [uc_congr (fun k hk => h k (by omega)), h n (by omega)]
theorem uc_or {so a : Nat} : ∀ {n}, a < n → so.testBit a = false → uc (so ||| 2 ^ a) n + 1 = uc so n
  | 0, h, _ => by omega
  | n + 1, h, hb => by
    simp only [uc]
    by_cases e : a = n
    · subst e
      rw [uc_congr (a := so ||| 2 ^ a) (b := so) (fun k hk => by rw [or_bit, decide_eq_false (by omega), Bool.or_false]), or_bit, hb]
      simp
    · have := uc_or (so := so) (a := a) (n := n) (by omega) hb
      rw [or_bit, decide_eq_false e, Bool.or_false]
      omega
theorem uc_all {so : Nat} : ∀ {n}, uc so n = 0 → ∀ k, k < n → so.testBit k = true
  | 0, _, k, hk => by omega
  | n + 1, h, k, hk => by
    simp only [uc] at h
    rcases Nat.lt_succ_iff_lt_or_eq.1 hk with q | rfl
    · exact uc_all (n := n) (by omega) k q
    · cases hb : so.testBit k with
      | true => rfl
      | false => rw [hb] at h; simp at h
theorem uc_setO {m : Int} (hm : 0 ≤ m) : ∀ {os : List Int} {so : Nat}, orS m so os = true → uc (setO so os) m.toNat + os.length = uc so m.toNat
  | [], _, _ => by simp [setO]
  | a :: r, so, h => by
    obtain ⟨h1, h2, h3⟩ := orS_cons.1 h
    have i := uc_setO hm (os := r) h3
    have u := uc_or (so := so) (a := a.toNat) (n := m.toNat) (by omega) h2
    simp only [setO, List.length_cons]; omega
theorem set_all {m : Int} {os : List Int} (h : orOk m os = true) : ∀ k, k < m.toNat → (setO 0 os).testBit k = true := by
  obtain ⟨h1, h2, h3⟩ := orOk_iff.1 h
  have u := uc_setO (by omega) h3
  rw [uc_zero] at u
  exact uc_all (by omega)
def cA (us : List T) (a : Nat) : Int := (us.getD a (0, 0)).1
theorem cA_nn {us : List T} (h : us.all tOk = true) (k : Nat) : 0 ≤ cA us k ∧ (k < us.length → 1 ≤ cA us k) ∧ cA us k ≤ 9 := by
  unfold cA
  by_cases hk : k < us.length
  · have e : us.getD k (0, 0) = us[k] := by simp [List.getD, hk]
    rw [e]
    have := tOk_iff.1 (List.all_eq_true.1 h us[k] (List.getElem_mem hk))
    omega
  · have e : us.getD k (0, 0) = (0, 0) := by simp [List.getD, List.getElem?_eq_none (by omega : us.length ≤ k)]
    rw [e]; simp; omega
end
section
theorem orS_nodup {m : Int} : ∀ {os : List Int} {so : Nat}, orS m so os = true ↔ (∀ o ∈ os, (0 ≤ o ∧ o < m) ∧ so.testBit o.toNat = false) ∧ os.Nodup
  | [], so => by simp [orS]
  | a :: r, so => by
    rw [orS_cons, orS_nodup (os := r), List.nodup_cons]
    constructor
    · rintro ⟨h1, h2, h3, h4⟩
      refine ⟨fun o ho => ?_, fun hm => ?_, h4⟩
      · rcases List.mem_cons.1 ho with rfl | ho
        · exact ⟨h1, h2⟩
        · obtain ⟨q1, q2⟩ := h3 o ho
          rw [or_bit, Bool.or_eq_false_iff] at q2
          exact ⟨q1, q2.1⟩
      · have q := (h3 a hm).2
        rw [or_bit] at q; simp at q
    · rintro ⟨h1, h2, h3⟩
      obtain ⟨a1, a2⟩ := h1 a (by simp)
      refine ⟨a1, a2, fun o ho => ?_, h3⟩
      obtain ⟨q1, q2⟩ := h1 o (by simp [ho])
      refine ⟨q1, ?_⟩
      rw [or_bit, q2, Bool.false_or, decide_eq_false]
      intro e
      have : a = o := by omega
      exact h2 (this ▸ ho)
theorem orS_perm {m : Int} {so : Nat} {p q : List Int} (h : p.Perm q) : orS m so p = orS m so q := by
  rw [Bool.eq_iff_iff, orS_nodup, orS_nodup, h.nodup_iff]
  constructor
  · exact fun k => ⟨fun o ho => k.1 o (h.mem_iff.2 ho), k.2⟩
  · exact fun k => ⟨fun o ho => k.1 o (h.mem_iff.1 ho), k.2⟩
theorem orOk_perm {m : Int} {p q : List Int} (h : p.Perm q) : orOk m p = orOk m q := by
  unfold orOk
  rw [orS_perm h, h.length_eq]
def rng (n : Nat) : List Int := (List.range n).map fun (k : Nat) => (k : Int)
theorem rng_len (n : Nat) : (rng n).length = n := by simp [rng]
theorem rng_succ (n : Nat) : rng (n + 1) = rng n ++ [(n : Int)] := by simp [rng, List.range_succ]
theorem mem_rng {n : Nat} {o : Int} : o ∈ rng n ↔ 0 ≤ o ∧ o < n := by
  unfold rng
  rw [List.mem_map]
  constructor
  · rintro ⟨k, h, rfl⟩; have := List.mem_range.1 h; omega
  · intro h; exact ⟨o.toNat, List.mem_range.2 (by omega), by omega⟩
theorem rng_ok {m : Int} (h : 1 ≤ m ∧ m ≤ 5) : orOk m (rng m.toNat) = true := by
  rw [orOk_iff, orS_nodup]
  refine ⟨h, by rw [rng_len]; omega, fun o ho => ?_, ?_⟩
  · have := mem_rng.1 ho
    exact ⟨by omega, by simp⟩
  · unfold rng
    rw [List.nodup_iff_pairwise_ne, List.pairwise_map]
    exact List.Pairwise.imp (fun {a b} (hab : a ≠ b) h => hab (Int.ofNat_inj.1 h)) (List.nodup_iff_pairwise_ne.1 List.nodup_range)
theorem orOk_len {m : Int} {os : List Int} (h : orOk m os = true) : (os.length : Int) = m := (orOk_iff.1 h).2.1
theorem perm_ok {m : Int} {os : List Int} (h : 1 ≤ m ∧ m ≤ 5) (p : os.Perm (rng m.toNat)) : orOk m os = true := by rw [orOk_perm p]; exact rng_ok h
end
section
def hkn (m : Nat) (ks : List Int) (so : Nat) : Prop := ∀ k, k < m → (ks[k]? = some (-1) ↔ so.testBit k = false)
def non (m : Nat) : List Int := List.replicate m (-1)
end
section
attribute [-simp] DV.cells sliceD
attribute [local simp] cells_st cells_sl cells_i cells_y cells_b cells_s cells_w
theorem hasTest_i {so : Nat} {a : Int} (h0 : 0 ≤ a) (h5 : a < 5) : call lf n_impl_hasTest [.i so, .i a] = some (.b (so.testBit a.toNat), []) := by
  have := c_impl_hasTest so a.toNat (by omega)
  rw [Int.toNat_of_nonneg h0] at this
  exact this
theorem or_i {so : Nat} {a : Int} (hs : so < 32) (h0 : 0 ≤ a) (h5 : a < 5) : orI (so : Int) (shlI 1 a) = ((so ||| 2 ^ a.toNat : Nat) : Int) := by
  rw [shl1 h0 (by omega)]
  exact or_nat hs (by omega)
theorem pow_le5 {m : Int} (h : 1 ≤ m ∧ m ≤ 5) : 2 ^ m.toNat ≤ 32 := (pow5 h.1 h.2).2.1
theorem l_impl_OrderOk {m : Int} (hm : 1 ≤ m ∧ m ≤ 5) (n : Int) (hb : n < 1099511627776) (es : List DV) (rest : List Int) : ∀ (k : Int) (so : Nat), so < 2 ^ m.toNat → 0 ≤ k → k + (rest.map DV.i).length = n → es.drop k.toNat = rest.map .i →
    ex lf F_impl_OrderOk_W0 ⟨[(0, .i m), (5, .i so), (17, .sl 0 es), (18, .i n), (19, .i k)], []⟩ =
    if orS m so rest = true then some (.exit 0, ⟨[(0, .i m), (5, .i (setO so rest : Nat)), (17, .sl 0 es), (18, .i n), (19, .i n)], []⟩) else some (.ret, ⟨[(4, .b false)], []⟩) := by
  have p5 := pow_le5 hm
  induction rest with
  | nil =>
    intro k so hs h0 hn hd
    rw [w_impl_OrderOk_0]
    have hk : k = n := by simpa using hn
    simp [F_impl_OrderOk_L0, hk, orS, setO]
  | cons a rest ih =>
    intro k so hs h0 hn hd
    obtain ⟨q1, q2, q3, q4, q5, q6⟩ := stp h0 hn hb hd
    have w : wr (m - 1) = m - 1 := wr_id (by omega) (by omega)
    rw [w_impl_OrderOk_0]
    by_cases ha : 0 ≤ a ∧ a < m
    · have e1 : decide (0 ≤ a ∧ a ≤ m - 1) = true := decide_eq_true (by omega)
      have e2 : decide (0 ≤ a ∧ a < m) = true := decide_eq_true ha
      have H := hasTest_i (so := so) ha.1 (by omega)
      have n0 : ¬ a < 0 := by omega
      have o := or_i (so := so) (by omega) ha.1 (by omega : a < 5)
      have ih := ih (k + 1) (so ||| 2 ^ a.toNat) (or_lt2 hs (by omega)) q4 q5 q6
      simp only [orS, e2, Bool.true_and, setO]
      cases hb : so.testBit a.toNat with
      | true =>
        rw [hb] at H
        simp [F_impl_OrderOk_L0, q1, q2, q3, w, c_impl_isWithin, e1, H]
      | false =>
        rw [hb] at H
        simp [F_impl_OrderOk_L0, q1, q2, q3, w, c_impl_isWithin, e1, H, n0, o, ih]
    · have e1 : decide (0 ≤ a ∧ a ≤ m - 1) = false := decide_eq_false (by omega)
      have e2 : decide (0 ≤ a ∧ a < m) = false := decide_eq_false ha
      simp only [orS, e2, Bool.false_and]
      simp [F_impl_OrderOk_L0, q1, q2, q3, w, c_impl_isWithin, e1]
theorem c_impl_OrderOk (m : Int) (os : List Int) (hb : (os.length : Int) < 1099511627776) : call lf n_impl_OrderOk [.i m, .sl 0 (os.map .i)] = some (.b (orOk m os), []) := by
  rw [call_k lf n_impl_OrderOk _ (F := F_impl_OrderOk) rfl rfl]
  unfold orOk
  cases h1 : nOk m with
  | false => simp [F_impl_OrderOk, c_impl_manyOk, h1]
  | true =>
    by_cases h2 : (os.length : Int) = m
    · have L := l_impl_OrderOk (nOk_iff.1 h1) os.length hb (os.map .i) os 0 0 (Nat.pow_pos (by omega)) (by omega) (by simp) (by simp)
      simp only [Int.natCast_zero] at L
      cases h3 : orS m 0 os <;> rw [h3] at L <;> simp at L <;> simp [F_impl_OrderOk, c_impl_manyOk, h1, h2, L, h3] <;> (subst h2; simp [L])
    · have y : ((os.length : Int) != m) = true := bne_iff_ne.2 h2
      simp [F_impl_OrderOk, c_impl_manyOk, h1, y, h2]
end
section
attribute [-simp] DV.cells
attribute [local simp] sliceD cells_st cells_sl cells_i cells_y cells_b cells_s cells_w
theorem ins_perm {p q : List Int} {i : Nat} (h : (p ++ q).Perm (rng i)) : (p ++ (i : Int) :: q).Perm (rng (i + 1)) := by
  rw [rng_succ]
  refine List.perm_middle.trans ?_
  refine (List.Perm.cons _ h).trans ?_
  exact (List.perm_append_singleton _ _).symm
theorem perm_len {us : List Int} {i : Nat} (h : us.Perm (rng i)) : us.length = i := by rw [h.length_eq, rng_len]
set_option maxHeartbeats 4000000 in
theorem l_l20Order {bs : List Nat} (hb : ∀ y ∈ bs, y < 256) (hl : bs.length ≤ 2000) (m : Nat) (hm : m ≤ 5) (n : Int) (j : Nat) : ∀ (i : Nat) (p : Int) (K : Nat) (os : List Int), (K = 5640 ∨ K = 11272) → 0 ≤ p → p + j < 900000 → i + j = m → os.Perm (rng i) →
    ∃ us : List Int, us.Perm (rng m) ∧
    ex lf F_spec_l20Order_W0 ⟨[(0, .oad 23 1 0 0), (1, .i m), (2, .i n), (7, .own K i 0 i), (8, .i i)], [(23, [.st [.sl 0 (bs.map .y), .i p]]), (K, os.map .i)]⟩ =
      some (.exit 0, ⟨[(0, .oad 23 1 0 0), (1, .i m), (2, .i n), (7, .own 5640 m 0 m), (8, .i m)], [(23, [.st [.sl 0 (bs.map .y), .i (p + j)]]), (5640, us.map .i)]⟩) := by
  induction j with
  | zero =>
    intro i p K os hK h0 h1 h2 h3
    have : i = m := by omega
    subst this
    have lo := perm_len h3
    refine ⟨os, h3, ?_⟩
    rw [w_spec_l20Order_0]
    rcases hK with rfl | rfl <;> simp [F_spec_l20Order_L0, lo]
  | succ j ih =>
    intro i p K os hK h0 h1 h2 h3
    have lo := perm_len h3
    have b1 := pk_bound hb h0 (by omega : p ≤ 1000000) (by omega : (1 : Int) ≤ (i : Int) + 1)
    have k1 := c_pick hb hl h0 (by omega : p < 1000000) (by omega : (1 : Int) ≤ (i : Int) + 1)
    obtain ⟨a, ha⟩ : ∃ a : Nat, pk bs p ((i : Int) + 1) = a := ⟨(pk bs p ((i : Int) + 1)).toNat, by omega⟩
    rw [ha] at k1 b1
    obtain ⟨x, y, rfl, rfl⟩ : ∃ x y, os = x ++ y ∧ x.length = a := ⟨os.take a, os.drop a, (List.take_append_drop a os).symm, by simp; omega⟩
    have P := ins_perm h3
    have w1 : wr ((i : Int) + 1) = (i : Int) + 1 := wr_id (by omega) (by omega)
    obtain ⟨us, u1, u2⟩ := ih (i + 1) (p + 1) 11272 (x ++ (i : Int) :: y) (.inr rfl) (by omega) (by omega) (by omega) P
    refine ⟨us, u1, ?_⟩
    rw [show p + ((j + 1 : Nat) : Int) = p + 1 + j by omega]
    have lxy : x.length + y.length = i := by simpa using lo
    have hlt : (i : Int) < m := by omega
    have c1 : x.length ≤ bound := by unfold bound; omega
    have c2 : x.length + 1 ≤ bound := by unfold bound; omega
    have c3 : i + 1 ≤ bound := by unfold bound; omega
    have xi : x.length ≤ i := by omega
    have xi' : (x.length : Int) ≤ i := by omega
    have t1 : ((x ++ y).map DV.i).take x.length = x.map .i := by simp
    have t2 : ((x ++ y).map DV.i).drop x.length = y.map .i := by simp
    have t3 : (x ++ y).map DV.i = ((x ++ y).map DV.i).take i := (List.take_of_length_le (by simp; omega)).symm
    have t4 : List.take i ((x ++ y).map DV.i) = (x ++ y).map DV.i := t3.symm
    have hL : ((x ++ y).map DV.i).length = i := by simp; omega
    have e1 : x.length + 1 + y.length = i + 1 := by omega
    rw [w_spec_l20Order_0]
    simp only [Int.natCast_add, Int.natCast_one, List.map_append, List.map_cons] at u2
    have n0 : ¬ (i < x.length) := by omega
    generalize (x ++ y).map DV.i = L at *
    rcases hK with rfl | rfl <;> simp [F_spec_l20Order_L0, hlt, lo, k1, w1, hL, t1, t2, t4, c1, c2, c3, xi, xi', e1, u2]
end
section
def rwOk (row : Int) : Bool := decide (0 ≤ row ∧ row ≤ 1)
/-- the chance of a test to end a row -/
def eA (us : List T) (row : Int) (a : Nat) : Int := if row = 0 then 6 - (us.getD a (0, 0)).2 else (us.getD a (0, 0)).2
def rA (us : List T) (row : Int) : Int → List Int → Int
  | _, [] => 0
  | on, a :: r => cA us a.toNat * on * 6 ^ (r.length + 1) + rA us row (on * (6 - eA us row a.toNat)) r
theorem eA_bd {us : List T} (h : us.all tOk = true) {row : Int} {a : Nat} (ha : a < us.length) : 1 ≤ eA us row a ∧ eA us row a ≤ 5 := by
  have e : us.getD a (0, 0) = us[a] := by simp [List.getD, ha]
  have := tOk_iff.1 (List.all_eq_true.1 h us[a] (List.getElem_mem ha))
  unfold eA
  rw [e]
  split <;> omega
/-- exchanging neighbours -/
theorem rA_swap (us : List T) (row on : Int) (a b : Int) (r : List Int) :
    rA us row on (a :: b :: r) - rA us row on (b :: a :: r) = on * 6 ^ (r.length + 1) * (cA us a.toNat * eA us row b.toNat - cA us b.toNat * eA us row a.toNat) := by
  simp only [rA, List.length_cons]
  rw [show on * (6 - eA us row b.toNat) * (6 - eA us row a.toNat) = on * (6 - eA us row a.toNat) * (6 - eA us row b.toNat) by rw [Int.mul_assoc, Int.mul_assoc, Int.mul_comm (6 - eA us row b.toNat)]]
  generalize rA us row _ r = z
  rw [Int.pow_succ 6 (r.length + 1)]
  generalize (6 : Int) ^ (r.length + 1) = p
  generalize cA us a.toNat = ca
  generalize cA us b.toNat = cb
  generalize eA us row a.toNat = ea
  generalize eA us row b.toNat = eb
  grind
end
section
/-- the one costs no more for its chance to end than the other -/
def rLe (us : List T) (row : Int) (a b : Int) : Bool := decide (cA us a.toNat * eA us row b.toNat ≤ cA us b.toNat * eA us row a.toNat)
def insR (us : List T) (row : Int) (k : Int) : List Int → List Int
  | [] => [k]
  | o :: r => if rLe us row o k = true then o :: insR us row k r else k :: o :: r
def rO (us : List T) (row : Int) : Nat → List Int
  | 0 => []
  | n + 1 => insR us row (n : Int) (rO us row n)
theorem insR_perm (us : List T) (row k : Int) : ∀ l : List Int, (insR us row k l).Perm (k :: l)
  | [] => List.Perm.refl _
  | o :: r => by
    simp only [insR]
    split
    · exact ((insR_perm us row k r).cons o).trans (List.Perm.swap k o r)
    · exact List.Perm.refl _
theorem rO_perm (us : List T) (row : Int) : ∀ n : Nat, (rO us row n).Perm (rng n)
  | 0 => List.Perm.refl _
  | n + 1 => by
    rw [rng_succ]
    exact (insR_perm us row n (rO us row n)).trans (((rO_perm us row n).cons (n : Int)).trans (List.perm_append_comm (l₁ := [(n : Int)])))
theorem rO_mem {us : List T} {row : Int} {n : Nat} {o : Int} (h : o ∈ rO us row n) : 0 ≤ o ∧ o < n := mem_rng.1 ((rO_perm us row n).mem_iff.1 h)
theorem rO_len (us : List T) (row : Int) (n : Nat) : (rO us row n).length = n := by rw [(rO_perm us row n).length_eq, rng_len]
theorem rO_ok {us : List T} (h : tsOk us = true) (row : Int) : orOk us.length (rO us row us.length) = true := by
  have h' := tsOk_iff.1 h
  exact perm_ok (m := us.length) (by omega) (by rw [Int.toNat_natCast]; exact rO_perm us row us.length)
theorem rLe_trans {us : List T} (h : us.all tOk = true) {row a b c : Int} (ha : a.toNat < us.length) (hb : b.toNat < us.length) (hc : c.toNat < us.length)
    (h1 : rLe us row a b = true) (h2 : rLe us row b c = true) : rLe us row a c = true := by
  unfold rLe at *
  rw [decide_eq_true_eq] at *
  have ea := eA_bd h (row := row) ha
  have eb := eA_bd h (row := row) hb
  have ec := eA_bd h (row := row) hc
  refine Int.le_of_mul_le_mul_right (a := eA us row b.toNat) ?_ (by omega)
  have q1 := Int.mul_le_mul_of_nonneg_right h1 (show 0 ≤ eA us row c.toNat by omega)
  have q2 := Int.mul_le_mul_of_nonneg_right h2 (show 0 ≤ eA us row a.toNat by omega)
  revert q1 q2
  generalize cA us a.toNat = ca
  generalize cA us b.toNat = cb
  generalize cA us c.toNat = cc
  generalize eA us row a.toNat = x
  generalize eA us row b.toNat = y
  generalize eA us row c.toNat = z
  intro q1 q2
  have e1 : ca * z * y = ca * y * z := by rw [Int.mul_assoc, Int.mul_comm z, Int.mul_assoc]
  have e2 : cb * x * z = cb * z * x := by rw [Int.mul_assoc, Int.mul_comm x, Int.mul_assoc]
  have e3 : cc * x * y = cc * y * x := by rw [Int.mul_assoc, Int.mul_comm x, Int.mul_assoc]
  omega
theorem rLe_total {us : List T} {row a b : Int} (h : rLe us row a b = false) : rLe us row b a = true := by
  unfold rLe at *
  rw [decide_eq_true_eq]
  rw [decide_eq_false_iff_not] at h
  omega
theorem insR_sorted {us : List T} (h : us.all tOk = true) {row k : Int} (hk : k.toNat < us.length) : ∀ {l : List Int}, (∀ o ∈ l, o.toNat < us.length) → l.Pairwise (fun a b => rLe us row a b = true) → (insR us row k l).Pairwise (fun a b => rLe us row a b = true)
  | [], _, _ => List.pairwise_singleton _ _
  | o :: r, hm, hp => by
    obtain ⟨p1, p2⟩ := List.pairwise_cons.1 hp
    have ho := hm o (List.mem_cons_self ..)
    have hr : ∀ x ∈ r, x.toNat < us.length := fun x hx => hm x (List.mem_cons_of_mem _ hx)
    simp only [insR]
    by_cases hc : rLe us row o k = true
    · rw [if_pos hc]
      refine List.pairwise_cons.2 ⟨fun x hx => ?_, insR_sorted h hk hr p2⟩
      rcases List.mem_cons.1 ((insR_perm us row k r).mem_iff.1 hx) with rfl | hx
      · exact hc
      · exact p1 x hx
    · rw [if_neg hc]
      have hc' : rLe us row k o = true := rLe_total (by simpa using hc)
      refine List.pairwise_cons.2 ⟨fun x hx => ?_, hp⟩
      rcases List.mem_cons.1 hx with rfl | hx
      · exact hc'
      · exact rLe_trans h hk ho (hr x hx) hc' (p1 x hx)
theorem rO_sorted {us : List T} (h : us.all tOk = true) (row : Int) : ∀ n : Nat, n ≤ us.length → (rO us row n).Pairwise (fun a b => rLe us row a b = true)
  | 0, _ => List.Pairwise.nil
  | n + 1, hn => by
    refine insR_sorted h (by omega) (fun o ho => ?_) (rO_sorted h row n (by omega))
    have := rO_mem ho
    omega
/-- the least ratio moved to the front -/
theorem rA_front {us : List T} {row : Int} (h : us.all tOk = true) {a : Int} : ∀ (p q : List Int) (on : Int), 0 ≤ on → (∀ x ∈ p, x.toNat < us.length) → (∀ x ∈ p, rLe us row a x = true) → rA us row on (a :: (p ++ q)) ≤ rA us row on (p ++ a :: q)
  | [], q, on, _, _, _ => Int.le_refl _
  | x :: p, q, on, hon, hx, hl => by
    have s := rA_swap us row on x a (p ++ q)
    have hx0 := hx x (List.mem_cons_self ..)
    have l0 := hl x (List.mem_cons_self ..)
    have ex := eA_bd h (row := row) hx0
    unfold rLe at l0
    rw [decide_eq_true_eq] at l0
    have f := rA_front h (row := row) (a := a) p q (on * (6 - eA us row x.toNat)) (Int.mul_nonneg hon (by omega)) (fun y hy => hx y (List.mem_cons_of_mem _ hy)) (fun y hy => hl y (List.mem_cons_of_mem _ hy))
    have pn : (0 : Int) ≤ on * 6 ^ ((p ++ q).length + 1) * (cA us x.toNat * eA us row a.toNat - cA us a.toNat * eA us row x.toNat) :=
      Int.mul_nonneg (Int.mul_nonneg hon (Int.pow_nonneg (by omega))) (by omega)
    have e1 : rA us row on (x :: a :: (p ++ q)) = cA us x.toNat * on * 6 ^ ((p ++ q).length + 1 + 1) + rA us row (on * (6 - eA us row x.toNat)) (a :: (p ++ q)) := rfl
    have e2 : rA us row on (x :: (p ++ a :: q)) = cA us x.toNat * on * 6 ^ ((p ++ a :: q).length + 1) + rA us row (on * (6 - eA us row x.toNat)) (p ++ a :: q) := rfl
    have e3 : (p ++ a :: q).length = (p ++ q).length + 1 := by simp; omega
    rw [e3] at e2
    show rA us row on (a :: x :: (p ++ q)) ≤ rA us row on (x :: (p ++ a :: q))
    omega
theorem rA_least {us : List T} {row : Int} (h : us.all tOk = true) : ∀ {l p : List Int} {on : Int}, 0 ≤ on → (∀ x ∈ l, x.toNat < us.length) → l.Pairwise (fun a b => rLe us row a b = true) → p.Perm l → rA us row on l ≤ rA us row on p
  | [], p, on, _, _, _, hp => by rw [hp.eq_nil]; exact Int.le_refl _
  | a :: l, p, on, hon, hm, hs, hp => by
    obtain ⟨p1, p2, rfl⟩ := List.append_of_mem (hp.mem_iff.2 (List.mem_cons_self ..))
    have hpp : (p1 ++ p2).Perm l := (List.perm_cons a).1 (List.perm_middle.symm.trans hp)
    obtain ⟨s1, s2⟩ := List.pairwise_cons.1 hs
    have hm1 : ∀ x ∈ p1, x ∈ l := fun x hx => hpp.mem_iff.1 (List.mem_append_left _ hx)
    have f := rA_front h (row := row) (a := a) p1 p2 on hon (fun x hx => hm x (List.mem_cons_of_mem _ (hm1 x hx))) (fun x hx => s1 x (hm1 x hx))
    have ea := eA_bd h (row := row) (hm a (List.mem_cons_self ..))
    have i := rA_least h (row := row) (l := l) (p := p1 ++ p2) (on := on * (6 - eA us row a.toNat)) (Int.mul_nonneg hon (by omega)) (fun x hx => hm x (List.mem_cons_of_mem _ hx)) s2 hpp
    have e1 : rA us row on (a :: l) = cA us a.toNat * on * 6 ^ (l.length + 1) + rA us row (on * (6 - eA us row a.toNat)) l := rfl
    have e2 : rA us row on (a :: (p1 ++ p2)) = cA us a.toNat * on * 6 ^ ((p1 ++ p2).length + 1) + rA us row (on * (6 - eA us row a.toNat)) (p1 ++ p2) := rfl
    rw [hpp.length_eq] at e2
    omega
theorem rng_nodup (n : Nat) : (rng n).Nodup := List.Pairwise.map _ (fun a b h e => h (by omega)) (List.nodup_range (n := n))
theorem or_perm {m : Int} {os : List Int} (h : orOk m os = true) : os.Perm (rng m.toNat) := by
  obtain ⟨g1, g2, g3⟩ := orOk_iff.1 h
  obtain ⟨n1, n2⟩ := orS_nodup.1 g3
  refine (List.perm_ext_iff_of_nodup n2 (rng_nodup _)).2 fun o => ?_
  constructor
  · intro ho
    exact mem_rng.2 (by have := (n1 o ho).1; omega)
  · intro ho
    have hr := mem_rng.1 ho
    have := set_all h o.toNat (by omega)
    rw [setO_bit (fun x hx => (n1 x hx).1.1)] at this
    rcases this with q | q
    · simp at q
    · rwa [Int.toNat_of_nonneg hr.1] at q
/-- No order is better than the one by ratios. -/
theorem rO_least {us : List T} (h : tsOk us = true) {row : Int} {os : List Int} (ho : orOk us.length os = true) : rA us row 1 (rO us row us.length) ≤ rA us row 1 os := by
  have h' := tsOk_iff.1 h
  refine rA_least h'.2 (by omega) (fun x hx => by have := rO_mem hx; omega) (rO_sorted h'.2 row us.length (Nat.le_refl _)) ?_
  have p := or_perm ho
  rw [Int.toNat_natCast] at p
  exact p.trans (rO_perm us row us.length).symm
end
section
attribute [-simp] DV.cells sliceD
attribute [local simp] cells_st cells_sl cells_i cells_y cells_b cells_s cells_w
theorem cA_at {us : List T} {a : Int} (h0 : 0 ≤ a) (h1 : a < us.length) : ∃ c q : Int, atI (us.map e2) a = some (.st [.i c, .i q]) ∧ c = cA us a.toNat ∧ us.getD a.toNat (0, 0) = (c, q) := by
  have hl : a.toNat < us.length := by omega
  have e : us.getD a.toNat (0, 0) = us[a.toNat] := by simp [List.getD, hl]
  refine ⟨us[a.toNat].1, us[a.toNat].2, ?_, ?_, e⟩
  · simp only [atI, if_pos h0]
    show (us.map e2)[a.toNat]? = _
    simp [hl, e2]
  · unfold cA; rw [e]
end
section
attribute [-simp] DV.cells sliceD
attribute [local simp] cells_st cells_sl cells_i cells_y cells_b cells_s cells_w
theorem p6 : ∀ {n : Nat}, n ≤ 5 → (1 : Int) ≤ 6 ^ n ∧ (6 : Int) ^ n ≤ 7776 := by
  intro n hn
  have : n = 0 ∨ n = 1 ∨ n = 2 ∨ n = 3 ∨ n = 4 ∨ n = 5 := by omega
  rcases this with rfl | rfl | rfl | rfl | rfl | rfl <;> decide
theorem c_spec_l1Power {n : Nat} (h : n ≤ 5) : call lf n_spec_l1Power [.i n] = some (.i (6 ^ n), []) := by
  have L := loop_count (lf := lf) (L := F_spec_l1Power_L0) n (fun i => ⟨[(0, .i n), (3, .i (6 ^ i)), (4, .i i)], []⟩) (x := .exit 0) (R := ⟨[(0, .i n), (3, .i (6 ^ n)), (4, .i n)], []⟩) (fun i hi => by
    have p := p6 (n := i) (by omega)
    have w1 : wr ((i : Int) + 1) = i + 1 := wr_id (by omega) (by omega)
    have w2 : wr ((6 : Int) ^ i * 6) = 6 ^ (i + 1) := by rw [wr_id (by omega) (by omega), Int.pow_succ]
    simp [F_spec_l1Power_L0, hi, w1, w2]) (by simp [F_spec_l1Power_L0]) (by simp)
  have L' : ex lf F_spec_l1Power_W0 ⟨[(0, .i n), (3, .i 1), (4, .i 0)], []⟩ = some (.exit 0, ⟨[(0, .i n), (3, .i (6 ^ n)), (4, .i n)], []⟩) := L
  rw [call_k lf n_spec_l1Power _ (F := F_spec_l1Power) rfl rfl]
  simp [F_spec_l1Power, L']
def stW (us : List T) (tab : Nat) (os : List Int) (k : Nat) (ks : List Int) (w a sum sd : Int) : LS :=
  ⟨[(0, .sl 0 (us.map e2)), (1, .i tab), (2, .sl 0 (os.map .i)), (3, .i k), (4, .sl 0 (ks.map .i)), (5, .i w), (13, .i a), (14, .i sum), (15, .i sd)], []⟩
end
section
attribute [-simp] DV.cells sliceD
attribute [local simp] cells_st cells_sl cells_i cells_y cells_b cells_s cells_w
theorem ren_nil (t id : Nat) (e : Env) (ob : OB) : renL t id e ob .nil = some ⟨e, ob⟩ := rfl
/-- what comes back: nothing is nil -/
def bR (l : List Int) : DV := if l = [] then .sl 1 [] else .fr 1 (l.map .i)
def bD (K : Nat) (b : List Int) : DV := if b = [] then .nil else .own K b.length 0 b.length
def bO (K : Nat) (b : List Int) : OB := if b = [] then [] else [(K, b.map .i)]
end
section
attribute [-simp] DV.cells
attribute [local simp] sliceD cells_st cells_sl cells_i cells_y cells_b cells_s cells_w
def raOk (us : List T) (os : List Int) (row : Int) : Bool := tsOk us && orOk us.length os && rwOk row
def raOf (us : List T) (os : List Int) (row : Int) : Int := if raOk us os row then rA us row 1 os else -1
theorem p6le {i j : Nat} (h : i + j ≤ 5) {on : Int} (h0 : 0 ≤ on) (h1 : on ≤ 6 ^ i) : 0 ≤ on * 6 ^ j ∧ on * 6 ^ j ≤ 7776 := by
  have pj := p6 (n := j) (by omega)
  have q := (p6 h).2
  rw [Int.pow_add] at q
  have := Int.mul_le_mul_of_nonneg_right h1 (show (0 : Int) ≤ 6 ^ j by omega)
  have := Int.mul_nonneg h0 (show (0 : Int) ≤ 6 ^ j by omega)
  omega
end
section
attribute [-simp] DV.cells
attribute [local simp] sliceD cells_st cells_sl cells_i cells_y cells_b cells_s cells_w
def insPos (us : List T) (row k : Int) : List Int → Nat
  | [] => 0
  | o :: r => if rLe us row o k = true then insPos us row k r + 1 else 0
theorem insPos_le (us : List T) (row k : Int) : ∀ l : List Int, insPos us row k l ≤ l.length
  | [] => Nat.le_refl _
  | o :: r => by
    have := insPos_le us row k r
    simp only [insPos, List.length_cons]
    split <;> omega
theorem insR_pos (us : List T) (row k : Int) : ∀ l : List Int, insR us row k l = l.take (insPos us row k l) ++ k :: l.drop (insPos us row k l)
  | [] => rfl
  | o :: r => by
    simp only [insR, insPos]
    by_cases h : rLe us row o k = true
    · rw [if_pos h, if_pos h, insR_pos us row k r]; simp
    · rw [if_neg h, if_neg h]; simp
end
section
attribute [-simp] DV.cells
attribute [local simp] sliceD cells_st cells_sl cells_i cells_y cells_b cells_s cells_w
def roL (us : List T) (row : Int) : List Int := if tsOk us && rwOk row then rO us row us.length else []
end
section
inductive PT where
  | stop
  | ask (k : Nat) (no yes : PT)
def fcd (m : Nat) (t : List T) (ks : List Int) : Bool := foT m t ks != -1
end
section
/-- whether a tree asks a test -/
def asks (k : Nat) : PT → Prop
  | .stop => False
  | .ask j n y => j = k ∨ asks k n ∨ asks k y
end
section
open Classical in
noncomputable def rc (P : Nat → Prop) : Nat → Nat
  | 0 => 0
  | n + 1 => rc P n + if P n then 1 else 0
end
section
abbrev C3 := Int × Int × Int
/-- a tree with the places of its choices -/
inductive LT where
  | stop
  | ask (p k : Nat) (no yes : LT)
def LT.er : LT → PT
  | .stop => .stop
  | .ask _ k n y => .ask k n.er y.er
def LT.size : LT → Nat
  | .stop => 0
  | .ask _ _ n y => 1 + n.size + y.size
/-- where one may go on to from a place -/
def nxt (N : Nat) (p : Nat) (a : Int) : Prop := a = -1 ∨ ((p : Int) + 1 ≤ a ∧ a ≤ (N : Int) - 1)
instance (N p : Nat) (a : Int) : Decidable (nxt N p a) := by unfold nxt; infer_instance
/-- the row holds the tree, from a place on -/
def enc (P : List C3) : Int → LT → Prop
  | a, .stop => a = -1
  | a, .ask p k n y => a = (p : Int) ∧ ∃ no ye, P[p]? = some ((k : Int), no, ye) ∧ nxt P.length p no ∧ nxt P.length p ye ∧ enc P no n ∧ enc P ye y
/-- where a row goes on to -/
def rfs : List C3 → List Int
  | [] => []
  | (_, no, ye) :: r => (if no = -1 then [] else [no]) ++ (if ye = -1 then [] else [ye]) ++ rfs r
end
section
def PT.size : PT → Nat
  | .stop => 0
  | .ask _ n y => 1 + n.size + y.size
def rot (P : List C3) : Int := if P = [] then -1 else 0
end
section
attribute [-simp] DV.cells
attribute [local simp] sliceD cells_st cells_sl cells_i cells_y cells_b cells_s cells_w
theorem lend_e3 (P : List C3) : lendL (P.map e3) = P.map e3 := by rw [lendL_map, List.map_map]; rfl
theorem adopt_e3 (o : Bool) (P : List C3) : adoptL o (P.map e3) = P.map e3 := by rw [adoptL_map, List.map_map]; rfl
theorem new_e3 (P : List C3) : allNewL (P.map e3) = true := by rw [allNewL_all, List.all_map, List.all_eq_true]; intro x _; rfl
theorem al_e3 (P : List C3) : allOldL (P.map e3) = true := by rw [allOldL_all, List.all_map, List.all_eq_true]; intro x _; rfl
theorem lt_e3 (n : Nat) (P : List C3) : lendL (List.take n (P.map e3)) = List.take n (P.map e3) := by rw [← List.map_take, lend_e3]
attribute [local simp] lend_e3 adopt_e3 new_e3 al_e3 lt_e3
def C3.nx (c : C3) (b : Bool) : Int := if b then c.2.2 else c.2.1
end
section
def sw (c : C3) : C3 := (c.1, c.2.2, c.2.1)
def LT.sw : LT → LT
  | .stop => .stop
  | .ask p k n y => .ask p k y.sw n.sw
end
section
def aN : List Int → Nat
  | [] => 0
  | k :: r => (if k = -1 then 0 else 1) + 2 * aN r
def kn : List Int → Nat
  | [] => 0
  | k :: r => (if k = -1 then 0 else 1) + kn r
/-- how many ones there are, for small numbers -/
def pc (x : Nat) : Nat := x % 2 + x / 2 % 2 + x / 4 % 2 + x / 8 % 2 + x / 16 % 2
/-- what agrees, as a number -/
def lfW (ks : List Int) : BitVec 32 := agW ks 0 (4294967295#32)
end
section
abbrev Pts := List (Option (List Int))
/-- one goes on to where it is noted -/
def go3 (m : Nat) (t : List T) (N : Nat) (pts : Pts) (p : Int) (a : Int) (ks : List Int) : Prop :=
  (a = -1 ∧ fcd m t ks = true) ∨ (p + 1 ≤ a ∧ a ≤ (N : Int) - 1 ∧ pts[a.toNat]? = some (some ks))
structure Inv (m : Nat) (t : List T) (P : List C3) (p : Nat) (pts : Pts) : Prop where
  len : pts.length = P.length
  nd : (rfs (P.take p)).Nodup
  rng : ∀ a ∈ rfs (P.take p), 1 ≤ a ∧ a < P.length
  iff_ : ∀ a : Nat, a < P.length → (pts[a]? ≠ some none ↔ (a = 0 ∨ (a : Int) ∈ rfs (P.take p)))
  ok : ∀ (a : Nat) (ks : List Int), pts[a]? = some (some ks) → ks.length = m ∧ ks.all kOk = true ∧ fcd m t ks = false
  loc : ∀ q : Nat, q < p → ∃ (ks : List Int) (k no ye : Int), P[q]? = some (k, no, ye) ∧ pts[q]? = some (some ks) ∧ (0 ≤ k ∧ k < m) ∧ ks[k.toNat]? = some (-1) ∧ go3 m t P.length pts q no (ks.set k.toNat 0) ∧ go3 m t P.length pts q ye (ks.set k.toNat 1)
/-- what one step adds to what is gone on to -/
def ad1 (a : Int) : List Int := if a = -1 then [] else [a]
end
section
attribute [-simp] DV.cells
attribute [local simp] sliceD cells_st cells_sl cells_i cells_y cells_b cells_s cells_w
attribute [local simp] lend_e3 adopt_e3 new_e3 al_e3 lt_e3
def pv (m a : Int) (w v : BitVec 32) : DV := .st [.i m, .i a, .w w, .w v]
/-- the point at which so much is known -/
def pD (m : Nat) (t : List T) (ks : List Int) : DV := pv m (aN ks) (lfW ks) (tsW t)
/-- 64 bits: how many are ones -/
theorem c_OnesCount64 {n : Nat} (h : n < 32) : call lf n_math_bits_OnesCount64 [.q n] = some (.i (pc n), []) := by
  rw [call_k lf n_math_bits_OnesCount64 _ (F := F_math_bits_OnesCount64) rfl rfl]
  have c : n = 0 ∨ n = 1 ∨ n = 2 ∨ n = 3 ∨ n = 4 ∨ n = 5 ∨ n = 6 ∨ n = 7 ∨ n = 8 ∨ n = 9 ∨ n = 10 ∨ n = 11 ∨ n = 12 ∨ n = 13 ∨ n = 14 ∨ n = 15 ∨ n = 16 ∨ n = 17 ∨ n = 18 ∨ n = 19 ∨ n = 20 ∨ n = 21 ∨ n = 22 ∨ n = 23 ∨ n = 24 ∨ n = 25 ∨ n = 26 ∨ n = 27 ∨ n = 28 ∨ n = 29 ∨ n = 30 ∨ n = 31 := by omega
  rcases c with rfl | rfl | rfl | rfl | rfl | rfl | rfl | rfl | rfl | rfl | rfl | rfl | rfl | rfl | rfl | rfl | rfl | rfl | rfl | rfl | rfl | rfl | rfl | rfl | rfl | rfl | rfl | rfl | rfl | rfl | rfl | rfl <;>
    simp [F_math_bits_OnesCount64, pc, andI, wr, Go.IntKind.wrap, Go.IntKind.signed, Go.IntKind.bits]
theorem c_OnesCount {n : Nat} (h : n < 32) : call lf n_math_bits_OnesCount [.q n] = some (.i (pc n), []) := by
  have C := c_OnesCount64 h
  rw [call_k lf n_math_bits_OnesCount _ (F := F_math_bits_OnesCount) rfl rfl]
  simp [F_math_bits_OnesCount, C]
theorem c_impl_sizeOf {n : Nat} (h : n < 32) : call lf n_impl_sizeOf [.i n] = some (.i (pc n), []) := by
  have C := c_OnesCount h
  have e : ((n : Int) % 18446744073709551616).toNat = n := by omega
  rw [call_k lf n_impl_sizeOf _ (F := F_impl_sizeOf) rfl rfl]
  simp [F_impl_sizeOf, C, e]
end
section
attribute [-simp] DV.cells
attribute [local simp] sliceD cells_st cells_sl cells_i cells_y cells_b cells_s cells_w
attribute [local simp] lend_e3 adopt_e3 new_e3 al_e3 lt_e3
def e4 (m : Nat) (t : List T) : Option (List Int) → DV
  | some ks => pD m t ks
  | none => pv 0 0 (0#32) (0#32)
end
section
attribute [-simp] DV.cells
attribute [local simp] sliceD cells_st cells_sl cells_i cells_y cells_b cells_s cells_w
attribute [local simp] lend_e3 adopt_e3 new_e3 al_e3 lt_e3
structure Fin (m : Nat) (t : List T) (P : List C3) (L : LT) (pts : Pts) : Prop where
  inv : Inv m t P P.length pts
  start : go3 m t P.length pts (-1) (rot P) (non m)
end
section
attribute [-simp] DV.cells
attribute [local simp] sliceD cells_st cells_sl cells_i cells_y cells_b cells_s cells_w
theorem c_impl_rowOk (row : Int) : call lf n_impl_rowOk [.i row] = some (.b (rwOk row), []) := by
  rw [call_k lf n_impl_rowOk _ (F := F_impl_rowOk) rfl rfl]
  have e : rwOk row = (row == 0 || row == 1) := by
    unfold rwOk
    by_cases h0 : row = 0
    · subst h0; rfl
    · by_cases h1 : row = 1
      · subst h1; rfl
      · have n0 : (row == 0) = false := beq_eq_false_iff_ne.2 h0
        have n1 : (row == 1) = false := beq_eq_false_iff_ne.2 h1
        rw [n0, n1]
        exact decide_eq_false (by omega)
  rw [e]
  cases h0 : (row == 0) with
  | true => simp [F_impl_rowOk, h0]
  | false => simp [F_impl_rowOk, h0]
theorem c_impl_endChance (c q row : Int) (hq : 1 ≤ q ∧ q ≤ 5) : call lf n_impl_endChance [.st [.i c, .i q], .i row] = some (.i (if row = 0 then 6 - q else q), []) := by
  have w1 : wr (6 - q) = 6 - q := wr_id (by omega) (by omega)
  rw [call_k lf n_impl_endChance _ (F := F_impl_endChance) rfl rfl]
  by_cases h : row = 0
  · simp [F_impl_endChance, h, w1]
  · have h' : (row == 0) = false := by simp [h]
    simp [F_impl_endChance, h, h']
theorem c_impl_wholeOf {n : Nat} (hn : n ≤ 5) : call lf n_impl_wholeOf [.i n] = some (.i (6 ^ n), []) := by
  rw [call_k lf n_impl_wholeOf _ (F := F_impl_wholeOf) rfl rfl]
  have L := loop_count (lf := lf) (L := F_impl_wholeOf_L0) n (fun i => ⟨[(3, .i (6 ^ i)), (4, .i n), (5, .i i)], []⟩) (x := .exit 0) (R := ⟨[(3, .i (6 ^ n)), (4, .i n), (5, .i n)], []⟩) (fun i hi => by
    have p := p6 (n := i) (by omega)
    have w1 : wr ((i : Int) + 1) = i + 1 := wr_id (by omega) (by omega)
    have w2 : wr ((6 : Int) ^ i * 6) = 6 ^ i * 6 := wr_id (by omega) (by omega)
    simp [F_impl_wholeOf_L0, hi, w1, w2, Int.pow_succ]) (by simp [F_impl_wholeOf_L0]) (by simp)
  have L' : ex lf F_impl_wholeOf_W0 ⟨[(3, .i 1), (4, .i n), (5, .i 0)], []⟩ = some (.exit 0, ⟨[(3, .i (6 ^ n)), (4, .i n), (5, .i n)], []⟩) := L
  simp [F_impl_wholeOf, L']
set_option maxHeartbeats 4000000 in
theorem eA_calli {us : List T} (h : us.all tOk = true) {row a : Int} (h0 : 0 ≤ a) (h1 : a < us.length) : ∃ c q : Int, atI (us.map e2) a = some (.st [.i c, .i q]) ∧ c = cA us a.toNat ∧ call lf n_impl_endChance [.st [.i c, .i q], .i row] = some (.i (eA us row a.toNat), []) := by
  obtain ⟨c, q, c1, c2, c3⟩ := cA_at (us := us) h0 h1
  refine ⟨c, q, c1, c2, ?_⟩
  have e : us.getD a.toNat (0, 0) = us[a.toNat] := by simp [List.getD, show a.toNat < us.length by omega]
  have tq := tOk_iff.1 (List.all_eq_true.1 h us[a.toNat] (List.getElem_mem (by omega)))
  rw [← e, c3] at tq
  rw [c_impl_endChance c q row tq.2]
  unfold eA
  rw [c3]
set_option maxHeartbeats 4000000 in
theorem l_impl_RowAverage {us : List T} (h : tsOk us = true) (row : Int) (os : List Int) (ho5 : os.length ≤ 5) (rest : List Int) : ∀ (k : Nat) (on sum : Int) (so : Nat), orS us.length so rest = true → 0 ≤ on → on ≤ 6 ^ k → 0 ≤ sum → sum ≤ 70000 * k → k + rest.length = os.length → (os.map DV.i).drop k = rest.map .i →
    ∃ on' : Int, ex lf F_impl_RowAverage_W0 ⟨[(0, .sl 0 (us.map e2)), (2, .i row), (8, .i sum), (9, .i (on * 6 ^ rest.length)), (30, .sl 0 (os.map .i)), (31, .i os.length), (32, .i k)], []⟩ =
      some (.exit 0, ⟨[(0, .sl 0 (us.map e2)), (2, .i row), (8, .i (sum + rA us row on rest)), (9, .i on'), (30, .sl 0 (os.map .i)), (31, .i os.length), (32, .i os.length)], []⟩) := by
  have h' := tsOk_iff.1 h
  induction rest with
  | nil =>
    intro k on sum so ho n0 n1 s0 s1 hn hd
    have hk : k = os.length := by simpa using hn
    refine ⟨on * 6 ^ ([] : List Int).length, ?_⟩
    rw [w_impl_RowAverage_0]
    simp [F_impl_RowAverage_L0, hk, rA]
  | cons a rest ih =>
    intro k on sum so ho n0 n1 s0 s1 hn hd
    obtain ⟨o1, o2, o3⟩ := orS_cons.1 ho
    have hn2 : (k : Int) + ((DV.i a :: rest.map DV.i).length : Nat) = os.length := by simp at hn ⊢; omega
    obtain ⟨q1, q2, q3, q4, q5, q6⟩ := stp (es := os.map DV.i) (by omega) hn2 (by omega) (by simpa using hd)
    have kl : k < os.length := by omega
    obtain ⟨c, q, x1, x2, x3⟩ := eA_calli h'.2 (row := row) o1.1 o1.2
    have cn := cA_nn h'.2 a.toNat
    have ea := eA_bd h'.2 (row := row) (a := a.toNat) (by omega)
    have hl : rest.length + 1 = os.length - k := by simp at hn; omega
    have pb := p6le (i := k) (j := rest.length + 1) (by omega) n0 n1
    have pk := p6 (n := k) (by omega)
    have pr := p6 (n := rest.length) (by omega)
    have m2 : 0 ≤ c * (on * 6 ^ (rest.length + 1)) ∧ c * (on * 6 ^ (rest.length + 1)) ≤ 9 * 7776 := by
      exact ⟨Int.mul_nonneg (by omega) pb.1, Int.mul_le_mul (by omega) pb.2 pb.1 (by omega)⟩
    have w3 : wr (c * (on * 6 ^ (rest.length + 1))) = c * (on * 6 ^ (rest.length + 1)) := wr_id (by omega) (by omega)
    have w4 : wr (sum + c * (on * 6 ^ (rest.length + 1))) = sum + c * (on * 6 ^ (rest.length + 1)) := wr_id (by omega) (by omega)
    have w5 : wr (6 - eA us row a.toNat) = 6 - eA us row a.toNat := wr_id (by omega) (by omega)
    have dv : (on * 6 ^ (rest.length + 1)).tdiv 6 = on * 6 ^ rest.length := by
      rw [Int.pow_succ, ← Int.mul_assoc]
      exact Int.mul_tdiv_cancel _ (by omega)
    have pb0 : 0 ≤ on * 6 ^ rest.length ∧ on * 6 ^ rest.length ≤ 7776 := p6le (i := k) (j := rest.length) (by omega) n0 n1
    have w7 : wr (on * 6 ^ rest.length) = on * 6 ^ rest.length := wr_id (by omega) (by omega)
    have m3 : 0 ≤ on * (6 - eA us row a.toNat) ∧ on * (6 - eA us row a.toNat) ≤ 6 ^ (k + 1) := by
      refine ⟨Int.mul_nonneg n0 (by omega), ?_⟩
      rw [Int.pow_succ]
      exact Int.mul_le_mul n1 (by omega) (by omega) (by omega)
    have m4 : 0 ≤ on * 6 ^ rest.length * (6 - eA us row a.toNat) ∧ on * 6 ^ rest.length * (6 - eA us row a.toNat) ≤ 7776 * 6 :=
      ⟨Int.mul_nonneg pb0.1 (by omega), Int.mul_le_mul pb0.2 (by omega) (by omega) (by omega)⟩
    have w8 : wr (on * 6 ^ rest.length * (6 - eA us row a.toNat)) = on * (6 - eA us row a.toNat) * 6 ^ rest.length := by
      rw [wr_id (by omega) (by omega), Int.mul_assoc, Int.mul_assoc, Int.mul_comm (6 ^ rest.length)]
    have e : sum + rA us row on (a :: rest) = sum + c * (on * 6 ^ (rest.length + 1)) + rA us row (on * (6 - eA us row a.toNat)) rest := by simp only [rA, x2, Int.mul_assoc]; omega
    obtain ⟨on', I⟩ := ih (k + 1) (on * (6 - eA us row a.toNat)) (sum + c * (on * 6 ^ (rest.length + 1))) _ o3 m3.1 m3.2 (by omega) (by omega) (by simp at hn; omega) (by simpa using q6)
    refine ⟨on', ?_⟩
    have q3' : wr ((k : Int) + 1) = ((k + 1 : Nat) : Int) := by rw [q3]; omega
    have o11 := o1.1
    have o12 := o1.2
    rw [w_impl_RowAverage_0, e]
    simp only [List.length_cons] at *
    generalize on * (6 - eA us row a.toNat) * 6 ^ rest.length = G at *
    generalize on * 6 ^ (rest.length + 1) = P at *
    generalize on * 6 ^ rest.length = Q at *
    generalize rA us row _ rest = Z at *
    generalize eA us row a.toNat = E at *
    simp [F_impl_RowAverage_L0, kl, q1, q2, q3', o11, o12, x1, x3, w3, w4, w5, dv, w7, w8, I, -Int.natCast_add]
theorem c_impl_RowAverage (us : List T) (os : List Int) (row : Int) (ha : (us.length : Int) < 1099511627776) (hc : (os.length : Int) < 1099511627776) :
    call lf n_impl_RowAverage [.sl 0 (us.map e2), .sl 0 (os.map .i), .i row] = some (.i (raOf us os row), []) := by
  rw [call_k lf n_impl_RowAverage _ (F := F_impl_RowAverage) rfl rfl]
  have C1 := c_impl_TestsOk us ha
  have C3 := c_impl_OrderOk us.length os hc
  have C4 := c_impl_rowOk row
  unfold raOf raOk
  cases h1 : tsOk us with
  | false => rw [h1] at C1; simp [F_impl_RowAverage, C1]
  | true =>
    rw [h1] at C1
    cases h3 : orOk us.length os with
    | false => rw [h3] at C3; simp [F_impl_RowAverage, C1, C3]
    | true =>
      rw [h3] at C3
      cases h4 : rwOk row with
      | false =>
        rw [h4] at C4
        simp [F_impl_RowAverage, C1, C3, C4]
      | true =>
        rw [h4] at C4
        obtain ⟨g1, g2, g3⟩ := orOk_iff.1 h3
        have W := c_impl_wholeOf (n := us.length) (by omega)
        obtain ⟨on', L⟩ := l_impl_RowAverage h1 row os (by omega) os 0 1 0 0 g3 (by omega) (by omega) (by omega) (by omega) (by omega) (by simp)
        have el : os.length = us.length := by omega
        simp only [Int.natCast_zero, Int.zero_add, Int.one_mul, el] at L
        simp [F_impl_RowAverage, C1, C3, C4, W, el, L]
end
section
/-- what it costs, the parts in which it ends all, and its whole -/
abbrev I3 := Int × Int × Int
def gM : List I3 → Int
  | [] => 1
  | x :: r => x.2.2 * gM r
def gD : List I3 → Int
  | [] => 0
  | x :: r => x.1 * gM r + (x.2.2 - x.2.1) * gD r
end
section
def pA (us : List T) (k : Nat) : Int := (us.getD k (0, 0)).2
theorem pA_bd {us : List T} (h : us.all tOk = true) {k : Nat} (hk : k < us.length) : 1 ≤ pA us k ∧ pA us k ≤ 5 := by
  unfold pA
  have e : us.getD k (0, 0) = us[k] := by simp [List.getD, hk]
  rw [e]
  have := tOk_iff.1 (List.all_eq_true.1 h us[k] (List.getElem_mem hk))
  omega
/-- groups: all tests, each once -/
structure Gok (m : Nat) (L : List (List Nat)) : Prop where
  lt : ∀ g ∈ L, ∀ k ∈ g, k < m
  nd : L.flatten.Nodup
  all : ∀ k, k < m → k ∈ L.flatten
  ne : ∀ g ∈ L, g ≠ []
end
section
theorem gok_len {m : Nat} {L : List (List Nat)} (G : Gok m L) : L.flatten.length = m := by
  have : L.flatten.Perm (List.range m) := (List.perm_ext_iff_of_nodup G.nd List.nodup_range).2 fun k => by
    rw [List.mem_range]
    refine ⟨fun hk => ?_, G.all k⟩
    obtain ⟨g, h1, h2⟩ := List.mem_flatten.1 hk
    exact G.lt g h1 k h2
  rw [this.length_eq, List.length_range]
end
section
attribute [-simp] DV.cells
attribute [local simp] sliceD cells_st cells_sl cells_i cells_y cells_b cells_s cells_w
theorem lend_eR (L : List (List Int)) : lendL (L.map eR) = L.map eR := by
  rw [lendL_map, List.map_map]
  apply List.map_congr_left
  intro r _
  simp [eR, DV.lend]
theorem al_eR (L : List (List Int)) : allOldL (L.map eR) = true := by
  rw [allOldL_all, List.all_map, List.all_eq_true]
  intro r _
  simp [eR, DV.allOld]
attribute [local simp] lend_eR al_eR
def gokB (m : Int) (L : List (List Int)) : Bool := L.all (fun r => !r.isEmpty) && orOk m L.flatten
def gAl (m : Int) : Nat → List (List Int) → Bool
  | _, [] => true
  | n, r :: L => decide (1 ≤ (r.length : Int) ∧ (r.length : Int) ≤ m - n) && gAl m (n + r.length) L
theorem gAl_iff {m : Int} : ∀ {L : List (List Int)} {n : Nat}, (n : Int) ≤ m → (gAl m n L = true ↔ L.all (fun r => !r.isEmpty) = true ∧ ((n + L.flatten.length : Nat) : Int) ≤ m)
  | [], n, h => by simp [gAl, h]
  | r :: L, n, h => by
    simp only [gAl, Bool.and_eq_true, decide_eq_true_eq, List.all_cons, List.flatten_cons, List.length_append]
    by_cases hr : (r.length : Int) ≤ m - n
    · rw [gAl_iff (L := L) (n := n + r.length) (by omega)]
      cases r with
      | nil => simp
      | cons a r =>
        simp only [List.isEmpty_cons, Bool.not_false, true_and, List.length_cons] at *
        constructor
        · rintro ⟨_, h1, h2⟩; exact ⟨h1, by omega⟩
        · rintro ⟨h1, h2⟩; exact ⟨⟨by omega, by omega⟩, h1, by omega⟩
    · constructor
      · rintro ⟨⟨_, h2⟩, _⟩; exact absurd h2 hr
      · rintro ⟨_, h2⟩; omega
theorem gokB_al {m : Int} (hm : 1 ≤ m ∧ m ≤ 5) (L : List (List Int)) : gokB m L = (gAl m 0 L && orOk m L.flatten) := by
  unfold gokB
  cases h : orOk m L.flatten with
  | false => simp
  | true =>
    have := orOk_len h
    rw [Bool.and_true, Bool.and_true, Bool.eq_iff_iff, gAl_iff (by omega)]
    exact ⟨fun h => ⟨h, by omega⟩, fun h => h.1⟩
def stGk (m : Int) (L : List (List Int)) (acc : List Int) (k : Nat) : LS := ⟨[(0, .i m), (5, .own 2568 acc.length 0 acc.length), (11, .sl 0 (L.map eR)), (12, .i L.length), (13, .i k)], [(2568, acc.map .i)]⟩
theorem l_impl_GroupsOk {m : Int} (hm : 1 ≤ m ∧ m ≤ 5) (A : List (List Int)) (hb : (A.length : Int) < 1099511627776) : ∀ (L : List (List Int)) (k : Nat) (acc : List Int), (acc.length : Int) ≤ m → k + L.length = A.length → A.drop k = L →
    ex lf F_impl_GroupsOk_W0 (stGk m A acc k) = if gAl m acc.length L = true then some (.exit 0, stGk m A (acc ++ L.flatten) A.length) else some (.ret, ⟨[(4, .b false)], []⟩)
  | [], k, acc, ha, hk, hd => by
    have e : k = A.length := by simpa using hk
    subst e
    rw [w_impl_GroupsOk_0]
    simp [stGk, F_impl_GroupsOk_L0, gAl]
  | r :: L, k, acc, ha, hk, hd => by
    simp only [List.length_cons] at hk
    have hlt : (k : Int) < A.length := by omega
    have hd2 : A.drop (k + 1) = L := by rw [← List.drop_drop, hd]; rfl
    have hat : A[k]? = some r := by
      have := congrArg (fun l => l[0]?) hd
      simpa using this
    have at1 : atI (A.map eR) (k : Int) = some (.sl 0 (r.map .i)) := by
      simp only [atI, if_pos (Int.natCast_nonneg k)]
      show (A.map eR)[(k : Int).toNat]? = _
      rw [Int.toNat_natCast, List.getElem?_map, hat]; rfl
    have w1 : wr ((k : Int) + 1) = ((k + 1 : Nat) : Int) := by rw [wr_id (by omega) (by omega)]; omega
    have w2 : wr (m - acc.length) = m - acc.length := wr_id (by omega) (by omega)
    have W := c_impl_isWithin (r.length : Int) 1 (m - acc.length)
    rw [w_impl_GroupsOk_0]
    by_cases hr : 1 ≤ (r.length : Int) ∧ (r.length : Int) ≤ m - acc.length
    · rw [decide_eq_true hr] at W
      have ih := l_impl_GroupsOk hm A hb L (k + 1) (acc ++ r) (by simp; omega) (by omega) hd2
      have e : gAl m acc.length (r :: L) = gAl m (acc ++ r).length L := by simp only [gAl]; rw [decide_eq_true hr]; simp
      rw [e, List.flatten_cons, ← List.append_assoc, ← ih]
      have c1 : acc.length + r.length ≤ bound := by unfold bound; omega
      unfold stGk
      simp [F_impl_GroupsOk_L0, hlt, at1, w1, w2, W, c1, -Int.natCast_add]
    · rw [decide_eq_false hr] at W
      have e : gAl m acc.length (r :: L) = false := by simp only [gAl]; rw [decide_eq_false hr]; rfl
      rw [e]
      unfold stGk
      simp [F_impl_GroupsOk_L0, hlt, at1, w1, w2, W, -Int.natCast_add]
theorem c_impl_GroupsOk (m : Int) (L : List (List Int)) (hb : (L.length : Int) < 1099511627776) : call lf n_impl_GroupsOk [.i m, .sl 0 (L.map eR)] = some (.b (gokB m L), []) := by
  rw [call_k lf n_impl_GroupsOk _ (F := F_impl_GroupsOk) rfl rfl]
  cases h1 : nOk m with
  | false =>
    have e : gokB m L = false := by unfold gokB orOk; simp [h1]
    simp [F_impl_GroupsOk, c_impl_manyOk, h1, e]
  | true =>
    have hm := nOk_iff.1 h1
    rw [gokB_al hm]
    have I := l_impl_GroupsOk hm L hb L 0 [] (by simp; omega) (by simp) rfl
    unfold stGk at I
    simp only [List.length_nil, List.map_nil, Int.natCast_zero, List.nil_append] at I
    cases h2 : gAl m 0 L with
    | false =>
      rw [h2] at I
      simp at I
      simp [F_impl_GroupsOk, c_impl_manyOk, h1, I]
    | true =>
      rw [h2, if_pos rfl] at I
      have l5 := ((gAl_iff (n := 0) (by omega)).1 h2).2
      have C := c_impl_OrderOk m L.flatten (by omega)
      generalize L.flatten = M at *
      have tk : List.take M.length (M.map DV.i) = M.map .i := List.take_of_length_le (by simp)
      simp [F_impl_GroupsOk, c_impl_manyOk, h1, I, C, tk]
end
section
attribute [-simp] DV.cells
attribute [local simp] sliceD cells_st cells_sl cells_i cells_y cells_b cells_s cells_w
attribute [local simp] lend_eR al_eR
theorem at_eR {A : List (List Int)} {k : Nat} {r : List Int} (h : A[k]? = some r) : atI (A.map eR) (k : Int) = some (.sl 0 (r.map .i)) := by
  simp only [atI, if_pos (Int.natCast_nonneg k)]
  show (A.map eR)[(k : Int).toNat]? = _
  rw [Int.toNat_natCast, List.getElem?_map, h]; rfl
theorem atI_int {r : List Int} {j : Nat} {a : Int} (h : r[j]? = some a) : atI (r.map DV.i) (j : Int) = some (.i a) := by
  simp only [atI, if_pos (Int.natCast_nonneg j)]
  show (r.map DV.i)[(j : Int).toNat]? = _
  rw [Int.toNat_natCast, List.getElem?_map, h]; rfl
theorem wr_succ {k : Nat} (h : (k : Int) < 1099511627776) : wr ((k : Int) + 1) = ((k + 1 : Nat) : Int) := by rw [wr_id (by omega) (by omega)]; omega
end
section
attribute [-simp] DV.cells
attribute [local simp] sliceD cells_st cells_sl cells_i cells_y cells_b cells_s cells_w
attribute [local simp] lend_eR al_eR
def ni (l : List Nat) : List Int := l.map fun k : Nat => (k : Int)
theorem ni_len (l : List Nat) : (ni l).length = l.length := by simp [ni]
theorem ni_toNat (l : List Nat) : (ni l).map Int.toNat = l := by
  unfold ni
  rw [List.map_map]
  conv => rhs; rw [← List.map_id l]
  apply List.map_congr_left
  intro k _
  simp
theorem ni_app (p q : List Nat) : ni (p ++ q) = ni p ++ ni q := by simp [ni]
theorem atT {us : List T} {k : Nat} (hk : k < us.length) : atI (us.map e2) (k : Int) = some (.st [.i (cA us k), .i (pA us k)]) := by
  simp only [atI, if_pos (Int.natCast_nonneg k)]
  show (us.map e2)[(k : Int).toNat]? = _
  rw [Int.toNat_natCast, List.getElem?_map, List.getElem?_eq_getElem hk]
  unfold cA pA
  simp [List.getD, hk, e2]
theorem cA_bd {us : List T} (h : us.all tOk = true) {k : Nat} (hk : k < us.length) : 1 ≤ cA us k ∧ cA us k ≤ 9 := by
  have := tOk_iff.1 (List.all_eq_true.1 h us[k] (List.getElem_mem hk))
  unfold cA
  simp only [List.getD, List.getElem?_eq_getElem hk, Option.getD_some]
  exact this.1
theorem at_ni {L : List Nat} {j k : Nat} (h : L[j]? = some k) : atI ((ni L).map DV.i) (j : Int) = some (.i k) ∧ atN ((ni L).map DV.i) j = some (.i k) := by
  have h' : (ni L)[j]? = some (k : Int) := by unfold ni; rw [List.getElem?_map, h]; rfl
  refine ⟨atI_int h', ?_⟩
  show ((ni L).map DV.i)[j]? = _
  rw [List.getElem?_map, h']; rfl
end
section
attribute [-simp] DV.cells
attribute [local simp] sliceD cells_st cells_sl cells_i cells_y cells_b cells_s cells_w
attribute [local simp] lend_eR al_eR
theorem gok_of {m : Nat} (hm : 1 ≤ m ∧ m ≤ 5) {L : List (List Int)} (h : gokB m L = true) : ∃ N : List (List Nat), L = N.map ni ∧ Gok m N := by
  unfold gokB at h
  rw [Bool.and_eq_true] at h
  obtain ⟨h1, h2⟩ := h
  obtain ⟨o1, o2, o3⟩ := orOk_iff.1 h2
  obtain ⟨o4, o5⟩ := orS_nodup.1 o3
  have e : L = (L.map (List.map Int.toNat)).map ni := by
    rw [List.map_map]
    conv => lhs; rw [← List.map_id L]
    apply List.map_congr_left
    intro r hr
    show r = ni (r.map Int.toNat)
    unfold ni
    rw [List.map_map]
    conv => lhs; rw [← List.map_id r]
    apply List.map_congr_left
    intro a ha
    have := (o4 a (List.mem_flatten.2 ⟨r, hr, ha⟩)).1
    show a = ((a.toNat : Nat) : Int)
    omega
  have ef : (L.map (List.map Int.toNat)).flatten = L.flatten.map Int.toNat := by rw [List.map_flatten]
  have lt : ∀ g ∈ L.map (List.map Int.toNat), ∀ k ∈ g, k < m := by
    intro g hg k hk
    obtain ⟨r, hr, rfl⟩ := List.mem_map.1 hg
    obtain ⟨a, ha, rfl⟩ := List.mem_map.1 hk
    have := (o4 a (List.mem_flatten.2 ⟨r, hr, ha⟩)).1
    omega
  have nd : (L.map (List.map Int.toNat)).flatten.Nodup := by
    rw [ef, List.nodup_iff_pairwise_ne, List.pairwise_map]
    refine List.Pairwise.imp_of_mem (fun {a b} ha hb hab h => hab ?_) (List.nodup_iff_pairwise_ne.1 o5)
    have := (o4 a ha).1
    have := (o4 b hb).1
    omega
  refine ⟨_, e, lt, nd, fun k hk => ?_, ?_⟩
  · rw [ef, List.mem_map]
    have p := (or_perm h2).mem_iff.2 (mem_rng.2 (show 0 ≤ (k : Int) ∧ (k : Int) < ((m : Int).toNat : Nat) by omega))
    exact ⟨(k : Int), p, by simp⟩
  · intro g hg
    obtain ⟨r, hr, rfl⟩ := List.mem_map.1 hg
    have := List.all_eq_true.1 h1 r hr
    simpa using this
theorem gok_to {m : Nat} (hm : 1 ≤ m ∧ m ≤ 5) {N : List (List Nat)} (G : Gok m N) : gokB m (N.map ni) = true := by
  unfold gokB
  rw [Bool.and_eq_true]
  have ef : (N.map ni).flatten = ni N.flatten := by unfold ni; rw [List.map_flatten]
  refine ⟨?_, ?_⟩
  · rw [List.all_map, List.all_eq_true]
    intro g hg
    have := G.ne g hg
    cases g with
    | nil => exact absurd rfl this
    | cons a g => rfl
  · rw [ef, orOk_iff, orS_nodup]
    refine ⟨by omega, by rw [ni_len, gok_len G], fun o ho => ?_, ?_⟩
    · obtain ⟨k, hk, rfl⟩ := List.mem_map.1 ho
      obtain ⟨g, h1, h2⟩ := List.mem_flatten.1 hk
      have := G.lt g h1 k h2
      exact ⟨by omega, by simp⟩
    · unfold ni
      rw [List.nodup_iff_pairwise_ne, List.pairwise_map]
      exact List.Pairwise.imp (fun {a b} (hab : a ≠ b) h => hab (Int.ofNat_inj.1 h)) (List.nodup_iff_pairwise_ne.1 G.nd)
end
section
attribute [-simp] DV.cells
attribute [local simp] sliceD cells_st cells_sl cells_i cells_y cells_b cells_s cells_w
theorem c_impl_ratioOf (c q row : Int) (hq : 1 ≤ q ∧ q ≤ 5) : call lf n_impl_ratioOf [.st [.i c, .i q], .i row] = some (.st [.i c, .i (if row = 0 then 6 - q else q)], []) := by
  rw [call_k lf n_impl_ratioOf _ (F := F_impl_ratioOf) rfl rfl]
  have C := c_impl_endChance c q row hq
  generalize (if row = 0 then 6 - q else q) = z at *
  simp [F_impl_ratioOf, C]
theorem c_impl_isLess (a b x y : Int) (h1 : 0 ≤ a * y ∧ a * y ≤ 1000) (h2 : 0 ≤ x * b ∧ x * b ≤ 1000) : call lf n_impl_ratio_isLess [.st [.i a, .i b], .st [.i x, .i y]] = some (.b (decide (a * y < x * b)), []) := by
  rw [call_k lf n_impl_ratio_isLess _ (F := F_impl_ratio_isLess) rfl rfl]
  have w1 : wr (a * y) = a * y := wr_id (by omega) (by omega)
  have w2 : wr (x * b) = x * b := wr_id (by omega) (by omega)
  simp [F_impl_ratio_isLess, w1, w2]
theorem c_impl_less {us : List T} (h : tsOk us = true) (row : Int) {a b : Int} (ha : 0 ≤ a ∧ a < us.length) (hb : 0 ≤ b ∧ b < us.length) :
    call lf n_impl_RatioOrder_1 [.i a, .i b, .adr (.sl 0 (us.map e2)), .adr (.i row)] = some (.b (!(rLe us row b a)), []) := by
  have h' := tsOk_iff.1 h
  obtain ⟨c1, q1, x1, x2, x3⟩ := cA_at (us := us) ha.1 ha.2
  obtain ⟨c2, q2, y1, y2, y3⟩ := cA_at (us := us) hb.1 hb.2
  have tq1 := tOk_iff.1 (List.all_eq_true.1 h'.2 us[a.toNat] (List.getElem_mem (by omega)))
  have tq2 := tOk_iff.1 (List.all_eq_true.1 h'.2 us[b.toNat] (List.getElem_mem (by omega)))
  rw [← show us.getD a.toNat (0, 0) = us[a.toNat] by simp [List.getD, show a.toNat < us.length by omega], x3] at tq1
  rw [← show us.getD b.toNat (0, 0) = us[b.toNat] by simp [List.getD, show b.toNat < us.length by omega], y3] at tq2
  have R1 := c_impl_ratioOf c1 q1 row tq1.2
  have R2 := c_impl_ratioOf c2 q2 row tq2.2
  have e1 : (if row = 0 then 6 - q1 else q1) = eA us row a.toNat := by unfold eA; rw [x3]
  have e2' : (if row = 0 then 6 - q2 else q2) = eA us row b.toNat := by unfold eA; rw [y3]
  rw [e1] at R1
  rw [e2'] at R2
  have b1 := eA_bd h'.2 (row := row) (a := a.toNat) (by omega)
  have b2 := eA_bd h'.2 (row := row) (a := b.toNat) (by omega)
  have t1 := tq1.1
  have t2 := tq2.1
  simp only at t1 t2
  have I := c_impl_isLess c1 (eA us row a.toNat) c2 (eA us row b.toNat) ⟨Int.mul_nonneg (by omega) (by omega), Int.le_trans (Int.mul_le_mul (show c1 ≤ 9 by omega) (show eA us row b.toNat ≤ 5 by omega) (by omega) (by omega)) (by omega)⟩ ⟨Int.mul_nonneg (by omega) (by omega), Int.le_trans (Int.mul_le_mul (show c2 ≤ 9 by omega) (show eA us row a.toNat ≤ 5 by omega) (by omega) (by omega)) (by omega)⟩
  have e : (!(rLe us row b a)) = decide (c1 * eA us row b.toNat < c2 * eA us row a.toNat) := by
    unfold rLe
    rw [← x2, ← y2]
    by_cases hc : c2 * eA us row a.toNat ≤ c1 * eA us row b.toNat
    · rw [decide_eq_true hc, decide_eq_false (by omega)]; rfl
    · rw [decide_eq_false hc, decide_eq_true (by omega)]; rfl
  rw [e]
  have ha1 := ha.1
  have ha2 := ha.2
  have hb1 := hb.1
  have hb2 := hb.2
  rw [call_k lf n_impl_RatioOrder_1 _ (F := F_impl_RatioOrder_1) rfl rfl]
  simp [F_impl_RatioOrder_1, x1, y1, R1, R2, I]
theorem c_Insert (es : List DV) (x : DV) {n : Nat} (hn : n ≤ es.length) (hb : es.length ≤ 1000) : call lf n_slices_Insert_int_int [.gv 1 es, .i n, .gv 1 [x]] = some (.fr 1 (es.take n ++ x :: es.drop n), []) := by
  rw [call_prim lf n_slices_Insert_int_int _ (F := F_slices_Insert_int_int) rfl rfl, ins_k, if_pos ⟨by omega, by omega, by simp [bound]; omega, by simp⟩]
  simp
def stIs (us : List T) (row k : Int) (L : List Int) (a : Nat) : LS := ⟨[(0, .own 14 L.length 0 L.length), (1, .i k), (2, .fn n_impl_RatioOrder_1 [.adr (.sl 0 (us.map e2)), .adr (.i row)]), (7, .i a)], [(14, L.map .i)]⟩
set_option maxHeartbeats 4000000 in
theorem ins_loop {us : List T} (h : tsOk us = true) (row : Int) {k : Int} (hk : 0 ≤ k ∧ k < us.length) {L : List Int} (hL : L.length ≤ 5) {p : Nat} (H : ∀ j (hj : j < L.length), (0 ≤ L[j] ∧ L[j] < us.length) ∧ rLe us row L[j] k = decide (j < p)) : ∀ d : Nat, p + d ≤ L.length →
    ex lf F_impl_inserted_int_W0 (stIs us row k L (p + d)) = some (.exit 0, stIs us row k L p) := by
  have tk : List.take L.length (L.map DV.i) = L.map .i := List.take_of_length_le (by simp)
  have one : ∀ (j : Nat) (hj : j < L.length), atI (L.map DV.i) ((j : Nat) : Int) = some (.i L[j]) ∧ atN (L.map DV.i) j = some (.i L[j]) ∧ wr (((j + 1 : Nat) : Int) - 1) = (j : Nat) ∧ (0 : Int) < ((j + 1 : Nat) : Int) ∧ call lf n_impl_RatioOrder_1 [.i k, .i L[j], .adr (.sl 0 (us.map e2)), .adr (.i row)] = some (.b (!(decide (j < p))), []) := by
    intro j hj
    obtain ⟨h1, h2⟩ := H j hj
    refine ⟨?_, ?_, ?_, by omega, ?_⟩
    · simp only [atI, if_pos (Int.natCast_nonneg _)]
      show (L.map DV.i)[((j : Nat) : Int).toNat]? = _
      rw [Int.toNat_natCast]; simp [hj]
    · show (L.map DV.i)[j]? = _
      simp [hj]
    · rw [wr_id (by omega) (by omega)]; omega
    · rw [c_impl_less h row hk h1, h2]
  intro d
  induction d with
  | zero =>
    intro hd
    cases p with
    | zero =>
      rw [w_impl_inserted_int_0]
      simp [stIs, F_impl_inserted_int_L0]
    | succ p =>
      obtain ⟨q1, q2, q3, q4, q5⟩ := one p (by omega)
      rw [decide_eq_true (show p < p + 1 by omega)] at q5
      have hp : p < L.length := by omega
      rw [w_impl_inserted_int_0]
      simp [stIs, F_impl_inserted_int_L0, tk, q1, q2, q3, q4, q5, hp, -Int.natCast_add]
  | succ d ih =>
    intro hd
    obtain ⟨q1, q2, q3, q4, q5⟩ := one (p + d) (by omega)
    rw [decide_eq_false (show ¬ p + d < p by omega)] at q5
    have hp : p + d < L.length := by omega
    have I := ih (by omega)
    rw [w_impl_inserted_int_0, show p + (d + 1) = p + d + 1 by omega]
    unfold stIs at *
    simp [F_impl_inserted_int_L0, tk, q1, q2, q3, q4, q5, hp, I, -Int.natCast_add]
theorem c_impl_inserted {us : List T} (h : tsOk us = true) (row : Int) {k : Int} (hk : 0 ≤ k ∧ k < us.length) {L : List Int} (hL : L.length ≤ 5) {p : Nat} (hp : p ≤ L.length) (H : ∀ j (hj : j < L.length), (0 ≤ L[j] ∧ L[j] < us.length) ∧ rLe us row L[j] k = decide (j < p)) :
    call lf n_impl_inserted_int [.gv 1 (L.map .i), .i k, .fn n_impl_RatioOrder_1 [.adr (.sl 0 (us.map e2)), .adr (.i row)]] = some (.fr 1 ((L.take p ++ k :: L.drop p).map .i), []) := by
  have W := ins_loop h row hk hL H (L.length - p) (by omega)
  rw [show p + (L.length - p) = L.length by omega] at W
  unfold stIs at W
  have I := c_Insert (L.map .i) (.i k) (n := p) (by simpa using hp) (by simp; omega)
  have e : (L.map DV.i).take p ++ DV.i k :: (L.map DV.i).drop p = (L.take p ++ k :: L.drop p).map .i := by simp
  rw [e] at I
  have le : (L.take p ++ k :: L.drop p).length = L.length + 1 := by simp; omega
  rw [call_k lf n_impl_inserted_int _ (F := F_impl_inserted_int) rfl rfl]
  generalize L.take p ++ k :: L.drop p = M at *
  simp [F_impl_inserted_int, W, I]
theorem rO_split {us : List T} (h : tsOk us = true) (row : Int) {i : Nat} (hi : i < us.length) : ∀ j (hj : j < (rO us row i).length), (0 ≤ (rO us row i)[j] ∧ (rO us row i)[j] < us.length) ∧ rLe us row (rO us row i)[j] i = decide (j < insPos us row i (rO us row i)) := by
  have h' := tsOk_iff.1 h
  have S := rO_sorted h'.2 row i (by omega)
  have M : ∀ o ∈ rO us row i, 0 ≤ o ∧ o < us.length := fun o ho => by have := rO_mem ho; omega
  generalize rO us row i = L at *
  intro j hj
  refine ⟨M _ (List.getElem_mem hj), ?_⟩
  induction L generalizing j with
  | nil => simp at hj
  | cons o r ih =>
    obtain ⟨p1, p2⟩ := List.pairwise_cons.1 S
    have ih := ih p2 (fun o ho => M o (List.mem_cons_of_mem _ ho))
    by_cases hc : rLe us row o i = true
    · have e : insPos us row i (o :: r) = insPos us row i r + 1 := by simp only [insPos]; rw [if_pos hc]
      rw [e]
      cases j with
      | zero => simp [hc]
      | succ j =>
        have := ih j (by simpa using hj)
        rw [List.getElem_cons_succ, this]
        simp
    · have e : insPos us row i (o :: r) = 0 := by simp only [insPos]; rw [if_neg hc]
      rw [e]
      have hf : rLe us row o i = false := by simpa using hc
      cases j with
      | zero => simp [hf]
      | succ j =>
        rw [List.getElem_cons_succ]
        have hj' : j < r.length := by simpa using hj
        have hm := M _ (List.mem_cons_self ..)
        have hr := M _ (List.mem_cons_of_mem _ (List.getElem_mem hj'))
        cases hq : rLe us row r[j] i with
        | false => simp
        | true =>
          have := rLe_trans h'.2 (row := row) (a := o) (b := r[j]) (c := (i : Int)) (by omega) (by omega) (by omega) (p1 _ (List.getElem_mem hj')) hq
          rw [hf] at this; cases this
def stOi (us : List T) (row : Int) (K : Nat) (L : List Int) (i : Nat) : LS := ⟨[(5, .fn n_impl_RatioOrder_1 [.adr (.sl 0 (us.map e2)), .adr (.i row)]), (6, .own K L.length 0 L.length), (18, .i us.length), (19, .i i)], [(K, L.map .i)]⟩
set_option maxHeartbeats 4000000 in
theorem ratio_outerI {us : List T} (h : tsOk us = true) (row : Int) (j : Nat) : ∀ (i K : Nat), (K = 3080 ∨ K = 12808) → i + j = us.length →
    ex lf F_impl_RatioOrder_W0 (stOi us row K (rO us row i) i) = some (.exit 0, stOi us row 3080 (rO us row us.length) us.length) := by
  have h' := tsOk_iff.1 h
  induction j with
  | zero =>
    intro i K hK hi
    have e : i = us.length := by omega
    subst e
    rw [w_impl_RatioOrder_0]
    rcases hK with rfl | rfl <;> simp [stOi, F_impl_RatioOrder_L0]
  | succ j ih =>
    intro i K hK hi
    have k2 := ih (i + 1) 12808 (.inr rfl) (by omega)
    have hlt : i < us.length := by omega
    have ll := rO_len us row i
    have pl := insPos_le us row i (rO us row i)
    have I := c_impl_inserted h row (k := (i : Nat)) ⟨by omega, by omega⟩ (L := rO us row i) (by omega) pl (rO_split h row hlt)
    rw [← insR_pos us row i (rO us row i), show insR us row i (rO us row i) = rO us row (i + 1) from rfl] at I
    have l2 := rO_len us row (i + 1)
    have w1 : wr ((i : Int) + 1) = ((i + 1 : Nat) : Int) := by rw [wr_id (by omega) (by omega)]; omega
    have lt' : (i : Int) < us.length := by omega
    unfold stOi at *
    rw [l2] at k2
    rw [ll]
    have m1 : ((rO us row i).map DV.i).length = i := by simp [ll]
    have m2 : ((rO us row (i + 1)).map DV.i).length = i + 1 := by simp [l2]
    have lm : lendL ((rO us row i).map DV.i) = (rO us row i).map .i := by simp
    have am : ∀ b, adoptL b ((rO us row (i + 1)).map DV.i) = (rO us row (i + 1)).map .i := fun b => by simp
    rw [w_impl_RatioOrder_0]
    generalize (rO us row i).map DV.i = M at *
    generalize (rO us row (i + 1)).map DV.i = M2 at *
    rcases hK with rfl | rfl <;> simp [F_impl_RatioOrder_L0, hlt, lt', I, w1, k2, m1, m2, lm, am, -Int.natCast_add]
theorem c_impl_RatioOrder (us : List T) (row : Int) (ha : (us.length : Int) < 1099511627776) : call lf n_impl_RatioOrder [.sl 0 (us.map e2), .i row] = some (.fr 1 ((roL us row).map .i), []) := by
  rw [call_k lf n_impl_RatioOrder _ (F := F_impl_RatioOrder) rfl rfl]
  have C1 := c_impl_TestsOk us ha
  have C2 := c_impl_rowOk row
  unfold roL
  cases h1 : tsOk us with
  | false => rw [h1] at C1; simp [F_impl_RatioOrder, C1]
  | true =>
    rw [h1] at C1
    cases h2 : rwOk row with
    | false => rw [h2] at C2; simp [F_impl_RatioOrder, C1, C2]
    | true =>
      rw [h2] at C2
      have L := ratio_outerI h1 row us.length 0 3080 (.inl rfl) (by omega)
      unfold stOi at L
      have z : (rO us row 0).map DV.i = [] := rfl
      have z' : (rO us row 0).length = 0 := rfl
      rw [z, z'] at L
      simp only [Int.natCast_zero] at L
      have ll := rO_len us row us.length
      rw [ll] at L
      simp [F_impl_RatioOrder, C1, C2, L, ll]
end
section
def ci (ts : List Int) (i : Nat) : List DV := (ts.take i).map .i ++ List.replicate (ts.length - i) (.i 0)
end
section
attribute [-simp] DV.cells
attribute [local simp] sliceD cells_st cells_sl cells_i cells_y cells_b cells_s cells_w
attribute [local simp] lend_eR al_eR
def eN (r : List Int) : DV := .sl 1 (r.map .i)
theorem lend_eN (L : List (List Int)) : lendL (L.map eN) = L.map eR := by
  rw [lendL_map, List.map_map]
  apply List.map_congr_left
  intro r _
  simp [eN, eR, DV.lend]
theorem adopt_eN (o : Bool) (L : List (List Int)) : adoptL o (L.map eN) = L.map eN := by
  rw [adoptL_map, List.map_map]
  apply List.map_congr_left
  intro r _
  simp [eN, DV.adopt, adoptP]
theorem new_eN (L : List (List Int)) : allNewL (L.map eN) = true := by
  rw [allNewL_all, List.all_map, List.all_eq_true]
  intro r _
  simp [eN, DV.allNew, newP]
attribute [local simp] lend_eN adopt_eN new_eN
end
section
attribute [-simp] DV.cells
attribute [local simp] sliceD cells_st cells_sl cells_i cells_y cells_b cells_s cells_w
attribute [local simp] lend_eR al_eR lend_eN adopt_eN new_eN
theorem cells_cel (k n : Nat) : (DV.cel k n).cells = [.cel k n] := rfl
theorem noc_i (xs : List Int) : noCelL (xs.map DV.i) = true := by rw [noCelL_all, List.all_map, List.all_eq_true]; intro x _; rfl
theorem noc_y (xs : List Nat) : noCelL (xs.map DV.y) = true := by rw [noCelL_all, List.all_map, List.all_eq_true]; intro x _; rfl
theorem noc_eN (L : List (List Int)) : noCelL (L.map eN) = true := by
  rw [noCelL_all, List.all_map, List.all_eq_true]
  intro x _
  show noCelL (x.map DV.i) = true
  exact noc_i x
theorem c_odd0 (bs : List Nat) (p : Int) : call lf n_spec_l20Rd_odd [.ref (.st [.sl 0 (bs.map .y), .i p]), .i 0] = some (.b false, [.st [.sl 0 (bs.map .y), .i p]]) := by
  rw [call_k lf n_spec_l20Rd_odd _ (F := F_spec_l20Rd_odd) rfl rfl]
  simp [F_spec_l20Rd_odd]
theorem c_l20OrderG {bs : List Nat} (hb : ∀ y ∈ bs, y < 256) (hl : bs.length ≤ 2000) {p : Int} {m : Nat} (h0 : 0 ≤ p) (h1 : p < 700000) (hm : m ≤ 5) :
    ∃ us : List Int, us.length = m ∧ call lf n_spec_l20Order [.ref (.st [.sl 0 (bs.map .y), .i p]), .i m, .i 0] = some (.fr 1 (us.map .i), [.st [.sl 0 (bs.map .y), .i (p + m)]]) := by
  obtain ⟨us, u1, L⟩ := l_l20Order hb hl m hm 0 m 0 p 5640 [] (.inl rfl) h0 (by omega) (by omega) (by rfl)
  have lu := perm_len u1
  simp only [Int.natCast_zero, List.map_nil] at L
  have k2 := c_odd0 bs (p + m)
  refine ⟨us, lu, ?_⟩
  rw [call_k lf n_spec_l20Order _ (F := F_spec_l20Order) rfl rfl]
  generalize hq : p + (m : Int) = q at *
  simp [F_spec_l20Order, L, k2, lu]
attribute [local simp] cells_cel noc_i noc_y noc_eN noCelE noCelO noCelL DV.noCel
/-- the rows that are done, the row that grows -/
def stG2 (bs : List Nat) (n : Int) (os : List Int) (init : List (List Int)) (last : List Int) (i : Nat) (p : Int) : LS :=
  ⟨[(0, .oad 23 1 0 0), (2, .i n), (7, .own 6664 os.length 0 os.length), (8, .own 7176 (init.length + 1) 0 (init.length + 1)), (9, .i i)],
    [(23, [.st [.sl 0 (bs.map .y), .i p]]), (6664, os.map .i), (7176, init.map eN ++ [.cel 15373 last.length]), (15373, last.map .i)]⟩
set_option maxHeartbeats 8000000 in
theorem g2_step {bs : List Nat} (n : Int) (os : List Int) (hos : os.length ≤ 5) (init : List (List Int)) (last : List Int) {i : Nat} {a : Int} (hi : os[i]? = some a) (hil : init.length ≤ 5) (hl : last.length ≤ 5) {p : Int} {b : Bool}
    (k : call lf n_spec_l20Rd_pick [.ref (.st [.sl 0 (bs.map .y), .i p]), .i 2] = some (.i (if b then 0 else 1), [.st [.sl 0 (bs.map .y), .i (p + 1)]])) :
    ex lf F_spec_l20Groups_L0 (stG2 bs n os init last i p) = some (.normal, if b then stG2 bs n os (init ++ [last]) [a] (i + 1) (p + 1) else stG2 bs n os init (last ++ [a]) (i + 1) (p + 1)) := by
  have hlt : i < os.length := (List.getElem?_eq_some_iff.1 hi).1
  have hlt' : (i : Int) < os.length := by omega
  have w1 := wr_succ (k := i) (by omega)
  have a1 := atI_int hi
  have a2 : atN (os.map DV.i) i = some (.i a) := by
    show (os.map DV.i)[i]? = _
    rw [List.getElem?_map, hi]; rfl
  have tk : List.take os.length (os.map DV.i) = os.map .i := List.take_of_length_le (by simp)
  have r3 : ∀ (I : List (List Int)) (x : DV), atN (I.map eN ++ [x]) I.length = some x := fun I x => by
    show (I.map eN ++ [x])[I.length]? = _
    rw [List.getElem?_append_right (by simp)]
    simp
  have s3 : ∀ (I : List (List Int)) (x y : DV), (I.map eN ++ [x]).set I.length y = I.map eN ++ [y] := fun I x y => by
    rw [List.set_append_right _ _ (by simp)]
    simp
  cases b with
  | true =>
    have c1 : init.length + 1 + 1 ≤ bound := by unfold bound; omega
    have w2 : wr (((init.length + 1 + 1 : Nat) : Int) - 1) = ((init.length + 1 : Nat) : Int) := by rw [wr_id (by omega) (by omega)]; omega
    have e0 : (((init.length + 1 : Nat) : Int) == 0) = false := beq_false_of_ne (by omega)
    have r4 := r3 (init ++ [last]) (.cel 15373 0)
    have s4 := s3 (init ++ [last]) (.cel 15373 0) (.cel 15373 1)
    have sh : init.map eN ++ [DV.sl 1 (last.map .i)] = (init ++ [last]).map eN := by rw [List.map_append]; rfl
    have ln : (init ++ [last]).length = init.length + 1 := by simp
    have lM : ((init ++ [last]).map eN).length = init.length + 1 := by simp
    rw [ln] at r4 s4
    have cb : 1 ≤ bound := by unfold bound; omega
    have nM := noc_eN (init ++ [last])
    rw [if_pos rfl] at k
    simp only [if_true]
    unfold stG2
    rw [ln]
    generalize hM : (init ++ [last]).map eN = M at *
    have tkM : List.take (init.length + 1) M = M := List.take_of_length_le (by omega)
    simp [F_spec_l20Groups_L0, hlt, hlt', w1, w2, e0, k, a1, a2, tk, sh, lM, c1, r4, s4, cb, tkM, nM, -Int.natCast_add]
  | false =>
    have w2 : wr (((init.length + 1 : Nat) : Int) - 1) = (init.length : Nat) := by rw [wr_id (by omega) (by omega)]; omega
    have e0 : (((init.length + 1 : Nat) : Int) == 0) = false := beq_false_of_ne (by omega)
    have cb : last.length + 1 ≤ bound := by unfold bound; omega
    unfold stG2
    simp at k
    simp [F_spec_l20Groups_L0, hlt, hlt', w1, w2, e0, k, a1, a2, tk, r3, s3, cb, -Int.natCast_add]
set_option maxHeartbeats 8000000 in
theorem g2_first {bs : List Nat} (n : Int) {os : List Int} (hos : os.length ≤ 5) {a : Int} (hi : os[0]? = some a) (p : Int) :
    ex lf F_spec_l20Groups_L0 ⟨[(0, .oad 23 1 0 0), (2, .i n), (7, .own 6664 os.length 0 os.length), (8, .own 7176 0 0 0), (9, .i 0)], [(23, [.st [.sl 0 (bs.map .y), .i p]]), (6664, os.map .i), (7176, [])]⟩ = some (.normal, stG2 bs n os [] [a] 1 p) := by
  have hlt : 0 < os.length := (List.getElem?_eq_some_iff.1 hi).1
  have a1 := atI_int hi
  simp only [Int.natCast_zero] at a1
  have a2 : atN (os.map DV.i) 0 = some (.i a) := by
    show (os.map DV.i)[0]? = _
    rw [List.getElem?_map, hi]; rfl
  have tk : List.take os.length (os.map DV.i) = os.map .i := List.take_of_length_le (by simp)
  have cb : 1 ≤ bound := by unfold bound; omega
  have w1 : wr (1 : Int) = 1 := wr_id (by omega) (by omega)
  have w0 : wr (0 : Int) = 0 := wr_id (by omega) (by omega)
  unfold stG2
  simp [F_spec_l20Groups_L0, hlt, a1, a2, tk, cb, w0, w1]
theorem g2_loop {bs : List Nat} (hb : ∀ y ∈ bs, y < 256) (hl : bs.length ≤ 2000) (n : Int) (os : List Int) (hos : os.length ≤ 5) : ∀ (d i : Nat) (init : List (List Int)) (last : List Int) (p : Int), i + d = os.length → 1 ≤ i → init.length + 1 ≤ i → init.flatten.length + last.length = i → 0 ≤ p → p + d < 900000 →
    ∃ (init' : List (List Int)) (last' : List Int) (p' : Int), p ≤ p' ∧ p' ≤ p + d ∧ init'.length + 1 ≤ os.length ∧ init'.flatten.length + last'.length = os.length ∧
      ex lf F_spec_l20Groups_W0 (stG2 bs n os init last i p) = some (.exit 0, stG2 bs n os init' last' os.length p') := by
  intro d
  induction d with
  | zero =>
    intro i init last p hi h1 h2 h3 h4 h5
    have e : i = os.length := by omega
    subst e
    refine ⟨init, last, p, by omega, by omega, h2, h3, ?_⟩
    rw [w_spec_l20Groups_0]
    simp [stG2, F_spec_l20Groups_L0]
  | succ d ih =>
    intro i init last p hi h1 h2 h3 h4 h5
    have hk : os[i]? = some os[i] := List.getElem?_eq_getElem (by omega)
    have k := c_pick hb hl (p := p) (n := 2) h4 (by omega) (by omega)
    have bd := pk_bound hb (p := p) (n := 2) h4 (by omega) (by omega)
    by_cases z : pk bs p 2 = 0
    · rw [z] at k
      have S := g2_step n os hos init last hk (by omega) (by omega) (b := true) (p := p) (by simpa using k)
      obtain ⟨i', l', p', q1, q2, q3, q4, q5⟩ := ih (i + 1) (init ++ [last]) [os[i]] (p + 1) (by omega) (by omega) (by simp; omega) (by simp only [List.flatten_append, List.length_append, List.flatten_cons, List.flatten_nil, List.length_nil, List.length_singleton]; omega) (by omega) (by omega)
      refine ⟨i', l', p', by omega, by omega, q3, q4, ?_⟩
      rw [w_spec_l20Groups_0, S]
      simpa using q5
    · have z1 : pk bs p 2 = 1 := by omega
      rw [z1] at k
      have S := g2_step n os hos init last hk (by omega) (by omega) (b := false) (p := p) (by simpa using k)
      obtain ⟨i', l', p', q1, q2, q3, q4, q5⟩ := ih (i + 1) init (last ++ [os[i]]) (p + 1) (by omega) (by omega) (by omega) (by simp only [List.length_append, List.length_singleton]; omega) (by omega) (by omega)
      refine ⟨i', l', p', by omega, by omega, q3, q4, ?_⟩
      rw [w_spec_l20Groups_0, S]
      simpa using q5
set_option maxHeartbeats 8000000 in
theorem c_l20Groups {bs : List Nat} (hb : ∀ y ∈ bs, y < 256) (hl : bs.length ≤ 2000) {p n : Int} {m : Nat} (h0 : 0 ≤ p) (h1 : p < 600000) (hm : m ≤ 5) (hn : 1 ≤ n) (hn2 : n ≤ 1000000) :
    ∃ (R : List (List Int)) (p' : Int), R.length ≤ 6 ∧ R.flatten.length ≤ 6 ∧ p ≤ p' ∧ p' ≤ p + 30 ∧ call lf n_spec_l20Groups [.ref (.st [.sl 0 (bs.map .y), .i p]), .i m, .i n] = some (.fr 1 (R.map eN), [.st [.sl 0 (bs.map .y), .i p']]) := by
  obtain ⟨os, lo, CO⟩ := c_l20OrderG hb hl (p := p) (m := m) h0 (by omega) hm
  obtain ⟨Q, q, S1, b1, b2, b3, b4, W, H⟩ : ∃ (Q : List (List Int)) (q : Int) (S1 : LS), Q.length ≤ 5 ∧ Q.flatten.length ≤ 5 ∧ p ≤ q ∧ q ≤ p + 15 ∧
      ex lf F_spec_l20Groups_W0 ⟨[(0, .oad 23 1 0 0), (2, .i n), (7, .own 6664 os.length 0 os.length), (8, .own 7176 0 0 0), (9, .i 0)], [(23, [.st [.sl 0 (bs.map .y), .i (p + m)]]), (6664, os.map .i), (7176, [])]⟩ = some (.exit 0, S1) ∧
      ∀ X : LC, ex lf (.ghost (.shut 8) X) S1 = ex lf X ⟨[(0, .oad 23 1 0 0), (2, .i n), (7, .own 6664 os.length 0 os.length), (8, .own 7176 Q.length 0 Q.length), (9, .i os.length)], [(23, [.st [.sl 0 (bs.map .y), .i q]]), (6664, os.map .i), (7176, Q.map eN)]⟩ := by
    cases os with
    | nil =>
      refine ⟨[], p + m, ⟨[(0, .oad 23 1 0 0), (2, .i n), (7, .own 6664 0 0 0), (8, .own 7176 0 0 0), (9, .i 0)], [(23, [.st [.sl 0 (bs.map .y), .i (p + m)]]), (6664, []), (7176, [])]⟩, by simp, by simp, by omega, by omega, ?_, fun X => ?_⟩
      · rw [w_spec_l20Groups_0]
        simp [F_spec_l20Groups_L0]
      · simp
    | cons a os =>
      have S := g2_first (bs := bs) n (os := a :: os) (by omega) (a := a) rfl (p + m)
      have lo' : os.length + 1 = m := by simpa using lo
      obtain ⟨I, l, q, q1, q2, q3, q4, q5⟩ := g2_loop hb hl n (a :: os) (by omega) os.length 1 [] [a] (p + m) (by simp; omega) (by omega) (by simp) (by simp) (by omega) (by omega)
      refine ⟨I ++ [l], q, stG2 bs n (a :: os) I l (a :: os).length q, by simp only [List.length_append, List.length_singleton]; omega, by simp only [List.flatten_append, List.length_append, List.flatten_cons, List.flatten_nil, List.length_nil]; omega, by omega, by simp only [List.length_cons] at lo; omega, ?_, fun X => ?_⟩
      · rw [w_spec_l20Groups_0, S]
        exact q5
      · have sh : I.map eN ++ [DV.sl 1 (l.map .i)] = (I ++ [l]).map eN := by rw [List.map_append]; rfl
        have ln : (I ++ [l]).length = I.length + 1 := by simp
        unfold stG2
        rw [ln]
        generalize (I ++ [l]).map eN = M at *
        simp [sh]
  have k2 := c_odd hb hl (p := q) (n := n) (by omega) (by omega) hn hn2
  have tk : List.take Q.length (Q.map eN) = Q.map eN := List.take_of_length_le (by simp)
  have cb : Q.length + 1 ≤ bound := by unfold bound; omega
  cases ho : (pk bs q n == n - 1) with
  | false =>
    rw [ho] at k2
    refine ⟨Q, q + 1, by omega, by omega, by omega, by omega, ?_⟩
    rw [call_k lf n_spec_l20Groups _ (F := F_spec_l20Groups) rfl rfl]
    generalize hpm : p + (m : Int) = pm at *
    simp [F_spec_l20Groups, CO, W, H, k2, tk, -ks_shut]
  | true =>
    rw [ho] at k2
    have k3 := c_pick hb hl (p := q + 1) (n := 2) (by omega) (by omega) (by omega)
    have a3 := pk_bound hb (p := q + 1) (n := 2) (by omega) (by omega) (by omega)
    by_cases z : pk bs (q + 1) 2 = 0
    · rw [z] at k3
      refine ⟨Q ++ [[]], q + 1 + 1, by simp; omega, by simp only [List.flatten_append, List.length_append, List.flatten_cons, List.flatten_nil, List.length_nil]; omega, by omega, by omega, ?_⟩
      rw [call_k lf n_spec_l20Groups _ (F := F_spec_l20Groups) rfl rfl]
      generalize hpm : p + (m : Int) = pm at *
      simp [F_spec_l20Groups, CO, W, H, k2, k3, tk, cb, -ks_shut, eN]
    · have z1 : pk bs (q + 1) 2 = 1 := by omega
      rw [z1] at k3
      refine ⟨Q ++ [[0]], q + 1 + 1, by simp; omega, by simp only [List.flatten_append, List.length_append, List.flatten_cons, List.flatten_nil, List.length_nil, List.length_singleton]; omega, by omega, by omega, ?_⟩
      rw [call_k lf n_spec_l20Groups _ (F := F_spec_l20Groups) rfl rfl]
      generalize hpm : p + (m : Int) = pm at *
      simp [F_spec_l20Groups, CO, W, H, k2, k3, tk, cb, -ks_shut, eN]
end
section
attribute [-simp] DV.cells
attribute [local simp] sliceD cells_st cells_sl cells_i cells_y cells_b cells_s cells_w
attribute [local simp] lend_eR al_eR lend_eN adopt_eN new_eN
theorem c_DrawGroupsOk {bs : List Nat} (hb : ∀ y ∈ bs, y < 256) (hl : bs.length ≤ 1048576) :
    ∃ (m : Nat) (R : List (List Int)), (1 ≤ m ∧ m ≤ 5) ∧ R.length ≤ 6 ∧ R.flatten.length ≤ 6 ∧ call lf n_spec_DrawGroupsOk [.sl 0 (bs.map .y)] = some (.tup [.i m, .fr 1 (R.map eN)], []) := by
  obtain ⟨c1, c2⟩ := take_b hb
  have o := c_open hl
  generalize bs.take 2000 = cs at *
  have a1 := pk_bound c1 (p := 0) (n := 5) (by omega) (by omega) (by omega)
  have k1 := c_pick c1 c2 (p := 0) (n := 5) (by omega) (by omega) (by omega)
  simp at k1
  have w1 : wr (1 + pk cs 0 5) = 1 + pk cs 0 5 := wr_id (by omega) (by omega)
  obtain ⟨m, hm⟩ : ∃ m : Nat, 1 + pk cs 0 5 = m := ⟨(1 + pk cs 0 5).toNat, by omega⟩
  rw [hm] at w1
  obtain ⟨R, p', q1, q2, q3, q4, G⟩ := c_l20Groups c1 c2 (p := 1) (n := 3) (m := m) (by omega) (by omega) (by omega) (by omega) (by omega)
  refine ⟨m, R, by omega, q1, q2, ?_⟩
  rw [call_k lf n_spec_DrawGroupsOk _ (F := F_spec_DrawGroupsOk) rfl rfl]
  have tk : List.take R.length (R.map eN) = R.map eN := List.take_of_length_le (by simp)
  simp [F_spec_DrawGroupsOk, o, k1, w1, hm, G, tk]
end
section
attribute [-simp] DV.cells
attribute [local simp] sliceD cells_st cells_sl cells_i cells_y cells_b cells_s cells_w
attribute [local simp] lend_eR al_eR lend_eN adopt_eN new_eN
theorem quo01 {a b : Int} (h0 : 0 ≤ a) (hb : 0 < b) (h : a ≤ b) : 0 ≤ a.tdiv b ∧ a.tdiv b ≤ 1 := by
  refine ⟨Int.tdiv_nonneg h0 (by omega), ?_⟩
  rw [Int.tdiv_eq_ediv_of_nonneg h0]
  have := Int.ediv_le_ediv hb h
  rw [Int.ediv_self (by omega)] at this
  exact this
set_option maxHeartbeats 1000000 in
theorem c_DrawBestRounds {bs : List Nat} (hb : ∀ y ∈ bs, y < 256) (hl : bs.length ≤ 1048576) :
    ∃ (us : List T) (fee : Int), us.length ≤ 5 ∧ (0 ≤ fee ∧ fee ≤ 39) ∧ call lf n_spec_DrawBestRounds [.sl 0 (bs.map .y)] = some (.tup [.fr 2 (us.map e2), .i fee], []) := by
  obtain ⟨c1, c2⟩ := take_b hb
  have o := c_open hl
  generalize bs.take 2000 = cs at *
  obtain ⟨us, p', u1, u2, u3, U⟩ := c_l20Tests c1 c2 (p := 0) (n := 12) (by omega) (by omega) (by omega) (by omega)
  have k1 := c_pick c1 c2 (p := p') (n := 6) (by omega) (by omega) (by omega)
  have b1 := pk_bound c1 (p := p') (n := 6) (by omega) (by omega) (by omega)
  have k2 := c_pick c1 c2 (p := p' + 1) (n := 9) (by omega) (by omega) (by omega)
  have b2 := pk_bound c1 (p := p' + 1) (n := 9) (by omega) (by omega) (by omega)
  have k3 := c_pick c1 c2 (p := p' + 1 + 1) (n := 60) (by omega) (by omega) (by omega)
  have b3 := pk_bound c1 (p := p' + 1 + 1) (n := 60) (by omega) (by omega) (by omega)
  generalize pk cs p' 6 = x at *
  generalize pk cs (p' + 1) 9 = y at *
  generalize pk cs (p' + 1 + 1) 60 = z at *
  have d1 := quo01 (a := y) (b := 8) (by omega) (by omega) (by omega)
  have d2 := quo01 (a := z) (b := 59) (by omega) (by omega) (by omega)
  have wa : wr (y.tdiv 8) = y.tdiv 8 := wr_id (by omega) (by omega)
  have wb : wr (z.tdiv 59) = z.tdiv 59 := wr_id (by omega) (by omega)
  have w1 : wr (y.tdiv 8 * 14) = y.tdiv 8 * 14 := wr_id (by omega) (by omega)
  have w2 : wr (x + y.tdiv 8 * 14) = x + y.tdiv 8 * 14 := wr_id (by omega) (by omega)
  have w3 : wr (z.tdiv 59 * 20) = z.tdiv 59 * 20 := wr_id (by omega) (by omega)
  have w4 : wr (x + y.tdiv 8 * 14 + z.tdiv 59 * 20) = x + y.tdiv 8 * 14 + z.tdiv 59 * 20 := wr_id (by omega) (by omega)
  refine ⟨us, x + y.tdiv 8 * 14 + z.tdiv 59 * 20, u1, by omega, ?_⟩
  rw [call_k lf n_spec_DrawBestRounds _ (F := F_spec_DrawBestRounds) rfl rfl]
  have tk2 : List.take us.length (us.map e2) = us.map e2 := List.take_of_length_le (by simp)
  simp [F_spec_DrawBestRounds, o, U, k1, k2, k3, wa, wb, w1, w2, w3, w4, tk2]
end
section
structure CS where
  c : Nat → Int
  p : Nat → Int
  q : Nat → Int
  lA : Nat → Nat → Bool
  lB : Nat → Nat → Bool
  ch : List Nat → Nat → Nat
def rk (l : Nat → Nat → Bool) (S : List Nat) (i : Nat) : Nat := S.countP fun x => l x i
/-- what the rule costs -/
def vR (C : CS) : Nat → List Nat → Nat → Int
  | 0, _, _ => 0
  | f + 1, S, k => if k = 0 ∨ S.length < k then 0 else 6 ^ S.length * C.c (C.ch S k) + C.p (C.ch S k) * vR C f (S.erase (C.ch S k)) (k - 1) + C.q (C.ch S k) * vR C f (S.erase (C.ch S k)) k
def CS.V (C : CS) (S : List Nat) (k : Nat) : Int := vR C S.length S k
def CS.W (C : CS) (S : List Nat) (k i : Nat) : Int := 6 ^ S.length * C.c i + C.p i * C.V (S.erase i) (k - 1) + C.q i * C.V (S.erase i) k
end
section
/-- tests, the two orders by ratios, and the least test of both -/
def tltA (us : List T) (a b : Nat) : Bool := decide (cA us a * pA us b < cA us b * pA us a ∨ cA us b * pA us a = cA us a * pA us b ∧ a < b)
def tltB (us : List T) (a b : Nat) : Bool := decide (cA us a * (6 - pA us b) < cA us b * (6 - pA us a) ∨ cA us b * (6 - pA us a) = cA us a * (6 - pA us b) ∧ a < b)
def bothL (us : List T) (S : List Nat) (k : Nat) : List Nat := S.filter fun i => decide (rk (tltA us) S i < k) && decide (rk (tltB us) S i + k ≤ S.length)
def cs (us : List T) : CS := ⟨cA us, pA us, fun i => 6 - pA us i, tltA us, tltB us, fun S k => (bothL us S k).headD 0⟩
end
section
/-- what is not known, and how many yes -/
def unk (m : Nat) (ks : List Int) : List Nat := (List.range m).filter fun k => ks[k]? == some (-1)
end
section
def gS : List I3 → Int
  | [] => 1
  | x :: r => (x.2.2 - x.2.1) * gS r
/-- the parts in which a row ends -/
def gE (l : List I3) : Int := gM l - gS l
/-- cost less a ratio (x by y) times the parts that end -/
def gf (x y : Int) (l : List I3) : Int := y * gD l - x * gE l
theorem gf_nil (x y : Int) : gf x y [] = 0 := by simp [gf, gD, gE, gM, gS]
theorem gf_cons (x y : Int) (a : I3) (l : List I3) : gf x y (a :: l) = (y * a.1 - x * a.2.1) * gM l + (a.2.2 - a.2.1) * gf x y l := by
  unfold gf gE
  simp only [gD, gM, gS]
  grind
/-- what is carried along never falls below nothing -/
def Car (x y A s : Int) (l : List I3) : Prop := ∀ P Q, l = P ++ Q → 0 ≤ A * gM P + s * gf x y P
theorem Car.next {x y A s : Int} {a : I3} {l : List I3} (h : Car x y A s (a :: l)) : Car x y (A * a.2.2 + s * (y * a.1 - x * a.2.1)) (s * (a.2.2 - a.2.1)) l := fun P Q e => by
  have := h (a :: P) Q (by rw [e]; rfl)
  rw [gf_cons] at this
  simp only [gM] at this
  grind
theorem Car.head {x y A s : Int} {a : I3} {l : List I3} (h : Car x y A s (a :: l)) : 0 ≤ A * a.2.2 + s * (y * a.1 - x * a.2.1) := by
  have := h [a] l rfl
  rw [gf_cons, gf_nil] at this
  simp only [gM] at this
  grind
end
section
/-- rows that keep chains, one by one -/
inductive Wk : List (List Nat) → List Nat → Prop
  | nil (L : List (List Nat)) (h : ∀ c ∈ L, c = []) : Wk L []
  | step (A B : List (List Nat)) (k : Nat) (c row : List Nat) (h : Wk (A ++ c :: B) row) : Wk (A ++ (k :: c) :: B) (k :: row)
theorem wk_perm {L : List (List Nat)} {row : List Nat} (h : Wk L row) : row.Perm L.flatten := by
  induction h with
  | nil L h =>
    have : L.flatten = [] := by rw [List.flatten_eq_nil_iff]; exact h
    rw [this]
  | step A B k c row h ih =>
    rw [List.flatten_append, List.flatten_cons] at ih ⊢
    exact (ih.cons k).trans (by
      have p := (List.perm_middle (a := k) (l₁ := A.flatten) (l₂ := c ++ B.flatten)).symm
      simpa using p)
/-- a test in the row of all -/
def itC (us : List T) (k : Nat) : I3 := (6 * cA us k, 6 - pA us k, 6)
theorem itC_M (us : List T) (l : List Nat) : gM (l.map (itC us)) = 6 ^ l.length := by
  induction l with
  | nil => rfl
  | cons a r ih => simp only [List.map_cons, gM, List.length_cons]; rw [ih, Int.pow_succ, Int.mul_comm]; rfl
theorem rA_gC (us : List T) : ∀ (l : List Int) (on : Int), rA us 0 on l = on * gD ((l.map Int.toNat).map (itC us))
  | [], on => by simp [rA, gD]
  | a :: r, on => by
    simp only [rA, List.map_cons, gD]
    rw [rA_gC us r, itC_M, List.length_map, Int.pow_succ]
    have e1 : (itC us a.toNat).1 = 6 * cA us a.toNat := rfl
    have e2 : (itC us a.toNat).2.2 - (itC us a.toNat).2.1 = 6 - (6 - pA us a.toNat) := rfl
    have e3 : eA us 0 a.toNat = 6 - pA us a.toNat := by unfold eA pA; rfl
    rw [e1, e2, e3]
    grind
theorem rA_row (us : List T) (l : List Nat) : rA us 0 1 (ni l) = gD (l.map (itC us)) := by
  rw [rA_gC, ni_toNat, Int.one_mul]
def mnO (f : Nat → Option Int) : Nat → Int
  | 0 => -1
  | i + 1 => match f i with
    | none => mnO f i
    | some n => if mnO f i < 0 ∨ n < mnO f i then n else mnO f i
end
section
def e9 (us : List T) (l : List Nat) : Int := gE (l.map (itC us))
abbrev LN := List (List Nat)
/-- chains of tests that are there -/
def LOk (us : List T) (L : LN) : Prop := ∀ c ∈ L, ∀ x ∈ c, x < us.length
end
section
/-- each order keeps chains of one -/
theorem wk_singles : ∀ {row : List Nat} {L : LN}, (∀ c ∈ L, c.length ≤ 1) → row.Perm L.flatten → Wk L row
  | [], L, hL, p => .nil L (List.flatten_eq_nil_iff.1 p.nil_eq.symm)
  | k :: row, L, hL, p => by
    have hk : k ∈ L.flatten := p.mem_iff.1 List.mem_cons_self
    obtain ⟨c, c1, c2⟩ := List.mem_flatten.1 hk
    have e : c = [k] := by
      have := hL c c1
      cases c with
      | nil => cases c2
      | cons x r =>
        cases r with
        | nil => rw [List.mem_singleton.1 c2]
        | cons y r => simp at this
    subst e
    obtain ⟨A, B, rfl⟩ := List.append_of_mem c1
    refine .step A B k [] row (wk_singles (fun d hd => ?_) ?_)
    · rcases List.mem_append.1 hd with q | q
      · exact hL d (List.mem_append_left _ q)
      · rcases List.mem_cons.1 q with q | q
        · rw [q]; simp
        · exact hL d (List.mem_append_right _ (List.mem_cons_of_mem _ q))
    · have q := p.trans (by simp : (A ++ [k] :: B).flatten.Perm (k :: (A.flatten ++ B.flatten)))
      simpa using q.cons_inv
end
section
def gLA (us : List T) (L : LN) (f : Nat) (v : LN → Int) (i : Nat) : Option Int := match L.getD i [] with
  | [] => none
  | k :: c => some (cA us k * 6 ^ (f + 1) + pA us k * v (L.set i c))
def m0 (g : Nat → Option Int) (i : Nat) : Int := if mnO g i < 0 then 0 else mnO g i
def lA (us : List T) : Nat → LN → Int
  | 0, _ => 0
  | f + 1, L => m0 (gLA us L f (lA us f)) L.length
theorem gD_cons (us : List T) (k : Nat) (row : List Nat) : gD ((k :: row).map (itC us)) = cA us k * 6 ^ (row.length + 1) + pA us k * gD (row.map (itC us)) := by
  simp only [List.map_cons, gD]
  rw [itC_M]
  have e1 : (itC us k).1 = 6 * cA us k := rfl
  have e2 : (itC us k).2.2 - (itC us k).2.1 = 6 - (6 - pA us k) := rfl
  rw [e1, e2, Int.pow_succ]
  grind
theorem p6_pos (n : Nat) : (0 : Int) < 6 ^ n := Int.pow_pos (by decide)
end
section
attribute [-simp] DV.cells
attribute [local simp] sliceD cells_st cells_sl cells_i cells_y cells_b cells_s cells_w
attribute [local simp] lend_eR al_eR
/-- how many of a chain are asked -/
def inP (p c : List Nat) : Nat := (p.map fun o => c.count o).sum
def left (C : LN) (p : List Nat) : LN := C.map fun c => c.drop (inP p c)
theorem flat_ge9 : ∀ {C : LN}, (∀ c ∈ C, c ≠ []) → C.length ≤ C.flatten.length
  | [], _ => by simp
  | c :: C, h => by
    have := flat_ge9 (C := C) fun d hd => h d (List.mem_cons_of_mem _ hd)
    have c0 : 0 < c.length := List.length_pos_iff.2 (h c List.mem_cons_self)
    simp only [List.length_cons, List.flatten_cons, List.length_append]
    omega
end
section
attribute [-simp] DV.cells
attribute [local simp] sliceD cells_st cells_sl cells_i cells_y cells_b cells_s cells_w
attribute [local simp] lend_eR al_eR
def natL (L : List (List Int)) : LN := L.map fun r => r.map Int.toNat
theorem natL_ni (N : LN) : natL (N.map ni) = N := by
  unfold natL
  rw [List.map_map]
  conv => rhs; rw [← List.map_id N]
  apply List.map_congr_left
  intro r _
  exact ni_toNat r
theorem os_of {m : Int} {os : List Int} (h : orOk m os = true) : ∃ p : List Nat, os = ni p ∧ p.Nodup ∧ (∀ x ∈ p, x < m.toNat) ∧ p.length = m.toNat ∧ (1 ≤ m ∧ m ≤ 5) := by
  obtain ⟨h1, h2, h3⟩ := orOk_iff.1 h
  obtain ⟨n1, n2⟩ := orS_nodup.1 h3
  have e : os = ni (os.map Int.toNat) := by
    unfold ni
    rw [List.map_map]
    conv => lhs; rw [← List.map_id os]
    apply List.map_congr_left
    intro o ho
    have := (n1 o ho).1
    show o = ((o.toNat : Nat) : Int)
    omega
  refine ⟨os.map Int.toNat, e, ?_, fun x hx => ?_, by rw [List.length_map]; omega, h1⟩
  · refine List.pairwise_map.2 (n2.imp_of_mem fun {a b} ha hb q r => q ?_)
    have := (n1 a ha).1
    have := (n1 b hb).1
    omega
  · obtain ⟨o, ho, rfl⟩ := List.mem_map.1 hx
    have := (n1 o ho).1
    omega
theorem nd_le : ∀ {l r : List Nat}, l.Nodup → l ⊆ r → l.length ≤ r.length
  | [], _, _, _ => Nat.zero_le _
  | a :: l, r, nd, h => by
    obtain ⟨n1, n2⟩ := List.nodup_cons.1 nd
    have ha : a ∈ r := h List.mem_cons_self
    have := nd_le (r := r.erase a) n2 fun x hx => by
      have ne : x ≠ a := fun e => n1 (e ▸ hx)
      exact (List.mem_erase_of_ne ne).2 (h (List.mem_cons_of_mem _ hx))
    rw [List.length_erase_of_mem ha] at this
    have : 0 < r.length := List.length_pos_of_mem ha
    rw [List.length_cons]
    omega
theorem os_all {m : Nat} {p : List Nat} (nd : p.Nodup) (lt : ∀ x ∈ p, x < m) (hl : p.length = m) {x : Nat} (hx : x < m) : x ∈ p := by
  by_cases q : x ∈ p
  · exact q
  · have nd2 : (x :: p).Nodup := List.nodup_cons.2 ⟨q, nd⟩
    have sub : (x :: p) ⊆ List.range m := fun y hy => by
      rcases List.mem_cons.1 hy with r | r
      · rw [r]; exact List.mem_range.2 hx
      · exact List.mem_range.2 (lt y r)
    have := nd_le nd2 sub
    simp at this
    omega
end
section
attribute [-simp] DV.cells
attribute [local simp] sliceD cells_st cells_sl cells_i cells_y cells_b cells_s cells_w
def eachN (k : Nat) : LN := (List.range k).map fun i : Nat => [i]
theorem eachN_succ (k : Nat) : eachN (k + 1) = eachN k ++ [[k]] := by simp [eachN, List.range_succ]
theorem eachN_flat : ∀ k : Nat, (eachN k).flatten = List.range k
  | 0 => rfl
  | k + 1 => by rw [eachN_succ, List.flatten_append, eachN_flat k, List.range_succ]; rfl
theorem eachN_mem {k : Nat} {c : List Nat} (h : c ∈ eachN k) : ∃ i, i < k ∧ c = [i] := by
  obtain ⟨i, hi, rfl⟩ := List.mem_map.1 h
  exact ⟨i, List.mem_range.1 hi, rfl⟩
theorem gok_eachN (m : Nat) : Gok m (eachN m) := by
  refine ⟨fun g hg k hk => ?_, ?_, fun k hk => ?_, fun g hg => ?_⟩
  · obtain ⟨i, hi, rfl⟩ := eachN_mem hg
    rw [List.mem_singleton.1 hk]; exact hi
  · rw [eachN_flat]; exact List.nodup_range
  · rw [eachN_flat]; exact List.mem_range.2 hk
  · obtain ⟨i, hi, rfl⟩ := eachN_mem hg
    simp
theorem ni_flat (N : LN) : (N.map ni).flatten = ni N.flatten := by unfold ni; rw [List.map_flatten]
theorem gok_or {m : Nat} (hm : 1 ≤ m ∧ m ≤ 5) {N : LN} (G : Gok m N) : orOk m (ni N.flatten) = true := by
  have := gok_to hm G
  unfold gokB at this
  rw [Bool.and_eq_true, ni_flat] at this
  exact this.2
theorem ni_perm {p q : List Nat} (h : p.Perm q) : (ni p).Perm (ni q) := h.map _
theorem wk_or {m : Nat} (hm : 1 ≤ m ∧ m ≤ 5) {N : LN} (G : Gok m N) {row : List Nat} (w : Wk N row) : orOk m (ni row) = true := by
  rw [orOk_perm (ni_perm (wk_perm w))]
  exact gok_or hm G
theorem raOf_ro {us : List T} (h : tsOk us = true) : raOf us (roL us 0) 0 = rA us 0 1 (rO us 0 us.length) := by
  have rw1 : rwOk 0 = true := rfl
  have e : roL us 0 = rO us 0 us.length := by unfold roL; rw [h]; rfl
  unfold raOf raOk
  rw [e, h, rO_ok h 0]
  rfl
theorem ro_row {us : List T} (h : tsOk us = true) : ∃ q : List Nat, rO us 0 us.length = ni q ∧ Wk (eachN us.length) q := by
  have o := rO_ok h 0
  obtain ⟨q, e, nd, lt, hl, hm⟩ := os_of o
  rw [Int.toNat_natCast] at lt hl
  refine ⟨q, e, wk_singles (fun c hc => ?_) ?_⟩
  · obtain ⟨i, _, rfl⟩ := eachN_mem hc; simp
  · rw [eachN_flat]
    exact (List.perm_ext_iff_of_nodup nd List.nodup_range).2 fun k => by
      rw [List.mem_range]
      exact ⟨lt k, os_all nd lt hl⟩
theorem ra_least {us : List T} (h : tsOk us = true) {N : LN} (G : Gok us.length N) {row : List Nat} (w : Wk N row) : rA us 0 1 (rO us 0 us.length) ≤ gD (row.map (itC us)) := by
  have h' := tsOk_iff.1 h
  rw [← rA_row]
  exact rO_least h (wk_or (by omega) G w)
end
section
def rC (us : List T) : List Nat → Int
  | [] => 0
  | k :: r => cA us k + rC us r
def rP (us : List T) : List Nat → Int
  | [] => 1
  | k :: r => pA us k * rP us r
/-- what rounds cost, in parts of their own -/
def rD (us : List T) (fee : Int) : LN → Int
  | [] => 0
  | g :: r => (fee + rC us g) * 6 ^ (g.length + r.flatten.length) + rP us g * rD us fee r
/-- how much of the fee they pay -/
def rdW (us : List T) : LN → Int
  | [] => 0
  | g :: r => 6 ^ (g.length + r.flatten.length) + rP us g * rdW us r
theorem rC_app (us : List T) : ∀ p q : List Nat, rC us (p ++ q) = rC us p + rC us q
  | [], q => by simp [rC]
  | k :: p, q => by simp only [List.cons_append, rC]; rw [rC_app us p q]; omega
theorem rP_app (us : List T) : ∀ p q : List Nat, rP us (p ++ q) = rP us p * rP us q
  | [], q => by simp [rP]
  | k :: p, q => by simp only [List.cons_append, rP]; rw [rP_app us p q, Int.mul_assoc]
theorem rC_perm (us : List T) {p q : List Nat} (h : p.Perm q) : rC us p = rC us q := by
  induction h with
  | nil => rfl
  | cons a _ ih => simp only [rC]; rw [ih]
  | swap a b l => simp only [rC]; omega
  | trans _ _ i j => rw [i, j]
theorem rP_perm (us : List T) {p q : List Nat} (h : p.Perm q) : rP us p = rP us q := by
  induction h with
  | nil => rfl
  | cons a _ ih => simp only [rP]; rw [ih]
  | swap a b l => simp only [rP]; rw [← Int.mul_assoc, ← Int.mul_assoc, Int.mul_comm (pA us a)]
  | trans _ _ i j => rw [i, j]
theorem rC_bd {us : List T} (h : us.all tOk = true) : ∀ {g : List Nat}, (∀ k ∈ g, k < us.length) → (g.length : Int) ≤ rC us g ∧ rC us g ≤ 9 * g.length
  | [], _ => by simp [rC]
  | k :: r, hg => by
    have a := rC_bd h (g := r) fun x hx => hg x (List.mem_cons_of_mem _ hx)
    have b := cA_bd h (hg k List.mem_cons_self)
    simp only [rC, List.length_cons]
    omega
theorem rP_bd {us : List T} (h : us.all tOk = true) : ∀ {g : List Nat}, (∀ k ∈ g, k < us.length) → 0 < rP us g ∧ rP us g ≤ 6 ^ g.length
  | [], _ => by simp [rP]
  | k :: r, hg => by
    have a := rP_bd h (g := r) fun x hx => hg x (List.mem_cons_of_mem _ hx)
    have b := pA_bd h (hg k List.mem_cons_self)
    simp only [rP, List.length_cons]
    refine ⟨Int.mul_pos (by omega) a.1, ?_⟩
    rw [Int.pow_succ, Int.mul_comm (6 ^ r.length)]
    exact Int.mul_le_mul (by omega) a.2 (by omega) (by omega)
theorem rD_fee (us : List T) (fee x : Int) : ∀ N : LN, rD us (fee + x) N = rD us fee N + x * rdW us N
  | [] => by simp [rD, rdW]
  | g :: r => by
    simp only [rD, rdW]
    rw [rD_fee us fee x r]
    generalize (6 : Int) ^ (g.length + r.flatten.length) = P
    grind
theorem rD_nn {us : List T} (h : us.all tOk = true) {fee : Int} (hf : 0 ≤ fee) : ∀ {N : LN}, LOk us N → 0 ≤ rD us fee N
  | [], _ => by simp [rD]
  | g :: r, hN => by
    have a := rD_nn h hf (N := r) fun c hc => hN c (List.mem_cons_of_mem _ hc)
    have b := rC_bd h (hN g List.mem_cons_self)
    have c := rP_bd h (hN g List.mem_cons_self)
    have p := p6_pos (g.length + r.flatten.length)
    simp only [rD]
    have m1 := Int.mul_nonneg (show 0 ≤ fee + rC us g by omega) (Int.le_of_lt p)
    have m2 := Int.mul_nonneg (Int.le_of_lt c.1) a
    omega
/-- each round pays at most one whole fee; the first one pays it whole -/
theorem rdW_bd {us : List T} (h : us.all tOk = true) : ∀ {N : LN}, LOk us N → 0 ≤ rdW us N ∧ rdW us N ≤ 6 ^ N.flatten.length * N.length
  | [], _ => by simp [rdW]
  | g :: r, hN => by
    have a := rdW_bd h (N := r) fun c hc => hN c (List.mem_cons_of_mem _ hc)
    have c := rP_bd h (hN g List.mem_cons_self)
    have p := p6_pos (g.length + r.flatten.length)
    have q := p6_pos r.flatten.length
    simp only [rdW, List.flatten_cons, List.length_append, List.length_cons]
    have m2 := Int.mul_nonneg (Int.le_of_lt c.1) a.1
    have m3 : rP us g * rdW us r ≤ 6 ^ g.length * (6 ^ r.flatten.length * r.length) := Int.mul_le_mul c.2 a.2 a.1 (Int.le_of_lt (p6_pos _))
    rw [← Int.mul_assoc, ← Int.pow_add] at m3
    push_cast
    rw [Int.mul_add, Int.mul_one]
    omega
theorem rdW_one {us : List T} (h : us.all tOk = true) {N : LN} (hN : LOk us N) (hne : N ≠ []) : 6 ^ N.flatten.length ≤ rdW us N := by
  cases N with
  | nil => exact absurd rfl hne
  | cons g r =>
    have a := rdW_bd h (N := r) fun c hc => hN c (List.mem_cons_of_mem _ hc)
    have c := rP_bd h (hN g List.mem_cons_self)
    have m2 := Int.mul_nonneg (Int.le_of_lt c.1) a.1
    simp only [rdW, List.flatten_cons, List.length_append]
    omega
/-- rounds of one with no fee are an order -/
theorem rD_ones (us : List T) : ∀ {N : LN}, (∀ g ∈ N, g.length = 1) → rD us 0 N = gD (N.flatten.map (itC us))
  | [], _ => by simp [rD, gD]
  | g :: r, hN => by
    have ih := rD_ones us (N := r) fun c hc => hN c (List.mem_cons_of_mem _ hc)
    have hg := hN g List.mem_cons_self
    obtain ⟨k, rfl⟩ : ∃ k, g = [k] := by
      match g, hg with
      | [k], _ => exact ⟨k, rfl⟩
    rw [List.flatten_cons, List.cons_append, List.nil_append, gD_cons, ← ih]
    simp only [rD, rC, rP, List.length_cons, List.length_nil]
    rw [Int.zero_add, Int.add_zero, Int.mul_one, Nat.zero_add, Nat.add_comm 1]
/-- with no fee, asked one by one they cost no more -/
theorem gD_app_le {us : List T} (h : us.all tOk = true) : ∀ {g q : List Nat}, (∀ k ∈ g, k < us.length) → (∀ k ∈ q, k < us.length) → gD ((g ++ q).map (itC us)) ≤ rC us g * 6 ^ (g.length + q.length) + rP us g * gD (q.map (itC us))
  | [], q, _, _ => by simp [rC, rP]
  | k :: g, q, hg, hq => by
    have hg' : ∀ x ∈ g, x < us.length := fun x hx => hg x (List.mem_cons_of_mem _ hx)
    have ih := gD_app_le h hg' hq
    have b := pA_bd h (hg k List.mem_cons_self)
    have c := rC_bd h hg'
    rw [List.cons_append, gD_cons, List.length_append]
    simp only [rC, rP, List.length_cons]
    have p := p6_pos (g.length + q.length)
    have e : (6 : Int) ^ (g.length + 1 + q.length) = 6 ^ (g.length + q.length) * 6 := by rw [show g.length + 1 + q.length = g.length + q.length + 1 by omega, Int.pow_succ]
    have m := Int.mul_le_mul_of_nonneg_left ih (show 0 ≤ pA us k by omega)
    rw [e, Int.pow_succ]
    generalize gD ((g ++ q).map (itC us)) = X at *
    generalize gD (q.map (itC us)) = Y at *
    generalize (6 : Int) ^ (g.length + q.length) = P at *
    generalize rC us g = C at *
    generalize rP us g = R at *
    generalize cA us k = x at *
    generalize pA us k = y at *
    have m2 : y * (C * P) ≤ 6 * (C * P) := Int.mul_le_mul_of_nonneg_right (by omega) (Int.mul_nonneg (by omega) (by omega))
    have e1 : y * (C * P + R * Y) = y * (C * P) + y * R * Y := by grind
    have e2 : (x + C) * (P * 6) = x * (P * 6) + 6 * (C * P) := by grind
    rw [e1] at m
    rw [e2]
    omega
theorem rD_flat {us : List T} (h : us.all tOk = true) : ∀ {N : LN}, LOk us N → gD (N.flatten.map (itC us)) ≤ rD us 0 N
  | [], _ => by simp [rD, gD]
  | g :: r, hN => by
    have hr : LOk us r := fun c hc => hN c (List.mem_cons_of_mem _ hc)
    have ih := rD_flat h hr
    have hg := hN g List.mem_cons_self
    have hq : ∀ k ∈ r.flatten, k < us.length := fun k hk => by
      obtain ⟨c, c1, c2⟩ := List.mem_flatten.1 hk
      exact hr c c1 k c2
    have a := gD_app_le h hg hq
    have c := rP_bd h hg
    have m := Int.mul_le_mul_of_nonneg_left ih (Int.le_of_lt c.1)
    rw [List.flatten_cons]
    simp only [rD]
    rw [Int.zero_add]
    omega
end
section
attribute [-simp] DV.cells
attribute [local simp] sliceD cells_st cells_sl cells_i cells_y cells_b cells_s cells_w
attribute [local simp] lend_eR al_eR lend_eN adopt_eN new_eN
attribute [local simp] cells_cel noc_i noc_y noc_eN noCelE noCelO noCelL DV.noCel
theorem noc_eR (L : List (List Int)) : noCelL (L.map eR) = true := by
  rw [noCelL_all, List.all_map, List.all_eq_true]
  intro x _
  show noCelL (x.map DV.i) = true
  exact noc_i x
attribute [local simp] noc_eR
end
section
attribute [-simp] DV.cells
attribute [local simp] sliceD cells_st cells_sl cells_i cells_y cells_b cells_s cells_w
attribute [local simp] lend_eR al_eR
theorem tdiv6 {a : Int} (h : 0 ≤ a) : (a * 6).tdiv 6 = a := Int.mul_tdiv_cancel a (by omega)
/-- weights stay small -/
theorem wt_le {X p : Int} {n d q : Nat} (h0 : 0 ≤ X) (hx : X * 6 ^ (d + n + q) ≤ 7776) (p0 : 0 < p) (p1 : p ≤ 6 ^ d) : 0 ≤ X * p * 6 ^ (n + q) ∧ X * p * 6 ^ (n + q) ≤ 7776 := by
  have a := p6_pos (n + q)
  refine ⟨Int.mul_nonneg (Int.mul_nonneg h0 (by omega)) (by omega), Int.le_trans ?_ hx⟩
  have e : (6 : Int) ^ (d + n + q) = 6 ^ d * 6 ^ (n + q) := by rw [Nat.add_assoc, Int.pow_add]
  rw [e, ← Int.mul_assoc]
  exact Int.mul_le_mul_of_nonneg_right (Int.mul_le_mul_of_nonneg_left p1 h0) (by omega)
set_option maxHeartbeats 4000000 in
def rdO (us : List T) (L : List (List Int)) (fee : Int) : Bool := tsOk us && gokB us.length L && decide (0 ≤ fee ∧ fee ≤ 20)
def rdV (us : List T) (L : List (List Int)) (fee : Int) : Int := if rdO us L fee then rD us fee (L.map fun r => r.map Int.toNat) else -1
end
section
/-- one more of the first ones -/
def stpF (so n a k : Nat) : Nat := if pc a < n ∧ so.testBit k = true then a ||| 2 ^ k else a
def fF (so n : Nat) (l : List Nat) : Nat := l.foldl (stpF so n) 0
/-- what is left, in ascending order -/
def Sl (m so : Nat) : List Nat := (List.range m).filter fun k => so.testBit k
theorem Sl_nd (m so : Nat) : (Sl m so).Nodup := List.nodup_range.filter _
theorem Sl_mem {m so k : Nat} : k ∈ Sl m so ↔ k < m ∧ so.testBit k = true := by unfold Sl; rw [List.mem_filter, List.mem_range]
/-- the next one -/
def nx (us : List T) (so k : Nat) : Nat := (cs us).ch (Sl us.length so) k
end
section
def cst (us : List T) (fee : Int) (v : Nat → Int) (so r : Nat) : Int := (fee + rC us (Sl us.length r)) * 6 ^ (Sl us.length so).length + rP us (Sl us.length r) * v (so - r)
/-- of the first so many rounds the one that costs least, the first one of equal ones -/
def rbst (us : List T) (fee : Int) (v : Nat → Int) (so : Nat) : Nat → Int × Nat
  | 0 => (-1, 0)
  | n + 1 => if (n + 1) &&& so = n + 1 then (if (rbst us fee v so n).1 < 0 ∨ cst us fee v so (n + 1) < (rbst us fee v so n).1 then (cst us fee v so (n + 1), n + 1) else rbst us fee v so n) else rbst us fee v so n
def rbR (us : List T) (fee : Int) : Nat → Nat → Int × Nat
  | 0, _ => (0, 0)
  | f + 1, so => if so = 0 then (0, 0) else rbst us fee (fun s => (rbR us fee f s).1) so so
/-- the rounds themselves -/
def rwR (us : List T) (fee : Int) : Nat → Nat → LN
  | 0, _ => []
  | f + 1, so => if so = 0 then [] else Sl us.length (rbR us fee (f + 1) so).2 :: rwR us fee f (so - (rbR us fee (f + 1) so).2)
theorem rbst_spec {us : List T} {fee : Int} {v : Nat → Int} {so : Nat} (h0 : ∀ r, 1 ≤ r → r &&& so = r → 0 ≤ cst us fee v so r) : ∀ n, ((rbst us fee v so n).1 = -1 ∧ ∀ r, 1 ≤ r → r ≤ n → r &&& so ≠ r) ∨
    (0 ≤ (rbst us fee v so n).1 ∧ (1 ≤ (rbst us fee v so n).2 ∧ (rbst us fee v so n).2 ≤ n ∧ (rbst us fee v so n).2 &&& so = (rbst us fee v so n).2) ∧ (rbst us fee v so n).1 = cst us fee v so (rbst us fee v so n).2 ∧ ∀ r, 1 ≤ r → r ≤ n → r &&& so = r → (rbst us fee v so n).1 ≤ cst us fee v so r)
  | 0 => .inl ⟨rfl, fun r h1 h2 => by omega⟩
  | n + 1 => by
    have ih := rbst_spec h0 n
    simp only [rbst]
    by_cases q : (n + 1) &&& so = n + 1
    · rw [if_pos q]
      have c0 := h0 (n + 1) (by omega) q
      by_cases d : (rbst us fee v so n).1 < 0 ∨ cst us fee v so (n + 1) < (rbst us fee v so n).1
      · rw [if_pos d]
        refine .inr ⟨c0, ⟨by simp, by simp, q⟩, rfl, fun r h1 h2 h3 => ?_⟩
        by_cases e : r = n + 1
        · rw [e]; exact Int.le_refl _
        · rcases ih with ⟨_, b⟩ | ⟨a, _, _, b⟩
          · exact absurd h3 (b r h1 (by omega))
          · have := b r h1 (by omega) h3
            simp only
            omega
      · rw [if_neg d]
        rcases ih with ⟨a, _⟩ | ⟨a, b, c, e⟩
        · exact absurd (Or.inl (by omega)) d
        · refine .inr ⟨a, ⟨b.1, by omega, b.2.2⟩, c, fun r h1 h2 h3 => ?_⟩
          by_cases x : r = n + 1
          · rw [x]; omega
          · exact e r h1 (by omega) h3
    · rw [if_neg q]
      rcases ih with ⟨a, b⟩ | ⟨a, b, c, e⟩
      · refine .inl ⟨a, fun r h1 h2 h3 => ?_⟩
        by_cases x : r = n + 1
        · rw [x] at h3; exact q h3
        · exact b r h1 (by omega) h3
      · refine .inr ⟨a, ⟨b.1, by omega, b.2.2⟩, c, fun r h1 h2 h3 => ?_⟩
        by_cases x : r = n + 1
        · rw [x] at h3; exact absurd h3 q
        · exact e r h1 (by omega) h3
theorem sub_fin : ∀ (m : _root_.Fin 6) (so r : _root_.Fin 32), so.val < 2 ^ m.val → r.val &&& so.val = r.val → (Sl m.val so.val).isPerm (Sl m.val r.val ++ Sl m.val (so.val - r.val)) = true ∧ (1 ≤ r.val → 1 ≤ (Sl m.val r.val).length) := by decide +kernel
theorem sub_perm {m so r : Nat} (hm : m ≤ 5) (hs : so < 2 ^ m) (hr : r &&& so = r) : (Sl m so).Perm (Sl m r ++ Sl m (so - r)) ∧ (1 ≤ r → 1 ≤ (Sl m r).length) ∧ r ≤ so ∧ so - r < 2 ^ m := by
  have p : 2 ^ m ≤ 2 ^ 5 := Nat.pow_le_pow_right (by omega) hm
  have le : r ≤ so := by rw [← hr]; exact Nat.and_le_right
  have := sub_fin ⟨m, by omega⟩ ⟨so, by omega⟩ ⟨r, by omega⟩ hs hr
  exact ⟨List.isPerm_iff.1 this.1, this.2, le, by omega⟩
theorem Sl_zero (m : Nat) : Sl m 0 = [] := by unfold Sl; simp
theorem Sl_ne {m so : Nat} (hm : m ≤ 5) (hs : so < 2 ^ m) (h0 : so ≠ 0) : 1 ≤ (Sl m so).length := (sub_perm hm hs (Nat.and_self so)).2.1 (by omega)
/-- numbers as a set -/
theorem set_of {m : Nat} : ∀ {g : List Nat}, (∀ k ∈ g, k < m) → ∃ r, r < 2 ^ m ∧ ∀ k, r.testBit k = decide (k ∈ g)
  | [], _ => ⟨0, Nat.two_pow_pos m, fun k => by simp⟩
  | a :: g, h => by
    obtain ⟨r, r1, r2⟩ := set_of (g := g) fun k hk => h k (List.mem_cons_of_mem _ hk)
    have ha := h a List.mem_cons_self
    refine ⟨r ||| 2 ^ a, Nat.or_lt_two_pow r1 (Nat.pow_lt_pow_right (by omega) ha), fun k => ?_⟩
    rw [Nat.testBit_or, r2, Nat.testBit_two_pow]
    by_cases e : k = a
    · subst e; simp
    · have : a ≠ k := fun q => e q.symm
      simp [e, this]
theorem set_sub {m so : Nat} {g : List Nat} (nd : g.Nodup) (hg : ∀ k ∈ g, k ∈ Sl m so) : ∃ r, (Sl m r).Perm g ∧ r &&& so = r := by
  obtain ⟨r, r1, r2⟩ := set_of (m := m) (g := g) fun k hk => (Sl_mem.1 (hg k hk)).1
  refine ⟨r, (List.perm_ext_iff_of_nodup (Sl_nd _ _) nd).2 fun k => ?_, ?_⟩
  · rw [Sl_mem, r2, decide_eq_true_eq]
    exact ⟨fun q => q.2, fun q => ⟨(Sl_mem.1 (hg k q)).1, q⟩⟩
  · apply Nat.eq_of_testBit_eq
    intro k
    rw [Nat.testBit_and, r2]
    by_cases q : k ∈ g
    · rw [(Sl_mem.1 (hg k q)).2]; simp
    · simp [q]
theorem rbR_nn {us : List T} (h : us.all tOk = true) (hm : us.length ≤ 5) {fee : Int} (hf : 0 ≤ fee) : ∀ (f so : Nat), so < 2 ^ us.length → 0 ≤ (rbR us fee f so).1 ∧ (f ≠ 0 → ∀ r, 1 ≤ r → r &&& so = r → 0 ≤ cst us fee (fun s => (rbR us fee (f - 1) s).1) so r)
  | 0, so, _ => ⟨Int.le_refl _, fun q => absurd rfl q⟩
  | f + 1, so, hs => by
    have pos : ∀ r, 1 ≤ r → r &&& so = r → 0 ≤ cst us fee (fun s => (rbR us fee f s).1) so r := fun r h1 h2 => by
      obtain ⟨_, _, _, lt⟩ := sub_perm hm hs h2
      have a := (rbR_nn h hm hf f (so - r) lt).1
      have b := rC_bd h (g := Sl us.length r) fun k hk => (Sl_mem.1 hk).1
      have c := rP_bd h (g := Sl us.length r) fun k hk => (Sl_mem.1 hk).1
      show 0 ≤ (fee + rC us (Sl us.length r)) * 6 ^ (Sl us.length so).length + rP us (Sl us.length r) * (rbR us fee f (so - r)).1
      have m1 := Int.mul_nonneg (show 0 ≤ fee + rC us (Sl us.length r) by omega) (Int.le_of_lt (p6_pos (Sl us.length so).length))
      have m2 := Int.mul_nonneg (Int.le_of_lt c.1) a
      omega
    refine ⟨?_, fun _ => pos⟩
    simp only [rbR]
    by_cases q : so = 0
    · rw [if_pos q]; exact Int.le_refl _
    · rw [if_neg q]
      rcases rbst_spec pos so with ⟨_, b⟩ | ⟨a, _⟩
      · exact absurd (Nat.and_self so) (b so (by omega) (Nat.le_refl _))
      · exact a
theorem rbR_le {us : List T} (h : us.all tOk = true) (hm : us.length ≤ 5) {fee : Int} (hf : 0 ≤ fee) : ∀ (f : Nat) (N : LN) (so : Nat), so < 2 ^ us.length → (∀ g ∈ N, g ≠ []) → N.flatten.Perm (Sl us.length so) → (Sl us.length so).length ≤ f → (rbR us fee f so).1 ≤ rD us fee N
  | 0, N, so, hs, ne, p, hl => by
    have e := p.length_eq
    have : N = [] := by
      cases N with
      | nil => rfl
      | cons g r =>
        have := List.length_pos_iff.2 (ne g List.mem_cons_self)
        simp only [List.flatten_cons, List.length_append] at e
        omega
    subst this
    exact Int.le_refl _
  | f + 1, N, so, hs, ne, p, hl => by
    by_cases q : so = 0
    · have e := p.length_eq
      rw [q, Sl_zero] at e
      have : N = [] := by
        cases N with
        | nil => rfl
        | cons g r =>
          have := List.length_pos_iff.2 (ne g List.mem_cons_self)
          simp only [List.flatten_cons, List.length_append, List.length_nil] at e
          omega
      subst this
      simp only [rbR]
      rw [if_pos q]
      exact Int.le_refl _
    · have l1 := Sl_ne hm hs q
      cases N with
      | nil => have e := p.length_eq; simp at e; omega
      | cons g r =>
        have nd : g.Nodup := by
          have : (g :: r).flatten.Nodup := p.nodup_iff.2 (Sl_nd _ _)
          rw [List.flatten_cons] at this
          exact (List.nodup_append.1 this).1
        obtain ⟨x, x1, x2⟩ := set_sub (m := us.length) (so := so) nd fun k hk => p.mem_iff.1 (by rw [List.flatten_cons]; exact List.mem_append_left _ hk)
        obtain ⟨s1, _, s3, s4⟩ := sub_perm hm hs x2
        have gl := List.length_pos_iff.2 (ne g List.mem_cons_self)
        have xl := x1.length_eq
        have xp : 1 ≤ x := by
          rcases Nat.eq_zero_or_pos x with e | e
          · rw [e, Sl_zero] at xl; simp at xl; omega
          · exact e
        have pr : r.flatten.Perm (Sl us.length (so - x)) := by
          have : (g ++ r.flatten).Perm (g ++ Sl us.length (so - x)) := by
            rw [← List.flatten_cons]
            exact p.trans (s1.trans (x1.append_right _))
          exact (List.perm_append_left_iff _).1 this
        have sl := s1.length_eq
        rw [List.length_append] at sl
        have ih := rbR_le h hm hf f r (so - x) s4 (fun c hc => ne c (List.mem_cons_of_mem _ hc)) pr (by omega)
        have pos : ∀ r, 1 ≤ r → r &&& so = r → 0 ≤ cst us fee (fun s => (rbR us fee f s).1) so r := (rbR_nn h hm hf (f + 1) so hs).2 (by omega)
        simp only [rbR]
        rw [if_neg q]
        rcases rbst_spec pos so with ⟨_, b⟩ | ⟨_, _, _, b⟩
        · exact absurd x2 (b x xp s3)
        · have := b x xp s3 x2
          refine Int.le_trans this ?_
          unfold cst
          simp only [rD]
          rw [rC_perm us x1, rP_perm us x1]
          have e : (Sl us.length so).length = g.length + r.flatten.length := by rw [← p.length_eq, List.flatten_cons, List.length_append]
          rw [e]
          have c := rP_bd h (g := g) fun k hk => (Sl_mem.1 (x1.mem_iff.2 hk)).1
          have m := Int.mul_le_mul_of_nonneg_left ih (Int.le_of_lt c.1)
          omega
theorem rbR_rows {us : List T} (h : us.all tOk = true) (hm : us.length ≤ 5) {fee : Int} (hf : 0 ≤ fee) : ∀ (f so : Nat), so < 2 ^ us.length → (Sl us.length so).length ≤ f → (∀ g ∈ rwR us fee f so, g ≠ []) ∧ (rwR us fee f so).flatten.Perm (Sl us.length so) ∧ rD us fee (rwR us fee f so) = (rbR us fee f so).1
  | 0, so, hs, hl => by
    have e : Sl us.length so = [] := List.length_eq_zero_iff.1 (by omega)
    rw [e]
    exact ⟨fun g hg => (by cases hg), List.Perm.refl _, rfl⟩
  | f + 1, so, hs, hl => by
    by_cases q : so = 0
    · subst q
      rw [Sl_zero]
      simp [rwR, rbR, rD]
    · have pos : ∀ r, 1 ≤ r → r &&& so = r → 0 ≤ cst us fee (fun s => (rbR us fee f s).1) so r := (rbR_nn h hm hf (f + 1) so hs).2 (by omega)
      have B := rbst_spec pos so
      have e : rbR us fee (f + 1) so = rbst us fee (fun s => (rbR us fee f s).1) so so := by simp only [rbR]; rw [if_neg q]
      rw [← e] at B
      rcases B with ⟨_, b⟩ | ⟨_, ⟨b1, b2, b3⟩, c, _⟩
      · exact absurd (Nat.and_self so) (b so (by omega) (Nat.le_refl _))
      · obtain ⟨s1, s2, s3, s4⟩ := sub_perm hm hs b3
        have sl := s1.length_eq
        rw [List.length_append] at sl
        have s2' := s2 b1
        obtain ⟨i1, i2, i3⟩ := rbR_rows h hm hf f (so - (rbR us fee (f + 1) so).2) s4 (by omega)
        have er : rwR us fee (f + 1) so = Sl us.length (rbR us fee (f + 1) so).2 :: rwR us fee f (so - (rbR us fee (f + 1) so).2) := by simp only [rwR]; rw [if_neg q]
        rw [er]
        refine ⟨fun g hg => ?_, ?_, ?_⟩
        · rcases List.mem_cons.1 hg with e | e
          · rw [e]; exact List.length_pos_iff.1 s2'
          · exact i1 g e
        · rw [List.flatten_cons]
          exact (i2.append_left _).trans s1.symm
        · rw [c]
          simp only [rD]
          unfold cst
          rw [i3, i2.length_eq, ← sl]
def brV (us : List T) (fee : Int) : Int := (rbR us fee us.length (2 ^ us.length - 1)).1
def brR (us : List T) (fee : Int) : LN := rwR us fee us.length (2 ^ us.length - 1)
theorem Sl_all {m : Nat} (hm : m ≤ 5) : Sl m (2 ^ m - 1) = List.range m := by
  have key : ∀ m : _root_.Fin 6, Sl m.val (2 ^ m.val - 1) = List.range m.val := by decide +kernel
  exact key ⟨m, by omega⟩
theorem br_all {us : List T} (h : tsOk us = true) {fee : Int} (hf : 0 ≤ fee) : Gok us.length (brR us fee) ∧ rD us fee (brR us fee) = brV us fee ∧ ∀ N, Gok us.length N → brV us fee ≤ rD us fee N := by
  have h' := tsOk_iff.1 h
  have hs : 2 ^ us.length - 1 < 2 ^ us.length := by have := Nat.two_pow_pos us.length; omega
  have hl : (Sl us.length (2 ^ us.length - 1)).length ≤ us.length := by rw [Sl_all (by omega)]; simp
  obtain ⟨i1, i2, i3⟩ := rbR_rows h'.2 (by omega) hf us.length _ hs hl
  rw [Sl_all (by omega)] at i2
  refine ⟨⟨fun g hg k hk => ?_, i2.nodup_iff.2 List.nodup_range, fun k hk => i2.mem_iff.2 (List.mem_range.2 hk), i1⟩, i3, fun N G => ?_⟩
  · exact List.mem_range.1 (i2.mem_iff.1 (List.mem_flatten.2 ⟨g, hg, hk⟩))
  · refine rbR_le h'.2 (by omega) hf us.length N _ hs G.ne ?_ hl
    rw [Sl_all (by omega)]
    exact (List.perm_ext_iff_of_nodup G.nd List.nodup_range).2 fun k => by
      rw [List.mem_range]
      refine ⟨fun hk => ?_, G.all k⟩
      obtain ⟨c, c1, c2⟩ := List.mem_flatten.1 hk
      exact G.lt c c1 k c2
/-- greater fees cost more, and ever less so -/
theorem br_fee {us : List T} (h : tsOk us = true) {fee : Int} (hf : 0 ≤ fee) : brV us fee + 6 ^ us.length ≤ brV us (fee + 1) ∧ brV us (fee + 2) - brV us (fee + 1) ≤ brV us (fee + 1) - brV us fee := by
  have h' := tsOk_iff.1 h
  obtain ⟨G, e, _⟩ := br_all h (fee := fee + 1) (by omega)
  have l0 := (br_all h hf).2.2 _ G
  have l2 := (br_all h (fee := fee + 2) (by omega)).2.2 _ G
  have d1 := rD_fee us fee 1 (brR us (fee + 1))
  have d2 := rD_fee us (fee + 1) 1 (brR us (fee + 1))
  have ne : brR us (fee + 1) ≠ [] := fun q => by
    have := gok_len G
    rw [q] at this
    simp at this
    omega
  have w := rdW_one h'.2 G.lt ne
  rw [gok_len G] at w
  rw [show fee + 1 + 1 = fee + 2 by omega] at d2
  omega
theorem flat_one : ∀ l : List Nat, (l.map fun k => [k]).flatten = l
  | [] => rfl
  | x :: l => by rw [List.map_cons, List.flatten_cons, flat_one l]; rfl
/-- with no fee nothing is better than one by one, by ratios -/
theorem br_free {us : List T} (h : tsOk us = true) : brV us 0 = rA us 0 1 (rO us 0 us.length) := by
  have h' := tsOk_iff.1 h
  obtain ⟨G, e, le⟩ := br_all h (fee := 0) (by omega)
  have a := rD_flat h'.2 G.lt
  have p : (brR us 0).flatten.Perm (eachN us.length).flatten := by
    rw [eachN_flat]
    exact (List.perm_ext_iff_of_nodup G.nd List.nodup_range).2 fun k => by
      rw [List.mem_range]
      refine ⟨fun hk => ?_, G.all k⟩
      obtain ⟨c, c1, c2⟩ := List.mem_flatten.1 hk
      exact G.lt c c1 k c2
  have w := wk_singles (L := eachN us.length) (fun c hc => by
    obtain ⟨i, _, rfl⟩ := eachN_mem hc; simp) p
  have b := ra_least h (gok_eachN us.length) w
  obtain ⟨q, e2, wq⟩ := ro_row h
  have pq := wk_perm wq
  rw [eachN_flat] at pq
  have G2 : Gok us.length (q.map fun k => [k]) := by
    refine ⟨fun g hg k hk => ?_, ?_, fun k hk => ?_, fun g hg => ?_⟩
    · obtain ⟨x, hx, rfl⟩ := List.mem_map.1 hg
      rw [List.mem_singleton.1 hk]
      exact List.mem_range.1 (pq.mem_iff.1 hx)
    · rw [flat_one]; exact pq.nodup_iff.2 List.nodup_range
    · rw [flat_one]; exact pq.mem_iff.2 (List.mem_range.2 hk)
    · obtain ⟨x, hx, rfl⟩ := List.mem_map.1 hg
      simp
  have c := le _ G2
  have d := rD_ones us (N := q.map fun k => [k]) fun g hg => by
    obtain ⟨x, _, rfl⟩ := List.mem_map.1 hg; rfl
  rw [flat_one] at d
  have rr := rA_row us q
  rw [← e2] at rr
  omega
end
section
attribute [-simp] DV.cells sliceD
attribute [local simp] cells_st cells_sl cells_i cells_y cells_b cells_s cells_w
/-- how many bits are ones, one by one -/
def hb : Nat → Nat → Nat
  | 0, _ => 0
  | f + 1, n => n % 2 + hb f (n / 2)
def ctOk (us : List T) (k : Int) : Bool := tsOk us && decide (1 ≤ k ∧ k ≤ us.length)
end
section
attribute [-simp] DV.cells
attribute [local simp] sliceD cells_st cells_sl cells_i cells_y cells_b cells_s cells_w
theorem and_nat {a b : Nat} (ha : a < 1000) (hb : b < 1000) : andI (a : Int) (b : Int) = ((a &&& b : Nat) : Int) := by
  unfold andI
  have e : (BitVec.ofInt 64 (a : Int) &&& BitVec.ofInt 64 (b : Int)).toNat = a &&& b := by
    rw [BitVec.toNat_and, BitVec.toNat_ofInt, BitVec.toNat_ofInt]
    have x : ((a : Int) % ((2 ^ 64 : Nat) : Int)).toNat = a := by omega
    have y : ((b : Int) % ((2 ^ 64 : Nat) : Int)).toNat = b := by omega
    rw [x, y]
  rw [e]
  have : a &&& b ≤ a := Nat.and_le_left
  exact wr_id (by omega) (by omega)
theorem Sl_succ (j r : Nat) : Sl (j + 1) r = Sl j r ++ if r.testBit j then [j] else [] := by
  unfold Sl
  rw [List.range_succ, List.filter_append]
  congr 1
  cases h : r.testBit j <;> simp [h]
theorem Sl_mono {m r : Nat} : ∀ {j : Nat}, j ≤ m → (Sl j r).length ≤ (Sl m r).length := by
  intro j hj
  obtain ⟨d, rfl⟩ := Nat.exists_eq_add_of_le hj
  induction d with
  | zero => exact Nat.le_refl _
  | succ d ih => rw [← Nat.add_assoc, Sl_succ, List.length_append]; have := ih (by omega); omega
/-- the cost of the best rounds is that of one round of all at most -/
theorem rbR_up {us : List T} (h : us.all tOk = true) (hm : us.length ≤ 5) {fee : Int} (hf : 0 ≤ fee ∧ fee ≤ 22) (f so : Nat) (hs : so < 2 ^ us.length) (hl : (Sl us.length so).length ≤ f) : (rbR us fee f so).1 ≤ 70 * 6 ^ (Sl us.length so).length := by
  have p := p6_pos (Sl us.length so).length
  cases f with
  | zero => simp only [rbR]; omega
  | succ f =>
    by_cases q : so = 0
    · simp only [rbR]; rw [if_pos q]; simp only; omega
    · have := rbR_le h hm hf.1 (f + 1) [Sl us.length so] so hs (fun g hg => by
        rw [List.mem_singleton.1 hg]
        exact List.length_pos_iff.1 (Sl_ne hm hs q)) (by simp) hl
      refine Int.le_trans this ?_
      simp only [rD]
      have a := rC_bd h (g := Sl us.length so) fun k hk => (Sl_mem.1 hk).1
      have l5 : (Sl us.length so).length ≤ 5 := by
        have := List.length_filter_le so.testBit (List.range us.length)
        rw [List.length_range] at this
        exact Nat.le_trans this hm
      rw [Int.mul_zero, Int.add_zero]
      simp only [List.flatten_nil, List.length_nil, Nat.add_zero]
      exact Int.mul_le_mul_of_nonneg_right (by omega) (by omega)
def stL0 (us : List T) (so : Nat) (fee w best : Int) (first round : Nat) : LS :=
  ⟨[(0, .sl 0 (us.map e2)), (1, .i so), (2, .i fee), (3, .i w), (10, .i best), (11, .i first), (12, .i round)], []⟩
def stL1 (us : List T) (so : Nat) (fee w best : Int) (first round : Nat) (cost next : Int) (k : Nat) : LS :=
  ⟨[(0, .sl 0 (us.map e2)), (1, .i so), (2, .i fee), (3, .i w), (10, .i best), (11, .i first), (12, .i round), (13, .i cost), (14, .i next), (15, .i k)], []⟩
set_option maxHeartbeats 4000000 in
theorem lb_inner {us : List T} (h : us.all tOk = true) (hm : us.length ≤ 5) {so : Nat} {fee w best : Int} {first round : Nat} (hf : 0 ≤ fee ∧ fee ≤ 22) {X : Int} {q : Nat} (h0 : 0 ≤ X) (hx : X * 6 ^ ((Sl us.length round).length + q) ≤ 7776) :
    ex lf F_spec_l10Best_W1 (stL1 us so fee w best first round fee (X * 6 ^ ((Sl us.length round).length + q)) 0) = some (.exit 2, stL1 us so fee w best first round (fee + rC us (Sl us.length round)) (X * rP us (Sl us.length round) * 6 ^ q) us.length) := by
  have z : Sl 0 round = [] := rfl
  have e0 : stL1 us so fee w best first round fee (X * 6 ^ ((Sl us.length round).length + q)) 0 = stL1 us so fee w best first round (fee + rC us (Sl 0 round)) (X * rP us (Sl 0 round) * 6 ^ ((Sl us.length round).length - (Sl 0 round).length + q)) 0 := by
    rw [z]; simp [rC, rP]
  rw [e0]
  refine loop_count (lf := lf) (L := F_spec_l10Best_L1) us.length (fun j => stL1 us so fee w best first round (fee + rC us (Sl j round)) (X * rP us (Sl j round) * 6 ^ ((Sl us.length round).length - (Sl j round).length + q)) j) (fun j hj => ?_) ?_ (by simp)
  · have jm : ∀ k ∈ Sl j round, k < us.length := fun k hk => by have := (Sl_mem.1 hk).1; omega
    have jm2 : ∀ k ∈ Sl (j + 1) round, k < us.length := fun k hk => by have := (Sl_mem.1 hk).1; omega
    have rc := rC_bd h jm
    have rp := rP_bd h jm
    have rp2 := rP_bd h jm2
    have lj := Sl_mono (r := round) (m := us.length) (j := j) (by omega)
    have lj2 := Sl_mono (r := round) (m := us.length) (j := j + 1) (by omega)
    have b := bit_bI (a := round) (s := j) (by omega)
    have hj' : (j : Int) < us.length := by omega
    have nj : ¬ (j : Int) < 0 := by omega
    have w7 := wr_succ (k := j) (by omega)
    have at2 := atT hj
    have cb := cA_bd h hj
    have pb := pA_bd h hj
    have l5 : (Sl j round).length ≤ 5 := by
      have := List.length_filter_le round.testBit (List.range j)
      rw [List.length_range] at this
      exact Nat.le_trans this (by omega)
    show ex lf F_spec_l10Best_L1 (stL1 us so fee w best first round (fee + rC us (Sl j round)) (X * rP us (Sl j round) * 6 ^ ((Sl us.length round).length - (Sl j round).length + q)) j) = some (.normal, stL1 us so fee w best first round (fee + rC us (Sl (j + 1) round)) (X * rP us (Sl (j + 1) round) * 6 ^ ((Sl us.length round).length - (Sl (j + 1) round).length + q)) (j + 1))
    rw [Sl_succ] at rp2 lj2 ⊢
    cases hb : round.testBit j with
    | false =>
      rw [hb] at b
      simp only [Bool.false_eq_true, if_false, List.append_nil]
      unfold stL1
      generalize X * rP us (Sl j round) * 6 ^ ((Sl us.length round).length - (Sl j round).length + q) = V at *
      generalize fee + rC us (Sl j round) = U at *
      simp [F_spec_l10Best_L1, hj, hj', nj, b, bI, w7, -Int.natCast_add]
    | true =>
      rw [hb] at b rp2 lj2
      simp only [if_true] at rp2 lj2 ⊢
      rw [List.length_append, List.length_singleton] at lj2 rp2
      have ec : rC us (Sl j round ++ [j]) = rC us (Sl j round) + cA us j := by rw [rC_app]; simp [rC]
      have ep : rP us (Sl j round ++ [j]) = rP us (Sl j round) * pA us j := by rw [rP_app]; simp [rP]
      obtain ⟨d, hd⟩ : ∃ d, (Sl us.length round).length = (Sl j round).length + 1 + d := ⟨(Sl us.length round).length - (Sl j round).length - 1, by omega⟩
      rw [ep] at rp2
      have w1 := wt_le (n := d) (d := (Sl j round).length + 1) (q := q) h0 (by rw [← hd]; exact hx) rp2.1 rp2.2
      have w2 := wt_le (n := d) (d := (Sl j round).length) (q := q) h0 (Int.le_trans (Int.mul_le_mul_of_nonneg_left (show (6 : Int) ^ ((Sl j round).length + d + q) ≤ 6 ^ ((Sl us.length round).length + q) from by
        rw [hd, show (Sl j round).length + 1 + d + q = (Sl j round).length + d + q + 1 by omega, Int.pow_succ]
        have := p6_pos ((Sl j round).length + d + q)
        omega) h0) hx) rp.1 rp.2
      rw [ec, ep, List.length_append, List.length_singleton, hd, show (Sl j round).length + 1 + d - (Sl j round).length + q = d + q + 1 by omega, show (Sl j round).length + 1 + d - ((Sl j round).length + 1) + q = d + q by omega]
      have e6 : X * rP us (Sl j round) * 6 ^ (d + q + 1) = X * rP us (Sl j round) * 6 ^ (d + q) * 6 := by rw [Int.pow_succ, ← Int.mul_assoc]
      have e7 : X * (rP us (Sl j round) * pA us j) * 6 ^ (d + q) = X * rP us (Sl j round) * 6 ^ (d + q) * pA us j := by
        rw [← Int.mul_assoc, Int.mul_assoc, Int.mul_comm (pA us j), ← Int.mul_assoc]
      rw [e7] at w1
      have td := tdiv6 w2.1
      rw [e6, e7, ← Int.add_assoc]
      unfold stL1
      generalize X * rP us (Sl j round) * 6 ^ (d + q) = V at *
      have w3 : wr (fee + rC us (Sl j round) + cA us j) = fee + rC us (Sl j round) + cA us j := wr_id (by omega) (by omega)
      have w4 : wr (V * pA us j) = V * pA us j := wr_id (by omega) (by omega)
      have w5 : wr V = V := wr_id (by omega) (by omega)
      generalize fee + rC us (Sl j round) = U at *
      generalize cA us j = c at *
      generalize pA us j = p at *
      simp [F_spec_l10Best_L1, hj, hj', nj, b, bI, at2, td, w3, w4, w5, w7, -Int.natCast_add]
  · show ex lf F_spec_l10Best_L1 (stL1 us so fee w best first round (fee + rC us (Sl us.length round)) (X * rP us (Sl us.length round) * 6 ^ ((Sl us.length round).length - (Sl us.length round).length + q)) us.length) = _
    rw [Nat.sub_self, Nat.zero_add]
    unfold stL1
    generalize X * rP us (Sl us.length round) * 6 ^ q = V at *
    generalize fee + rC us (Sl us.length round) = U at *
    simp [F_spec_l10Best_L1]
/-- the least so far, times a weight -/
def scl (X : Int) (st : Int × Nat) : Int := if st.1 < 0 then -1 else X * st.1
def LbOk (us : List T) (fee : Int) (f : Nat) : Prop := ∀ (so : Nat) (X : Int), so < 2 ^ us.length → (Sl us.length so).length ≤ f → 0 < X → X * 6 ^ (Sl us.length so).length ≤ 7776 →
    call lf n_spec_l10Best [.sl 0 (us.map e2), .i so, .i fee, .i (X * 6 ^ (Sl us.length so).length)] = some (.tup [.i (X * (rbR us fee f so).1), .i (rbR us fee f so).2], [])
set_option maxHeartbeats 4000000 in
theorem lb_step {us : List T} (h : us.all tOk = true) (hm : us.length ≤ 5) {fee : Int} (hf : 0 ≤ fee ∧ fee ≤ 22) {f : Nat} (ih : LbOk us fee f) {so : Nat} {X : Int} (hs : so < 2 ^ us.length) (hl : (Sl us.length so).length ≤ f + 1) (h0 : 0 < X) (hx : X * 6 ^ (Sl us.length so).length ≤ 7776) {n : Nat} (hn : n < so) :
    ex lf F_spec_l10Best_L0 (stL0 us so fee (X * 6 ^ (Sl us.length so).length) (scl X (rbst us fee (fun s => (rbR us fee f s).1) so n)) (rbst us fee (fun s => (rbR us fee f s).1) so n).2 (n + 1)) =
      some (.normal, stL0 us so fee (X * 6 ^ (Sl us.length so).length) (scl X (rbst us fee (fun s => (rbR us fee f s).1) so (n + 1))) (rbst us fee (fun s => (rbR us fee f s).1) so (n + 1)).2 (n + 2)) := by
  have p32 : 2 ^ us.length ≤ 2 ^ 5 := Nat.pow_le_pow_right (by omega) hm
  have pos : ∀ r, 1 ≤ r → r &&& so = r → 0 ≤ cst us fee (fun s => (rbR us fee f s).1) so r := (rbR_nn h hm hf.1 (f + 1) so hs).2 (by omega)
  have an := and_nat (a := n + 1) (b := so) (by omega) (by omega)
  have le : ((n + 1 : Nat) : Int) ≤ so := by omega
  have w7 := wr_succ (k := n + 1) (by omega)
  have wb : 0 ≤ X * 6 ^ (Sl us.length so).length := Int.mul_nonneg (by omega) (Int.le_of_lt (p6_pos _))
  have st := rbst_spec pos n
  simp only [rbst]
  generalize hst : rbst us fee (fun s => (rbR us fee f s).1) so n = s at *
  by_cases q : (n + 1) &&& so = n + 1
  · rw [if_pos q]
    rw [q] at an
    obtain ⟨s1, s2, s3, s4⟩ := sub_perm hm hs q
    have sl := s1.length_eq
    rw [List.length_append] at sl
    have sp := s2 (by omega)
    have rc := rC_bd h (g := Sl us.length (n + 1)) fun k hk => (Sl_mem.1 hk).1
    have rp := rP_bd h (g := Sl us.length (n + 1)) fun k hk => (Sl_mem.1 hk).1
    have l5 : (Sl us.length (n + 1)).length ≤ 5 := by
      have := List.length_filter_le (n + 1).testBit (List.range us.length)
      rw [List.length_range] at this
      exact Nat.le_trans this hm
    have hx' : X * 6 ^ ((Sl us.length (n + 1)).length + (Sl us.length (so - (n + 1))).length) ≤ 7776 := by rw [← sl]; exact hx
    have I := lb_inner (so := so) (fee := fee) (w := X * 6 ^ (Sl us.length so).length) (best := scl X s) (first := s.2) (round := n + 1) (X := X) h hm hf (by omega) hx'
    have wt := wt_le (X := X) (n := 0) (d := (Sl us.length (n + 1)).length) (q := (Sl us.length (so - (n + 1))).length) (by omega) (by rw [Nat.add_zero]; exact hx') rp.1 rp.2
    rw [Nat.zero_add] at wt
    have xp : 0 < X * rP us (Sl us.length (n + 1)) := Int.mul_pos h0 rp.1
    have R := ih (so - (n + 1)) (X * rP us (Sl us.length (n + 1))) s4 (by omega) xp wt.2
    have rn := (rbR_nn h hm hf.1 f (so - (n + 1)) s4).1
    have ru := rbR_up h hm hf f (so - (n + 1)) s4 (by omega)
    have vn : 0 ≤ X * rP us (Sl us.length (n + 1)) * (rbR us fee f (so - (n + 1))).1 := Int.mul_nonneg (by omega) rn
    have vu : X * rP us (Sl us.length (n + 1)) * (rbR us fee f (so - (n + 1))).1 ≤ 70 * 7776 := by
      refine Int.le_trans (Int.mul_le_mul_of_nonneg_left ru (by omega)) ?_
      rw [← Int.mul_assoc, Int.mul_comm _ 70, Int.mul_assoc]
      omega
    have cu : 0 ≤ (fee + rC us (Sl us.length (n + 1))) * (X * 6 ^ (Sl us.length so).length) ∧ (fee + rC us (Sl us.length (n + 1))) * (X * 6 ^ (Sl us.length so).length) ≤ 70 * 7776 := ⟨Int.mul_nonneg (by omega) wb, Int.mul_le_mul (by omega) hx wb (by omega)⟩
    have ce : (fee + rC us (Sl us.length (n + 1))) * (X * 6 ^ (Sl us.length so).length) + X * rP us (Sl us.length (n + 1)) * (rbR us fee f (so - (n + 1))).1 = X * cst us fee (fun s => (rbR us fee f s).1) so (n + 1) := by
      unfold cst
      simp only
      generalize (6 : Int) ^ (Sl us.length so).length = P
      grind
    have cn := pos (n + 1) (by omega) q
    rw [← sl] at I
    have w1 : wr (((so : Nat) : Int) - ((n + 1 : Nat) : Int)) = ((so - (n + 1) : Nat) : Int) := by rw [wr_id (by omega) (by omega)]; omega
    unfold stL0
    unfold stL1 at I
    simp only [Int.natCast_zero] at I
    generalize cst us fee (fun s => (rbR us fee f s).1) so (n + 1) = C at *
    generalize hv : X * rP us (Sl us.length (n + 1)) * (rbR us fee f (so - (n + 1))).1 = v at *
    generalize (rbR us fee f (so - (n + 1))).2 = z2 at *
    generalize X * rP us (Sl us.length (n + 1)) * 6 ^ (Sl us.length (so - (n + 1))).length = V at *
    generalize fee + rC us (Sl us.length (n + 1)) = U at *
    generalize X * 6 ^ (Sl us.length so).length = W at *
    have w2 : wr (U * W) = U * W := wr_id (by omega) (by omega)
    have w3 : wr (U * W + v) = X * C := by rw [wr_id (by omega) (by omega), ce]
    have dec : (scl X s < 0 ∨ X * C < scl X s) ↔ (s.1 < 0 ∨ C < s.1) := by
      unfold scl
      by_cases d : s.1 < 0
      · rw [if_pos d]; simp [d]
      · rw [if_neg d]
        have : 0 ≤ X * s.1 := Int.mul_nonneg (by omega) (by omega)
        constructor
        · rintro (x | x)
          · omega
          · exact .inr (Int.lt_of_mul_lt_mul_left x (by omega))
        · rintro (x | x)
          · exact absurd x d
          · exact .inr (Int.mul_lt_mul_of_pos_left x h0)
    generalize hN : n + 1 = N at *
    have hN2 : n + 2 = N + 1 := by omega
    rw [hN2]
    have nn : ¬ C < 0 := by omega
    generalize hb : scl X s = b at *
    by_cases d : s.1 < 0 ∨ C < s.1
    · rw [if_pos d]
      have e : scl X (C, N) = X * C := by unfold scl; rw [if_neg nn]
      rw [e]
      rcases dec.2 d with d1 | d1
      · simp [F_spec_l10Best_L0, le, an, I, R, w1, w2, w3, w7, d1, -Int.natCast_add]
      · by_cases d2 : b < 0
        · simp [F_spec_l10Best_L0, le, an, I, R, w1, w2, w3, w7, d2, -Int.natCast_add]
        · simp [F_spec_l10Best_L0, le, an, I, R, w1, w2, w3, w7, d1, d2, -Int.natCast_add]
    · rw [if_neg d, hb]
      have d1 : ¬ (b < 0 ∨ X * C < b) := fun x => d (dec.1 x)
      have d2 : ¬ b < 0 := fun x => d1 (.inl x)
      have d3 : ¬ X * C < b := fun x => d1 (.inr x)
      simp [F_spec_l10Best_L0, le, an, I, R, w1, w2, w3, w7, d2, d3, -Int.natCast_add]
  · rw [if_neg q]
    have q' : ((((n + 1) &&& so : Nat) : Int) != ((n + 1 : Nat) : Int)) = true := by simp; omega
    unfold stL0
    generalize scl X s = b at *
    generalize X * 6 ^ (Sl us.length so).length = W at *
    generalize hA : (n + 1) &&& so = A at *
    generalize hN : n + 1 = N at *
    have hN2 : n + 2 = N + 1 := by omega
    rw [hN2]
    have q2 : ¬ (A : Int) = N := by omega
    simp [F_spec_l10Best_L0, le, an, q', q2, w7, -Int.natCast_add]
set_option maxHeartbeats 1000000 in
theorem c_spec_l10Best {us : List T} (h : us.all tOk = true) (hm : us.length ≤ 5) {fee : Int} (hf : 0 ≤ fee ∧ fee ≤ 22) : ∀ f, LbOk us fee f
  | 0 => fun so X hs hl h0 hx => by
    rw [call_k lf n_spec_l10Best _ (F := F_spec_l10Best) rfl rfl]
    have e : so = 0 := by
      rcases Nat.eq_zero_or_pos so with q | q
      · exact q
      · have := Sl_ne hm hs (by omega); omega
    subst e
    simp [F_spec_l10Best, rbR]
  | f + 1 => fun so X hs hl h0 hx => by
    rw [call_k lf n_spec_l10Best _ (F := F_spec_l10Best) rfl rfl]
    by_cases q : so = 0
    · subst q
      simp [F_spec_l10Best, rbR]
    · have ih := c_spec_l10Best h hm hf f
      have L : ex lf F_spec_l10Best_W0 (stL0 us so fee (X * 6 ^ (Sl us.length so).length) (scl X (rbst us fee (fun s => (rbR us fee f s).1) so 0)) (rbst us fee (fun s => (rbR us fee f s).1) so 0).2 (0 + 1)) = some (.exit 0, stL0 us so fee (X * 6 ^ (Sl us.length so).length) (scl X (rbst us fee (fun s => (rbR us fee f s).1) so so)) (rbst us fee (fun s => (rbR us fee f s).1) so so).2 (so + 1)) := by
        refine loop_count (lf := lf) (L := F_spec_l10Best_L0) so (fun n => stL0 us so fee (X * 6 ^ (Sl us.length so).length) (scl X (rbst us fee (fun s => (rbR us fee f s).1) so n)) (rbst us fee (fun s => (rbR us fee f s).1) so n).2 (n + 1)) (fun n hn => lb_step h hm hf ih hs hl h0 hx hn) ?_ (by simp)
        have nle : ¬ ((so + 1 : Nat) : Int) ≤ so := by omega
        show ex lf F_spec_l10Best_L0 (stL0 us so fee (X * 6 ^ (Sl us.length so).length) (scl X (rbst us fee (fun s => (rbR us fee f s).1) so so)) (rbst us fee (fun s => (rbR us fee f s).1) so so).2 (so + 1)) = _
        unfold stL0
        generalize scl X _ = b at *
        generalize (rbst us fee (fun s => (rbR us fee f s).1) so so).2 = b2 at *
        generalize X * 6 ^ (Sl us.length so).length = W at *
        generalize hN : so + 1 = N at *
        simp [F_spec_l10Best_L0, nle]
      have e : rbR us fee (f + 1) so = rbst us fee (fun s => (rbR us fee f s).1) so so := by simp only [rbR]; rw [if_neg q]
      have nn := (rbR_nn h hm hf.1 (f + 1) so hs).1
      rw [← e] at L
      have es : scl X (rbR us fee (f + 1) so) = X * (rbR us fee (f + 1) so).1 := by unfold scl; rw [if_neg (by omega)]
      rw [es] at L
      unfold stL0 at L
      have z1 : scl X (rbst us fee (fun s => (rbR us fee f s).1) so 0) = -1 := rfl
      have z2 : (rbst us fee (fun s => (rbR us fee f s).1) so 0).2 = 0 := rfl
      rw [z1, z2] at L
      simp only [Nat.zero_add, Int.natCast_zero, Int.natCast_one] at L
      have q' : ((so : Int) == 0) = false := beq_false_of_ne (by omega)
      generalize X * (rbR us fee (f + 1) so).1 = v at *
      generalize (rbR us fee (f + 1) so).2 = z at *
      generalize X * 6 ^ (Sl us.length so).length = W at *
      generalize hN : so + 1 = N at *
      simp [F_spec_l10Best, q, q', L]
end
section
attribute [-simp] DV.cells
attribute [local simp] sliceD cells_st cells_sl cells_i cells_y cells_b cells_s cells_w
attribute [local simp] lend_eR al_eR lend_eN adopt_eN new_eN
def stB0 (us : List T) (fee : Int) (out : LN) (so : Nat) (w best : Int) : LS :=
  ⟨[(0, .sl 0 (us.map e2)), (1, .i fee), (6, .own 12296 out.length 0 out.length), (7, .i so), (8, .i w), (9, .i best)], [(12296, (out.map ni).map eN)]⟩
def stB1 (us : List T) (fee : Int) (out : LN) (so : Nat) (w best : Int) (round : Nat) (row : List Nat) (k : Nat) : LS :=
  ⟨[(0, .sl 0 (us.map e2)), (1, .i fee), (6, .own 12296 out.length 0 out.length), (7, .i so), (8, .i w), (9, .i best), (12, .i round), (13, .own 25608 row.length 0 row.length), (14, .i k)], [(12296, (out.map ni).map eN), (25608, (ni row).map .i)]⟩
set_option maxHeartbeats 4000000 in
theorem br_inner {us : List T} (h : us.all tOk = true) (hm : us.length ≤ 5) {so : Nat} {fee best : Int} {out : LN} {round : Nat} {X : Int} {q : Nat} (h0 : 0 ≤ X) (hx : X * 6 ^ ((Sl us.length round).length + q) ≤ 7776) :
    ex lf F_spec_BestRounds_W1 (stB1 us fee out so (X * 6 ^ ((Sl us.length round).length + q)) best round [] 0) = some (.exit 2, stB1 us fee out so (X * rP us (Sl us.length round) * 6 ^ q) best round (Sl us.length round) us.length) := by
  have z : Sl 0 round = [] := rfl
  have e0 : stB1 us fee out so (X * 6 ^ ((Sl us.length round).length + q)) best round [] 0 = stB1 us fee out so (X * rP us (Sl 0 round) * 6 ^ ((Sl us.length round).length - (Sl 0 round).length + q)) best round (Sl 0 round) 0 := by
    rw [z]; simp [rP]
  rw [e0]
  refine loop_count (lf := lf) (L := F_spec_BestRounds_L1) us.length (fun j => stB1 us fee out so (X * rP us (Sl j round) * 6 ^ ((Sl us.length round).length - (Sl j round).length + q)) best round (Sl j round) j) (fun j hj => ?_) ?_ (by simp)
  · have jm : ∀ k ∈ Sl j round, k < us.length := fun k hk => by have := (Sl_mem.1 hk).1; omega
    have jm2 : ∀ k ∈ Sl (j + 1) round, k < us.length := fun k hk => by have := (Sl_mem.1 hk).1; omega
    have rp := rP_bd h jm
    have rp2 := rP_bd h jm2
    have lj := Sl_mono (r := round) (m := us.length) (j := j) (by omega)
    have lj2 := Sl_mono (r := round) (m := us.length) (j := j + 1) (by omega)
    have b := bit_bI (a := round) (s := j) (by omega)
    have hj' : (j : Int) < us.length := by omega
    have nj : ¬ (j : Int) < 0 := by omega
    have w7 := wr_succ (k := j) (by omega)
    have at2 := atT hj
    have cb := cA_bd h hj
    have pb := pA_bd h hj
    have l5 : (Sl j round).length ≤ 5 := by
      have := List.length_filter_le round.testBit (List.range j)
      rw [List.length_range] at this
      exact Nat.le_trans this (by omega)
    show ex lf F_spec_BestRounds_L1 (stB1 us fee out so (X * rP us (Sl j round) * 6 ^ ((Sl us.length round).length - (Sl j round).length + q)) best round (Sl j round) j) = some (.normal, stB1 us fee out so (X * rP us (Sl (j + 1) round) * 6 ^ ((Sl us.length round).length - (Sl (j + 1) round).length + q)) best round (Sl (j + 1) round) (j + 1))
    rw [Sl_succ] at rp2 lj2 ⊢
    cases hb : round.testBit j with
    | false =>
      rw [hb] at b
      simp only [Bool.false_eq_true, if_false, List.append_nil]
      unfold stB1
      generalize X * rP us (Sl j round) * 6 ^ ((Sl us.length round).length - (Sl j round).length + q) = V at *
      generalize (out.map ni).map eN = D at *
      generalize Sl j round = row at *
      simp [F_spec_BestRounds_L1, hj, hj', nj, b, bI, w7, -Int.natCast_add]
    | true =>
      rw [hb] at b rp2 lj2
      simp only [if_true] at rp2 lj2 ⊢
      rw [List.length_append, List.length_singleton] at lj2 rp2
      have ep : rP us (Sl j round ++ [j]) = rP us (Sl j round) * pA us j := by rw [rP_app]; simp [rP]
      obtain ⟨d, hd⟩ : ∃ d, (Sl us.length round).length = (Sl j round).length + 1 + d := ⟨(Sl us.length round).length - (Sl j round).length - 1, by omega⟩
      rw [ep] at rp2
      have w1 := wt_le (n := d) (d := (Sl j round).length + 1) (q := q) h0 (by rw [← hd]; exact hx) rp2.1 rp2.2
      have w2 := wt_le (n := d) (d := (Sl j round).length) (q := q) h0 (Int.le_trans (Int.mul_le_mul_of_nonneg_left (show (6 : Int) ^ ((Sl j round).length + d + q) ≤ 6 ^ ((Sl us.length round).length + q) from by
        rw [hd, show (Sl j round).length + 1 + d + q = (Sl j round).length + d + q + 1 by omega, Int.pow_succ]
        have := p6_pos ((Sl j round).length + d + q)
        omega) h0) hx) rp.1 rp.2
      have la : (Sl j round ++ [j]).length = (Sl j round).length + 1 := by simp
      rw [ep, la, hd, show (Sl j round).length + 1 + d - (Sl j round).length + q = d + q + 1 by omega, show (Sl j round).length + 1 + d - ((Sl j round).length + 1) + q = d + q by omega]
      have e6 : X * rP us (Sl j round) * 6 ^ (d + q + 1) = X * rP us (Sl j round) * 6 ^ (d + q) * 6 := by rw [Int.pow_succ, ← Int.mul_assoc]
      have e7 : X * (rP us (Sl j round) * pA us j) * 6 ^ (d + q) = X * rP us (Sl j round) * 6 ^ (d + q) * pA us j := by
        rw [← Int.mul_assoc, Int.mul_assoc, Int.mul_comm (pA us j), ← Int.mul_assoc]
      rw [e7] at w1
      have td := tdiv6 w2.1
      rw [e6, e7]
      have ap := ni_app (Sl j round) [j]
      have nj1 : ni [j] = [(j : Int)] := rfl
      have nl := ni_len (Sl j round)
      have cb1 : (Sl j round).length + 1 ≤ bound := by unfold bound; omega
      unfold stB1
      rw [la, ap, nj1]
      generalize X * rP us (Sl j round) * 6 ^ (d + q) = V at *
      have w4 : wr (V * pA us j) = V * pA us j := wr_id (by omega) (by omega)
      have w5 : wr V = V := wr_id (by omega) (by omega)
      generalize cA us j = c at *
      generalize pA us j = p at *
      generalize (out.map ni).map eN = D at *
      generalize Sl j round = row at *
      simp [F_spec_BestRounds_L1, hj, hj', nj, b, bI, at2, td, nl, cb1, w4, w5, w7, -Int.natCast_add]
  · show ex lf F_spec_BestRounds_L1 (stB1 us fee out so (X * rP us (Sl us.length round) * 6 ^ ((Sl us.length round).length - (Sl us.length round).length + q)) best round (Sl us.length round) us.length) = _
    rw [Nat.sub_self, Nat.zero_add]
    unfold stB1
    generalize X * rP us (Sl us.length round) * 6 ^ q = V at *
    generalize (out.map ni).map eN = D at *
    generalize Sl us.length round = row at *
    simp [F_spec_BestRounds_L1]
set_option maxHeartbeats 4000000 in
theorem br_outer {us : List T} (h : us.all tOk = true) (hm : us.length ≤ 5) {fee best : Int} (hf : 0 ≤ fee ∧ fee ≤ 22) : ∀ (f so : Nat) (out : LN) (X : Int), so < 2 ^ us.length → (Sl us.length so).length ≤ f → 0 < X → X * 6 ^ (Sl us.length so).length ≤ 7776 → out.length + f ≤ 5 →
    ∃ w', ex lf F_spec_BestRounds_W0 (stB0 us fee out so (X * 6 ^ (Sl us.length so).length) best) = some (.exit 0, stB0 us fee (out ++ rwR us fee f so) 0 w' best) := by
  have done : ∀ (out : LN) (w : Int), ex lf F_spec_BestRounds_W0 (stB0 us fee out 0 w best) = some (.exit 0, stB0 us fee out 0 w best) := fun out w => by
    rw [w_spec_BestRounds_0]
    unfold stB0
    generalize (out.map ni).map eN = D at *
    simp [F_spec_BestRounds_L0]
  have zero : ∀ {f so : Nat}, so < 2 ^ us.length → (Sl us.length so).length ≤ f → f = 0 → so = 0 := fun hs hl e => by
    rename_i so
    rcases Nat.eq_zero_or_pos so with q | q
    · exact q
    · have := Sl_ne hm hs (by omega); omega
  intro f
  induction f with
  | zero =>
    intro so out X hs hl h0 hx ho
    have e := zero hs hl rfl
    subst e
    simp only [rwR]
    rw [List.append_nil]
    exact ⟨_, done out _⟩
  | succ f ih =>
    intro so out X hs hl h0 hx ho
    by_cases q : so = 0
    · subst q
      have er : rwR us fee (f + 1) 0 = [] := by unfold rwR; rw [if_pos rfl]
      rw [er, List.append_nil]
      exact ⟨_, done out _⟩
    · have p32 : 2 ^ us.length ≤ 2 ^ 5 := Nat.pow_le_pow_right (by omega) hm
      have pos : ∀ r, 1 ≤ r → r &&& so = r → 0 ≤ cst us fee (fun s => (rbR us fee f s).1) so r := (rbR_nn h hm hf.1 (f + 1) so hs).2 (by omega)
      have B := rbst_spec pos so
      have e : rbR us fee (f + 1) so = rbst us fee (fun s => (rbR us fee f s).1) so so := by simp only [rbR]; rw [if_neg q]
      have C := c_spec_l10Best h hm hf (f + 1) so X hs hl h0 hx
      rw [← e] at B
      have er : rwR us fee (f + 1) so = Sl us.length (rbR us fee (f + 1) so).2 :: rwR us fee f (so - (rbR us fee (f + 1) so).2) := by simp only [rwR]; rw [if_neg q]
      rcases B with ⟨_, b⟩ | ⟨_, ⟨b1, b2, b3⟩, _, _⟩
      · exact absurd (Nat.and_self so) (b so (by omega) (Nat.le_refl _))
      · rw [er]
        clear e er
        generalize (rbR us fee (f + 1) so).2 = r at *
        generalize X * (rbR us fee (f + 1) so).1 = v at *
        obtain ⟨s1, s2, s3, s4⟩ := sub_perm hm hs b3
        have sl := s1.length_eq
        rw [List.length_append] at sl
        have sp := s2 b1
        have rp := rP_bd h (g := Sl us.length r) fun k hk => (Sl_mem.1 hk).1
        have hx' : X * 6 ^ ((Sl us.length r).length + (Sl us.length (so - r)).length) ≤ 7776 := by rw [← sl]; exact hx
        have I := br_inner (us := us) (so := so) (fee := fee) (best := best) (out := out) (round := r) (X := X) h hm (by omega) hx'
        have wt := wt_le (X := X) (n := 0) (d := (Sl us.length r).length) (q := (Sl us.length (so - r)).length) (by omega) (by rw [Nat.add_zero]; exact hx') rp.1 rp.2
        rw [Nat.zero_add] at wt
        obtain ⟨w', J⟩ := ih (so - r) (out ++ [Sl us.length r]) (X * rP us (Sl us.length r)) s4 (by omega) (Int.mul_pos h0 rp.1) wt.2 (by rw [List.length_append, List.length_singleton]; omega)
        refine ⟨w', ?_⟩
        have ea : out ++ Sl us.length r :: rwR us fee f (so - r) = (out ++ [Sl us.length r]) ++ rwR us fee f (so - r) := by rw [List.append_assoc]; rfl
        rw [ea, ← J, w_spec_BestRounds_0]
        have w1 : wr (((so : Nat) : Int) - ((r : Nat) : Int)) = ((so - r : Nat) : Int) := by rw [wr_id (by omega) (by omega)]; omega
        have so0 : (0 : Int) < so := by omega
        have so0' : 0 < so := by omega
        have la : (out ++ [Sl us.length r]).length = out.length + 1 := by simp
        have ma : ((out ++ [Sl us.length r]).map ni).map eN = (out.map ni).map eN ++ [.sl 1 ((ni (Sl us.length r)).map .i)] := by simp [eN]
        have cb1 : out.length + 1 ≤ bound := by unfold bound; omega
        have ol : ((out.map ni).map eN).length = out.length := by simp
        have nl := ni_len (Sl us.length r)
        have tk : List.take (Sl us.length r).length ((ni (Sl us.length r)).map DV.i) = (ni (Sl us.length r)).map .i := List.take_of_length_le (by simp [nl])
        have n0 : (ni []).map DV.i = [] := rfl
        rw [← sl] at I
        unfold stB0
        unfold stB1 at I
        rw [n0] at I
        rw [la, ma]
        simp only [Int.natCast_zero, List.length_nil] at I
        generalize X * rP us (Sl us.length r) * 6 ^ (Sl us.length (so - r)).length = V at *
        generalize X * 6 ^ (Sl us.length so).length = W at *
        generalize (out.map ni).map eN = D at *
        generalize Sl us.length r = row at *
        generalize ex lf F_spec_BestRounds_W0 = E at *
        simp [F_spec_BestRounds_L0, so0, so0', C, I, w1, cb1, ol, nl, tk, -Int.natCast_add]
def brO (us : List T) (fee : Int) : Bool := tsOk us && decide (0 ≤ fee ∧ fee ≤ 20)
def brN (us : List T) (fee : Int) : Int := if brO us fee then brV us fee else -1
def brL (us : List T) (fee : Int) : LN := if brO us fee then brR us fee else []
set_option maxHeartbeats 1000000 in
theorem c_spec_BestRounds (us : List T) (fee : Int) (ha : (us.length : Int) < 1099511627776) :
    call lf n_spec_BestRounds [.sl 0 (us.map e2), .i fee] = some (.tup [.fr 1 (((brL us fee).map ni).map eN), .i (brN us fee)], []) := by
  rw [call_k lf n_spec_BestRounds _ (F := F_spec_BestRounds) rfl rfl]
  have C1 := c_spec_TestsOk us ha
  have C3 := c_spec_l1In fee 0 20
  unfold brN brL brO
  cases h1 : tsOk us with
  | false => rw [h1] at C1; simp [F_spec_BestRounds, C1]
  | true =>
    rw [h1] at C1
    cases h3 : decide (0 ≤ fee ∧ fee ≤ 20) with
    | false => rw [h3] at C3; simp [F_spec_BestRounds, C1, C3]
    | true =>
      rw [h3] at C3
      have h4 := of_decide_eq_true h3
      have h' := tsOk_iff.1 h1
      have P := c_spec_l1Power (n := us.length) (by omega)
      have pk := p6 (n := us.length) (by omega)
      have p32 : 2 ^ us.length ≤ 2 ^ 5 := Nat.pow_le_pow_right (by omega) (by omega)
      have pp := Nat.two_pow_pos us.length
      have hs : 2 ^ us.length - 1 < 2 ^ us.length := by omega
      have sa := Sl_all (m := us.length) (by omega)
      have hl : (Sl us.length (2 ^ us.length - 1)).length = us.length := by rw [sa]; simp
      have C := c_spec_l10Best h'.2 (by omega) (fee := fee) ⟨h4.1, by omega⟩ us.length (2 ^ us.length - 1) 1 hs (by omega) (by omega) (by rw [hl]; omega)
      obtain ⟨w', J⟩ := br_outer (us := us) (fee := fee) (best := brV us fee) h'.2 (by omega) ⟨h4.1, by omega⟩ us.length (2 ^ us.length - 1) [] 1 hs (by omega) (by omega) (by rw [hl]; omega) (by simp; omega)
      rw [hl, Int.one_mul] at C J
      rw [Int.one_mul] at C
      have e1 : (rbR us fee us.length (2 ^ us.length - 1)).1 = brV us fee := rfl
      have e2' : rwR us fee us.length (2 ^ us.length - 1) = brR us fee := rfl
      rw [e1] at C
      rw [e2', List.nil_append] at J
      have sh : shlI 1 (us.length : Int) = ((2 ^ us.length : Nat) : Int) := by
        have := shl_bI (b := true) (s := us.length) (by omega)
        simpa [bI] using this
      have w1 : wr (((2 ^ us.length : Nat) : Int) - 1) = ((2 ^ us.length - 1 : Nat) : Int) := by rw [wr_id (by omega) (by omega)]; omega
      have nl : ¬ (us.length : Int) < 0 := by omega
      have lr : (((brR us fee).map ni).map eN).length = (brR us fee).length := by simp
      have tk : List.take (brR us fee).length (((brR us fee).map ni).map eN) = ((brR us fee).map ni).map eN := List.take_of_length_le (by simp)
      rw [Bool.true_and, if_pos rfl, if_pos rfl]
      unfold stB0 at J
      simp only [List.map_nil, List.length_nil, Int.natCast_zero] at J
      generalize (rbR us fee us.length (2 ^ us.length - 1)).2 = z at *
      generalize brV us fee = v at *
      generalize ((brR us fee).map ni).map eN = D at *
      generalize (brR us fee).length = n at *
      generalize hS : 2 ^ us.length - 1 = S at *
      generalize (2 ^ us.length : Nat) = S2 at *
      generalize (6 : Int) ^ us.length = Q at *
      simp [F_spec_BestRounds, C1, C3, P, C, J, sh, w1, nl, lr, tk]
end
section
attribute [-simp] DV.cells
attribute [local simp] sliceD cells_st cells_sl cells_i cells_y cells_b cells_s cells_w
set_option maxHeartbeats 4000000 in
theorem c_impl_allOf {us : List T} (h : tsOk us = true) : call lf n_impl_allOf [.sl 0 (us.map e2)] = some (.i ((2 ^ us.length - 1 : Nat) : Int), []) := by
  have ht := tsOk_iff.1 h
  obtain ⟨p0, p1, p2⟩ := pow5 (m := us.length) (by omega) (by omega)
  have S := c_impl_statesOf us.length (by omega) (by omega)
  rw [← p2] at S
  rw [Int.toNat_natCast] at p0 p1 p2 S
  have w1 : wr (((2 ^ us.length : Nat) : Int) - 1) = ((2 ^ us.length - 1 : Nat) : Int) := by rw [wr_id (by omega) (by omega)]; omega
  rw [call_k lf n_impl_allOf _ (F := F_impl_allOf) rfl rfl]
  generalize (2 ^ us.length - 1 : Nat) = a at *
  generalize (2 ^ us.length : Nat) = b at *
  simp [F_impl_allOf, S, w1]
end
section
attribute [-simp] DV.cells
attribute [local simp] sliceD cells_st cells_sl cells_i cells_y cells_b cells_s cells_w
attribute [local simp] lend_eR al_eR
theorem c_impl_feeOk (fee : Int) : call lf n_impl_feeOk [.i fee] = some (.b (decide (0 ≤ fee ∧ fee ≤ 20)), []) := by
  rw [call_k lf n_impl_feeOk _ (F := F_impl_feeOk) rfl rfl]
  simp [F_impl_feeOk, c_impl_isWithin]
def stAv (us : List T) (r : Nat) (n : Nat) (beh : Int) (cost yes : Int) (k : Nat) : LS :=
  ⟨[(1, .i r), (3, .i n), (4, .i beh), (11, .i cost), (12, .i yes), (16, .sl 0 (us.map e2)), (17, .i us.length), (18, .i k)], []⟩
set_option maxHeartbeats 4000000 in
theorem av_loop {us : List T} (h : us.all tOk = true) (hm : us.length ≤ 5) {r n : Nat} {fee beh : Int} (hf : 0 ≤ fee ∧ fee ≤ 22) :
    ex lf F_impl_averageOfRound_W0 (stAv us r n beh fee 1 0) = some (.exit 0, stAv us r n beh (fee + rC us (Sl us.length r)) (rP us (Sl us.length r)) us.length) := by
  have z : Sl 0 r = [] := rfl
  have e0 : stAv us r n beh fee 1 0 = stAv us r n beh (fee + rC us (Sl 0 r)) (rP us (Sl 0 r)) 0 := by rw [z]; simp [rC, rP]
  rw [e0]
  refine loop_count (lf := lf) (L := F_impl_averageOfRound_L0) us.length (fun j => stAv us r n beh (fee + rC us (Sl j r)) (rP us (Sl j r)) j) (fun j hj => ?_) ?_ (by simp)
  · have jm : ∀ k ∈ Sl j r, k < us.length := fun k hk => by have := (Sl_mem.1 hk).1; omega
    have rc := rC_bd h jm
    have rp := rP_bd h jm
    have hj' : (j : Int) < us.length := by omega
    have w7 := wr_succ (k := j) (by omega)
    have at2 := atT hj
    have cb := cA_bd h hj
    have pb := pA_bd h hj
    have l5 : (Sl j r).length ≤ j := by
      have := List.length_filter_le r.testBit (List.range j)
      rw [List.length_range] at this
      exact this
    have C := c_impl_hasTest r j (by omega)
    have p6' := (p6 (n := (Sl j r).length) (by omega)).2
    show ex lf F_impl_averageOfRound_L0 (stAv us r n beh (fee + rC us (Sl j r)) (rP us (Sl j r)) j) = some (.normal, stAv us r n beh (fee + rC us (Sl (j + 1) r)) (rP us (Sl (j + 1) r)) (j + 1))
    rw [Sl_succ]
    cases hb : r.testBit j with
    | false =>
      rw [hb] at C
      simp only [Bool.false_eq_true, if_false, List.append_nil]
      unfold stAv
      generalize fee + rC us (Sl j r) = U at *
      generalize rP us (Sl j r) = V at *
      simp [F_impl_averageOfRound_L0, hj, hj', C, at2, w7, -Int.natCast_add]
    | true =>
      rw [hb] at C
      simp only [if_true]
      have ec : rC us (Sl j r ++ [j]) = rC us (Sl j r) + cA us j := by rw [rC_app]; simp [rC]
      have ep : rP us (Sl j r ++ [j]) = rP us (Sl j r) * pA us j := by rw [rP_app]; simp [rP]
      rw [ec, ep, ← Int.add_assoc]
      unfold stAv
      have w3 : wr (fee + rC us (Sl j r) + cA us j) = fee + rC us (Sl j r) + cA us j := wr_id (by omega) (by omega)
      have mb : 0 ≤ rP us (Sl j r) * pA us j ∧ rP us (Sl j r) * pA us j ≤ 7776 * 6 := ⟨Int.mul_nonneg (by omega) (by omega), Int.mul_le_mul (by omega) (by omega) (by omega) (by omega)⟩
      have w4 : wr (rP us (Sl j r) * pA us j) = rP us (Sl j r) * pA us j := wr_id (by omega) (by omega)
      generalize fee + rC us (Sl j r) = U at *
      generalize rP us (Sl j r) = V at *
      generalize cA us j = c at *
      generalize pA us j = p at *
      simp [F_impl_averageOfRound_L0, hj, hj', C, at2, w3, w4, w7, -Int.natCast_add]
  · show ex lf F_impl_averageOfRound_L0 (stAv us r n beh (fee + rC us (Sl us.length r)) (rP us (Sl us.length r)) us.length) = _
    unfold stAv
    generalize fee + rC us (Sl us.length r) = U at *
    generalize rP us (Sl us.length r) = V at *
    simp [F_impl_averageOfRound_L0]
theorem c_impl_averageOfRound {us : List T} (h : us.all tOk = true) (hm : us.length ≤ 5) {r n : Nat} (hn : n ≤ 5) {fee beh : Int} (hf : 0 ≤ fee ∧ fee ≤ 22) (hb : 0 ≤ beh ∧ beh ≤ 10000000) :
    call lf n_impl_averageOfRound [.sl 0 (us.map e2), .i r, .i fee, .i n, .i beh] = some (.i ((fee + rC us (Sl us.length r)) * 6 ^ n + rP us (Sl us.length r) * beh), []) := by
  rw [call_k lf n_impl_averageOfRound _ (F := F_impl_averageOfRound) rfl rfl]
  have L := av_loop (r := r) (n := n) (beh := beh) h hm hf
  have C := c_impl_wholeOf (n := n) hn
  have jm : ∀ k ∈ Sl us.length r, k < us.length := fun k hk => (Sl_mem.1 hk).1
  have rc := rC_bd h jm
  have rp := rP_bd h jm
  have l5 : (Sl us.length r).length ≤ us.length := by
    have := List.length_filter_le r.testBit (List.range us.length)
    rw [List.length_range] at this
    exact this
  have p6' := (p6 (n := (Sl us.length r).length) (by omega)).2
  have q6 := (p6 (n := n) hn).2
  have q0 := p6_pos n
  have m1 : 0 ≤ (fee + rC us (Sl us.length r)) * 6 ^ n ∧ (fee + rC us (Sl us.length r)) * 6 ^ n ≤ 70 * 7776 := ⟨Int.mul_nonneg (by omega) (by omega), Int.mul_le_mul (by omega) q6 (by omega) (by omega)⟩
  have m2 : 0 ≤ rP us (Sl us.length r) * beh ∧ rP us (Sl us.length r) * beh ≤ 7776 * 10000000 := ⟨Int.mul_nonneg (by omega) hb.1, Int.mul_le_mul (by omega) hb.2 hb.1 (by omega)⟩
  unfold stAv at L
  simp only [Int.natCast_zero] at L
  generalize fee + rC us (Sl us.length r) = U at *
  generalize rP us (Sl us.length r) = V at *
  generalize (6 : Int) ^ n = Q at *
  have w1 : wr (U * Q) = U * Q := wr_id (by omega) (by omega)
  have w2 : wr (V * beh) = V * beh := wr_id (by omega) (by omega)
  have w3 : wr (U * Q + V * beh) = U * Q + V * beh := wr_id (by omega) (by omega)
  simp [F_impl_averageOfRound, L, C, w1, w2, w3]
def stRo (r : Nat) (k : Nat) (row : List Nat) : LS := ⟨[(0, .i r), (3, .own 1544 row.length 0 row.length), (5, .i k)], [(1544, (ni row).map .i)]⟩
theorem row_loop (r : Nat) : ex lf F_impl_rowOf_W0 (stRo r 0 []) = some (.exit 0, stRo r 5 (Sl 5 r)) := by
  refine loop_count (lf := lf) (L := F_impl_rowOf_L0) 5 (fun j => stRo r j (Sl j r)) (fun j hj => ?_) ?_ (by simp)
  · have hj' : (j : Int) < 5 := by omega
    have w7 := wr_succ (k := j) (by omega)
    have C := c_impl_hasTest r j (by omega)
    have l5 : (Sl j r).length ≤ j := by
      have := List.length_filter_le r.testBit (List.range j)
      rw [List.length_range] at this
      exact this
    have lb : (Sl j r).length + 1 ≤ bound := by unfold bound; omega
    have nl := ni_len (Sl j r)
    show ex lf F_impl_rowOf_L0 (stRo r j (Sl j r)) = some (.normal, stRo r (j + 1) (Sl (j + 1) r))
    rw [Sl_succ]
    cases hb : r.testBit j with
    | false =>
      rw [hb] at C
      simp only [Bool.false_eq_true, if_false, List.append_nil]
      unfold stRo
      generalize Sl j r = f at *
      simp [F_impl_rowOf_L0, hj', C, w7, -Int.natCast_add]
    | true =>
      rw [hb] at C
      simp only [if_true]
      have e1 : ni (Sl j r ++ [j]) = ni (Sl j r) ++ [(j : Int)] := by unfold ni; simp
      unfold stRo
      rw [e1, List.length_append, List.length_singleton, List.map_append]
      generalize Sl j r = f at *
      generalize ni f = g at *
      simp [F_impl_rowOf_L0, hj', C, w7, lb, nl, -Int.natCast_add]
  · show ex lf F_impl_rowOf_L0 (stRo r 5 (Sl 5 r)) = _
    unfold stRo
    generalize Sl 5 r = f at *
    simp [F_impl_rowOf_L0]
theorem c_impl_rowOf (r : Nat) : call lf n_impl_rowOf [.i r] = some (.fr 1 ((ni (Sl 5 r)).map .i), []) := by
  rw [call_k lf n_impl_rowOf _ (F := F_impl_rowOf) rfl rfl]
  have L := row_loop r
  have nl := ni_len (Sl 5 r)
  unfold stRo at L
  simp only [Int.natCast_zero, List.length_nil] at L
  have z : ni [] = [] := rfl
  rw [z] at L
  simp only [List.map_nil] at L
  generalize Sl 5 r = f at *
  generalize ni f = g at *
  simp [F_impl_rowOf, L, nl]
end
end Zz
