/- What the functions answer, as equations: EA. No conditions. -/
import Derived.Test.YtkokclaabaepaaaIrza
import Derived.Test.YtkokclaabaepaaaE0
import Derived.Test.YtkokclaabaepaaaLgEza
set_option linter.unusedSectionVars false
set_option linter.unusedVariables false
set_option linter.unusedSimpArgs false
namespace Zz
open Go.Lg Md
set_option linter.unusedSimpArgs false
set_option linter.unusedVariables false
attribute [local simp] tm_mv tm_newnil tm_pick tm_bin tm_eqb tm_eqs tm_un tm_len tm_lens tm_chk tm_fld tm_fldv tm_idxa tm_idx tm_load tm_store tm_slice tm_slices tm_make tm_alloc tm_box tm_build tm_app tm_conv tm_ext tm_call tm_calld tm_mkfn tm_mm tm_idxp tm_eqn tm_callg tm_callm tm_bslice0 tm_bslice1 tm_bslice2 tm_bslice cw_nil cw_cons cd_none cd_some ec_nil ec_cons es_nil es_one es_more nn_nil nn_cons ns_nil ns_cons si_nil si_cons sk_t stod_oad stod_own stod_adr stod_dead ml_nil ml_cons nt_nil nt_cons nc_nil' nc_cons sa_mkfn cv_adr cv_i cv_y cv_b cv_w sa_calld nm_def nh_nil nh_cons nxM_some nxM_none sc_st sd_i sd_y sd_b sd_s sd_w sd_q sc_i sc_y sc_b sc_s sc_w sc_q sa_bslice sa_app nc_own nc_nil sa_call sa_alloc sa_build sa_callm rm_nil rm_one rm_gen bq_mul bq_eql ia_mv ia_newnil ia_pick ia_bin ia_eqb ia_eqs ia_un ia_len ia_lens ia_chk ia_fld ia_fldv ia_idxa ia_idx ia_load ia_store ia_slice ia_slices ia_make ia_alloc ia_box ia_build ia_bslice ia_app ia_b2i ia_i2b ia_i2i ia_same ia_b2s ia_s2b ia_ext ia_mm ia_idxp ia_calld ia_mkfn ia_i2r ia_r2s ia_call pt_nil pt_cons mi_nil mi_cons md_bslice md_mv md_newnil md_pick md_bin md_eqb md_un md_len md_lens md_fld md_fldv md_idxa md_idx md_load md_store md_slice md_slices md_make md_alloc md_box md_build md_app md_conv md_ext md_call md_calld md_callg md_mkfn md_mm md_idxp md_eqn md_eqs md_chk tg_bslice tg_mv tg_newnil tg_pick tg_bin tg_eqb tg_un tg_len tg_lens tg_fld tg_fldv tg_idxa tg_idx tg_load tg_store tg_slice tg_slices tg_make tg_alloc tg_box tg_build tg_app tg_conv tg_ext tg_call tg_calld tg_callg tg_mkfn tg_mm tg_idxp tg_eqn tg_eqs tg_chk rp_eq ro_eq ifP_t ifP_f np_def ng1_nil ng2_nil ng_gate ng_gen tgA_t tgA_0 tgA_1 tgA_2 aC_nil aC_c aC_t nxP_some nxP_none rq_nil rq_gen rq_gate nxR_some nxR_none ru_nil ru_gen ru_gate pl_none pl_some gt_nil gt_t gt_c di_some di_none an_nil an_cons nxG_some nxG_none rg_nil rg_gen rg_gate oldO_some oa_nil oa_i oa_y oa_b oa_s oa_st oa_sl oa_own oa_oad oa_nl al_nil al_cons al_i al_y al_b al_s al_st al_sl nxF_some nxF_none rf_nil rf_gen rf_gate hk_newnil hk_make hk_alloc hk_box hk_build hk_bslice hk_call hk_store hk_app hk_appn em_cel mm_cel ok_cel ov_cel so_cel il_cel oi_cel oj_cel ol_cel nm_cel hk_appc ef_bslice5 ef_app_cel ks_shut shu_own shc_none shc_cel cl_nil cl_cons ai_nil ai_cons il_i il_y il_b il_s il_st il_sl il_own il_adr il_oad il_ref il_fr il_tup il_nil il_np il_und il_dead ol_adr ol_b ol_dead ol_e ol_fn ol_fr ol_i ol_nil ol_np ol_oad ol_own ol_q ol_r ol_ref ol_s ol_sl ol_st ol_tup ol_und ol_w ol_y oj_e oj_i oj_y oj_b oj_s oj_st oj_sl oj_own oj_adr oj_oad oj_ref oj_fr oj_tup oj_nil oj_np oj_und oj_dead oj_w oj_q oj_r oj_fn oi_e oi_i oi_y oi_b oi_s oi_st oi_sl oi_own oi_adr oi_oad oi_ref oi_fr oi_tup oi_nil oi_np oi_und oi_dead as_nil as_cons ao_nil ao_cons av_i av_y av_b av_s av_st av_sl av_own av_adr av_oad av_ref av_fr av_tup av_nil av_np av_und av_dead pro_cons ghK_some ks_promote ks_freeze frz_own ks_rename ren_own ks_cell cel_own dropO adoptP newP wholeP cutP allOldL ex_skip ex_ret ex_exit ks_region ks_seq ks_cut ks_cond ks_block seqK_n seqK_e seqK_r regK_some condK_t condK_f blkK_n blkK_r blkK_e endK_n endK_r rr_false rr_true rd_free mo_nil mo_cons drK_some drK_none nxW_some nxW_none rw_nil rw_gen rw_gate ak_newnil ak_make ak_alloc ak_box ak_build ak_bslice ak_call ak_store ak_app iw_mm iw_eqn iw_idxp ef_callg cgK_some gv_e gv_own gv_i gv_sl gv_st gv_b gv_nil gvK_some gvO_some iw_callg ia_callg ak_callg hk_callg is_mv is_newnil is_pick is_bin is_eqb is_eqs is_un is_len is_lens is_chk is_fld is_fldv is_idxa is_idx is_load is_slice is_slices is_make is_alloc is_box is_build is_bslice is_app is_conv is_ext is_call is_calld is_callg is_mkfn is_mm is_idxp is_eqn is_store rt_nil rt_gen rt_gate nxT_some nxT_none ef_eqn_nil ef_eqn_sl ef_eqn_own ia_eqn ef_mmx ef_mmn ef_idxp nxD_some nxD_none ov_i ov_y ov_b ov_s ov_st ov_sl ov_own ov_oad ov_adr ov_nil ov_np ov_und ov_dead ov_tup oldN_some oldN_nil oldN_none so_none so_tup DV.noM so_i so_y so_b so_s so_st so_sl so_adr so_nil so_np so_und so_dead anyM_nil anyM_t anyM_c so_own so_oad rd_nil rd_gen rd_mv rd_gate iw_mv iw_newnil iw_pick iw_bin iw_eqb iw_eqs iw_un iw_len iw_lens iw_chk iw_fld iw_fldv iw_idxa iw_idx iw_load iw_store iw_slice iw_slices iw_make iw_alloc iw_box iw_build iw_bslice iw_app iw_b2i iw_i2b iw_i2i iw_same iw_b2s iw_s2b iw_ext iw_call nm_i nm_y nm_b nm_s nm_st nm_sl nm_own nm_oad nm_adr nm_nil nm_np nm_und nm_dead nm_tup rl_nil rl_gate rl_mv rl_gen opv_t opv_c nx_some nx_none gate_tt gate_tf gate_ft gate_ff gate_u fr_ap em_nil em_i em_y em_b em_s em_st em_sl em_own em_adr em_oad em_ref em_nl em_np em_und em_dead em_tup0 em_tup_i em_tup_b em_tup_s em_tup_sl em_tup_st em_tup_np em_tup_own em_tup_oad mm_i mm_y mm_b mm_s mm_st mm_sl mm_own mm_oad mm_adr mm_nil mm_np mm_und mm_dead ef_mv ef_newnil ef_pickt ef_pickf ef_bin ef_eqb ef_eqs ef_un ef_lens ef_len_sl ef_len_own ef_len_nil ef_chk_adr ef_chk_oad ef_fld_adr ef_fld_oad ef_fldv idxR_some ef_idxa_sl ef_idxa_own ef_idx ef_load_adr_st ef_load_adr_i ef_load_adr_y ef_load_adr_b ef_load_adr_s ef_load_adr_sl atN_nil atN_zero atN_succ ef_load_oad ef_store ef_slice ef_slices ef_make ef_alloc ef_box ef_build ef_bslice ef_app_own ef_app_nil ef_b2i ef_i2b ef_i2i ef_same ef_ext ret1 ret2_some calL_some ef_call retC_i retC_y retC_b retC_s retC_st retC_sl retC_np retC_fr retC_ref retC_tup rk_nil rk_i rk_y rk_b rk_s rk_st rk_sl rk_own rk_oad rk_nl ok_nil ok_i ok_y ok_b ok_s ok_st ok_sl ok_own ok_oad ok_nl lo_nil lo_i lo_y lo_b lo_s lo_st lo_sl lo_own lo_oad lo_nl pr_nil pr_i pr_y pr_b pr_s pr_st pr_sl pr_own pr_nl pr_oad nr_i nr_y nr_b nr_s nr_st nr_sl nr_fr nr_np nr_tup ng_i ng_b ng_s ng_fr ng_nil resV effP_eff binD bi_add bi_sub bi_mul bi_quo bi_rem bi_eql bi_neq bi_lss bi_leq bi_gtr bi_geq bi_shl bi_shr bi_and bi_or bi_xor bi_andNot binY binS unD look put putD LS.get LS.drop killE sweep lookO putO dropO enter leave giveBackL giveBack outs lendArgs lendArg newOuts takeIn takeInL lendL DV.lend adoptL DV.adopt elems apartKs part DV.cells unpart settle settleL over mkId szId fillP fillE tk_e2 tk_i tk_y lt_e2 lt_i lt_y lend_rep al_e2 al_is al_ys al_rep al_app lend_app adopt_app new_app lend_e2 lend_i lend_y adopt_e2 adopt_i adopt_y new_e2 new_i allNewL DV.allNew bounds sliceD sliceS em_w em_q em_r em_fn em_tup_w em_tup_q em_tup_r mm_w mm_q mm_r mm_fn ef_load_adr_w ef_load_adr_q ef_load_adr_r retC_w retC_q retC_r rk_w rk_q rk_r rk_fn ok_w ok_q ok_r ok_fn lo_w lo_q lo_r lo_fn pr_w pr_q pr_r pr_fn nr_w nr_q nr_r ng_w ng_q ng_r oa_w oa_q oa_r oa_fn al_w al_q al_r al_fn ov_w ov_q ov_r ov_fn so_w so_q so_r so_fn il_w il_q il_r il_fn oi_w oi_q oi_r oi_fn av_w av_q av_r av_fn nm_w nm_q nm_r nm_fn ef_i2r ef_r2s ef_b2s bs_some ys_nil ys_cons ys_map ef_mkfn ef_mkbd ef_idxp_adr ef_idxp_q ef_calld_nil ef_calld_adr ef_calld_bd DV.capB capsOk DV.cell List.all_cons List.all_nil rk_own_t lo_own_t lk_f lk_t pr_own_t mutB ak_calld hk_calld iw_calld iw_mkfn iw_i2r iw_r2s bw_and bw_or bw_xor bw_andNot bw_eql bw_neq sw_shl sw_shr sq_shl gEnv_nil rk_adr ok_adr lo_adr pr_adr oa_adr capL capArg DV.cap ak_mkfn hk_mkfn hk_mkbd ef_callm gf_ap ga_nil ga_cons tgv_own gk_e gk_giv gk_i gk_y gk_b gk_s gk_w gk_q gk_r gk_fn gk_st gk_sl gk_own gk_oad gk_adr gk_nl gk_np rk_giv ok_giv lo_giv pr_giv oa_giv iw_callm hk_callm ak_callm is_callm ia_callm tg_callm md_callm ef_i2q ef_q2i ef_q2q iw_i2q iw_q2i iw_q2q ia_i2q ia_q2i ia_q2q bq_and bq_add bq_shr sq_shr tgv_nil gk_ref rk_ref ok_ref lo_ref pr_ref oa_ref retC_fn nr_fn ef_load_adr_fn ks_close cls_oad
attribute [local congr] nxM_congr ifP_congr nxP_congr nxR_congr nxT_congr nxG_congr nxF_congr ghK_congr gate_congr nx_congr nxD_congr runL_congr runD_congr eff_congr calL_congr ret2_congr seqK_congr regK_congr condK_congr endK_congr drK_congr nxW_congr
attribute [local simp ↓] nxM_some rm_nil rm_one rm_gen nxT_some rt_nil rt_gen rt_gate nxP_some rq_nil rq_gen rq_gate nxR_some ru_nil ru_gen ru_gate nxG_some rg_nil rg_gen rg_gate nxF_some rf_nil rf_gen rf_gate ks_promote ks_freeze frz_own ks_rename ks_cell ghK_some gate_tt gate_tf gate_ft gate_ff gate_u nx_some nxD_some rl_nil rl_mv rl_gen rl_gate rd_nil rd_mv rd_gen rd_gate rd_free rr_false rr_true drK_some drK_none nxW_some rw_nil rw_gen rw_gate ks_region ks_seq ks_cut ks_cond ks_block seqK_n seqK_e seqK_r regK_some condK_t condK_f blkK_n blkK_r endK_n endK_r calL_some ret2_some opv_t opv_c
section
theorem c_impl_isWithin (a b c : Int) : call lf n_impl_isWithin [.i a, .i b, .i c] = some (.b (decide (b ≤ a ∧ a ≤ c)), []) := by
  rw [call_k lf n_impl_isWithin _ (F := F_impl_isWithin) rfl rfl]
  by_cases h : b ≤ a <;> simp [F_impl_isWithin, h]
theorem c_spec_l1In (a b c : Int) : call lf n_spec_l1In [.i a, .i b, .i c] = some (.b (decide (b ≤ a ∧ a ≤ c)), []) := by
  rw [call_k lf n_spec_l1In _ (F := F_spec_l1In) rfl rfl]
  by_cases h : b ≤ a <;> simp [F_spec_l1In, h]
theorem c_impl_manyOk (a : Int) : call lf n_impl_manyOk [.i a] = some (.b (nOk a), []) := by
  rw [call_k lf n_impl_manyOk _ (F := F_impl_manyOk) rfl rfl]
  simp [F_impl_manyOk, c_impl_isWithin, nOk]

theorem l_impl_TestsOk (n : Int) (hb : n < 1099511627776) (es : List DV) (rest : List T) : ∀ k : Int, 0 ≤ k → k + (rest.map e2).length = n → es.drop k.toNat = rest.map e2 →
    ex lf F_impl_TestsOk_W0 ⟨[(9, .sl 0 es), (10, .i n), (11, .i k)], []⟩ =
    if rest.all tOk then some (.exit 0, ⟨[(9, .sl 0 es), (10, .i n), (11, .i n)], []⟩) else some (.ret, ⟨[(2, .b false)], []⟩) := by
  induction rest with
  | nil =>
    intro k h0 hn hd
    rw [w_impl_TestsOk_0]
    have hk : k = n := by simpa using hn
    simp [F_impl_TestsOk_L0, hk]
  | cons t rest ih =>
    intro k h0 hn hd
    obtain ⟨q1, q2, q3, q4, q5, q6⟩ := stp h0 hn hb hd
    have ih := ih (k + 1) q4 q5 q6
    simp only [e2] at q2
    rw [w_impl_TestsOk_0]
    have xt := tOk_def t
    cases x1 : decide (1 ≤ t.1 ∧ t.1 ≤ 9) <;> cases x2 : decide (1 ≤ t.2 ∧ t.2 ≤ 5) <;> rw [x1, x2] at xt <;> simp [F_impl_TestsOk_L0, q1, q2, q3, c_impl_isWithin, ih, xt, x1, x2, -List.all_eq_true]
theorem c_impl_TestsOk (ts : List T) (hb : (ts.length : Int) < 1099511627776) : call lf n_impl_TestsOk [.sl 0 (ts.map e2)] = some (.b (tsOk ts), []) := by
  rw [call_k lf n_impl_TestsOk _ (F := F_impl_TestsOk) rfl rfl]
  have L := l_impl_TestsOk ts.length hb (ts.map e2) ts 0 (by omega) (by simp) (by simp)
  cases h1 : nOk ts.length <;> cases h2 : ts.all tOk <;> simp [F_impl_TestsOk, c_impl_manyOk, L, h1, h2, tsOk]

theorem l_spec_TestsOk (n : Int) (hb : n < 1099511627776) (es : List DV) (hE : (es.length : Int) = n) (rest : List T) : ∀ k : Int, 0 ≤ k → k + (rest.map e2).length = n → es.drop k.toNat = rest.map e2 →
    ex lf F_spec_TestsOk_W0 ⟨[(0, .sl 0 es), (3, .i k)], []⟩ =
    if rest.all tOk then some (.exit 0, ⟨[(0, .sl 0 es), (3, .i n)], []⟩) else some (.ret, ⟨[(2, .b false)], []⟩) := by
  induction rest with
  | nil =>
    intro k h0 hn hd
    rw [w_spec_TestsOk_0]
    have hk : k = n := by simpa using hn
    simp [F_spec_TestsOk_L0, hk, hE]
  | cons t rest ih =>
    intro k h0 hn hd
    obtain ⟨q1, q2, q3, q4, q5, q6⟩ := stp h0 hn hb hd
    have ih := ih (k + 1) q4 q5 q6
    simp only [e2] at q2
    rw [w_spec_TestsOk_0]
    have xt := tOk_def t
    cases x1 : decide (1 ≤ t.1 ∧ t.1 ≤ 9) <;> cases x2 : decide (1 ≤ t.2 ∧ t.2 ≤ 5) <;> rw [x1, x2] at xt <;> simp [F_spec_TestsOk_L0, q1, q2, q3, hE, c_spec_l1In, ih, xt, x1, x2, -List.all_eq_true]
theorem c_spec_TestsOk (ts : List T) (hb : (ts.length : Int) < 1099511627776) : call lf n_spec_TestsOk [.sl 0 (ts.map e2)] = some (.b (tsOk ts), []) := by
  rw [call_k lf n_spec_TestsOk _ (F := F_spec_TestsOk) rfl rfl]
  have L := l_spec_TestsOk ts.length hb (ts.map e2) (by simp) ts 0 (by omega) (by simp) (by simp)
  cases h2 : ts.all tOk <;> simp [F_spec_TestsOk, c_spec_l1In, L, h2, tsOk, nOk]

theorem nOk_iff {a : Int} : nOk a = true ↔ 1 ≤ a ∧ a ≤ 5 := by simp [nOk]
theorem tsOk_iff {ts : List T} : tsOk ts = true ↔ (1 ≤ (ts.length : Int) ∧ (ts.length : Int) ≤ 5) ∧ ts.all tOk = true := by
  rw [tsOk, Bool.and_eq_true, nOk_iff]
end
section
theorem p2 {ts : List T} (h : tsOk ts = true) : 1 ≤ (2 : Nat) ^ ts.length ∧ (2 : Nat) ^ ts.length ≤ 32 ∧ ((2 ^ ts.length : Nat) : Int) = 2 ^ ts.length := by
  have h' := tsOk_iff.1 h
  have a : (2 : Nat) ^ ts.length ≤ 2 ^ 5 := Nat.pow_le_pow_right (by omega) (by omega)
  exact ⟨Nat.pow_pos (by omega), by omega, by simp⟩
def ot (ts : List T) (i : Nat) : List DV := ((ts.take i).map other).map e2
def cn (ts : List T) (i : Nat) : List DV := ot ts i ++ List.replicate (ts.length - i) (.st [.i 0, .i 0])
end
section
/-- a mark read with p parts before it -/
def mkS (m p : Int) (t : T) : Option Int :=
  if t.1 = 0 then (if 0 ≤ t.2 ∧ t.2 < m then some (p + 1) else none)
  else if t.1 = 1 then (if t.2 = 0 ∧ 1 ≤ p then some p else none)
  else if t.1 = 2 ∨ t.1 = 3 then (if t.2 = 0 ∧ 2 ≤ p then some (p - 1) else none)
  else none
def runM (m : Int) : Int → List T → Option Int
  | p, [] => some p
  | p, t :: r => match mkS m p t with
    | some q => runM m q r
    | none => none
end
section
inductive Tm where
  | tst (a : Nat)
  | neg (x : Tm)
  | and (x y : Tm)
  | or (x y : Tm)
def ev (s : Nat) : Tm → Bool
  | .tst a => s.testBit a
  | .neg x => !ev s x
  | .and x y => ev s x && ev s y
  | .or x y => ev s x || ev s y
/-- how many parts a mark takes -/
def taken (k : Int) : Nat := if k = 0 then 0 else if k = 1 then 1 else 2
def stepG {P : Type} (mk : T → List P → P) (st : List P) (t : T) : List P := st.take (st.length - taken t.1) ++ [mk t (st.drop (st.length - taken t.1))]
def yesW (a : Nat) : BitVec 32 := match a with
  | 0 => 2863311530#32
  | 1 => 3435973836#32
  | 2 => 4042322160#32
  | 3 => 4278255360#32
  | _ => 4294901760#32
def mkW (t : T) (ps : List (BitVec 32)) : BitVec 32 :=
  if t.1 = 0 then yesW t.2.toNat else if t.1 = 1 then ~~~(ps.getD 0 0) else if t.1 = 2 then ps.getD 0 0 &&& ps.getD 1 0 else ps.getD 0 0 ||| ps.getD 1 0
def tsW (ts : List T) : BitVec 32 := (ts.foldl (stepG mkW) []).headD 0
/-- the value of a term in a state -/
def tv (ts : List T) (s : Nat) : Bool := (tsW ts).getLsbD s
end
section
theorem xor_bound {a b : Int} (h1 : 0 ≤ a) (h2 : a < 4611686018427387904) (h3 : 0 ≤ b) (h4 : b < 4611686018427387904) : 0 ≤ xorI a b ∧ xorI a b < 4611686018427387904 := by
  have e : (BitVec.ofInt 64 a ^^^ BitVec.ofInt 64 b).toNat = a.toNat ^^^ b.toNat := by
    simp only [BitVec.toNat_xor, BitVec.toNat_ofInt]
    congr 1 <;> omega
  have k : a.toNat ^^^ b.toNat < 2 ^ 62 := Nat.xor_lt_two_pow (by omega) (by omega)
  unfold xorI
  rw [e, wr_id (by omega) (by omega)]
  omega
def hs (bs : List Nat) (p : Int) : Int := (bs.getD (p.tmod bs.length).toNat 0 : Nat) * 131 + (bs.getD ((p * 7 + 3).tmod bs.length).toNat 0 : Nat) * 1117 + p * 29 + p.tdiv bs.length * 53
def pk (bs : List Nat) (p n : Int) : Int := if bs.length = 0 then 0 else if p < bs.length then ((bs.getD p.toNat 0 : Nat) : Int).tmod n else (xorI (hs bs p) ((hs bs p).tdiv 64)).tmod n
theorem byte_lt {bs : List Nat} (hb : ∀ y ∈ bs, y < 256) (i : Nat) : bs.getD i 0 < 256 := by
  by_cases h : i < bs.length
  · have : bs.getD i 0 = bs[i] := by simp [List.getD, h]
    rw [this]
    exact hb _ (List.getElem_mem h)
  · have : bs.getD i 0 = 0 := by simp [List.getD, List.getElem?_eq_none (by omega : bs.length ≤ i)]
    omega
theorem tdiv_bound {p l : Int} (h0 : 0 ≤ p) (hl : 1 ≤ l) : 0 ≤ p.tdiv l ∧ p.tdiv l ≤ p := by
  rw [Int.tdiv_eq_ediv_of_nonneg h0]
  exact ⟨Int.ediv_nonneg h0 (by omega), Int.ediv_le_self _ h0⟩
theorem tmod_bound {p l : Int} (h0 : 0 ≤ p) (hl : 1 ≤ l) : 0 ≤ p.tmod l ∧ p.tmod l < l := by
  rw [Int.tmod_eq_emod_of_nonneg h0]
  exact ⟨Int.emod_nonneg _ (by omega), Int.emod_lt_of_pos _ (by omega)⟩
theorem hs_bound {bs : List Nat} (hb : ∀ y ∈ bs, y < 256) {p : Int} (h0 : 0 ≤ p) (h1 : p ≤ 1000000) (hl : 1 ≤ bs.length) : 0 ≤ hs bs p ∧ hs bs p < 1000000000 := by
  have a := byte_lt hb (p.tmod bs.length).toNat
  have b := byte_lt hb ((p * 7 + 3).tmod bs.length).toNat
  have c := tdiv_bound (p := p) (l := bs.length) h0 (by omega)
  unfold hs
  omega
theorem pk_bound {bs : List Nat} (hb : ∀ y ∈ bs, y < 256) {p n : Int} (h0 : 0 ≤ p) (h1 : p ≤ 1000000) (hn : 1 ≤ n) : 0 ≤ pk bs p n ∧ pk bs p n < n := by
  unfold pk
  split
  · omega
  · split
    · exact tmod_bound (by omega) hn
    · have a := hs_bound hb h0 h1 (by omega)
      have b := tdiv_bound (p := hs bs p) (l := 64) a.1 (by omega)
      have c := xor_bound a.1 (by omega) b.1 (by omega)
      exact tmod_bound c.1 hn
theorem atI_y {bs : List Nat} {i : Int} (h0 : 0 ≤ i) (h1 : i < bs.length) : atI (bs.map .y) i = some (.y (bs.getD i.toNat 0)) := by
  have : i.toNat < bs.length := by omega
  simp [atI, h0, List.getD, this]

theorem c_pick {bs : List Nat} (hb : ∀ y ∈ bs, y < 256) (hl : bs.length ≤ 2000) {p n : Int} (h0 : 0 ≤ p) (h1 : p < 1000000) (hn : 1 ≤ n) :
    call lf n_spec_l20Rd_pick [.ref (.st [.sl 0 (bs.map .y), .i p]), .i n] = some (.i (pk bs p n), [.st [.sl 0 (bs.map .y), .i (p + 1)]]) := by
  rw [call_k lf n_spec_l20Rd_pick _ (F := F_spec_l20Rd_pick) rfl rfl]
  have w1 : wr (p + 1) = p + 1 := wr_id (by omega) (by omega)
  have w2 : wr p = p := wr_id (by omega) (by omega)
  have n1 : ¬ n < 1 := by omega
  have n2 : ¬ n = 0 := by omega
  by_cases e : bs.length = 0
  · have e1 : ((bs.length : Int) == 0) = true := by rw [e]; rfl
    simp [F_spec_l20Rd_pick, w1, n1, e1, pk, e]
  · have e1 : ((bs.length : Int) == 0) = false := beq_eq_false_iff_ne.2 (by omega)
    by_cases f : p < bs.length
    · have a := atI_y (bs := bs) h0 f
      simp [F_spec_l20Rd_pick, w1, w2, n1, n2, e1, pk, e, f, a]
    · have lpos : (1 : Int) ≤ bs.length := by omega
      have l0 : ¬ bs = [] := fun h => e (by rw [h]; rfl)
      have t1 := tmod_bound h0 lpos
      have t2 := tmod_bound (p := p * 7 + 3) (by omega) lpos
      have a1 := atI_y t1.1 t1.2
      have a2 := atI_y t2.1 t2.2
      have b1 := byte_lt hb (p.tmod bs.length).toNat
      have b2 := byte_lt hb ((p * 7 + 3).tmod bs.length).toNat
      have d := tdiv_bound h0 lpos
      have H := hs_bound hb h0 (by omega) (by omega : 1 ≤ bs.length)
      have hd : hs bs p = (bs.getD (p.tmod bs.length).toNat 0 : Nat) * 131 + (bs.getD ((p * 7 + 3).tmod bs.length).toNat 0 : Nat) * 1117 + p * 29 + p.tdiv bs.length * 53 := rfl
      have hp : pk bs p n = (xorI (hs bs p) ((hs bs p).tdiv 64)).tmod n := by unfold pk; rw [if_neg e, if_neg f]
      generalize bs.getD (p.tmod bs.length).toNat 0 = u at *
      generalize bs.getD ((p * 7 + 3).tmod bs.length).toNat 0 = v at *
      have v1 : wr (p * 7) = p * 7 := wr_id (by omega) (by omega)
      have v2 : wr (p * 7 + 3) = p * 7 + 3 := wr_id (by omega) (by omega)
      have v3 : wr ((u : Int) * 131) = u * 131 := wr_id (by omega) (by omega)
      have v4 : wr ((v : Int) * 1117) = v * 1117 := wr_id (by omega) (by omega)
      have v5 : wr ((u : Int) * 131 + v * 1117) = u * 131 + v * 1117 := wr_id (by omega) (by omega)
      have v6 : wr (p * 29) = p * 29 := wr_id (by omega) (by omega)
      have v7 : wr ((u : Int) * 131 + v * 1117 + p * 29) = u * 131 + v * 1117 + p * 29 := wr_id (by omega) (by omega)
      have v8 : wr (p.tdiv bs.length) = p.tdiv bs.length := wr_id (by omega) (by omega)
      have v9 : wr (p.tdiv bs.length * 53) = p.tdiv bs.length * 53 := wr_id (by omega) (by omega)
      have va : wr ((u : Int) * 131 + v * 1117 + p * 29 + p.tdiv bs.length * 53) = hs bs p := by rw [hd]; exact wr_id (by omega) (by omega)
      have b := tdiv_bound (p := hs bs p) (l := 64) H.1 (by omega)
      have vb : wr ((hs bs p).tdiv 64) = (hs bs p).tdiv 64 := wr_id (by omega) (by omega)
      simp [F_spec_l20Rd_pick, w1, w2, n1, n2, e1, f, l0, a1, a2, v1, v2, v3, v4, v5, v6, v7, v8, v9, va, vb, hp]
theorem c_odd {bs : List Nat} (hb : ∀ y ∈ bs, y < 256) (hl : bs.length ≤ 2000) {p n : Int} (h0 : 0 ≤ p) (h1 : p < 1000000) (hn : 1 ≤ n) (hn2 : n ≤ 1000000) :
    call lf n_spec_l20Rd_odd [.ref (.st [.sl 0 (bs.map .y), .i p]), .i n] = some (.b (pk bs p n == n - 1), [.st [.sl 0 (bs.map .y), .i (p + 1)]]) := by
  rw [call_k lf n_spec_l20Rd_odd _ (F := F_spec_l20Rd_odd) rfl rfl]
  have n1 : 0 < n := by omega
  have w : wr (n - 1) = n - 1 := wr_id (by omega) (by omega)
  simp [F_spec_l20Rd_odd, n1, w, c_pick hb hl h0 h1 hn]
theorem c_open {bs : List Nat} (hl : bs.length ≤ 1048576) : call lf n_spec_l20Open [.sl 0 (bs.map .y)] = some (.ref (.st [.sl 0 ((bs.take 2000).map .y), .i 0]), []) := by
  rw [call_k lf n_spec_l20Open _ (F := F_spec_l20Open) rfl rfl]
  by_cases h : 2000 < (bs.length : Int)
  · have h2 : (2000 : Int) ≤ bs.length := by omega
    have h3 : ∀ x ∈ bs, (DV.y x).cells.length = 1 := fun _ _ => rfl
    simp [F_spec_l20Open, h, h2, List.map_take]
  · have h2 : bs.take 2000 = bs := List.take_of_length_le (by omega)
    simp [F_spec_l20Open, h, h2]

theorem l_l20Tests {bs : List Nat} (hb : ∀ y ∈ bs, y < 256) (hl : bs.length ≤ 2000) (nn : Int) (j : Nat) : ∀ (p : Int) (ts : List T), 0 ≤ p → p + 2 * j < 900000 → ts.length + j ≤ 100 →
    ∃ us : List T, us.length = ts.length + j ∧
    ex lf F_spec_l20Tests_W0 ⟨[(0, .oad 23 1 0 0), (1, .i nn), (5, .own 3600 ts.length 0 ts.length), (6, .i j)], [(23, [.st [.sl 0 (bs.map .y), .i p]]), (3600, ts.map e2)]⟩ =
      some (.exit 0, ⟨[(0, .oad 23 1 0 0), (1, .i nn), (5, .own 3600 us.length 0 us.length), (6, .i 0)], [(23, [.st [.sl 0 (bs.map .y), .i (p + 2 * j)]]), (3600, us.map e2)]⟩) := by
  induction j with
  | zero =>
    intro p ts h0 h1 h2
    refine ⟨ts, by omega, ?_⟩
    rw [w_spec_l20Tests_0]
    simp [F_spec_l20Tests_L0]
  | succ j ih =>
    intro p ts h0 h1 h2
    have a1 := pk_bound hb h0 (by omega : p ≤ 1000000) (by omega : (1 : Int) ≤ 9)
    have a2 := pk_bound hb (by omega : 0 ≤ p + 1) (by omega : p + 1 ≤ 1000000) (by omega : (1 : Int) ≤ 5)
    have k1 := c_pick hb hl h0 (by omega : p < 1000000) (by omega : (1 : Int) ≤ 9)
    have k2 := c_pick hb hl (by omega : 0 ≤ p + 1) (by omega : p + 1 < 1000000) (by omega : (1 : Int) ≤ 5)
    have w1 : wr (1 + pk bs p 9) = 1 + pk bs p 9 := wr_id (by omega) (by omega)
    have w2 : wr (1 + pk bs (p + 1) 5) = 1 + pk bs (p + 1) 5 := wr_id (by omega) (by omega)
    have w3 : wr (j : Int) = j := wr_id (by omega) (by omega)
    obtain ⟨us, u1, u2⟩ := ih (p + 1 + 1) (ts ++ [(1 + pk bs p 9, 1 + pk bs (p + 1) 5)]) (by omega) (by omega) (by simp; omega)
    refine ⟨us, by rw [u1]; simp; omega, ?_⟩
    rw [w_spec_l20Tests_0]
    have c1 : (0 : Int) < (j : Int) + 1 := by omega
    have c2 : ts.length + 1 ≤ bound := by unfold bound; omega
    simp [e2, Int.natCast_add] at u2
    rw [show p + 2 * ((j + 1 : Nat) : Int) = p + 1 + 1 + 2 * j by omega]
    simp [F_spec_l20Tests_L0, c1, c2, k1, k2, w1, w2, w3, e2, u2]
theorem c_l20Tests {bs : List Nat} (hb : ∀ y ∈ bs, y < 256) (hl : bs.length ≤ 2000) {p n : Int} (h0 : 0 ≤ p) (h1 : p < 800000) (hn : 1 ≤ n) (hn2 : n ≤ 1000000) :
    ∃ (us : List T) (p' : Int), us.length ≤ 5 ∧ p ≤ p' ∧ p' ≤ p + 20 ∧ call lf n_spec_l20Tests [.ref (.st [.sl 0 (bs.map .y), .i p]), .i n] = some (.fr 2 (us.map e2), [.st [.sl 0 (bs.map .y), .i p']]) := by
  have a1 := pk_bound hb h0 (by omega : p ≤ 1000000) (by omega : (1 : Int) ≤ 5)
  have k1 := c_pick hb hl h0 (by omega : p < 1000000) (by omega : (1 : Int) ≤ 5)
  obtain ⟨j, hj⟩ : ∃ j : Nat, 1 + pk bs p 5 = j := ⟨(1 + pk bs p 5).toNat, by omega⟩
  have w1 : wr (j : Int) = j := wr_id (by omega) (by omega)
  obtain ⟨us, u1, u2⟩ := l_l20Tests hb hl n j (p + 1) [] (by omega) (by omega) (by simp; omega)
  simp at u1 u2
  have q0 : 0 ≤ p + 1 + 2 * (j : Int) := by omega
  have k2 := c_odd hb hl q0 (by omega) hn hn2
  generalize hq : p + 1 + 2 * (j : Int) = q at *
  cases ho : (pk bs q n == n - 1) with
  | false =>
    rw [ho] at k2
    refine ⟨us, q + 1, by omega, by omega, by omega, ?_⟩
    rw [call_k lf n_spec_l20Tests _ (F := F_spec_l20Tests) rfl rfl]
    simp [F_spec_l20Tests, k1, hj, w1, u2, k2]
  | true =>
    rw [ho] at k2
    have k3 := c_pick hb hl (by omega : 0 ≤ q + 1) (by omega : q + 1 < 1000000) (by omega : (1 : Int) ≤ 3)
    have a3 := pk_bound hb (by omega : 0 ≤ q + 1) (by omega : q + 1 ≤ 1000000) (by omega : (1 : Int) ≤ 3)
    have k4 := c_pick hb hl (by omega : 0 ≤ q + 1 + 1) (by omega : q + 1 + 1 < 1000000) (by omega : (1 : Int) ≤ 2)
    have a4 := pk_bound hb (by omega : 0 ≤ q + 1 + 1) (by omega : q + 1 + 1 ≤ 1000000) (by omega : (1 : Int) ≤ 2)
    match us, u1 with
    | [], u1 => simp at u1; omega
    | t :: r, u1 =>
      simp [e2, Int.natCast_add] at u2
      generalize pk bs (q + 1) 3 = x3 at *
      generalize pk bs (q + 1 + 1) 2 = x4 at *
      have c3 : x3 = 0 ∨ x3 = 1 ∨ x3 = 2 := by omega
      have c4 : x4 = 0 ∨ x4 = 1 := by omega
      have e0 : ∀ (a b : Int), DV.st [.i a, .i b] = e2 (a, b) := fun _ _ => rfl
      rcases c3 with rfl | rfl | rfl
      · refine ⟨[], q + 1 + 1, by simp, by omega, by omega, ?_⟩
        rw [call_k lf n_spec_l20Tests _ (F := F_spec_l20Tests) rfl rfl]
        simp [F_spec_l20Tests, k1, hj, w1, u2, k2, k3]
      · rcases c4 with rfl | rfl
        · refine ⟨(0, t.2) :: r, q + 1 + 1 + 1, by simp at u1 ⊢; omega, by omega, by omega, ?_⟩
          rw [call_k lf n_spec_l20Tests _ (F := F_spec_l20Tests) rfl rfl]
          simp [F_spec_l20Tests, k1, hj, w1, u2, k2, k3, k4, e2]
        · refine ⟨(10, t.2) :: r, q + 1 + 1 + 1, by simp at u1 ⊢; omega, by omega, by omega, ?_⟩
          rw [call_k lf n_spec_l20Tests _ (F := F_spec_l20Tests) rfl rfl]
          simp [F_spec_l20Tests, k1, hj, w1, u2, k2, k3, k4, e2]
      · rcases c4 with rfl | rfl
        · refine ⟨(t.1, 0) :: r, q + 1 + 1 + 1, by simp at u1 ⊢; omega, by omega, by omega, ?_⟩
          rw [call_k lf n_spec_l20Tests _ (F := F_spec_l20Tests) rfl rfl]
          simp [F_spec_l20Tests, k1, hj, w1, u2, k2, k3, k4, e2]
        · refine ⟨(t.1, 6) :: r, q + 1 + 1 + 1, by simp at u1 ⊢; omega, by omega, by omega, ?_⟩
          rw [call_k lf n_spec_l20Tests _ (F := F_spec_l20Tests) rfl rfl]
          simp [F_spec_l20Tests, k1, hj, w1, u2, k2, k3, k4, e2]

theorem take_b {bs : List Nat} (hb : ∀ y ∈ bs, y < 256) : (∀ y ∈ bs.take 2000, y < 256) ∧ (bs.take 2000).length ≤ 2000 :=
  ⟨fun y h => hb y (List.mem_of_mem_take h), by simp; omega⟩
end
section
theorem cells_st (cs : List DV) : (DV.st cs).cells = cs := rfl
theorem cells_sl (p : Nat) (es : List DV) : (DV.sl p es).cells = [DV.sl p es] := rfl
theorem cells_i (n : Int) : (DV.i n).cells = [DV.i n] := rfl
theorem cells_y (n : Nat) : (DV.y n).cells = [DV.y n] := rfl
theorem cells_b (n : Bool) : (DV.b n).cells = [DV.b n] := rfl
theorem cells_s (n : List UInt8) : (DV.s n).cells = [DV.s n] := rfl
attribute [-simp] DV.cells
attribute [local simp] cells_st cells_sl cells_i cells_y cells_b cells_s
def row (t : List T) : DV := .sl 1 (t.map e2)
theorem flat_set (m : T) : ∀ {ps : List (List T)} {A : Nat} {t : List T}, ps[A]? = some t → (ps.set A (t ++ [m])).flatten.length = ps.flatten.length + 1
  | [], _, _, h => by simp at h
  | x :: ps, 0, t, h => by simp at h; subst h; simp; omega
  | x :: ps, A + 1, t, h => by
    simp only [List.getElem?_cons_succ] at h
    have := flat_set m h
    simp at this ⊢
    omega
theorem flat_len : ∀ {ps : List (List T)} {A : Nat} {t : List T}, ps[A]? = some t → t.length ≤ ps.flatten.length
  | [], _, _, h => by simp at h
  | x :: ps, 0, t, h => by simp at h; subst h; simp
  | x :: ps, A + 1, t, h => by
    simp only [List.getElem?_cons_succ] at h
    have := flat_len h
    simp only [List.flatten_cons, List.length_append]; omega
end
section
attribute [-simp] DV.cells
attribute [local simp] cells_st cells_sl cells_i cells_y cells_b cells_s
theorem cells_w (x : BitVec 32) : (DV.w x).cells = [DV.w x] := rfl
attribute [local simp] cells_w
end
section
attribute [-simp] DV.cells
attribute [local simp] cells_st cells_sl cells_i cells_y cells_b cells_s cells_w
attribute [-simp] sliceD
def bI (b : Bool) : Int := if b then 1 else 0
end
section
attribute [-simp] DV.cells sliceD
attribute [local simp] cells_st cells_sl cells_i cells_y cells_b cells_s cells_w
theorem bit_bI {a s : Nat} (hs : s ≤ 60) : (shrI (a : Int) (s : Int)).tmod 2 = bI (a.testBit s) := by
  rw [shr1 (by omega) (by omega), tmod2 (Int.ediv_nonneg (by omega) (Int.le_of_lt (Int.pow_pos (by omega))))]
  unfold bI
  rw [Nat.testBit_eq_decide_div_mod_eq, Int.toNat_natCast]
  have : (a : Int) / 2 ^ s % 2 = ((a / 2 ^ s % 2 : Nat) : Int) := by simp
  rw [this]
  by_cases h : a / 2 ^ s % 2 = 1
  · simp [h]
  · have : a / 2 ^ s % 2 = 0 := by omega
    simp [this]
theorem pow5 {m : Int} (h1 : 1 ≤ m) (h5 : m ≤ 5) : 2 ≤ 2 ^ m.toNat ∧ 2 ^ m.toNat ≤ 32 ∧ ((2 ^ m.toNat : Nat) : Int) = 2 ^ m.toNat := by
  have c : m = 1 ∨ m = 2 ∨ m = 3 ∨ m = 4 ∨ m = 5 := by omega
  rcases c with rfl | rfl | rfl | rfl | rfl <;> decide
end
section
attribute [-simp] DV.cells sliceD
attribute [local simp] cells_st cells_sl cells_i cells_y cells_b cells_s cells_w
/-- 1 if f holds wherever g does below N, 0 if nowhere, else -1 -/
def fo (f g : Nat → Bool) (N : Nat) : Int := if allTo (fun s => !g s || f s) N then 1 else if allTo (fun s => !g s || !f s) N then 0 else -1
/-- What the states say that agree. -/
def agB (ks : List Int) (s : Nat) : Bool := ag ks (s : Int)
end
section
attribute [-simp] DV.cells sliceD
attribute [local simp] cells_st cells_sl cells_i cells_y cells_b cells_s cells_w
/-- what is known of a term by what is known of its tests -/
def foT (m : Int) (ts : List T) (ks : List Int) : Int := fo (tv ts) (agB ks) (2 ^ m.toNat)
def told (m : Nat) (st so : Nat) : List Int := (List.range m).map fun k => if so.testBit k then bI (st.testBit k) else -1
theorem bI_eq1 (b : Bool) : (bI b == 1) = b := by cases b <;> rfl
end
section
attribute [-simp] DV.cells sliceD
attribute [local simp] cells_st cells_sl cells_i cells_y cells_b cells_s cells_w
def agW : List Int → Nat → BitVec 32 → BitVec 32
  | [], _, w => w
  | k :: r, i, w => agW r (i + 1) (if k = 0 then w &&& ~~~(yesW i) else if k = 1 then w &&& yesW i else w)
end
section
attribute [-simp] DV.cells sliceD
attribute [local simp] cells_st cells_sl cells_i cells_y cells_b cells_s cells_w
theorem div_bI (a s : Nat) : (a : Int) / 2 ^ s % 2 = bI (a.testBit s) := by
  unfold bI
  rw [Nat.testBit_eq_decide_div_mod_eq]
  have : (a : Int) / 2 ^ s % 2 = ((a / 2 ^ s % 2 : Nat) : Int) := by simp
  rw [this]
  by_cases h : a / 2 ^ s % 2 = 1
  · simp [h]
  · have : a / 2 ^ s % 2 = 0 := by omega
    simp [this]
theorem c_impl_hasTest (so k : Nat) (hk : k ≤ 40) : call lf n_impl_hasTest [.i so, .i k] = some (.b (so.testBit k), []) := by
  rw [call_k lf n_impl_hasTest _ (F := F_impl_hasTest) rfl rfl]
  have ni : ¬ (k : Int) < 0 := by omega
  have e : andI (shrI (so : Int) (k : Int)) 1 = bI (so.testBit k) := by
    rw [bit_and, shr1 (by omega) (by omega), Int.toNat_natCast, div_bI]
  simp [F_impl_hasTest, ni, e, bI_eq1]
end
section
theorem c_alive : call lf n_laws_alive [] = some (.b true, []) := by
  rw [call_k lf n_laws_alive _ (F := F_laws_alive) rfl rfl]
  have a := c_impl_TestsOk [(1, 1)] (by simp)
  have b := c_impl_TestsOk [(0, 0)] (by simp)
  have a1 : tsOk [(1, 1)] = true := by decide
  have b1 : tsOk [(0, 0)] = false := by decide
  rw [a1] at a
  rw [b1] at b
  simp [e2] at a b
  simp [F_laws_alive, a, b]
theorem c_power (n : Int) (h0 : 0 ≤ n) (h5 : n ≤ 5) : call lf n_laws_power [.i n] = some (.i (6 ^ n.toNat), []) := by
  rw [call_k lf n_laws_power _ (F := F_laws_power) rfl rfl]
  have c : n = 0 ∨ n = 1 ∨ n = 2 ∨ n = 3 ∨ n = 4 ∨ n = 5 := by omega
  have w : ∀ m : Int, 0 ≤ m → m ≤ 8000 → wr m = m := fun m a b => wr_id (by omega) (by omega)
  have L : ex lf F_laws_power_W0 ⟨[(0, .i n), (3, .i 1), (4, .i 0)], []⟩ = some (.exit 0, ⟨[(0, .i n), (3, .i (6 ^ n.toNat)), (4, .i n)], []⟩) := by
    have := loop_count (lf := lf) (L := F_laws_power_L0) n.toNat (fun i => ⟨[(0, .i n), (3, .i (6 ^ i)), (4, .i i)], []⟩) (x := .exit 0) (R := ⟨[(0, .i n), (3, .i (6 ^ n.toNat)), (4, .i n)], []⟩) (fun i hi => ?_) ?_ (by simp)
    · rw [show F_laws_power_W0 = .loop F_laws_power_L0 from rfl]
      simpa using this
    · have hlt : ((i : Nat) : Int) < n := by omega
      have b := pow_le (n := i + 1) (m := 5) (by omega) 6 (by omega)
      have b0 : (0 : Int) ≤ 6 ^ i := Int.le_of_lt (Int.pow_pos (by omega))
      simp only [Int.pow_succ] at b
      have w2 : wr (6 ^ i * 6) = 6 ^ i * 6 := w _ (by omega) (by simp at b; omega)
      have w1 : wr ((i : Int) + 1) = (i : Int) + 1 := wr_id (by omega) (by omega)
      simp [F_laws_power_L0, hlt, w2, w1, Int.pow_succ]
    · have e : max n 0 = n := by omega
      simp [F_laws_power_L0, e]
  simp [F_laws_power, L]
end
section
attribute [-simp] DV.cells
attribute [local simp] cells_st cells_sl cells_i cells_y cells_b cells_s cells_w
theorem or_fin : ∀ (s : _root_.Fin 32) (k : _root_.Fin 5), orI (s.val : Int) ((2 : Int) ^ k.val) = ((s.val ||| 2 ^ k.val : Nat) : Int) := by decide +kernel
theorem or_nat {s k : Nat} (hs : s < 32) (hk : k < 5) : orI (s : Int) ((2 : Int) ^ k) = ((s ||| 2 ^ k : Nat) : Int) := or_fin ⟨s, hs⟩ ⟨k, hk⟩
end
section
/-- each of the tests once, from those on that some tests are -/
def orS (m : Int) : Nat → List Int → Bool
  | _, [] => true
  | so, a :: r => decide (0 ≤ a ∧ a < m) && !so.testBit a.toNat && orS m (so ||| 2 ^ a.toNat) r
def orOk (m : Int) (os : List Int) : Bool := nOk m && decide ((os.length : Int) = m) && orS m 0 os
def setO : Nat → List Int → Nat
  | so, [] => so
  | so, a :: r => setO (so ||| 2 ^ a.toNat) r
theorem orS_cons {m : Int} {so : Nat} {a : Int} {r : List Int} : orS m so (a :: r) = true ↔ (0 ≤ a ∧ a < m) ∧ so.testBit a.toNat = false ∧ orS m (so ||| 2 ^ a.toNat) r = true := by
  simp [orS, and_assoc]
theorem orOk_iff {m : Int} {os : List Int} : orOk m os = true ↔ (1 ≤ m ∧ m ≤ 5) ∧ (os.length : Int) = m ∧ orS m 0 os = true := by
  rw [orOk, Bool.and_eq_true, Bool.and_eq_true, nOk_iff, decide_eq_true_eq, and_assoc]
theorem setO_app : ∀ (so : Nat) (p q : List Int), setO so (p ++ q) = setO (setO so p) q
  | _, [], _ => rfl
  | so, a :: r, q => setO_app (so ||| 2 ^ a.toNat) r q
theorem orS_app {m : Int} : ∀ (so : Nat) (p q : List Int), orS m so (p ++ q) = (orS m so p && orS m (setO so p) q)
  | _, [], q => by simp [orS, setO]
  | so, a :: r, q => by simp only [List.cons_append, orS, setO, orS_app (so ||| 2 ^ a.toNat) r q, Bool.and_assoc]
theorem or_bit (so a k : Nat) : (so ||| 2 ^ a).testBit k = (so.testBit k || decide (a = k)) := by
  rw [Nat.testBit_or, Nat.testBit_two_pow]
theorem or_lt2 {m so a : Nat} (h : so < 2 ^ m) (ha : a < m) : so ||| 2 ^ a < 2 ^ m := Nat.or_lt_two_pow h (Nat.pow_lt_pow_right (by omega) ha)
theorem setO_bit : ∀ {os : List Int} {so k : Nat}, (∀ o ∈ os, 0 ≤ o) → ((setO so os).testBit k = true ↔ so.testBit k = true ∨ (k : Int) ∈ os)
  | [], _, _, _ => by simp [setO]
  | a :: r, so, k, h => by
    have ha := h a (by simp)
    rw [setO, setO_bit (os := r) (fun o ho => h o (by simp [ho])), or_bit]
    simp only [Bool.or_eq_true, decide_eq_true_eq, List.mem_cons]
    have : a.toNat = k ↔ (k : Int) = a := by omega
    rw [this, or_assoc]
/-- how many tests are not among some -/
def uc (so : Nat) : Nat → Nat
  | 0 => 0
  | i + 1 => uc so i + if so.testBit i then 0 else 1
theorem uc_zero : ∀ n, uc 0 n = n
  | 0 => rfl
  | n + 1 => by simp [uc, uc_zero n]
theorem uc_congr {a b : Nat} : ∀ {n}, (∀ k, k < n → a.testBit k = b.testBit k) → uc a n = uc b n
  | 0, _ => rfl
  | n + 1, h => by simp only [uc]; rw [uc_congr (fun k hk => h k (by omega)), h n (by omega)]
theorem uc_or {so a : Nat} : ∀ {n}, a < n → so.testBit a = false → uc (so ||| 2 ^ a) n + 1 = uc so n
  | 0, h, _ => by omega
  | n + 1, h, hb => by
    simp only [uc]
    by_cases e : a = n
    · subst e
      rw [uc_congr (a := so ||| 2 ^ a) (b := so) (fun k hk => by rw [or_bit, decide_eq_false (by omega), Bool.or_false]), or_bit, hb]
      simp
    · have := uc_or (so := so) (a := a) (n := n) (by omega) hb
      rw [or_bit, decide_eq_false e, Bool.or_false]
      omega
theorem uc_all {so : Nat} : ∀ {n}, uc so n = 0 → ∀ k, k < n → so.testBit k = true
  | 0, _, k, hk => by omega
  | n + 1, h, k, hk => by
    simp only [uc] at h
    rcases Nat.lt_succ_iff_lt_or_eq.1 hk with q | rfl
    · exact uc_all (n := n) (by omega) k q
    · cases hb : so.testBit k with
      | true => rfl
      | false => rw [hb] at h; simp at h
theorem uc_setO {m : Int} (hm : 0 ≤ m) : ∀ {os : List Int} {so : Nat}, orS m so os = true → uc (setO so os) m.toNat + os.length = uc so m.toNat
  | [], _, _ => by simp [setO]
  | a :: r, so, h => by
    obtain ⟨h1, h2, h3⟩ := orS_cons.1 h
    have i := uc_setO hm (os := r) h3
    have u := uc_or (so := so) (a := a.toNat) (n := m.toNat) (by omega) h2
    simp only [setO, List.length_cons]; omega
theorem set_all {m : Int} {os : List Int} (h : orOk m os = true) : ∀ k, k < m.toNat → (setO 0 os).testBit k = true := by
  obtain ⟨h1, h2, h3⟩ := orOk_iff.1 h
  have u := uc_setO (by omega) h3
  rw [uc_zero] at u
  exact uc_all (by omega)
def cA (us : List T) (a : Nat) : Int := (us.getD a (0, 0)).1
theorem cA_nn {us : List T} (h : us.all tOk = true) (k : Nat) : 0 ≤ cA us k ∧ (k < us.length → 1 ≤ cA us k) ∧ cA us k ≤ 9 := by
  unfold cA
  by_cases hk : k < us.length
  · have e : us.getD k (0, 0) = us[k] := by simp [List.getD, hk]
    rw [e]
    have := tOk_iff.1 (List.all_eq_true.1 h us[k] (List.getElem_mem hk))
    omega
  · have e : us.getD k (0, 0) = (0, 0) := by simp [List.getD, List.getElem?_eq_none (by omega : us.length ≤ k)]
    rw [e]; simp; omega
end
section
theorem orS_nodup {m : Int} : ∀ {os : List Int} {so : Nat}, orS m so os = true ↔ (∀ o ∈ os, (0 ≤ o ∧ o < m) ∧ so.testBit o.toNat = false) ∧ os.Nodup
  | [], so => by simp [orS]
  | a :: r, so => by
    rw [orS_cons, orS_nodup (os := r), List.nodup_cons]
    constructor
    · rintro ⟨h1, h2, h3, h4⟩
      refine ⟨fun o ho => ?_, fun hm => ?_, h4⟩
      · rcases List.mem_cons.1 ho with rfl | ho
        · exact ⟨h1, h2⟩
        · obtain ⟨q1, q2⟩ := h3 o ho
          rw [or_bit, Bool.or_eq_false_iff] at q2
          exact ⟨q1, q2.1⟩
      · have q := (h3 a hm).2
        rw [or_bit] at q; simp at q
    · rintro ⟨h1, h2, h3⟩
      obtain ⟨a1, a2⟩ := h1 a (by simp)
      refine ⟨a1, a2, fun o ho => ?_, h3⟩
      obtain ⟨q1, q2⟩ := h1 o (by simp [ho])
      refine ⟨q1, ?_⟩
      rw [or_bit, q2, Bool.false_or, decide_eq_false]
      intro e
      have : a = o := by omega
      exact h2 (this ▸ ho)
theorem orS_perm {m : Int} {so : Nat} {p q : List Int} (h : p.Perm q) : orS m so p = orS m so q := by
  rw [Bool.eq_iff_iff, orS_nodup, orS_nodup, h.nodup_iff]
  constructor
  · exact fun k => ⟨fun o ho => k.1 o (h.mem_iff.2 ho), k.2⟩
  · exact fun k => ⟨fun o ho => k.1 o (h.mem_iff.1 ho), k.2⟩
theorem orOk_perm {m : Int} {p q : List Int} (h : p.Perm q) : orOk m p = orOk m q := by
  unfold orOk
  rw [orS_perm h, h.length_eq]
def rng (n : Nat) : List Int := (List.range n).map fun (k : Nat) => (k : Int)
theorem rng_len (n : Nat) : (rng n).length = n := by simp [rng]
theorem rng_succ (n : Nat) : rng (n + 1) = rng n ++ [(n : Int)] := by simp [rng, List.range_succ]
theorem mem_rng {n : Nat} {o : Int} : o ∈ rng n ↔ 0 ≤ o ∧ o < n := by
  unfold rng
  rw [List.mem_map]
  constructor
  · rintro ⟨k, h, rfl⟩; have := List.mem_range.1 h; omega
  · intro h; exact ⟨o.toNat, List.mem_range.2 (by omega), by omega⟩
theorem orOk_len {m : Int} {os : List Int} (h : orOk m os = true) : (os.length : Int) = m := (orOk_iff.1 h).2.1
end
section
def hkn (m : Nat) (ks : List Int) (so : Nat) : Prop := ∀ k, k < m → (ks[k]? = some (-1) ↔ so.testBit k = false)
def non (m : Nat) : List Int := List.replicate m (-1)
end
section
attribute [-simp] DV.cells sliceD
attribute [local simp] cells_st cells_sl cells_i cells_y cells_b cells_s cells_w
theorem hasTest_i {so : Nat} {a : Int} (h0 : 0 ≤ a) (h5 : a < 5) : call lf n_impl_hasTest [.i so, .i a] = some (.b (so.testBit a.toNat), []) := by
  have := c_impl_hasTest so a.toNat (by omega)
  rw [Int.toNat_of_nonneg h0] at this
  exact this
theorem or_i {so : Nat} {a : Int} (hs : so < 32) (h0 : 0 ≤ a) (h5 : a < 5) : orI (so : Int) (shlI 1 a) = ((so ||| 2 ^ a.toNat : Nat) : Int) := by
  rw [shl1 h0 (by omega)]
  exact or_nat hs (by omega)
theorem pow_le5 {m : Int} (h : 1 ≤ m ∧ m ≤ 5) : 2 ^ m.toNat ≤ 32 := (pow5 h.1 h.2).2.1
theorem l_impl_OrderOk {m : Int} (hm : 1 ≤ m ∧ m ≤ 5) (n : Int) (hb : n < 1099511627776) (es : List DV) (rest : List Int) : ∀ (k : Int) (so : Nat), so < 2 ^ m.toNat → 0 ≤ k → k + (rest.map DV.i).length = n → es.drop k.toNat = rest.map .i →
    ex lf F_impl_OrderOk_W0 ⟨[(0, .i m), (5, .i so), (17, .sl 0 es), (18, .i n), (19, .i k)], []⟩ =
    if orS m so rest = true then some (.exit 0, ⟨[(0, .i m), (5, .i (setO so rest : Nat)), (17, .sl 0 es), (18, .i n), (19, .i n)], []⟩) else some (.ret, ⟨[(4, .b false)], []⟩) := by
  have p5 := pow_le5 hm
  induction rest with
  | nil =>
    intro k so hs h0 hn hd
    rw [w_impl_OrderOk_0]
    have hk : k = n := by simpa using hn
    simp [F_impl_OrderOk_L0, hk, orS, setO]
  | cons a rest ih =>
    intro k so hs h0 hn hd
    obtain ⟨q1, q2, q3, q4, q5, q6⟩ := stp h0 hn hb hd
    have w : wr (m - 1) = m - 1 := wr_id (by omega) (by omega)
    rw [w_impl_OrderOk_0]
    by_cases ha : 0 ≤ a ∧ a < m
    · have e1 : decide (0 ≤ a ∧ a ≤ m - 1) = true := decide_eq_true (by omega)
      have e2 : decide (0 ≤ a ∧ a < m) = true := decide_eq_true ha
      have H := hasTest_i (so := so) ha.1 (by omega)
      have n0 : ¬ a < 0 := by omega
      have o := or_i (so := so) (by omega) ha.1 (by omega : a < 5)
      have ih := ih (k + 1) (so ||| 2 ^ a.toNat) (or_lt2 hs (by omega)) q4 q5 q6
      simp only [orS, e2, Bool.true_and, setO]
      cases hb : so.testBit a.toNat with
      | true =>
        rw [hb] at H
        simp [F_impl_OrderOk_L0, q1, q2, q3, w, c_impl_isWithin, e1, H]
      | false =>
        rw [hb] at H
        simp [F_impl_OrderOk_L0, q1, q2, q3, w, c_impl_isWithin, e1, H, n0, o, ih]
    · have e1 : decide (0 ≤ a ∧ a ≤ m - 1) = false := decide_eq_false (by omega)
      have e2 : decide (0 ≤ a ∧ a < m) = false := decide_eq_false ha
      simp only [orS, e2, Bool.false_and]
      simp [F_impl_OrderOk_L0, q1, q2, q3, w, c_impl_isWithin, e1]
theorem c_impl_OrderOk (m : Int) (os : List Int) (hb : (os.length : Int) < 1099511627776) : call lf n_impl_OrderOk [.i m, .sl 0 (os.map .i)] = some (.b (orOk m os), []) := by
  rw [call_k lf n_impl_OrderOk _ (F := F_impl_OrderOk) rfl rfl]
  unfold orOk
  cases h1 : nOk m with
  | false => simp [F_impl_OrderOk, c_impl_manyOk, h1]
  | true =>
    by_cases h2 : (os.length : Int) = m
    · have L := l_impl_OrderOk (nOk_iff.1 h1) os.length hb (os.map .i) os 0 0 (Nat.pow_pos (by omega)) (by omega) (by simp) (by simp)
      simp only [Int.natCast_zero] at L
      cases h3 : orS m 0 os <;> rw [h3] at L <;> simp at L <;> simp [F_impl_OrderOk, c_impl_manyOk, h1, h2, L, h3] <;> (subst h2; simp [L])
    · have y : ((os.length : Int) != m) = true := bne_iff_ne.2 h2
      simp [F_impl_OrderOk, c_impl_manyOk, h1, y, h2]
end
section
attribute [-simp] DV.cells
attribute [local simp] sliceD cells_st cells_sl cells_i cells_y cells_b cells_s cells_w
theorem ins_perm {p q : List Int} {i : Nat} (h : (p ++ q).Perm (rng i)) : (p ++ (i : Int) :: q).Perm (rng (i + 1)) := by
  rw [rng_succ]
  refine List.perm_middle.trans ?_
  refine (List.Perm.cons _ h).trans ?_
  exact (List.perm_append_singleton _ _).symm
theorem perm_len {us : List Int} {i : Nat} (h : us.Perm (rng i)) : us.length = i := by rw [h.length_eq, rng_len]
set_option maxHeartbeats 4000000 in
theorem l_l20Order {bs : List Nat} (hb : ∀ y ∈ bs, y < 256) (hl : bs.length ≤ 2000) (m : Nat) (hm : m ≤ 5) (n : Int) (j : Nat) : ∀ (i : Nat) (p : Int) (K : Nat) (os : List Int), (K = 5640 ∨ K = 11272) → 0 ≤ p → p + j < 900000 → i + j = m → os.Perm (rng i) →
    ∃ us : List Int, us.Perm (rng m) ∧
    ex lf F_spec_l20Order_W0 ⟨[(0, .oad 23 1 0 0), (1, .i m), (2, .i n), (7, .own K i 0 i), (8, .i i)], [(23, [.st [.sl 0 (bs.map .y), .i p]]), (K, os.map .i)]⟩ =
      some (.exit 0, ⟨[(0, .oad 23 1 0 0), (1, .i m), (2, .i n), (7, .own 5640 m 0 m), (8, .i m)], [(23, [.st [.sl 0 (bs.map .y), .i (p + j)]]), (5640, us.map .i)]⟩) := by
  induction j with
  | zero =>
    intro i p K os hK h0 h1 h2 h3
    have : i = m := by omega
    subst this
    have lo := perm_len h3
    refine ⟨os, h3, ?_⟩
    rw [w_spec_l20Order_0]
    rcases hK with rfl | rfl <;> simp [F_spec_l20Order_L0, lo]
  | succ j ih =>
    intro i p K os hK h0 h1 h2 h3
    have lo := perm_len h3
    have b1 := pk_bound hb h0 (by omega : p ≤ 1000000) (by omega : (1 : Int) ≤ (i : Int) + 1)
    have k1 := c_pick hb hl h0 (by omega : p < 1000000) (by omega : (1 : Int) ≤ (i : Int) + 1)
    obtain ⟨a, ha⟩ : ∃ a : Nat, pk bs p ((i : Int) + 1) = a := ⟨(pk bs p ((i : Int) + 1)).toNat, by omega⟩
    rw [ha] at k1 b1
    obtain ⟨x, y, rfl, rfl⟩ : ∃ x y, os = x ++ y ∧ x.length = a := ⟨os.take a, os.drop a, (List.take_append_drop a os).symm, by simp; omega⟩
    have P := ins_perm h3
    have w1 : wr ((i : Int) + 1) = (i : Int) + 1 := wr_id (by omega) (by omega)
    obtain ⟨us, u1, u2⟩ := ih (i + 1) (p + 1) 11272 (x ++ (i : Int) :: y) (.inr rfl) (by omega) (by omega) (by omega) P
    refine ⟨us, u1, ?_⟩
    rw [show p + ((j + 1 : Nat) : Int) = p + 1 + j by omega]
    have lxy : x.length + y.length = i := by simpa using lo
    have hlt : (i : Int) < m := by omega
    have c1 : x.length ≤ bound := by unfold bound; omega
    have c2 : x.length + 1 ≤ bound := by unfold bound; omega
    have c3 : i + 1 ≤ bound := by unfold bound; omega
    have xi : x.length ≤ i := by omega
    have xi' : (x.length : Int) ≤ i := by omega
    have t1 : ((x ++ y).map DV.i).take x.length = x.map .i := by simp
    have t2 : ((x ++ y).map DV.i).drop x.length = y.map .i := by simp
    have t3 : (x ++ y).map DV.i = ((x ++ y).map DV.i).take i := (List.take_of_length_le (by simp; omega)).symm
    have t4 : List.take i ((x ++ y).map DV.i) = (x ++ y).map DV.i := t3.symm
    have hL : ((x ++ y).map DV.i).length = i := by simp; omega
    have e1 : x.length + 1 + y.length = i + 1 := by omega
    rw [w_spec_l20Order_0]
    simp only [Int.natCast_add, Int.natCast_one, List.map_append, List.map_cons] at u2
    have n0 : ¬ (i < x.length) := by omega
    generalize (x ++ y).map DV.i = L at *
    rcases hK with rfl | rfl <;> simp [F_spec_l20Order_L0, hlt, lo, k1, w1, hL, t1, t2, t4, c1, c2, c3, xi, xi', e1, u2]
end
section
def rwOk (row : Int) : Bool := decide (0 ≤ row ∧ row ≤ 1)
/-- the chance of a test to end a row -/
def eA (us : List T) (row : Int) (a : Nat) : Int := if row = 0 then 6 - (us.getD a (0, 0)).2 else (us.getD a (0, 0)).2
def rA (us : List T) (row : Int) : Int → List Int → Int
  | _, [] => 0
  | on, a :: r => cA us a.toNat * on * 6 ^ (r.length + 1) + rA us row (on * (6 - eA us row a.toNat)) r
theorem eA_bd {us : List T} (h : us.all tOk = true) {row : Int} {a : Nat} (ha : a < us.length) : 1 ≤ eA us row a ∧ eA us row a ≤ 5 := by
  have e : us.getD a (0, 0) = us[a] := by simp [List.getD, ha]
  have := tOk_iff.1 (List.all_eq_true.1 h us[a] (List.getElem_mem ha))
  unfold eA
  rw [e]
  split <;> omega
end
section
theorem rng_nodup (n : Nat) : (rng n).Nodup := List.Pairwise.map _ (fun a b h e => h (by omega)) (List.nodup_range (n := n))
theorem or_perm {m : Int} {os : List Int} (h : orOk m os = true) : os.Perm (rng m.toNat) := by
  obtain ⟨g1, g2, g3⟩ := orOk_iff.1 h
  obtain ⟨n1, n2⟩ := orS_nodup.1 g3
  refine (List.perm_ext_iff_of_nodup n2 (rng_nodup _)).2 fun o => ?_
  constructor
  · intro ho
    exact mem_rng.2 (by have := (n1 o ho).1; omega)
  · intro ho
    have hr := mem_rng.1 ho
    have := set_all h o.toNat (by omega)
    rw [setO_bit (fun x hx => (n1 x hx).1.1)] at this
    rcases this with q | q
    · simp at q
    · rwa [Int.toNat_of_nonneg hr.1] at q
end
section
def fl (s : Int) (i : Nat) : Bool := s / 2 ^ i % 2 == 1
end
section
attribute [-simp] DV.cells sliceD
attribute [local simp] cells_st cells_sl cells_i cells_y cells_b cells_s cells_w
theorem cA_at {us : List T} {a : Int} (h0 : 0 ≤ a) (h1 : a < us.length) : ∃ c q : Int, atI (us.map e2) a = some (.st [.i c, .i q]) ∧ c = cA us a.toNat ∧ us.getD a.toNat (0, 0) = (c, q) := by
  have hl : a.toNat < us.length := by omega
  have e : us.getD a.toNat (0, 0) = us[a.toNat] := by simp [List.getD, hl]
  refine ⟨us[a.toNat].1, us[a.toNat].2, ?_, ?_, e⟩
  · simp only [atI, if_pos h0]
    show (us.map e2)[a.toNat]? = _
    simp [hl, e2]
  · unfold cA; rw [e]
end
section
attribute [-simp] DV.cells sliceD
attribute [local simp] cells_st cells_sl cells_i cells_y cells_b cells_s cells_w
theorem p6 : ∀ {n : Nat}, n ≤ 5 → (1 : Int) ≤ 6 ^ n ∧ (6 : Int) ^ n ≤ 7776 := by
  intro n hn
  have : n = 0 ∨ n = 1 ∨ n = 2 ∨ n = 3 ∨ n = 4 ∨ n = 5 := by omega
  rcases this with rfl | rfl | rfl | rfl | rfl | rfl <;> decide
theorem c_spec_l1Power {n : Nat} (h : n ≤ 5) : call lf n_spec_l1Power [.i n] = some (.i (6 ^ n), []) := by
  have L := loop_count (lf := lf) (L := F_spec_l1Power_L0) n (fun i => ⟨[(0, .i n), (3, .i (6 ^ i)), (4, .i i)], []⟩) (x := .exit 0) (R := ⟨[(0, .i n), (3, .i (6 ^ n)), (4, .i n)], []⟩) (fun i hi => by
    have p := p6 (n := i) (by omega)
    have w1 : wr ((i : Int) + 1) = i + 1 := wr_id (by omega) (by omega)
    have w2 : wr ((6 : Int) ^ i * 6) = 6 ^ (i + 1) := by rw [wr_id (by omega) (by omega), Int.pow_succ]
    simp [F_spec_l1Power_L0, hi, w1, w2]) (by simp [F_spec_l1Power_L0]) (by simp)
  have L' : ex lf F_spec_l1Power_W0 ⟨[(0, .i n), (3, .i 1), (4, .i 0)], []⟩ = some (.exit 0, ⟨[(0, .i n), (3, .i (6 ^ n)), (4, .i n)], []⟩) := L
  rw [call_k lf n_spec_l1Power _ (F := F_spec_l1Power) rfl rfl]
  simp [F_spec_l1Power, L']
def stW (us : List T) (tab : Nat) (os : List Int) (k : Nat) (ks : List Int) (w a sum sd : Int) : LS :=
  ⟨[(0, .sl 0 (us.map e2)), (1, .i tab), (2, .sl 0 (os.map .i)), (3, .i k), (4, .sl 0 (ks.map .i)), (5, .i w), (13, .i a), (14, .i sum), (15, .i sd)], []⟩
end
section
attribute [-simp] DV.cells
attribute [local simp] sliceD cells_st cells_sl cells_i cells_y cells_b cells_s cells_w
def raOk (us : List T) (os : List Int) (row : Int) : Bool := tsOk us && orOk us.length os && rwOk row
def raOf (us : List T) (os : List Int) (row : Int) : Int := if raOk us os row then rA us row 1 os else -1
theorem p6le {i j : Nat} (h : i + j ≤ 5) {on : Int} (h0 : 0 ≤ on) (h1 : on ≤ 6 ^ i) : 0 ≤ on * 6 ^ j ∧ on * 6 ^ j ≤ 7776 := by
  have pj := p6 (n := j) (by omega)
  have q := (p6 h).2
  rw [Int.pow_add] at q
  have := Int.mul_le_mul_of_nonneg_right h1 (show (0 : Int) ≤ 6 ^ j by omega)
  have := Int.mul_nonneg h0 (show (0 : Int) ≤ 6 ^ j by omega)
  omega
end
section
inductive PT where
  | stop
  | ask (k : Nat) (no yes : PT)
def fcd (m : Nat) (t : List T) (ks : List Int) : Bool := foT m t ks != -1
end
section
open Classical in
noncomputable def rc (P : Nat → Prop) : Nat → Nat
  | 0 => 0
  | n + 1 => rc P n + if P n then 1 else 0
end
section
abbrev C3 := Int × Int × Int
/-- a tree with the places of its choices -/
inductive LT where
  | stop
  | ask (p k : Nat) (no yes : LT)
def LT.size : LT → Nat
  | .stop => 0
  | .ask _ _ n y => 1 + n.size + y.size
/-- where one may go on to from a place -/
def nxt (N : Nat) (p : Nat) (a : Int) : Prop := a = -1 ∨ ((p : Int) + 1 ≤ a ∧ a ≤ (N : Int) - 1)
instance (N p : Nat) (a : Int) : Decidable (nxt N p a) := by unfold nxt; infer_instance
/-- the row holds the tree, from a place on -/
def enc (P : List C3) : Int → LT → Prop
  | a, .stop => a = -1
  | a, .ask p k n y => a = (p : Int) ∧ ∃ no ye, P[p]? = some ((k : Int), no, ye) ∧ nxt P.length p no ∧ nxt P.length p ye ∧ enc P no n ∧ enc P ye y
/-- where a row goes on to -/
def rfs : List C3 → List Int
  | [] => []
  | (_, no, ye) :: r => (if no = -1 then [] else [no]) ++ (if ye = -1 then [] else [ye]) ++ rfs r
end
section
def PT.size : PT → Nat
  | .stop => 0
  | .ask _ n y => 1 + n.size + y.size
def rot (P : List C3) : Int := if P = [] then -1 else 0
end
section
attribute [-simp] DV.cells
attribute [local simp] sliceD cells_st cells_sl cells_i cells_y cells_b cells_s cells_w
theorem lend_e3 (P : List C3) : lendL (P.map e3) = P.map e3 := by rw [lendL_map, List.map_map]; rfl
theorem adopt_e3 (o : Bool) (P : List C3) : adoptL o (P.map e3) = P.map e3 := by rw [adoptL_map, List.map_map]; rfl
theorem new_e3 (P : List C3) : allNewL (P.map e3) = true := by rw [allNewL_all, List.all_map, List.all_eq_true]; intro x _; rfl
theorem al_e3 (P : List C3) : allOldL (P.map e3) = true := by rw [allOldL_all, List.all_map, List.all_eq_true]; intro x _; rfl
theorem lt_e3 (n : Nat) (P : List C3) : lendL (List.take n (P.map e3)) = List.take n (P.map e3) := by rw [← List.map_take, lend_e3]
attribute [local simp] lend_e3 adopt_e3 new_e3 al_e3 lt_e3
def C3.nx (c : C3) (b : Bool) : Int := if b then c.2.2 else c.2.1
end
section
def aN : List Int → Nat
  | [] => 0
  | k :: r => (if k = -1 then 0 else 1) + 2 * aN r
def kn : List Int → Nat
  | [] => 0
  | k :: r => (if k = -1 then 0 else 1) + kn r
/-- how many ones there are, for small numbers -/
def pc (x : Nat) : Nat := x % 2 + x / 2 % 2 + x / 4 % 2 + x / 8 % 2 + x / 16 % 2
/-- what agrees, as a number -/
def lfW (ks : List Int) : BitVec 32 := agW ks 0 (4294967295#32)
end
section
abbrev Pts := List (Option (List Int))
/-- one goes on to where it is noted -/
def go3 (m : Nat) (t : List T) (N : Nat) (pts : Pts) (p : Int) (a : Int) (ks : List Int) : Prop :=
  (a = -1 ∧ fcd m t ks = true) ∨ (p + 1 ≤ a ∧ a ≤ (N : Int) - 1 ∧ pts[a.toNat]? = some (some ks))
structure Inv (m : Nat) (t : List T) (P : List C3) (p : Nat) (pts : Pts) : Prop where
  len : pts.length = P.length
  nd : (rfs (P.take p)).Nodup
  rng : ∀ a ∈ rfs (P.take p), 1 ≤ a ∧ a < P.length
  iff_ : ∀ a : Nat, a < P.length → (pts[a]? ≠ some none ↔ (a = 0 ∨ (a : Int) ∈ rfs (P.take p)))
  ok : ∀ (a : Nat) (ks : List Int), pts[a]? = some (some ks) → ks.length = m ∧ ks.all kOk = true ∧ fcd m t ks = false
  loc : ∀ q : Nat, q < p → ∃ (ks : List Int) (k no ye : Int), P[q]? = some (k, no, ye) ∧ pts[q]? = some (some ks) ∧ (0 ≤ k ∧ k < m) ∧ ks[k.toNat]? = some (-1) ∧ go3 m t P.length pts q no (ks.set k.toNat 0) ∧ go3 m t P.length pts q ye (ks.set k.toNat 1)
end
section
attribute [-simp] DV.cells
attribute [local simp] sliceD cells_st cells_sl cells_i cells_y cells_b cells_s cells_w
attribute [local simp] lend_e3 adopt_e3 new_e3 al_e3 lt_e3
def pv (m a : Int) (w v : BitVec 32) : DV := .st [.i m, .i a, .w w, .w v]
/-- the point at which so much is known -/
def pD (m : Nat) (t : List T) (ks : List Int) : DV := pv m (aN ks) (lfW ks) (tsW t)
end
section
attribute [-simp] DV.cells
attribute [local simp] sliceD cells_st cells_sl cells_i cells_y cells_b cells_s cells_w
attribute [local simp] lend_e3 adopt_e3 new_e3 al_e3 lt_e3
def e4 (m : Nat) (t : List T) : Option (List Int) → DV
  | some ks => pD m t ks
  | none => pv 0 0 (0#32) (0#32)
end
section
attribute [-simp] DV.cells
attribute [local simp] sliceD cells_st cells_sl cells_i cells_y cells_b cells_s cells_w
attribute [local simp] lend_e3 adopt_e3 new_e3 al_e3 lt_e3
structure Fin (m : Nat) (t : List T) (P : List C3) (L : LT) (pts : Pts) : Prop where
  inv : Inv m t P P.length pts
  start : go3 m t P.length pts (-1) (rot P) (non m)
end
section
attribute [-simp] DV.cells
attribute [local simp] sliceD cells_st cells_sl cells_i cells_y cells_b cells_s cells_w
theorem c_impl_rowOk (row : Int) : call lf n_impl_rowOk [.i row] = some (.b (rwOk row), []) := by
  rw [call_k lf n_impl_rowOk _ (F := F_impl_rowOk) rfl rfl]
  have e : rwOk row = (row == 0 || row == 1) := by
    unfold rwOk
    by_cases h0 : row = 0
    · subst h0; rfl
    · by_cases h1 : row = 1
      · subst h1; rfl
      · have n0 : (row == 0) = false := beq_eq_false_iff_ne.2 h0
        have n1 : (row == 1) = false := beq_eq_false_iff_ne.2 h1
        rw [n0, n1]
        exact decide_eq_false (by omega)
  rw [e]
  cases h0 : (row == 0) with
  | true => simp [F_impl_rowOk, h0]
  | false => simp [F_impl_rowOk, h0]
theorem c_impl_endChance (c q row : Int) (hq : 1 ≤ q ∧ q ≤ 5) : call lf n_impl_endChance [.st [.i c, .i q], .i row] = some (.i (if row = 0 then 6 - q else q), []) := by
  have w1 : wr (6 - q) = 6 - q := wr_id (by omega) (by omega)
  rw [call_k lf n_impl_endChance _ (F := F_impl_endChance) rfl rfl]
  by_cases h : row = 0
  · simp [F_impl_endChance, h, w1]
  · have h' : (row == 0) = false := by simp [h]
    simp [F_impl_endChance, h, h']
theorem c_impl_wholeOf {n : Nat} (hn : n ≤ 5) : call lf n_impl_wholeOf [.i n] = some (.i (6 ^ n), []) := by
  rw [call_k lf n_impl_wholeOf _ (F := F_impl_wholeOf) rfl rfl]
  have L := loop_count (lf := lf) (L := F_impl_wholeOf_L0) n (fun i => ⟨[(3, .i (6 ^ i)), (4, .i n), (5, .i i)], []⟩) (x := .exit 0) (R := ⟨[(3, .i (6 ^ n)), (4, .i n), (5, .i n)], []⟩) (fun i hi => by
    have p := p6 (n := i) (by omega)
    have w1 : wr ((i : Int) + 1) = i + 1 := wr_id (by omega) (by omega)
    have w2 : wr ((6 : Int) ^ i * 6) = 6 ^ i * 6 := wr_id (by omega) (by omega)
    simp [F_impl_wholeOf_L0, hi, w1, w2, Int.pow_succ]) (by simp [F_impl_wholeOf_L0]) (by simp)
  have L' : ex lf F_impl_wholeOf_W0 ⟨[(3, .i 1), (4, .i n), (5, .i 0)], []⟩ = some (.exit 0, ⟨[(3, .i (6 ^ n)), (4, .i n), (5, .i n)], []⟩) := L
  simp [F_impl_wholeOf, L']
set_option maxHeartbeats 4000000 in
theorem eA_calli {us : List T} (h : us.all tOk = true) {row a : Int} (h0 : 0 ≤ a) (h1 : a < us.length) : ∃ c q : Int, atI (us.map e2) a = some (.st [.i c, .i q]) ∧ c = cA us a.toNat ∧ call lf n_impl_endChance [.st [.i c, .i q], .i row] = some (.i (eA us row a.toNat), []) := by
  obtain ⟨c, q, c1, c2, c3⟩ := cA_at (us := us) h0 h1
  refine ⟨c, q, c1, c2, ?_⟩
  have e : us.getD a.toNat (0, 0) = us[a.toNat] := by simp [List.getD, show a.toNat < us.length by omega]
  have tq := tOk_iff.1 (List.all_eq_true.1 h us[a.toNat] (List.getElem_mem (by omega)))
  rw [← e, c3] at tq
  rw [c_impl_endChance c q row tq.2]
  unfold eA
  rw [c3]
set_option maxHeartbeats 4000000 in
theorem l_impl_RowAverage {us : List T} (h : tsOk us = true) (row : Int) (os : List Int) (ho5 : os.length ≤ 5) (rest : List Int) : ∀ (k : Nat) (on sum : Int) (so : Nat), orS us.length so rest = true → 0 ≤ on → on ≤ 6 ^ k → 0 ≤ sum → sum ≤ 70000 * k → k + rest.length = os.length → (os.map DV.i).drop k = rest.map .i →
    ∃ on' : Int, ex lf F_impl_RowAverage_W0 ⟨[(0, .sl 0 (us.map e2)), (2, .i row), (8, .i sum), (9, .i (on * 6 ^ rest.length)), (30, .sl 0 (os.map .i)), (31, .i os.length), (32, .i k)], []⟩ =
      some (.exit 0, ⟨[(0, .sl 0 (us.map e2)), (2, .i row), (8, .i (sum + rA us row on rest)), (9, .i on'), (30, .sl 0 (os.map .i)), (31, .i os.length), (32, .i os.length)], []⟩) := by
  have h' := tsOk_iff.1 h
  induction rest with
  | nil =>
    intro k on sum so ho n0 n1 s0 s1 hn hd
    have hk : k = os.length := by simpa using hn
    refine ⟨on * 6 ^ ([] : List Int).length, ?_⟩
    rw [w_impl_RowAverage_0]
    simp [F_impl_RowAverage_L0, hk, rA]
  | cons a rest ih =>
    intro k on sum so ho n0 n1 s0 s1 hn hd
    obtain ⟨o1, o2, o3⟩ := orS_cons.1 ho
    have hn2 : (k : Int) + ((DV.i a :: rest.map DV.i).length : Nat) = os.length := by simp at hn ⊢; omega
    obtain ⟨q1, q2, q3, q4, q5, q6⟩ := stp (es := os.map DV.i) (by omega) hn2 (by omega) (by simpa using hd)
    have kl : k < os.length := by omega
    obtain ⟨c, q, x1, x2, x3⟩ := eA_calli h'.2 (row := row) o1.1 o1.2
    have cn := cA_nn h'.2 a.toNat
    have ea := eA_bd h'.2 (row := row) (a := a.toNat) (by omega)
    have hl : rest.length + 1 = os.length - k := by simp at hn; omega
    have pb := p6le (i := k) (j := rest.length + 1) (by omega) n0 n1
    have pk := p6 (n := k) (by omega)
    have pr := p6 (n := rest.length) (by omega)
    have m2 : 0 ≤ c * (on * 6 ^ (rest.length + 1)) ∧ c * (on * 6 ^ (rest.length + 1)) ≤ 9 * 7776 := by
      exact ⟨Int.mul_nonneg (by omega) pb.1, Int.mul_le_mul (by omega) pb.2 pb.1 (by omega)⟩
    have w3 : wr (c * (on * 6 ^ (rest.length + 1))) = c * (on * 6 ^ (rest.length + 1)) := wr_id (by omega) (by omega)
    have w4 : wr (sum + c * (on * 6 ^ (rest.length + 1))) = sum + c * (on * 6 ^ (rest.length + 1)) := wr_id (by omega) (by omega)
    have w5 : wr (6 - eA us row a.toNat) = 6 - eA us row a.toNat := wr_id (by omega) (by omega)
    have dv : (on * 6 ^ (rest.length + 1)).tdiv 6 = on * 6 ^ rest.length := by
      rw [Int.pow_succ, ← Int.mul_assoc]
      exact Int.mul_tdiv_cancel _ (by omega)
    have pb0 : 0 ≤ on * 6 ^ rest.length ∧ on * 6 ^ rest.length ≤ 7776 := p6le (i := k) (j := rest.length) (by omega) n0 n1
    have w7 : wr (on * 6 ^ rest.length) = on * 6 ^ rest.length := wr_id (by omega) (by omega)
    have m3 : 0 ≤ on * (6 - eA us row a.toNat) ∧ on * (6 - eA us row a.toNat) ≤ 6 ^ (k + 1) := by
      refine ⟨Int.mul_nonneg n0 (by omega), ?_⟩
      rw [Int.pow_succ]
      exact Int.mul_le_mul n1 (by omega) (by omega) (by omega)
    have m4 : 0 ≤ on * 6 ^ rest.length * (6 - eA us row a.toNat) ∧ on * 6 ^ rest.length * (6 - eA us row a.toNat) ≤ 7776 * 6 :=
      ⟨Int.mul_nonneg pb0.1 (by omega), Int.mul_le_mul pb0.2 (by omega) (by omega) (by omega)⟩
    have w8 : wr (on * 6 ^ rest.length * (6 - eA us row a.toNat)) = on * (6 - eA us row a.toNat) * 6 ^ rest.length := by
      rw [wr_id (by omega) (by omega), Int.mul_assoc, Int.mul_assoc, Int.mul_comm (6 ^ rest.length)]
    have e : sum + rA us row on (a :: rest) = sum + c * (on * 6 ^ (rest.length + 1)) + rA us row (on * (6 - eA us row a.toNat)) rest := by simp only [rA, x2, Int.mul_assoc]; omega
    obtain ⟨on', I⟩ := ih (k + 1) (on * (6 - eA us row a.toNat)) (sum + c * (on * 6 ^ (rest.length + 1))) _ o3 m3.1 m3.2 (by omega) (by omega) (by simp at hn; omega) (by simpa using q6)
    refine ⟨on', ?_⟩
    have q3' : wr ((k : Int) + 1) = ((k + 1 : Nat) : Int) := by rw [q3]; omega
    have o11 := o1.1
    have o12 := o1.2
    rw [w_impl_RowAverage_0, e]
    simp only [List.length_cons] at *
    generalize on * (6 - eA us row a.toNat) * 6 ^ rest.length = G at *
    generalize on * 6 ^ (rest.length + 1) = P at *
    generalize on * 6 ^ rest.length = Q at *
    generalize rA us row _ rest = Z at *
    generalize eA us row a.toNat = E at *
    simp [F_impl_RowAverage_L0, kl, q1, q2, q3', o11, o12, x1, x3, w3, w4, w5, dv, w7, w8, I, -Int.natCast_add]
theorem c_impl_RowAverage (us : List T) (os : List Int) (row : Int) (ha : (us.length : Int) < 1099511627776) (hc : (os.length : Int) < 1099511627776) :
    call lf n_impl_RowAverage [.sl 0 (us.map e2), .sl 0 (os.map .i), .i row] = some (.i (raOf us os row), []) := by
  rw [call_k lf n_impl_RowAverage _ (F := F_impl_RowAverage) rfl rfl]
  have C1 := c_impl_TestsOk us ha
  have C3 := c_impl_OrderOk us.length os hc
  have C4 := c_impl_rowOk row
  unfold raOf raOk
  cases h1 : tsOk us with
  | false => rw [h1] at C1; simp [F_impl_RowAverage, C1]
  | true =>
    rw [h1] at C1
    cases h3 : orOk us.length os with
    | false => rw [h3] at C3; simp [F_impl_RowAverage, C1, C3]
    | true =>
      rw [h3] at C3
      cases h4 : rwOk row with
      | false =>
        rw [h4] at C4
        simp [F_impl_RowAverage, C1, C3, C4]
      | true =>
        rw [h4] at C4
        obtain ⟨g1, g2, g3⟩ := orOk_iff.1 h3
        have W := c_impl_wholeOf (n := us.length) (by omega)
        obtain ⟨on', L⟩ := l_impl_RowAverage h1 row os (by omega) os 0 1 0 0 g3 (by omega) (by omega) (by omega) (by omega) (by omega) (by simp)
        have el : os.length = us.length := by omega
        simp only [Int.natCast_zero, Int.zero_add, Int.one_mul, el] at L
        simp [F_impl_RowAverage, C1, C3, C4, W, el, L]
end
section
/-- what it costs, the parts in which it ends all, and its whole -/
abbrev I3 := Int × Int × Int
def gM : List I3 → Int
  | [] => 1
  | x :: r => x.2.2 * gM r
def gD : List I3 → Int
  | [] => 0
  | x :: r => x.1 * gM r + (x.2.2 - x.2.1) * gD r
end
section
def pA (us : List T) (k : Nat) : Int := (us.getD k (0, 0)).2
theorem pA_bd {us : List T} (h : us.all tOk = true) {k : Nat} (hk : k < us.length) : 1 ≤ pA us k ∧ pA us k ≤ 5 := by
  unfold pA
  have e : us.getD k (0, 0) = us[k] := by simp [List.getD, hk]
  rw [e]
  have := tOk_iff.1 (List.all_eq_true.1 h us[k] (List.getElem_mem hk))
  omega
/-- groups: all tests, each once -/
structure Gok (m : Nat) (L : List (List Nat)) : Prop where
  lt : ∀ g ∈ L, ∀ k ∈ g, k < m
  nd : L.flatten.Nodup
  all : ∀ k, k < m → k ∈ L.flatten
  ne : ∀ g ∈ L, g ≠ []
end
section
theorem gok_len {m : Nat} {L : List (List Nat)} (G : Gok m L) : L.flatten.length = m := by
  have : L.flatten.Perm (List.range m) := (List.perm_ext_iff_of_nodup G.nd List.nodup_range).2 fun k => by
    rw [List.mem_range]
    refine ⟨fun hk => ?_, G.all k⟩
    obtain ⟨g, h1, h2⟩ := List.mem_flatten.1 hk
    exact G.lt g h1 k h2
  rw [this.length_eq, List.length_range]
end
section
attribute [-simp] DV.cells
attribute [local simp] sliceD cells_st cells_sl cells_i cells_y cells_b cells_s cells_w
theorem lend_eR (L : List (List Int)) : lendL (L.map eR) = L.map eR := by
  rw [lendL_map, List.map_map]
  apply List.map_congr_left
  intro r _
  simp [eR, DV.lend]
theorem al_eR (L : List (List Int)) : allOldL (L.map eR) = true := by
  rw [allOldL_all, List.all_map, List.all_eq_true]
  intro r _
  simp [eR, DV.allOld]
attribute [local simp] lend_eR al_eR
def gokB (m : Int) (L : List (List Int)) : Bool := L.all (fun r => !r.isEmpty) && orOk m L.flatten
def gAl (m : Int) : Nat → List (List Int) → Bool
  | _, [] => true
  | n, r :: L => decide (1 ≤ (r.length : Int) ∧ (r.length : Int) ≤ m - n) && gAl m (n + r.length) L
theorem gAl_iff {m : Int} : ∀ {L : List (List Int)} {n : Nat}, (n : Int) ≤ m → (gAl m n L = true ↔ L.all (fun r => !r.isEmpty) = true ∧ ((n + L.flatten.length : Nat) : Int) ≤ m)
  | [], n, h => by simp [gAl, h]
  | r :: L, n, h => by
    simp only [gAl, Bool.and_eq_true, decide_eq_true_eq, List.all_cons, List.flatten_cons, List.length_append]
    by_cases hr : (r.length : Int) ≤ m - n
    · rw [gAl_iff (L := L) (n := n + r.length) (by omega)]
      cases r with
      | nil => simp
      | cons a r =>
        simp only [List.isEmpty_cons, Bool.not_false, true_and, List.length_cons] at *
        constructor
        · rintro ⟨_, h1, h2⟩; exact ⟨h1, by omega⟩
        · rintro ⟨h1, h2⟩; exact ⟨⟨by omega, by omega⟩, h1, by omega⟩
    · constructor
      · rintro ⟨⟨_, h2⟩, _⟩; exact absurd h2 hr
      · rintro ⟨_, h2⟩; omega
theorem gokB_al {m : Int} (hm : 1 ≤ m ∧ m ≤ 5) (L : List (List Int)) : gokB m L = (gAl m 0 L && orOk m L.flatten) := by
  unfold gokB
  cases h : orOk m L.flatten with
  | false => simp
  | true =>
    have := orOk_len h
    rw [Bool.and_true, Bool.and_true, Bool.eq_iff_iff, gAl_iff (by omega)]
    exact ⟨fun h => ⟨h, by omega⟩, fun h => h.1⟩
def stGk (m : Int) (L : List (List Int)) (acc : List Int) (k : Nat) : LS := ⟨[(0, .i m), (5, .own 2568 acc.length 0 acc.length), (11, .sl 0 (L.map eR)), (12, .i L.length), (13, .i k)], [(2568, acc.map .i)]⟩
theorem l_impl_GroupsOk {m : Int} (hm : 1 ≤ m ∧ m ≤ 5) (A : List (List Int)) (hb : (A.length : Int) < 1099511627776) : ∀ (L : List (List Int)) (k : Nat) (acc : List Int), (acc.length : Int) ≤ m → k + L.length = A.length → A.drop k = L →
    ex lf F_impl_GroupsOk_W0 (stGk m A acc k) = if gAl m acc.length L = true then some (.exit 0, stGk m A (acc ++ L.flatten) A.length) else some (.ret, ⟨[(4, .b false)], []⟩)
  | [], k, acc, ha, hk, hd => by
    have e : k = A.length := by simpa using hk
    subst e
    rw [w_impl_GroupsOk_0]
    simp [stGk, F_impl_GroupsOk_L0, gAl]
  | r :: L, k, acc, ha, hk, hd => by
    simp only [List.length_cons] at hk
    have hlt : (k : Int) < A.length := by omega
    have hd2 : A.drop (k + 1) = L := by rw [← List.drop_drop, hd]; rfl
    have hat : A[k]? = some r := by
      have := congrArg (fun l => l[0]?) hd
      simpa using this
    have at1 : atI (A.map eR) (k : Int) = some (.sl 0 (r.map .i)) := by
      simp only [atI, if_pos (Int.natCast_nonneg k)]
      show (A.map eR)[(k : Int).toNat]? = _
      rw [Int.toNat_natCast, List.getElem?_map, hat]; rfl
    have w1 : wr ((k : Int) + 1) = ((k + 1 : Nat) : Int) := by rw [wr_id (by omega) (by omega)]; omega
    have w2 : wr (m - acc.length) = m - acc.length := wr_id (by omega) (by omega)
    have W := c_impl_isWithin (r.length : Int) 1 (m - acc.length)
    rw [w_impl_GroupsOk_0]
    by_cases hr : 1 ≤ (r.length : Int) ∧ (r.length : Int) ≤ m - acc.length
    · rw [decide_eq_true hr] at W
      have ih := l_impl_GroupsOk hm A hb L (k + 1) (acc ++ r) (by simp; omega) (by omega) hd2
      have e : gAl m acc.length (r :: L) = gAl m (acc ++ r).length L := by simp only [gAl]; rw [decide_eq_true hr]; simp
      rw [e, List.flatten_cons, ← List.append_assoc, ← ih]
      have c1 : acc.length + r.length ≤ bound := by unfold bound; omega
      unfold stGk
      simp [F_impl_GroupsOk_L0, hlt, at1, w1, w2, W, c1, -Int.natCast_add]
    · rw [decide_eq_false hr] at W
      have e : gAl m acc.length (r :: L) = false := by simp only [gAl]; rw [decide_eq_false hr]; rfl
      rw [e]
      unfold stGk
      simp [F_impl_GroupsOk_L0, hlt, at1, w1, w2, W, -Int.natCast_add]
theorem c_impl_GroupsOk (m : Int) (L : List (List Int)) (hb : (L.length : Int) < 1099511627776) : call lf n_impl_GroupsOk [.i m, .sl 0 (L.map eR)] = some (.b (gokB m L), []) := by
  rw [call_k lf n_impl_GroupsOk _ (F := F_impl_GroupsOk) rfl rfl]
  cases h1 : nOk m with
  | false =>
    have e : gokB m L = false := by unfold gokB orOk; simp [h1]
    simp [F_impl_GroupsOk, c_impl_manyOk, h1, e]
  | true =>
    have hm := nOk_iff.1 h1
    rw [gokB_al hm]
    have I := l_impl_GroupsOk hm L hb L 0 [] (by simp; omega) (by simp) rfl
    unfold stGk at I
    simp only [List.length_nil, List.map_nil, Int.natCast_zero, List.nil_append] at I
    cases h2 : gAl m 0 L with
    | false =>
      rw [h2] at I
      simp at I
      simp [F_impl_GroupsOk, c_impl_manyOk, h1, I]
    | true =>
      rw [h2, if_pos rfl] at I
      have l5 := ((gAl_iff (n := 0) (by omega)).1 h2).2
      have C := c_impl_OrderOk m L.flatten (by omega)
      generalize L.flatten = M at *
      have tk : List.take M.length (M.map DV.i) = M.map .i := List.take_of_length_le (by simp)
      simp [F_impl_GroupsOk, c_impl_manyOk, h1, I, C, tk]
end
section
attribute [-simp] DV.cells
attribute [local simp] sliceD cells_st cells_sl cells_i cells_y cells_b cells_s cells_w
attribute [local simp] lend_eR al_eR
theorem at_eR {A : List (List Int)} {k : Nat} {r : List Int} (h : A[k]? = some r) : atI (A.map eR) (k : Int) = some (.sl 0 (r.map .i)) := by
  simp only [atI, if_pos (Int.natCast_nonneg k)]
  show (A.map eR)[(k : Int).toNat]? = _
  rw [Int.toNat_natCast, List.getElem?_map, h]; rfl
theorem atI_int {r : List Int} {j : Nat} {a : Int} (h : r[j]? = some a) : atI (r.map DV.i) (j : Int) = some (.i a) := by
  simp only [atI, if_pos (Int.natCast_nonneg j)]
  show (r.map DV.i)[(j : Int).toNat]? = _
  rw [Int.toNat_natCast, List.getElem?_map, h]; rfl
theorem drop_cons {α : Type} {A : List α} {k : Nat} {r : α} {L : List α} (h : A.drop k = r :: L) : k < A.length ∧ A[k]? = some r ∧ A.drop (k + 1) = L := by
  have hk : k < A.length := by
    rcases Nat.lt_or_ge k A.length with h1 | h1
    · exact h1
    · rw [List.drop_eq_nil_of_le h1] at h; cases h
  refine ⟨hk, ?_, by rw [← List.drop_drop, h]; rfl⟩
  have := congrArg (fun l => l[0]?) h
  simpa using this
theorem wr_succ {k : Nat} (h : (k : Int) < 1099511627776) : wr ((k : Int) + 1) = ((k + 1 : Nat) : Int) := by rw [wr_id (by omega) (by omega)]; omega
def stGi (m : Int) (A : List (List Int)) (so n k j : Nat) : LS := ⟨[(0, .i m), (1, .sl 0 (A.map eR)), (5, .i so), (6, .i n), (7, .i k), (8, .i j)], []⟩
theorem gs_inner (m : Int) (A : List (List Int)) {k : Nat} {R : List Int} (hk : A[k]? = some R) (hkl : (k : Int) < A.length) : ∀ (r : List Int) (j so n : Nat), so < 32 → ((n + r.length : Nat) : Int) < 1099511627776 → (R.length : Int) < 1099511627776 → R.drop j = r → j + r.length = R.length →
    ex lf F_spec_GroupsOk_W1 (stGi m A so n k j) = if orS (min m 5) so r = true then some (.exit 2, stGi m A (setO so r) (n + r.length) k R.length) else some (.ret, ⟨[(4, .b false)], []⟩) := by
  intro r
  induction r with
  | nil =>
    intro j so n hs hn hR hd hj
    have at1 := at_eR hk
    have e : j = R.length := by simpa using hj
    subst e
    rw [w_spec_GroupsOk_1]
    simp [stGi, F_spec_GroupsOk_L1, orS, setO, at1, hkl]
  | cons a r ih0 =>
    intro j so n hs hn hR hd hj
    have at1 := at_eR hk
    obtain ⟨j1, j2, j3⟩ := drop_cons hd
    have j1' : (j : Int) < R.length := by omega
    have at2 := atI_int j2
    simp only [List.length_cons] at hn hj
    have w1 := wr_succ (k := j) (by omega)
    have w2 := wr_succ (k := n) (by omega)
    rw [w_spec_GroupsOk_1]
    by_cases a0 : a < 0
    · have e2 : decide (0 ≤ a ∧ a < min m 5) = false := decide_eq_false (by omega)
      simp only [orS, e2, Bool.false_and]
      simp [stGi, F_spec_GroupsOk_L1, at1, at2, hkl, j1, j1', a0]
    · by_cases a1 : m ≤ a
      · have e2 : decide (0 ≤ a ∧ a < min m 5) = false := decide_eq_false (by omega)
        simp only [orS, e2, Bool.false_and]
        simp [stGi, F_spec_GroupsOk_L1, at1, at2, hkl, j1, j1', a0, a1]
      · by_cases a5 : 5 ≤ a
        · have e2 : decide (0 ≤ a ∧ a < min m 5) = false := decide_eq_false (by omega)
          simp only [orS, e2, Bool.false_and]
          simp [stGi, F_spec_GroupsOk_L1, at1, at2, hkl, j1, j1', a0, a1, a5]
        · have e2 : decide (0 ≤ a ∧ a < min m 5) = true := decide_eq_true (by omega)
          have o := or_i (so := so) (by omega) (by omega : 0 ≤ a) (by omega : a < 5)
          have bb := bit_bI (a := so) (s := a.toNat) (by omega)
          rw [Int.toNat_of_nonneg (by omega)] at bb
          have ih := ih0 (j + 1) (so ||| 2 ^ a.toNat) (n + 1) (or_lt2 (m := 5) hs (by omega)) (by omega) hR j3 (by omega)
          rw [show n + 1 + r.length = n + (r.length + 1) by omega] at ih
          simp only [orS, e2, Bool.true_and, setO, List.length_cons]
          unfold stGi at *
          cases hb : so.testBit a.toNat with
          | true =>
            rw [hb] at bb
            have q : (bI true == 1) = true := rfl
            simp [F_spec_GroupsOk_L1, at1, at2, hkl, j1, j1', a0, a1, a5, bb, q]
          | false =>
            rw [hb] at bb
            have q : (bI false == 1) = false := rfl
            simp [F_spec_GroupsOk_L1, at1, at2, hkl, j1, j1', a0, a1, a5, bb, q, o, w1, w2, ih, -Int.natCast_add]
def gSp (m : Int) : Nat → List (List Int) → Bool
  | _, [] => true
  | so, r :: L => !r.isEmpty && (orS m so r && gSp m (setO so r) L)
theorem gSp_eq (m : Int) : ∀ (L : List (List Int)) (so : Nat), gSp m so L = (L.all (fun r => !r.isEmpty) && orS m so L.flatten)
  | [], so => by simp [gSp, orS]
  | r :: L, so => by
    simp only [gSp, List.all_cons, List.flatten_cons, orS_app, gSp_eq m L]
    cases r.isEmpty <;> cases orS m so r <;> simp
theorem setO32 {m : Int} : ∀ {os : List Int} {so : Nat}, so < 32 → orS (min m 5) so os = true → setO so os < 32
  | [], _, h, _ => h
  | a :: r, so, h, ho => by
    obtain ⟨h1, h2, h3⟩ := orS_cons.1 ho
    exact setO32 (os := r) (or_lt2 (m := 5) h (by omega)) h3
def stGo (m : Int) (A : List (List Int)) (so n k : Nat) : LS := ⟨[(0, .i m), (1, .sl 0 (A.map eR)), (5, .i so), (6, .i n), (7, .i k)], []⟩
theorem gs_outer (m : Int) (A : List (List Int)) (hb : (A.length : Int) < 1099511627776) : ∀ (L : List (List Int)) (k so n : Nat), so < 32 → ((n + L.flatten.length : Nat) : Int) < 1099511627776 → A.drop k = L → k + L.length = A.length →
    ex lf F_spec_GroupsOk_W0 (stGo m A so n k) = if gSp (min m 5) so L = true then some (.exit 0, stGo m A (setO so L.flatten) (n + L.flatten.length) A.length) else some (.ret, ⟨[(4, .b false)], []⟩) := by
  intro L
  induction L with
  | nil =>
    intro k so n hs hn hd hk
    have e : k = A.length := by simpa using hk
    subst e
    rw [w_spec_GroupsOk_0]
    simp [stGo, F_spec_GroupsOk_L0, gSp, setO]
  | cons R L ih0 =>
    intro k so n hs hn hd hk
    obtain ⟨k1, k2, k3⟩ := drop_cons hd
    have k1' : (k : Int) < A.length := by omega
    have at1 := at_eR k2
    simp only [List.flatten_cons, List.length_append] at hn
    simp only [List.length_cons] at hk
    have w1 := wr_succ (k := k) (by omega)
    rw [w_spec_GroupsOk_0]
    by_cases h0 : R = []
    · subst h0
      simp only [gSp]
      simp [stGo, F_spec_GroupsOk_L0, k1, k1', at1]
    · have I := gs_inner m A k2 k1' R 0 so n hs (by omega) (by omega) rfl (by simp)
      have e0 : R.isEmpty = false := by simpa using h0
      have r0 : ((R.length : Int) == 0) = false := by have := List.length_pos_iff.2 h0; exact beq_false_of_ne (by omega)
      simp only [gSp, e0, Bool.not_false, Bool.true_and]
      unfold stGi at I
      unfold stGo at *
      simp only [Int.natCast_zero] at I
      cases h1 : orS (min m 5) so R with
      | false =>
        rw [h1] at I
        simp at I
        simp [F_spec_GroupsOk_L0, k1, k1', at1, r0, I]
      | true =>
        rw [h1, if_pos rfl] at I
        have ih := ih0 (k + 1) (setO so R) (n + R.length) (setO32 hs h1) (by omega) k3 (by omega)
        rw [← Nat.add_assoc, List.flatten_cons, setO_app, List.length_append, ← Nat.add_assoc] at *
        simp only [Bool.true_and]
        simp [F_spec_GroupsOk_L0, k1, k1', at1, r0, I, w1, ih, -Int.natCast_add, -List.length_flatten]
theorem c_spec_GroupsOk (m : Int) (L : List (List Int)) (hb : (L.length : Int) < 1099511627776) (hf : (L.flatten.length : Int) < 1099511627776) : call lf n_spec_GroupsOk [.i m, .sl 0 (L.map eR)] = some (.b (gokB m L), []) := by
  rw [call_k lf n_spec_GroupsOk _ (F := F_spec_GroupsOk) rfl rfl]
  have I := gs_outer m L hb L 0 0 0 (by omega) (by omega) rfl (by simp)
  unfold stGo at I
  simp only [Int.natCast_zero, Nat.zero_add] at I
  have e1 : nOk m = decide (1 ≤ m ∧ m ≤ 5) := rfl
  rw [gSp_eq] at I
  unfold gokB orOk
  rw [e1]
  by_cases hm : 1 ≤ m ∧ m ≤ 5
  · have h1 : decide (1 ≤ m ∧ m ≤ 5) = true := decide_eq_true hm
    have e5 : min m 5 = m := by omega
    rw [e5] at I
    rw [h1]
    cases h3 : (L.all (fun r => !r.isEmpty) && orS m 0 L.flatten) with
    | false =>
      rw [h3] at I
      simp at I
      have e : (L.all (fun r => !r.isEmpty) && (true && decide ((L.flatten.length : Int) = m) && orS m 0 L.flatten)) = false := by
        rw [Bool.true_and, ← Bool.and_assoc, Bool.and_right_comm, h3]; rfl
      rw [e]
      simp [F_spec_GroupsOk, I]
    | true =>
      rw [h3, if_pos rfl] at I
      rw [Bool.and_eq_true] at h3
      rw [h3.1, h3.2]
      generalize L.flatten.length = z at *
      simp [F_spec_GroupsOk, I, c_spec_l1In, h1, Bool.beq_eq_decide_eq]
  · have h1 : decide (1 ≤ m ∧ m ≤ 5) = false := decide_eq_false hm
    rw [h1]
    cases h3 : (L.all (fun r => !r.isEmpty) && orS (min m 5) 0 L.flatten) with
    | false =>
      rw [h3] at I
      simp at I
      simp [F_spec_GroupsOk, I]
    | true =>
      rw [h3, if_pos rfl] at I
      generalize L.flatten.length = z at *
      simp [F_spec_GroupsOk, I, c_spec_l1In, h1]
end
section
attribute [-simp] DV.cells
attribute [local simp] sliceD cells_st cells_sl cells_i cells_y cells_b cells_s cells_w
attribute [local simp] lend_eR al_eR
def ni (l : List Nat) : List Int := l.map fun k : Nat => (k : Int)
theorem ni_len (l : List Nat) : (ni l).length = l.length := by simp [ni]
theorem ni_toNat (l : List Nat) : (ni l).map Int.toNat = l := by
  unfold ni
  rw [List.map_map]
  conv => rhs; rw [← List.map_id l]
  apply List.map_congr_left
  intro k _
  simp
theorem atT {us : List T} {k : Nat} (hk : k < us.length) : atI (us.map e2) (k : Int) = some (.st [.i (cA us k), .i (pA us k)]) := by
  simp only [atI, if_pos (Int.natCast_nonneg k)]
  show (us.map e2)[(k : Int).toNat]? = _
  rw [Int.toNat_natCast, List.getElem?_map, List.getElem?_eq_getElem hk]
  unfold cA pA
  simp [List.getD, hk, e2]
theorem cA_bd {us : List T} (h : us.all tOk = true) {k : Nat} (hk : k < us.length) : 1 ≤ cA us k ∧ cA us k ≤ 9 := by
  have := tOk_iff.1 (List.all_eq_true.1 h us[k] (List.getElem_mem hk))
  unfold cA
  simp only [List.getD, List.getElem?_eq_getElem hk, Option.getD_some]
  exact this.1
theorem at_ni {L : List Nat} {j k : Nat} (h : L[j]? = some k) : atI ((ni L).map DV.i) (j : Int) = some (.i k) ∧ atN ((ni L).map DV.i) j = some (.i k) := by
  have h' : (ni L)[j]? = some (k : Int) := by unfold ni; rw [List.getElem?_map, h]; rfl
  refine ⟨atI_int h', ?_⟩
  show ((ni L).map DV.i)[j]? = _
  rw [List.getElem?_map, h']; rfl
end
section
attribute [-simp] DV.cells
attribute [local simp] sliceD cells_st cells_sl cells_i cells_y cells_b cells_s cells_w
attribute [local simp] lend_eR al_eR
theorem gok_of {m : Nat} (hm : 1 ≤ m ∧ m ≤ 5) {L : List (List Int)} (h : gokB m L = true) : ∃ N : List (List Nat), L = N.map ni ∧ Gok m N := by
  unfold gokB at h
  rw [Bool.and_eq_true] at h
  obtain ⟨h1, h2⟩ := h
  obtain ⟨o1, o2, o3⟩ := orOk_iff.1 h2
  obtain ⟨o4, o5⟩ := orS_nodup.1 o3
  have e : L = (L.map (List.map Int.toNat)).map ni := by
    rw [List.map_map]
    conv => lhs; rw [← List.map_id L]
    apply List.map_congr_left
    intro r hr
    show r = ni (r.map Int.toNat)
    unfold ni
    rw [List.map_map]
    conv => lhs; rw [← List.map_id r]
    apply List.map_congr_left
    intro a ha
    have := (o4 a (List.mem_flatten.2 ⟨r, hr, ha⟩)).1
    show a = ((a.toNat : Nat) : Int)
    omega
  have ef : (L.map (List.map Int.toNat)).flatten = L.flatten.map Int.toNat := by rw [List.map_flatten]
  have lt : ∀ g ∈ L.map (List.map Int.toNat), ∀ k ∈ g, k < m := by
    intro g hg k hk
    obtain ⟨r, hr, rfl⟩ := List.mem_map.1 hg
    obtain ⟨a, ha, rfl⟩ := List.mem_map.1 hk
    have := (o4 a (List.mem_flatten.2 ⟨r, hr, ha⟩)).1
    omega
  have nd : (L.map (List.map Int.toNat)).flatten.Nodup := by
    rw [ef, List.nodup_iff_pairwise_ne, List.pairwise_map]
    refine List.Pairwise.imp_of_mem (fun {a b} ha hb hab h => hab ?_) (List.nodup_iff_pairwise_ne.1 o5)
    have := (o4 a ha).1
    have := (o4 b hb).1
    omega
  refine ⟨_, e, lt, nd, fun k hk => ?_, ?_⟩
  · rw [ef, List.mem_map]
    have p := (or_perm h2).mem_iff.2 (mem_rng.2 (show 0 ≤ (k : Int) ∧ (k : Int) < ((m : Int).toNat : Nat) by omega))
    exact ⟨(k : Int), p, by simp⟩
  · intro g hg
    obtain ⟨r, hr, rfl⟩ := List.mem_map.1 hg
    have := List.all_eq_true.1 h1 r hr
    simpa using this
theorem gok_to {m : Nat} (hm : 1 ≤ m ∧ m ≤ 5) {N : List (List Nat)} (G : Gok m N) : gokB m (N.map ni) = true := by
  unfold gokB
  rw [Bool.and_eq_true]
  have ef : (N.map ni).flatten = ni N.flatten := by unfold ni; rw [List.map_flatten]
  refine ⟨?_, ?_⟩
  · rw [List.all_map, List.all_eq_true]
    intro g hg
    have := G.ne g hg
    cases g with
    | nil => exact absurd rfl this
    | cons a g => rfl
  · rw [ef, orOk_iff, orS_nodup]
    refine ⟨by omega, by rw [ni_len, gok_len G], fun o ho => ?_, ?_⟩
    · obtain ⟨k, hk, rfl⟩ := List.mem_map.1 ho
      obtain ⟨g, h1, h2⟩ := List.mem_flatten.1 hk
      have := G.lt g h1 k h2
      exact ⟨by omega, by simp⟩
    · unfold ni
      rw [List.nodup_iff_pairwise_ne, List.pairwise_map]
      exact List.Pairwise.imp (fun {a b} (hab : a ≠ b) h => hab (Int.ofNat_inj.1 h)) (List.nodup_iff_pairwise_ne.1 G.nd)
end
section
def ci (ts : List Int) (i : Nat) : List DV := (ts.take i).map .i ++ List.replicate (ts.length - i) (.i 0)
end
section
attribute [-simp] DV.cells
attribute [local simp] sliceD cells_st cells_sl cells_i cells_y cells_b cells_s cells_w
attribute [local simp] lend_eR al_eR
def eN (r : List Int) : DV := .sl 1 (r.map .i)
theorem lend_eN (L : List (List Int)) : lendL (L.map eN) = L.map eR := by
  rw [lendL_map, List.map_map]
  apply List.map_congr_left
  intro r _
  simp [eN, eR, DV.lend]
theorem adopt_eN (o : Bool) (L : List (List Int)) : adoptL o (L.map eN) = L.map eN := by
  rw [adoptL_map, List.map_map]
  apply List.map_congr_left
  intro r _
  simp [eN, DV.adopt, adoptP]
theorem new_eN (L : List (List Int)) : allNewL (L.map eN) = true := by
  rw [allNewL_all, List.all_map, List.all_eq_true]
  intro r _
  simp [eN, DV.allNew, newP]
attribute [local simp] lend_eN adopt_eN new_eN
end
section
attribute [-simp] DV.cells
attribute [local simp] sliceD cells_st cells_sl cells_i cells_y cells_b cells_s cells_w
attribute [local simp] lend_eR al_eR lend_eN adopt_eN new_eN
theorem cells_cel (k n : Nat) : (DV.cel k n).cells = [.cel k n] := rfl
theorem noc_i (xs : List Int) : noCelL (xs.map DV.i) = true := by rw [noCelL_all, List.all_map, List.all_eq_true]; intro x _; rfl
theorem noc_y (xs : List Nat) : noCelL (xs.map DV.y) = true := by rw [noCelL_all, List.all_map, List.all_eq_true]; intro x _; rfl
theorem noc_eN (L : List (List Int)) : noCelL (L.map eN) = true := by
  rw [noCelL_all, List.all_map, List.all_eq_true]
  intro x _
  show noCelL (x.map DV.i) = true
  exact noc_i x
theorem c_odd0 (bs : List Nat) (p : Int) : call lf n_spec_l20Rd_odd [.ref (.st [.sl 0 (bs.map .y), .i p]), .i 0] = some (.b false, [.st [.sl 0 (bs.map .y), .i p]]) := by
  rw [call_k lf n_spec_l20Rd_odd _ (F := F_spec_l20Rd_odd) rfl rfl]
  simp [F_spec_l20Rd_odd]
theorem c_l20OrderG {bs : List Nat} (hb : ∀ y ∈ bs, y < 256) (hl : bs.length ≤ 2000) {p : Int} {m : Nat} (h0 : 0 ≤ p) (h1 : p < 700000) (hm : m ≤ 5) :
    ∃ us : List Int, us.length = m ∧ call lf n_spec_l20Order [.ref (.st [.sl 0 (bs.map .y), .i p]), .i m, .i 0] = some (.fr 1 (us.map .i), [.st [.sl 0 (bs.map .y), .i (p + m)]]) := by
  obtain ⟨us, u1, L⟩ := l_l20Order hb hl m hm 0 m 0 p 5640 [] (.inl rfl) h0 (by omega) (by omega) (by rfl)
  have lu := perm_len u1
  simp only [Int.natCast_zero, List.map_nil] at L
  have k2 := c_odd0 bs (p + m)
  refine ⟨us, lu, ?_⟩
  rw [call_k lf n_spec_l20Order _ (F := F_spec_l20Order) rfl rfl]
  generalize hq : p + (m : Int) = q at *
  simp [F_spec_l20Order, L, k2, lu]
attribute [local simp] cells_cel noc_i noc_y noc_eN noCelE noCelO noCelL DV.noCel
/-- the rows that are done, the row that grows -/
def stG2 (bs : List Nat) (n : Int) (os : List Int) (init : List (List Int)) (last : List Int) (i : Nat) (p : Int) : LS :=
  ⟨[(0, .oad 23 1 0 0), (2, .i n), (7, .own 6664 os.length 0 os.length), (8, .own 7176 (init.length + 1) 0 (init.length + 1)), (9, .i i)],
    [(23, [.st [.sl 0 (bs.map .y), .i p]]), (6664, os.map .i), (7176, init.map eN ++ [.cel 15373 last.length]), (15373, last.map .i)]⟩
set_option maxHeartbeats 8000000 in
theorem g2_step {bs : List Nat} (n : Int) (os : List Int) (hos : os.length ≤ 5) (init : List (List Int)) (last : List Int) {i : Nat} {a : Int} (hi : os[i]? = some a) (hil : init.length ≤ 5) (hl : last.length ≤ 5) {p : Int} {b : Bool}
    (k : call lf n_spec_l20Rd_pick [.ref (.st [.sl 0 (bs.map .y), .i p]), .i 2] = some (.i (if b then 0 else 1), [.st [.sl 0 (bs.map .y), .i (p + 1)]])) :
    ex lf F_spec_l20Groups_L0 (stG2 bs n os init last i p) = some (.normal, if b then stG2 bs n os (init ++ [last]) [a] (i + 1) (p + 1) else stG2 bs n os init (last ++ [a]) (i + 1) (p + 1)) := by
  have hlt : i < os.length := (List.getElem?_eq_some_iff.1 hi).1
  have hlt' : (i : Int) < os.length := by omega
  have w1 := wr_succ (k := i) (by omega)
  have a1 := atI_int hi
  have a2 : atN (os.map DV.i) i = some (.i a) := by
    show (os.map DV.i)[i]? = _
    rw [List.getElem?_map, hi]; rfl
  have tk : List.take os.length (os.map DV.i) = os.map .i := List.take_of_length_le (by simp)
  have r3 : ∀ (I : List (List Int)) (x : DV), atN (I.map eN ++ [x]) I.length = some x := fun I x => by
    show (I.map eN ++ [x])[I.length]? = _
    rw [List.getElem?_append_right (by simp)]
    simp
  have s3 : ∀ (I : List (List Int)) (x y : DV), (I.map eN ++ [x]).set I.length y = I.map eN ++ [y] := fun I x y => by
    rw [List.set_append_right _ _ (by simp)]
    simp
  cases b with
  | true =>
    have c1 : init.length + 1 + 1 ≤ bound := by unfold bound; omega
    have w2 : wr (((init.length + 1 + 1 : Nat) : Int) - 1) = ((init.length + 1 : Nat) : Int) := by rw [wr_id (by omega) (by omega)]; omega
    have e0 : (((init.length + 1 : Nat) : Int) == 0) = false := beq_false_of_ne (by omega)
    have r4 := r3 (init ++ [last]) (.cel 15373 0)
    have s4 := s3 (init ++ [last]) (.cel 15373 0) (.cel 15373 1)
    have sh : init.map eN ++ [DV.sl 1 (last.map .i)] = (init ++ [last]).map eN := by rw [List.map_append]; rfl
    have ln : (init ++ [last]).length = init.length + 1 := by simp
    have lM : ((init ++ [last]).map eN).length = init.length + 1 := by simp
    rw [ln] at r4 s4
    have cb : 1 ≤ bound := by unfold bound; omega
    have nM := noc_eN (init ++ [last])
    rw [if_pos rfl] at k
    simp only [if_true]
    unfold stG2
    rw [ln]
    generalize hM : (init ++ [last]).map eN = M at *
    have tkM : List.take (init.length + 1) M = M := List.take_of_length_le (by omega)
    simp [F_spec_l20Groups_L0, hlt, hlt', w1, w2, e0, k, a1, a2, tk, sh, lM, c1, r4, s4, cb, tkM, nM, -Int.natCast_add]
  | false =>
    have w2 : wr (((init.length + 1 : Nat) : Int) - 1) = (init.length : Nat) := by rw [wr_id (by omega) (by omega)]; omega
    have e0 : (((init.length + 1 : Nat) : Int) == 0) = false := beq_false_of_ne (by omega)
    have cb : last.length + 1 ≤ bound := by unfold bound; omega
    unfold stG2
    simp at k
    simp [F_spec_l20Groups_L0, hlt, hlt', w1, w2, e0, k, a1, a2, tk, r3, s3, cb, -Int.natCast_add]
set_option maxHeartbeats 8000000 in
theorem g2_first {bs : List Nat} (n : Int) {os : List Int} (hos : os.length ≤ 5) {a : Int} (hi : os[0]? = some a) (p : Int) :
    ex lf F_spec_l20Groups_L0 ⟨[(0, .oad 23 1 0 0), (2, .i n), (7, .own 6664 os.length 0 os.length), (8, .own 7176 0 0 0), (9, .i 0)], [(23, [.st [.sl 0 (bs.map .y), .i p]]), (6664, os.map .i), (7176, [])]⟩ = some (.normal, stG2 bs n os [] [a] 1 p) := by
  have hlt : 0 < os.length := (List.getElem?_eq_some_iff.1 hi).1
  have a1 := atI_int hi
  simp only [Int.natCast_zero] at a1
  have a2 : atN (os.map DV.i) 0 = some (.i a) := by
    show (os.map DV.i)[0]? = _
    rw [List.getElem?_map, hi]; rfl
  have tk : List.take os.length (os.map DV.i) = os.map .i := List.take_of_length_le (by simp)
  have cb : 1 ≤ bound := by unfold bound; omega
  have w1 : wr (1 : Int) = 1 := wr_id (by omega) (by omega)
  have w0 : wr (0 : Int) = 0 := wr_id (by omega) (by omega)
  unfold stG2
  simp [F_spec_l20Groups_L0, hlt, a1, a2, tk, cb, w0, w1]
theorem g2_loop {bs : List Nat} (hb : ∀ y ∈ bs, y < 256) (hl : bs.length ≤ 2000) (n : Int) (os : List Int) (hos : os.length ≤ 5) : ∀ (d i : Nat) (init : List (List Int)) (last : List Int) (p : Int), i + d = os.length → 1 ≤ i → init.length + 1 ≤ i → init.flatten.length + last.length = i → 0 ≤ p → p + d < 900000 →
    ∃ (init' : List (List Int)) (last' : List Int) (p' : Int), p ≤ p' ∧ p' ≤ p + d ∧ init'.length + 1 ≤ os.length ∧ init'.flatten.length + last'.length = os.length ∧
      ex lf F_spec_l20Groups_W0 (stG2 bs n os init last i p) = some (.exit 0, stG2 bs n os init' last' os.length p') := by
  intro d
  induction d with
  | zero =>
    intro i init last p hi h1 h2 h3 h4 h5
    have e : i = os.length := by omega
    subst e
    refine ⟨init, last, p, by omega, by omega, h2, h3, ?_⟩
    rw [w_spec_l20Groups_0]
    simp [stG2, F_spec_l20Groups_L0]
  | succ d ih =>
    intro i init last p hi h1 h2 h3 h4 h5
    have hk : os[i]? = some os[i] := List.getElem?_eq_getElem (by omega)
    have k := c_pick hb hl (p := p) (n := 2) h4 (by omega) (by omega)
    have bd := pk_bound hb (p := p) (n := 2) h4 (by omega) (by omega)
    by_cases z : pk bs p 2 = 0
    · rw [z] at k
      have S := g2_step n os hos init last hk (by omega) (by omega) (b := true) (p := p) (by simpa using k)
      obtain ⟨i', l', p', q1, q2, q3, q4, q5⟩ := ih (i + 1) (init ++ [last]) [os[i]] (p + 1) (by omega) (by omega) (by simp; omega) (by simp only [List.flatten_append, List.length_append, List.flatten_cons, List.flatten_nil, List.length_nil, List.length_singleton]; omega) (by omega) (by omega)
      refine ⟨i', l', p', by omega, by omega, q3, q4, ?_⟩
      rw [w_spec_l20Groups_0, S]
      simpa using q5
    · have z1 : pk bs p 2 = 1 := by omega
      rw [z1] at k
      have S := g2_step n os hos init last hk (by omega) (by omega) (b := false) (p := p) (by simpa using k)
      obtain ⟨i', l', p', q1, q2, q3, q4, q5⟩ := ih (i + 1) init (last ++ [os[i]]) (p + 1) (by omega) (by omega) (by omega) (by simp only [List.length_append, List.length_singleton]; omega) (by omega) (by omega)
      refine ⟨i', l', p', by omega, by omega, q3, q4, ?_⟩
      rw [w_spec_l20Groups_0, S]
      simpa using q5
set_option maxHeartbeats 8000000 in
theorem c_l20Groups {bs : List Nat} (hb : ∀ y ∈ bs, y < 256) (hl : bs.length ≤ 2000) {p n : Int} {m : Nat} (h0 : 0 ≤ p) (h1 : p < 600000) (hm : m ≤ 5) (hn : 1 ≤ n) (hn2 : n ≤ 1000000) :
    ∃ (R : List (List Int)) (p' : Int), R.length ≤ 6 ∧ R.flatten.length ≤ 6 ∧ p ≤ p' ∧ p' ≤ p + 30 ∧ call lf n_spec_l20Groups [.ref (.st [.sl 0 (bs.map .y), .i p]), .i m, .i n] = some (.fr 1 (R.map eN), [.st [.sl 0 (bs.map .y), .i p']]) := by
  obtain ⟨os, lo, CO⟩ := c_l20OrderG hb hl (p := p) (m := m) h0 (by omega) hm
  obtain ⟨Q, q, S1, b1, b2, b3, b4, W, H⟩ : ∃ (Q : List (List Int)) (q : Int) (S1 : LS), Q.length ≤ 5 ∧ Q.flatten.length ≤ 5 ∧ p ≤ q ∧ q ≤ p + 15 ∧
      ex lf F_spec_l20Groups_W0 ⟨[(0, .oad 23 1 0 0), (2, .i n), (7, .own 6664 os.length 0 os.length), (8, .own 7176 0 0 0), (9, .i 0)], [(23, [.st [.sl 0 (bs.map .y), .i (p + m)]]), (6664, os.map .i), (7176, [])]⟩ = some (.exit 0, S1) ∧
      ∀ X : LC, ex lf (.ghost (.shut 8) X) S1 = ex lf X ⟨[(0, .oad 23 1 0 0), (2, .i n), (7, .own 6664 os.length 0 os.length), (8, .own 7176 Q.length 0 Q.length), (9, .i os.length)], [(23, [.st [.sl 0 (bs.map .y), .i q]]), (6664, os.map .i), (7176, Q.map eN)]⟩ := by
    cases os with
    | nil =>
      refine ⟨[], p + m, ⟨[(0, .oad 23 1 0 0), (2, .i n), (7, .own 6664 0 0 0), (8, .own 7176 0 0 0), (9, .i 0)], [(23, [.st [.sl 0 (bs.map .y), .i (p + m)]]), (6664, []), (7176, [])]⟩, by simp, by simp, by omega, by omega, ?_, fun X => ?_⟩
      · rw [w_spec_l20Groups_0]
        simp [F_spec_l20Groups_L0]
      · simp
    | cons a os =>
      have S := g2_first (bs := bs) n (os := a :: os) (by omega) (a := a) rfl (p + m)
      have lo' : os.length + 1 = m := by simpa using lo
      obtain ⟨I, l, q, q1, q2, q3, q4, q5⟩ := g2_loop hb hl n (a :: os) (by omega) os.length 1 [] [a] (p + m) (by simp; omega) (by omega) (by simp) (by simp) (by omega) (by omega)
      refine ⟨I ++ [l], q, stG2 bs n (a :: os) I l (a :: os).length q, by simp only [List.length_append, List.length_singleton]; omega, by simp only [List.flatten_append, List.length_append, List.flatten_cons, List.flatten_nil, List.length_nil]; omega, by omega, by simp only [List.length_cons] at lo; omega, ?_, fun X => ?_⟩
      · rw [w_spec_l20Groups_0, S]
        exact q5
      · have sh : I.map eN ++ [DV.sl 1 (l.map .i)] = (I ++ [l]).map eN := by rw [List.map_append]; rfl
        have ln : (I ++ [l]).length = I.length + 1 := by simp
        unfold stG2
        rw [ln]
        generalize (I ++ [l]).map eN = M at *
        simp [sh]
  have k2 := c_odd hb hl (p := q) (n := n) (by omega) (by omega) hn hn2
  have tk : List.take Q.length (Q.map eN) = Q.map eN := List.take_of_length_le (by simp)
  have cb : Q.length + 1 ≤ bound := by unfold bound; omega
  cases ho : (pk bs q n == n - 1) with
  | false =>
    rw [ho] at k2
    refine ⟨Q, q + 1, by omega, by omega, by omega, by omega, ?_⟩
    rw [call_k lf n_spec_l20Groups _ (F := F_spec_l20Groups) rfl rfl]
    generalize hpm : p + (m : Int) = pm at *
    simp [F_spec_l20Groups, CO, W, H, k2, tk, -ks_shut]
  | true =>
    rw [ho] at k2
    have k3 := c_pick hb hl (p := q + 1) (n := 2) (by omega) (by omega) (by omega)
    have a3 := pk_bound hb (p := q + 1) (n := 2) (by omega) (by omega) (by omega)
    by_cases z : pk bs (q + 1) 2 = 0
    · rw [z] at k3
      refine ⟨Q ++ [[]], q + 1 + 1, by simp; omega, by simp only [List.flatten_append, List.length_append, List.flatten_cons, List.flatten_nil, List.length_nil]; omega, by omega, by omega, ?_⟩
      rw [call_k lf n_spec_l20Groups _ (F := F_spec_l20Groups) rfl rfl]
      generalize hpm : p + (m : Int) = pm at *
      simp [F_spec_l20Groups, CO, W, H, k2, k3, tk, cb, -ks_shut, eN]
    · have z1 : pk bs (q + 1) 2 = 1 := by omega
      rw [z1] at k3
      refine ⟨Q ++ [[0]], q + 1 + 1, by simp; omega, by simp only [List.flatten_append, List.length_append, List.flatten_cons, List.flatten_nil, List.length_nil, List.length_singleton]; omega, by omega, by omega, ?_⟩
      rw [call_k lf n_spec_l20Groups _ (F := F_spec_l20Groups) rfl rfl]
      generalize hpm : p + (m : Int) = pm at *
      simp [F_spec_l20Groups, CO, W, H, k2, k3, tk, cb, -ks_shut, eN]
end
section
attribute [-simp] DV.cells
attribute [local simp] sliceD cells_st cells_sl cells_i cells_y cells_b cells_s cells_w
attribute [local simp] lend_eR al_eR lend_eN adopt_eN new_eN
theorem c_l20Grouped {bs : List Nat} (hb : ∀ y ∈ bs, y < 256) (hl : bs.length ≤ 2000) {p : Int} (h0 : 0 ≤ p) (h1 : p < 500000) :
    ∃ (us : List T) (R : List (List Int)) (p' : Int), us.length ≤ 5 ∧ R.length ≤ 6 ∧ R.flatten.length ≤ 6 ∧ p ≤ p' ∧ p' ≤ p + 60 ∧
      call lf n_spec_l20Grouped [.ref (.st [.sl 0 (bs.map .y), .i p])] = some (.tup [.fr 2 (us.map e2), .fr 1 (R.map eN)], [.st [.sl 0 (bs.map .y), .i p']]) := by
  obtain ⟨us, p1, u1, u2, u3, U⟩ := c_l20Tests hb hl (p := p) (n := 14) h0 (by omega) (by omega) (by omega)
  obtain ⟨R, p', q1, q2, q3, q4, G⟩ := c_l20Groups hb hl (p := p1) (n := 14) (m := us.length) (by omega) (by omega) u1 (by omega) (by omega)
  refine ⟨us, R, p', u1, q1, q2, by omega, by omega, ?_⟩
  rw [call_k lf n_spec_l20Grouped _ (F := F_spec_l20Grouped) rfl rfl]
  have tk : List.take R.length (R.map eN) = R.map eN := List.take_of_length_le (by simp)
  have tk2 : List.take us.length (us.map e2) = us.map e2 := List.take_of_length_le (by simp)
  simp [F_spec_l20Grouped, U, G, tk, tk2]
end
section
attribute [-simp] DV.cells
attribute [local simp] sliceD cells_st cells_sl cells_i cells_y cells_b cells_s cells_w
attribute [local simp] lend_eR al_eR lend_eN adopt_eN new_eN
theorem quo01 {a b : Int} (h0 : 0 ≤ a) (hb : 0 < b) (h : a ≤ b) : 0 ≤ a.tdiv b ∧ a.tdiv b ≤ 1 := by
  refine ⟨Int.tdiv_nonneg h0 (by omega), ?_⟩
  rw [Int.tdiv_eq_ediv_of_nonneg h0]
  have := Int.ediv_le_ediv hb h
  rw [Int.ediv_self (by omega)] at this
  exact this
set_option maxHeartbeats 1000000 in
theorem c_DrawRoundAverage {bs : List Nat} (hb : ∀ y ∈ bs, y < 256) (hl : bs.length ≤ 1048576) :
    ∃ (us : List T) (R : List (List Int)) (fee : Int), us.length ≤ 5 ∧ R.length ≤ 6 ∧ R.flatten.length ≤ 6 ∧ (0 ≤ fee ∧ fee ≤ 39) ∧ call lf n_spec_DrawRoundAverage [.sl 0 (bs.map .y)] = some (.tup [.fr 2 (us.map e2), .fr 1 (R.map eN), .i fee], []) := by
  obtain ⟨c1, c2⟩ := take_b hb
  have o := c_open hl
  generalize bs.take 2000 = cs at *
  obtain ⟨us, R, p', u1, q1, q2, q3, q4, G⟩ := c_l20Grouped c1 c2 (p := 0) (by omega) (by omega)
  have k1 := c_pick c1 c2 (p := p') (n := 6) (by omega) (by omega) (by omega)
  have b1 := pk_bound c1 (p := p') (n := 6) (by omega) (by omega) (by omega)
  have k2 := c_pick c1 c2 (p := p' + 1) (n := 9) (by omega) (by omega) (by omega)
  have b2 := pk_bound c1 (p := p' + 1) (n := 9) (by omega) (by omega) (by omega)
  have k3 := c_pick c1 c2 (p := p' + 1 + 1) (n := 60) (by omega) (by omega) (by omega)
  have b3 := pk_bound c1 (p := p' + 1 + 1) (n := 60) (by omega) (by omega) (by omega)
  generalize pk cs p' 6 = x at *
  generalize pk cs (p' + 1) 9 = y at *
  generalize pk cs (p' + 1 + 1) 60 = z at *
  have d1 := quo01 (a := y) (b := 8) (by omega) (by omega) (by omega)
  have d2 := quo01 (a := z) (b := 59) (by omega) (by omega) (by omega)
  have wa : wr (y.tdiv 8) = y.tdiv 8 := wr_id (by omega) (by omega)
  have wb : wr (z.tdiv 59) = z.tdiv 59 := wr_id (by omega) (by omega)
  have w1 : wr (y.tdiv 8 * 14) = y.tdiv 8 * 14 := wr_id (by omega) (by omega)
  have w2 : wr (x + y.tdiv 8 * 14) = x + y.tdiv 8 * 14 := wr_id (by omega) (by omega)
  have w3 : wr (z.tdiv 59 * 20) = z.tdiv 59 * 20 := wr_id (by omega) (by omega)
  have w4 : wr (x + y.tdiv 8 * 14 + z.tdiv 59 * 20) = x + y.tdiv 8 * 14 + z.tdiv 59 * 20 := wr_id (by omega) (by omega)
  refine ⟨us, R, x + y.tdiv 8 * 14 + z.tdiv 59 * 20, u1, q1, q2, by omega, ?_⟩
  rw [call_k lf n_spec_DrawRoundAverage _ (F := F_spec_DrawRoundAverage) rfl rfl]
  have tk : List.take R.length (R.map eN) = R.map eN := List.take_of_length_le (by simp)
  have tk2 : List.take us.length (us.map e2) = us.map e2 := List.take_of_length_le (by simp)
  simp [F_spec_DrawRoundAverage, o, G, k1, k2, k3, wa, wb, w1, w2, w3, w4, tk, tk2]
end
section
structure CS where
  c : Nat → Int
  p : Nat → Int
  q : Nat → Int
  lA : Nat → Nat → Bool
  lB : Nat → Nat → Bool
  ch : List Nat → Nat → Nat
def rk (l : Nat → Nat → Bool) (S : List Nat) (i : Nat) : Nat := S.countP fun x => l x i
/-- what the rule costs -/
def vR (C : CS) : Nat → List Nat → Nat → Int
  | 0, _, _ => 0
  | f + 1, S, k => if k = 0 ∨ S.length < k then 0 else 6 ^ S.length * C.c (C.ch S k) + C.p (C.ch S k) * vR C f (S.erase (C.ch S k)) (k - 1) + C.q (C.ch S k) * vR C f (S.erase (C.ch S k)) k
def CS.V (C : CS) (S : List Nat) (k : Nat) : Int := vR C S.length S k
def CS.W (C : CS) (S : List Nat) (k i : Nat) : Int := 6 ^ S.length * C.c i + C.p i * C.V (S.erase i) (k - 1) + C.q i * C.V (S.erase i) k
end
section
/-- tests, the two orders by ratios, and the least test of both -/
def tltA (us : List T) (a b : Nat) : Bool := decide (cA us a * pA us b < cA us b * pA us a ∨ cA us b * pA us a = cA us a * pA us b ∧ a < b)
def tltB (us : List T) (a b : Nat) : Bool := decide (cA us a * (6 - pA us b) < cA us b * (6 - pA us a) ∨ cA us b * (6 - pA us a) = cA us a * (6 - pA us b) ∧ a < b)
def bothL (us : List T) (S : List Nat) (k : Nat) : List Nat := S.filter fun i => decide (rk (tltA us) S i < k) && decide (rk (tltB us) S i + k ≤ S.length)
def cs (us : List T) : CS := ⟨cA us, pA us, fun i => 6 - pA us i, tltA us, tltB us, fun S k => (bothL us S k).headD 0⟩
end
section
/-- what is not known, and how many yes -/
def unk (m : Nat) (ks : List Int) : List Nat := (List.range m).filter fun k => ks[k]? == some (-1)
end
section
def gS : List I3 → Int
  | [] => 1
  | x :: r => (x.2.2 - x.2.1) * gS r
/-- the parts in which a row ends -/
def gE (l : List I3) : Int := gM l - gS l
/-- cost less a ratio (x by y) times the parts that end -/
def gf (x y : Int) (l : List I3) : Int := y * gD l - x * gE l
theorem gf_nil (x y : Int) : gf x y [] = 0 := by simp [gf, gD, gE, gM, gS]
theorem gf_cons (x y : Int) (a : I3) (l : List I3) : gf x y (a :: l) = (y * a.1 - x * a.2.1) * gM l + (a.2.2 - a.2.1) * gf x y l := by
  unfold gf gE
  simp only [gD, gM, gS]
  grind
/-- what is carried along never falls below nothing -/
def Car (x y A s : Int) (l : List I3) : Prop := ∀ P Q, l = P ++ Q → 0 ≤ A * gM P + s * gf x y P
theorem Car.next {x y A s : Int} {a : I3} {l : List I3} (h : Car x y A s (a :: l)) : Car x y (A * a.2.2 + s * (y * a.1 - x * a.2.1)) (s * (a.2.2 - a.2.1)) l := fun P Q e => by
  have := h (a :: P) Q (by rw [e]; rfl)
  rw [gf_cons] at this
  simp only [gM] at this
  grind
theorem Car.head {x y A s : Int} {a : I3} {l : List I3} (h : Car x y A s (a :: l)) : 0 ≤ A * a.2.2 + s * (y * a.1 - x * a.2.1) := by
  have := h [a] l rfl
  rw [gf_cons, gf_nil] at this
  simp only [gM] at this
  grind
end
section
/-- a test in the row of all -/
def itC (us : List T) (k : Nat) : I3 := (6 * cA us k, 6 - pA us k, 6)
theorem itC_M (us : List T) (l : List Nat) : gM (l.map (itC us)) = 6 ^ l.length := by
  induction l with
  | nil => rfl
  | cons a r ih => simp only [List.map_cons, gM, List.length_cons]; rw [ih, Int.pow_succ, Int.mul_comm]; rfl
theorem rA_gC (us : List T) : ∀ (l : List Int) (on : Int), rA us 0 on l = on * gD ((l.map Int.toNat).map (itC us))
  | [], on => by simp [rA, gD]
  | a :: r, on => by
    simp only [rA, List.map_cons, gD]
    rw [rA_gC us r, itC_M, List.length_map, Int.pow_succ]
    have e1 : (itC us a.toNat).1 = 6 * cA us a.toNat := rfl
    have e2 : (itC us a.toNat).2.2 - (itC us a.toNat).2.1 = 6 - (6 - pA us a.toNat) := rfl
    have e3 : eA us 0 a.toNat = 6 - pA us a.toNat := by unfold eA pA; rfl
    rw [e1, e2, e3]
    grind
theorem rA_row (us : List T) (l : List Nat) : rA us 0 1 (ni l) = gD (l.map (itC us)) := by
  rw [rA_gC, ni_toNat, Int.one_mul]
def mnO (f : Nat → Option Int) : Nat → Int
  | 0 => -1
  | i + 1 => match f i with
    | none => mnO f i
    | some n => if mnO f i < 0 ∨ n < mnO f i then n else mnO f i
end
section
def e9 (us : List T) (l : List Nat) : Int := gE (l.map (itC us))
abbrev LN := List (List Nat)
/-- chains of tests that are there -/
def LOk (us : List T) (L : LN) : Prop := ∀ c ∈ L, ∀ x ∈ c, x < us.length
end
section
def gLA (us : List T) (L : LN) (f : Nat) (v : LN → Int) (i : Nat) : Option Int := match L.getD i [] with
  | [] => none
  | k :: c => some (cA us k * 6 ^ (f + 1) + pA us k * v (L.set i c))
def m0 (g : Nat → Option Int) (i : Nat) : Int := if mnO g i < 0 then 0 else mnO g i
def lA (us : List T) : Nat → LN → Int
  | 0, _ => 0
  | f + 1, L => m0 (gLA us L f (lA us f)) L.length
theorem gD_cons (us : List T) (k : Nat) (row : List Nat) : gD ((k :: row).map (itC us)) = cA us k * 6 ^ (row.length + 1) + pA us k * gD (row.map (itC us)) := by
  simp only [List.map_cons, gD]
  rw [itC_M]
  have e1 : (itC us k).1 = 6 * cA us k := rfl
  have e2 : (itC us k).2.2 - (itC us k).2.1 = 6 - (6 - pA us k) := rfl
  rw [e1, e2, Int.pow_succ]
  grind
theorem p6_pos (n : Nat) : (0 : Int) < 6 ^ n := Int.pow_pos (by decide)
end
section
attribute [-simp] DV.cells
attribute [local simp] sliceD cells_st cells_sl cells_i cells_y cells_b cells_s cells_w
attribute [local simp] lend_eR al_eR
/-- how many of a chain are asked -/
def inP (p c : List Nat) : Nat := (p.map fun o => c.count o).sum
def left (C : LN) (p : List Nat) : LN := C.map fun c => c.drop (inP p c)
theorem flat_ge9 : ∀ {C : LN}, (∀ c ∈ C, c ≠ []) → C.length ≤ C.flatten.length
  | [], _ => by simp
  | c :: C, h => by
    have := flat_ge9 (C := C) fun d hd => h d (List.mem_cons_of_mem _ hd)
    have c0 : 0 < c.length := List.length_pos_iff.2 (h c List.mem_cons_self)
    simp only [List.length_cons, List.flatten_cons, List.length_append]
    omega
end
section
attribute [-simp] DV.cells
attribute [local simp] sliceD cells_st cells_sl cells_i cells_y cells_b cells_s cells_w
attribute [local simp] lend_eR al_eR
def natL (L : List (List Int)) : LN := L.map fun r => r.map Int.toNat
theorem natL_ni (N : LN) : natL (N.map ni) = N := by
  unfold natL
  rw [List.map_map]
  conv => rhs; rw [← List.map_id N]
  apply List.map_congr_left
  intro r _
  exact ni_toNat r
end
section
attribute [-simp] DV.cells
attribute [local simp] sliceD cells_st cells_sl cells_i cells_y cells_b cells_s cells_w
theorem ni_flat (N : LN) : (N.map ni).flatten = ni N.flatten := by unfold ni; rw [List.map_flatten]
theorem gok_or {m : Nat} (hm : 1 ≤ m ∧ m ≤ 5) {N : LN} (G : Gok m N) : orOk m (ni N.flatten) = true := by
  have := gok_to hm G
  unfold gokB at this
  rw [Bool.and_eq_true, ni_flat] at this
  exact this.2
theorem raOf_row {us : List T} (h : tsOk us = true) {p : List Nat} (ho : orOk us.length (ni p) = true) : raOf us (ni p) 0 = gD (p.map (itC us)) := by
  unfold raOf raOk
  rw [h, ho, ← rA_row]
  rfl
end
section
def rC (us : List T) : List Nat → Int
  | [] => 0
  | k :: r => cA us k + rC us r
def rP (us : List T) : List Nat → Int
  | [] => 1
  | k :: r => pA us k * rP us r
/-- what rounds cost, in parts of their own -/
def rD (us : List T) (fee : Int) : LN → Int
  | [] => 0
  | g :: r => (fee + rC us g) * 6 ^ (g.length + r.flatten.length) + rP us g * rD us fee r
/-- how much of the fee they pay -/
def rdW (us : List T) : LN → Int
  | [] => 0
  | g :: r => 6 ^ (g.length + r.flatten.length) + rP us g * rdW us r
theorem rC_app (us : List T) : ∀ p q : List Nat, rC us (p ++ q) = rC us p + rC us q
  | [], q => by simp [rC]
  | k :: p, q => by simp only [List.cons_append, rC]; rw [rC_app us p q]; omega
theorem rP_app (us : List T) : ∀ p q : List Nat, rP us (p ++ q) = rP us p * rP us q
  | [], q => by simp [rP]
  | k :: p, q => by simp only [List.cons_append, rP]; rw [rP_app us p q, Int.mul_assoc]
theorem rC_perm (us : List T) {p q : List Nat} (h : p.Perm q) : rC us p = rC us q := by
  induction h with
  | nil => rfl
  | cons a _ ih => simp only [rC]; rw [ih]
  | swap a b l => simp only [rC]; omega
  | trans _ _ i j => rw [i, j]
theorem rP_perm (us : List T) {p q : List Nat} (h : p.Perm q) : rP us p = rP us q := by
  induction h with
  | nil => rfl
  | cons a _ ih => simp only [rP]; rw [ih]
  | swap a b l => simp only [rP]; rw [← Int.mul_assoc, ← Int.mul_assoc, Int.mul_comm (pA us a)]
  | trans _ _ i j => rw [i, j]
/-- within a round the order does not matter -/
theorem rD_perm (us : List T) (fee : Int) {f : List Nat → List Nat} (hf : ∀ g, (f g).Perm g) : ∀ N : LN, rD us fee (N.map f) = rD us fee N ∧ (N.map f).flatten.length = N.flatten.length
  | [] => ⟨rfl, rfl⟩
  | g :: r => by
    obtain ⟨a, b⟩ := rD_perm us fee hf r
    simp only [List.map_cons, rD]
    rw [rC_perm us (hf g), rP_perm us (hf g), (hf g).length_eq, a, b]
    refine ⟨rfl, ?_⟩
    simp only [List.flatten_cons, List.length_append]
    rw [(hf g).length_eq, b]
theorem rC_bd {us : List T} (h : us.all tOk = true) : ∀ {g : List Nat}, (∀ k ∈ g, k < us.length) → (g.length : Int) ≤ rC us g ∧ rC us g ≤ 9 * g.length
  | [], _ => by simp [rC]
  | k :: r, hg => by
    have a := rC_bd h (g := r) fun x hx => hg x (List.mem_cons_of_mem _ hx)
    have b := cA_bd h (hg k List.mem_cons_self)
    simp only [rC, List.length_cons]
    omega
theorem rP_bd {us : List T} (h : us.all tOk = true) : ∀ {g : List Nat}, (∀ k ∈ g, k < us.length) → 0 < rP us g ∧ rP us g ≤ 6 ^ g.length
  | [], _ => by simp [rP]
  | k :: r, hg => by
    have a := rP_bd h (g := r) fun x hx => hg x (List.mem_cons_of_mem _ hx)
    have b := pA_bd h (hg k List.mem_cons_self)
    simp only [rP, List.length_cons]
    refine ⟨Int.mul_pos (by omega) a.1, ?_⟩
    rw [Int.pow_succ, Int.mul_comm (6 ^ r.length)]
    exact Int.mul_le_mul (by omega) a.2 (by omega) (by omega)
theorem rD_fee (us : List T) (fee x : Int) : ∀ N : LN, rD us (fee + x) N = rD us fee N + x * rdW us N
  | [] => by simp [rD, rdW]
  | g :: r => by
    simp only [rD, rdW]
    rw [rD_fee us fee x r]
    generalize (6 : Int) ^ (g.length + r.flatten.length) = P
    grind
theorem rD_nn {us : List T} (h : us.all tOk = true) {fee : Int} (hf : 0 ≤ fee) : ∀ {N : LN}, LOk us N → 0 ≤ rD us fee N
  | [], _ => by simp [rD]
  | g :: r, hN => by
    have a := rD_nn h hf (N := r) fun c hc => hN c (List.mem_cons_of_mem _ hc)
    have b := rC_bd h (hN g List.mem_cons_self)
    have c := rP_bd h (hN g List.mem_cons_self)
    have p := p6_pos (g.length + r.flatten.length)
    simp only [rD]
    have m1 := Int.mul_nonneg (show 0 ≤ fee + rC us g by omega) (Int.le_of_lt p)
    have m2 := Int.mul_nonneg (Int.le_of_lt c.1) a
    omega
/-- each round pays at most one whole fee; the first one pays it whole -/
theorem rdW_bd {us : List T} (h : us.all tOk = true) : ∀ {N : LN}, LOk us N → 0 ≤ rdW us N ∧ rdW us N ≤ 6 ^ N.flatten.length * N.length
  | [], _ => by simp [rdW]
  | g :: r, hN => by
    have a := rdW_bd h (N := r) fun c hc => hN c (List.mem_cons_of_mem _ hc)
    have c := rP_bd h (hN g List.mem_cons_self)
    have p := p6_pos (g.length + r.flatten.length)
    have q := p6_pos r.flatten.length
    simp only [rdW, List.flatten_cons, List.length_append, List.length_cons]
    have m2 := Int.mul_nonneg (Int.le_of_lt c.1) a.1
    have m3 : rP us g * rdW us r ≤ 6 ^ g.length * (6 ^ r.flatten.length * r.length) := Int.mul_le_mul c.2 a.2 a.1 (Int.le_of_lt (p6_pos _))
    rw [← Int.mul_assoc, ← Int.pow_add] at m3
    push_cast
    rw [Int.mul_add, Int.mul_one]
    omega
theorem rdW_one {us : List T} (h : us.all tOk = true) {N : LN} (hN : LOk us N) (hne : N ≠ []) : 6 ^ N.flatten.length ≤ rdW us N := by
  cases N with
  | nil => exact absurd rfl hne
  | cons g r =>
    have a := rdW_bd h (N := r) fun c hc => hN c (List.mem_cons_of_mem _ hc)
    have c := rP_bd h (hN g List.mem_cons_self)
    have m2 := Int.mul_nonneg (Int.le_of_lt c.1) a.1
    simp only [rdW, List.flatten_cons, List.length_append]
    omega
/-- rounds of one with no fee are an order -/
theorem rD_ones (us : List T) : ∀ {N : LN}, (∀ g ∈ N, g.length = 1) → rD us 0 N = gD (N.flatten.map (itC us))
  | [], _ => by simp [rD, gD]
  | g :: r, hN => by
    have ih := rD_ones us (N := r) fun c hc => hN c (List.mem_cons_of_mem _ hc)
    have hg := hN g List.mem_cons_self
    obtain ⟨k, rfl⟩ : ∃ k, g = [k] := by
      match g, hg with
      | [k], _ => exact ⟨k, rfl⟩
    rw [List.flatten_cons, List.cons_append, List.nil_append, gD_cons, ← ih]
    simp only [rD, rC, rP, List.length_cons, List.length_nil]
    rw [Int.zero_add, Int.add_zero, Int.mul_one, Nat.zero_add, Nat.add_comm 1]
end
section
attribute [-simp] DV.cells
attribute [local simp] sliceD cells_st cells_sl cells_i cells_y cells_b cells_s cells_w
attribute [local simp] lend_eR al_eR
theorem tdiv6 {a : Int} (h : 0 ≤ a) : (a * 6).tdiv 6 = a := Int.mul_tdiv_cancel a (by omega)
/-- weights stay small -/
theorem wt_le {X p : Int} {n d q : Nat} (h0 : 0 ≤ X) (hx : X * 6 ^ (d + n + q) ≤ 7776) (p0 : 0 < p) (p1 : p ≤ 6 ^ d) : 0 ≤ X * p * 6 ^ (n + q) ∧ X * p * 6 ^ (n + q) ≤ 7776 := by
  have a := p6_pos (n + q)
  refine ⟨Int.mul_nonneg (Int.mul_nonneg h0 (by omega)) (by omega), Int.le_trans ?_ hx⟩
  have e : (6 : Int) ^ (d + n + q) = 6 ^ d * 6 ^ (n + q) := by rw [Nat.add_assoc, Int.pow_add]
  rw [e, ← Int.mul_assoc]
  exact Int.mul_le_mul_of_nonneg_right (Int.mul_le_mul_of_nonneg_left p1 h0) (by omega)
def stRA (us : List T) (L : LN) (fee sum weight : Int) (k : Nat) : LS :=
  ⟨[(0, .sl 0 (us.map e2)), (1, .sl 0 ((L.map ni).map eR)), (2, .i fee), (7, .i sum), (8, .i weight), (9, .i k)], []⟩
def stRB (us : List T) (L : LN) (fee sum weight : Int) (k : Nat) (cost next : Int) (j : Nat) : LS :=
  ⟨[(0, .sl 0 (us.map e2)), (1, .sl 0 ((L.map ni).map eR)), (2, .i fee), (7, .i sum), (8, .i weight), (9, .i k), (10, .i cost), (11, .i next), (12, .i j)], []⟩
set_option maxHeartbeats 4000000 in
theorem ra_inner {us : List T} (h : us.all tOk = true) {L : LN} {fee sum weight : Int} (hf : 0 ≤ fee ∧ fee ≤ 22) {k : Nat} {g : List Nat} (hk : L[k]? = some g) (hg : ∀ x ∈ g, x < us.length) (g5 : g.length ≤ 5) {X : Int} {q : Nat} (h0 : 0 ≤ X) (hx : X * 6 ^ (g.length + q) ≤ 7776) : ∀ (rest don : List Nat), g = don ++ rest →
    ex lf F_spec_RoundAverage_W1 (stRB us L fee sum weight k (fee + rC us don) (X * rP us don * 6 ^ (rest.length + q)) don.length) = some (.exit 2, stRB us L fee sum weight k (fee + rC us g) (X * rP us g * 6 ^ q) g.length) := by
  have A : atI ((L.map ni).map eR) (k : Int) = some (.sl 0 ((ni g).map .i)) := at_eR (by rw [List.getElem?_map, hk]; rfl)
  have hk' : (k : Int) < (L.map ni).length := by have := (List.getElem?_eq_some_iff.1 hk).1; simp; omega
  have nl := ni_len g
  intro rest
  induction rest with
  | nil =>
    intro don e
    rw [List.append_nil] at e
    subst e
    rw [w_spec_RoundAverage_1]
    unfold stRB
    rw [List.length_nil, Nat.zero_add]
    generalize X * rP us g * 6 ^ q = Y at *
    generalize fee + rC us g = Z at *
    generalize L.map ni = L' at *
    simp [F_spec_RoundAverage_L1, A, hk', nl]
  | cons a rest ih0 =>
    intro don e
    have ih := ih0 (don ++ [a]) (by rw [e]; simp)
    have gl : g.length = don.length + (rest.length + 1) := by rw [e]; simp
    have k2 : g[don.length]? = some a := by rw [e]; simp
    have ha : a < us.length := hg a (List.mem_of_getElem? k2)
    obtain ⟨at1, _⟩ := at_ni k2
    have at2 := atT ha
    have cb := cA_bd h ha
    have pb := pA_bd h ha
    have dm : ∀ x ∈ don, x < us.length := fun x hx => hg x (by rw [e]; simp [hx])
    have rc := rC_bd h dm
    have rp := rP_bd h dm
    have dm2 : ∀ x ∈ don ++ [a], x < us.length := fun x hx => by
      rcases List.mem_append.1 hx with q | q
      · exact dm x q
      · rw [List.mem_singleton.1 q]; exact ha
    have rp2 := rP_bd h dm2
    have w1 := wt_le (n := rest.length) (d := (don ++ [a]).length) (q := q) h0 (by rw [List.length_append, List.length_singleton, show don.length + 1 + rest.length + q = g.length + q by omega]; exact hx) rp2.1 rp2.2
    have w2 := wt_le (n := rest.length) (d := don.length) (q := q) h0 (Int.le_trans (Int.mul_le_mul_of_nonneg_left (show (6 : Int) ^ (don.length + rest.length + q) ≤ 6 ^ (g.length + q) from by
      rw [show g.length + q = don.length + rest.length + q + 1 by omega, Int.pow_succ]
      have := p6_pos (don.length + rest.length + q)
      omega) h0) hx) rp.1 rp.2
    have ec : rC us (don ++ [a]) = rC us don + cA us a := by rw [rC_app]; simp [rC]
    have ep : rP us (don ++ [a]) = rP us don * pA us a := by rw [rP_app]; simp [rP]
    rw [ec] at ih
    rw [ep, ← Int.mul_assoc] at ih w1
    have e6 : X * rP us don * 6 ^ (rest.length + 1 + q) = X * rP us don * 6 ^ (rest.length + q) * 6 := by
      rw [show rest.length + 1 + q = rest.length + q + 1 by omega, Int.pow_succ, Int.mul_assoc, Int.mul_assoc, Int.mul_assoc]
    have td := tdiv6 w2.1
    have e7 : X * rP us don * pA us a * 6 ^ (rest.length + q) = X * rP us don * 6 ^ (rest.length + q) * pA us a := by rw [Int.mul_assoc, Int.mul_comm (pA us a), ← Int.mul_assoc]
    rw [e7] at ih w1
    rw [List.length_cons, e6, w_spec_RoundAverage_1]
    rw [List.length_append, List.length_singleton] at ih
    have hj : (don.length : Int) < g.length := by omega
    have hj' : don.length < g.length := by omega
    have w7 := wr_succ (k := don.length) (by omega)
    have ha' : (a : Int) < us.length := by omega
    unfold stRB at *
    rw [← Int.add_assoc] at ih
    generalize X * rP us g * 6 ^ q = Y at *
    generalize X * rP us don * 6 ^ (rest.length + q) = V at *
    generalize fee + rC us g = Z at *
    have w3 : wr (fee + rC us don + cA us a) = fee + rC us don + cA us a := wr_id (by omega) (by omega)
    have w4 : wr (V * pA us a) = V * pA us a := wr_id (by omega) (by omega)
    have w5 : wr V = V := wr_id (by omega) (by omega)
    generalize fee + rC us don = U at *
    generalize cA us a = c at *
    generalize pA us a = p at *
    generalize don.length = n at *
    generalize L.map ni = L' at *
    simp [F_spec_RoundAverage_L1, A, hk', nl, at1, at2, ha, ha', hj, hj', td, w3, w4, w5, w7, ih, -Int.natCast_add]
set_option maxHeartbeats 4000000 in
theorem ra_outer {us : List T} (h : us.all tOk = true) (hm : us.length ≤ 5) {L : LN} {fee : Int} (hf : 0 ≤ fee ∧ fee ≤ 22) (hL : LOk us L) (ln : L.length ≤ 5) (fl : L.flatten.length ≤ 5) : ∀ (r : LN) (k : Nat) (sum X : Int), L.drop k = r → k + r.length = L.length → 0 ≤ X → X * 6 ^ r.flatten.length ≤ 7776 → 0 ≤ sum ∧ sum ≤ 600000 * k →
    ∃ w', ex lf F_spec_RoundAverage_W0 (stRA us L fee sum (X * 6 ^ r.flatten.length) k) = some (.exit 0, stRA us L fee (sum + X * rD us fee r) w' L.length) := by
  have ll : (L.map ni).length = L.length := by simp
  intro r
  induction r with
  | nil =>
    intro k sum X hd hk h0 hx hs
    have e : k = L.length := by simpa using hk
    subst e
    refine ⟨X * 6 ^ ([] : LN).flatten.length, ?_⟩
    rw [w_spec_RoundAverage_0]
    simp only [rD]
    rw [Int.mul_zero, Int.add_zero]
    unfold stRA
    generalize X * 6 ^ ([] : LN).flatten.length = Y at *
    generalize L.map ni = L' at *
    simp [F_spec_RoundAverage_L0, ll]
  | cons g r ih0 =>
    intro k sum X hd hk h0 hx hs
    obtain ⟨k1, k2, k3⟩ := drop_cons hd
    have k1' : (k : Int) < L.length := by omega
    simp only [List.length_cons] at hk
    have hg := hL g (List.mem_of_getElem? k2)
    have gm : g ∈ L := List.mem_of_getElem? k2
    have gl : g.length + r.flatten.length ≤ 5 := by
      have := congrArg (fun x => x.flatten.length) (List.take_append_drop k L)
      simp only [hd, List.flatten_append, List.flatten_cons, List.length_append] at this
      omega
    have rc := rC_bd h hg
    have rp := rP_bd h hg
    have hx' : X * 6 ^ (g.length + r.flatten.length) ≤ 7776 := by rw [List.flatten_cons, List.length_append] at hx; exact hx
    have I := ra_inner (fee := fee) (sum := sum) (weight := X * 6 ^ (g.length + r.flatten.length)) h hf k2 hg (by omega) (q := r.flatten.length) h0 hx' g [] rfl
    have e1 : rC us [] = 0 := rfl
    have e2' : rP us [] = 1 := rfl
    rw [e1, e2', Int.add_zero, Int.mul_one] at I
    have p := p6_pos r.flatten.length
    have hx2 : X * rP us g * 6 ^ r.flatten.length ≤ 7776 := by
      refine Int.le_trans ?_ hx'
      rw [Int.pow_add, ← Int.mul_assoc]
      exact Int.mul_le_mul_of_nonneg_right (Int.mul_le_mul_of_nonneg_left rp.2 h0) (by omega)
    have x2 : 0 ≤ X * rP us g := Int.mul_nonneg h0 (by omega)
    have wb : 0 ≤ X * 6 ^ (g.length + r.flatten.length) := Int.mul_nonneg h0 (Int.le_of_lt (p6_pos _))
    have cb : 0 ≤ (fee + rC us g) * (X * 6 ^ (g.length + r.flatten.length)) ∧ (fee + rC us g) * (X * 6 ^ (g.length + r.flatten.length)) ≤ 70 * 7776 := ⟨Int.mul_nonneg (by omega) wb, Int.mul_le_mul (by omega) hx' wb (by omega)⟩
    obtain ⟨w', J⟩ := ih0 (k + 1) (sum + (fee + rC us g) * (X * 6 ^ (g.length + r.flatten.length))) (X * rP us g) k3 (by omega) x2 hx2 (by omega)
    refine ⟨w', ?_⟩
    have ev : sum + X * rD us fee (g :: r) = sum + (fee + rC us g) * (X * 6 ^ (g.length + r.flatten.length)) + X * rP us g * rD us fee r := by
      simp only [rD]
      generalize (6 : Int) ^ (g.length + r.flatten.length) = P at *
      grind
    rw [ev, ← J, w_spec_RoundAverage_0, List.flatten_cons, List.length_append]
    have w1 := wr_succ (k := k) (by omega)
    have w2 : wr ((fee + rC us g) * (X * 6 ^ (g.length + r.flatten.length))) = (fee + rC us g) * (X * 6 ^ (g.length + r.flatten.length)) := wr_id (by omega) (by omega)
    have w3 : wr (sum + (fee + rC us g) * (X * 6 ^ (g.length + r.flatten.length))) = sum + (fee + rC us g) * (X * 6 ^ (g.length + r.flatten.length)) := wr_id (by omega) (by omega)
    unfold stRA
    unfold stRB at I
    simp only [List.length_nil, Int.natCast_zero] at I
    generalize X * rP us g * 6 ^ r.flatten.length = Y at *
    generalize X * 6 ^ (g.length + r.flatten.length) = V at *
    generalize fee + rC us g = U at *
    generalize ex lf F_spec_RoundAverage_W0 = E at *
    generalize L.map ni = L' at *
    simp [F_spec_RoundAverage_L0, ll, k1, k1', I, w1, w2, w3, -Int.natCast_add]
def rdO (us : List T) (L : List (List Int)) (fee : Int) : Bool := tsOk us && gokB us.length L && decide (0 ≤ fee ∧ fee ≤ 20)
def rdV (us : List T) (L : List (List Int)) (fee : Int) : Int := if rdO us L fee then rD us fee (L.map fun r => r.map Int.toNat) else -1
set_option maxHeartbeats 1000000 in
theorem c_spec_RoundAverage (us : List T) (L : List (List Int)) (fee : Int) (ha : (us.length : Int) < 1099511627776) (hb : (L.length : Int) < 1099511627776) (hf : (L.flatten.length : Int) < 1099511627776) :
    call lf n_spec_RoundAverage [.sl 0 (us.map e2), .sl 0 (L.map eR), .i fee] = some (.i (rdV us L fee), []) := by
  rw [call_k lf n_spec_RoundAverage _ (F := F_spec_RoundAverage) rfl rfl]
  have C1 := c_spec_TestsOk us ha
  have C2 := c_spec_GroupsOk us.length L hb hf
  have C3 := c_spec_l1In fee 0 20
  unfold rdV rdO
  cases h1 : tsOk us with
  | false => rw [h1] at C1; simp [F_spec_RoundAverage, C1]
  | true =>
    rw [h1] at C1
    cases h2 : gokB us.length L with
    | false => rw [h2] at C2; simp [F_spec_RoundAverage, C1, C2]
    | true =>
      rw [h2] at C2
      cases h3 : decide (0 ≤ fee ∧ fee ≤ 20) with
      | false => rw [h3] at C3; simp [F_spec_RoundAverage, C1, C2, C3]
      | true =>
        rw [h3] at C3
        have h4 := of_decide_eq_true h3
        have h' := tsOk_iff.1 h1
        obtain ⟨N, rfl, G⟩ := gok_of (m := us.length) (by omega) h2
        have gl := gok_len G
        have cn : N.length ≤ 5 := by have := flat_ge9 G.ne; omega
        have P := c_spec_l1Power (n := us.length) (by omega)
        have pk := p6 (n := us.length) (by omega)
        obtain ⟨w', J⟩ := ra_outer (us := us) (L := N) (fee := fee) h'.2 (by omega) ⟨h4.1, by omega⟩ G.lt cn (by omega) N 0 0 1 rfl (by simp) (by omega) (by rw [gl]; omega) (by omega)
        have nt : ((N.map ni).map fun r => r.map Int.toNat) = N := natL_ni N
        rw [nt, Bool.true_and, Bool.true_and, if_pos rfl]
        rw [gl, Int.one_mul, Int.one_mul, Int.zero_add] at J
        have ll : (N.map ni).length = N.length := by simp
        unfold stRA at J
        simp only [Int.natCast_zero] at J
        generalize rD us fee N = Z at *
        generalize (6 : Int) ^ us.length = Q at *
        generalize N.map ni = L at *
        simp [F_spec_RoundAverage, C1, C2, C3, P, J, ll]
end
section
/-- one more of the first ones -/
def stpF (so n a k : Nat) : Nat := if pc a < n ∧ so.testBit k = true then a ||| 2 ^ k else a
def fF (so n : Nat) (l : List Nat) : Nat := l.foldl (stpF so n) 0
/-- what is left, in ascending order -/
def Sl (m so : Nat) : List Nat := (List.range m).filter fun k => so.testBit k
theorem Sl_nd (m so : Nat) : (Sl m so).Nodup := List.nodup_range.filter _
theorem Sl_mem {m so k : Nat} : k ∈ Sl m so ↔ k < m ∧ so.testBit k = true := by unfold Sl; rw [List.mem_filter, List.mem_range]
/-- the next one -/
def nx (us : List T) (so k : Nat) : Nat := (cs us).ch (Sl us.length so) k
end
section
attribute [-simp] DV.cells sliceD
attribute [local simp] cells_st cells_sl cells_i cells_y cells_b cells_s cells_w
/-- how many bits are ones, one by one -/
def hb : Nat → Nat → Nat
  | 0, _ => 0
  | f + 1, n => n % 2 + hb f (n / 2)
def ctOk (us : List T) (k : Int) : Bool := tsOk us && decide (1 ≤ k ∧ k ≤ us.length)
end
section
attribute [-simp] DV.cells
attribute [local simp] sliceD cells_st cells_sl cells_i cells_y cells_b cells_s cells_w
theorem Sl_succ (j r : Nat) : Sl (j + 1) r = Sl j r ++ if r.testBit j then [j] else [] := by
  unfold Sl
  rw [List.range_succ, List.filter_append]
  congr 1
  cases h : r.testBit j <;> simp [h]
end
section
attribute [-simp] DV.cells
attribute [local simp] sliceD cells_st cells_sl cells_i cells_y cells_b cells_s cells_w
attribute [local simp] lend_eR al_eR
theorem c_impl_feeOk (fee : Int) : call lf n_impl_feeOk [.i fee] = some (.b (decide (0 ≤ fee ∧ fee ≤ 20)), []) := by
  rw [call_k lf n_impl_feeOk _ (F := F_impl_feeOk) rfl rfl]
  simp [F_impl_feeOk, c_impl_isWithin]
def stAv (us : List T) (r : Nat) (n : Nat) (beh : Int) (cost yes : Int) (k : Nat) : LS :=
  ⟨[(1, .i r), (3, .i n), (4, .i beh), (11, .i cost), (12, .i yes), (16, .sl 0 (us.map e2)), (17, .i us.length), (18, .i k)], []⟩
set_option maxHeartbeats 4000000 in
theorem av_loop {us : List T} (h : us.all tOk = true) (hm : us.length ≤ 5) {r n : Nat} {fee beh : Int} (hf : 0 ≤ fee ∧ fee ≤ 22) :
    ex lf F_impl_averageOfRound_W0 (stAv us r n beh fee 1 0) = some (.exit 0, stAv us r n beh (fee + rC us (Sl us.length r)) (rP us (Sl us.length r)) us.length) := by
  have z : Sl 0 r = [] := rfl
  have e0 : stAv us r n beh fee 1 0 = stAv us r n beh (fee + rC us (Sl 0 r)) (rP us (Sl 0 r)) 0 := by rw [z]; simp [rC, rP]
  rw [e0]
  refine loop_count (lf := lf) (L := F_impl_averageOfRound_L0) us.length (fun j => stAv us r n beh (fee + rC us (Sl j r)) (rP us (Sl j r)) j) (fun j hj => ?_) ?_ (by simp)
  · have jm : ∀ k ∈ Sl j r, k < us.length := fun k hk => by have := (Sl_mem.1 hk).1; omega
    have rc := rC_bd h jm
    have rp := rP_bd h jm
    have hj' : (j : Int) < us.length := by omega
    have w7 := wr_succ (k := j) (by omega)
    have at2 := atT hj
    have cb := cA_bd h hj
    have pb := pA_bd h hj
    have l5 : (Sl j r).length ≤ j := by
      have := List.length_filter_le r.testBit (List.range j)
      rw [List.length_range] at this
      exact this
    have C := c_impl_hasTest r j (by omega)
    have p6' := (p6 (n := (Sl j r).length) (by omega)).2
    show ex lf F_impl_averageOfRound_L0 (stAv us r n beh (fee + rC us (Sl j r)) (rP us (Sl j r)) j) = some (.normal, stAv us r n beh (fee + rC us (Sl (j + 1) r)) (rP us (Sl (j + 1) r)) (j + 1))
    rw [Sl_succ]
    cases hb : r.testBit j with
    | false =>
      rw [hb] at C
      simp only [Bool.false_eq_true, if_false, List.append_nil]
      unfold stAv
      generalize fee + rC us (Sl j r) = U at *
      generalize rP us (Sl j r) = V at *
      simp [F_impl_averageOfRound_L0, hj, hj', C, at2, w7, -Int.natCast_add]
    | true =>
      rw [hb] at C
      simp only [if_true]
      have ec : rC us (Sl j r ++ [j]) = rC us (Sl j r) + cA us j := by rw [rC_app]; simp [rC]
      have ep : rP us (Sl j r ++ [j]) = rP us (Sl j r) * pA us j := by rw [rP_app]; simp [rP]
      rw [ec, ep, ← Int.add_assoc]
      unfold stAv
      have w3 : wr (fee + rC us (Sl j r) + cA us j) = fee + rC us (Sl j r) + cA us j := wr_id (by omega) (by omega)
      have mb : 0 ≤ rP us (Sl j r) * pA us j ∧ rP us (Sl j r) * pA us j ≤ 7776 * 6 := ⟨Int.mul_nonneg (by omega) (by omega), Int.mul_le_mul (by omega) (by omega) (by omega) (by omega)⟩
      have w4 : wr (rP us (Sl j r) * pA us j) = rP us (Sl j r) * pA us j := wr_id (by omega) (by omega)
      generalize fee + rC us (Sl j r) = U at *
      generalize rP us (Sl j r) = V at *
      generalize cA us j = c at *
      generalize pA us j = p at *
      simp [F_impl_averageOfRound_L0, hj, hj', C, at2, w3, w4, w7, -Int.natCast_add]
  · show ex lf F_impl_averageOfRound_L0 (stAv us r n beh (fee + rC us (Sl us.length r)) (rP us (Sl us.length r)) us.length) = _
    unfold stAv
    generalize fee + rC us (Sl us.length r) = U at *
    generalize rP us (Sl us.length r) = V at *
    simp [F_impl_averageOfRound_L0]
theorem c_impl_averageOfRound {us : List T} (h : us.all tOk = true) (hm : us.length ≤ 5) {r n : Nat} (hn : n ≤ 5) {fee beh : Int} (hf : 0 ≤ fee ∧ fee ≤ 22) (hb : 0 ≤ beh ∧ beh ≤ 10000000) :
    call lf n_impl_averageOfRound [.sl 0 (us.map e2), .i r, .i fee, .i n, .i beh] = some (.i ((fee + rC us (Sl us.length r)) * 6 ^ n + rP us (Sl us.length r) * beh), []) := by
  rw [call_k lf n_impl_averageOfRound _ (F := F_impl_averageOfRound) rfl rfl]
  have L := av_loop (r := r) (n := n) (beh := beh) h hm hf
  have C := c_impl_wholeOf (n := n) hn
  have jm : ∀ k ∈ Sl us.length r, k < us.length := fun k hk => (Sl_mem.1 hk).1
  have rc := rC_bd h jm
  have rp := rP_bd h jm
  have l5 : (Sl us.length r).length ≤ us.length := by
    have := List.length_filter_le r.testBit (List.range us.length)
    rw [List.length_range] at this
    exact this
  have p6' := (p6 (n := (Sl us.length r).length) (by omega)).2
  have q6 := (p6 (n := n) hn).2
  have q0 := p6_pos n
  have m1 : 0 ≤ (fee + rC us (Sl us.length r)) * 6 ^ n ∧ (fee + rC us (Sl us.length r)) * 6 ^ n ≤ 70 * 7776 := ⟨Int.mul_nonneg (by omega) (by omega), Int.mul_le_mul (by omega) q6 (by omega) (by omega)⟩
  have m2 : 0 ≤ rP us (Sl us.length r) * beh ∧ rP us (Sl us.length r) * beh ≤ 7776 * 10000000 := ⟨Int.mul_nonneg (by omega) hb.1, Int.mul_le_mul (by omega) hb.2 hb.1 (by omega)⟩
  unfold stAv at L
  simp only [Int.natCast_zero] at L
  generalize fee + rC us (Sl us.length r) = U at *
  generalize rP us (Sl us.length r) = V at *
  generalize (6 : Int) ^ n = Q at *
  have w1 : wr (U * Q) = U * Q := wr_id (by omega) (by omega)
  have w2 : wr (V * beh) = V * beh := wr_id (by omega) (by omega)
  have w3 : wr (U * Q + V * beh) = U * Q + V * beh := wr_id (by omega) (by omega)
  simp [F_impl_averageOfRound, L, C, w1, w2, w3]
end
section
attribute [-simp] DV.cells
attribute [local simp] sliceD cells_st cells_sl cells_i cells_y cells_b cells_s cells_w
attribute [local simp] lend_eR al_eR
def setN (g : List Nat) : Nat := g.foldl (fun s k => s ||| 2 ^ k) 0
theorem setN_app (g : List Nat) (k : Nat) : setN (g ++ [k]) = setN g ||| 2 ^ k := by unfold setN; rw [List.foldl_append]; rfl
theorem setN_lt {m : Nat} {g : List Nat} (h : ∀ k ∈ g, k < m) : setN g < 2 ^ m := by
  obtain ⟨n, hn⟩ : ∃ n, n = g.length := ⟨_, rfl⟩
  induction n generalizing g with
  | zero =>
    have : g = [] := List.eq_nil_of_length_eq_zero hn.symm
    subst this
    exact Nat.two_pow_pos m
  | succ n ih =>
    obtain ⟨a, k, rfl⟩ : ∃ a k, g = a ++ [k] := ⟨g.dropLast, g.getLast (by intro e; rw [e] at hn; simp at hn), (List.dropLast_concat_getLast _).symm⟩
    rw [setN_app]
    exact Nat.or_lt_two_pow (ih (fun x hx => h x (by simp [hx])) (by simp at hn; exact hn)) (Nat.pow_lt_pow_right (by omega) (h k (by simp)))
theorem setN_bit (g : List Nat) (x : Nat) : (setN g).testBit x = decide (x ∈ g) := by
  obtain ⟨n, hn⟩ : ∃ n, n = g.length := ⟨_, rfl⟩
  induction n generalizing g with
  | zero =>
    have : g = [] := List.eq_nil_of_length_eq_zero hn.symm
    subst this
    simp [setN]
  | succ n ih =>
    obtain ⟨a, k, rfl⟩ : ∃ a k, g = a ++ [k] := ⟨g.dropLast, g.getLast (by intro e; rw [e] at hn; simp at hn), (List.dropLast_concat_getLast _).symm⟩
    rw [setN_app, Nat.testBit_or, ih a (by simp at hn; exact hn), Nat.testBit_two_pow]
    by_cases e : x = k
    · subst e; simp
    · have : k ≠ x := fun q => e q.symm
      simp [e, this]
theorem setN_perm {m : Nat} {g : List Nat} (nd : g.Nodup) (h : ∀ k ∈ g, k < m) : (Sl m (setN g)).Perm g := by
  refine (List.perm_ext_iff_of_nodup (Sl_nd _ _) nd).2 fun k => ?_
  rw [Sl_mem, setN_bit, decide_eq_true_eq]
  exact ⟨fun q => q.2, fun q => ⟨h k q, q⟩⟩
def stSw9 (g : List Nat) (k : Nat) : LS := ⟨[(3, .i (setN (g.take k))), (6, .sl 0 ((ni g).map .i)), (7, .i g.length), (8, .i k)], []⟩
theorem sw9_loop {g : List Nat} (hl : g.length ≤ 5) (h5 : ∀ k ∈ g, k < 5) : ex lf F_impl_setOf_W0 (stSw9 g 0) = some (.exit 0, stSw9 g g.length) := by
  refine loop_count (lf := lf) (L := F_impl_setOf_L0) g.length (fun k => stSw9 g k) (fun k hk => ?_) ?_ (by simp)
  · have hk' : (k : Int) < g.length := by omega
    have w1 := wr_succ (k := k) (by omega)
    have hkr : g[k]? = some g[k] := List.getElem?_eq_getElem hk
    obtain ⟨a1, _⟩ := at_ni hkr
    have nl := ni_len g
    have sl : setN (g.take k) < 2 ^ 5 := setN_lt fun x hx => h5 x (List.mem_of_mem_take hx)
    have ft : setN (g.take (k + 1)) = setN (g.take k) ||| 2 ^ g[k] := by rw [List.take_add_one, hkr]; exact setN_app _ _
    have hg := h5 g[k] (List.getElem_mem _)
    have oi := or_i (so := setN (g.take k)) (a := (g[k] : Int)) (by omega) (by omega) (by omega)
    rw [Int.toNat_natCast, ← ft] at oi
    have n0 : ¬ ((g[k] : Int) < 0) := by omega
    show ex lf F_impl_setOf_L0 (stSw9 g k) = some (.normal, stSw9 g (k + 1))
    unfold stSw9
    generalize setN (g.take (k + 1)) = s2 at *
    generalize setN (g.take k) = s1 at *
    generalize g[k] = x at *
    generalize ni g = g2 at *
    simp [F_impl_setOf_L0, hk, hk', w1, a1, nl, oi, n0, -Int.natCast_add]
  · show ex lf F_impl_setOf_L0 (stSw9 g g.length) = _
    unfold stSw9
    generalize setN (g.take g.length) = s1 at *
    generalize ni g = g2 at *
    simp [F_impl_setOf_L0]
theorem c_impl_setOf {g : List Nat} (hl : g.length ≤ 5) (h5 : ∀ k ∈ g, k < 5) : call lf n_impl_setOf [.sl 0 ((ni g).map .i)] = some (.i (setN g), []) := by
  rw [call_k lf n_impl_setOf _ (F := F_impl_setOf) rfl rfl]
  have L := sw9_loop hl h5
  have nl := ni_len g
  unfold stSw9 at L
  rw [List.take_length] at L
  have z : setN (g.take 0) = 0 := rfl
  rw [z] at L
  simp only [Int.natCast_zero] at L
  generalize setN g = s at *
  generalize ni g = g2 at *
  simp [F_impl_setOf, L, nl]
theorem c_backward (L : List (List Int)) : call lf n_slices_Backward_int_int [.sl 0 (L.map eR)] = some (.fn n_slices_Backward_int_int_1 [.adr (.sl 0 (L.map eR))], []) := by
  rw [call_k lf n_slices_Backward_int_int _ (F := F_slices_Backward_int_int) rfl rfl]
  have e0 : ¬ mkNo n_slices_Backward_int_int_1 0 % 2 = 1 := (mkNo_0 _).1
  have e1 : mkNo n_slices_Backward_int_int_1 0 / 2 = n_slices_Backward_int_int_1 := (mkNo_0 _).2
  simp [F_slices_Backward_int_int, e0, e1]
theorem adopt_eR (L : List (List Int)) : adoptL true (L.map eR) = L.map eR := by
  rw [adoptL_map, List.map_map]
  refine List.map_congr_left fun r _ => ?_
  show DV.sl (adoptP true 0) (adoptL true (r.map .i)) = .sl 0 (r.map .i)
  rw [adopt_i]; rfl
theorem rD_hi {us : List T} (h : us.all tOk = true) {fee : Int} (hf : 0 ≤ fee ∧ fee ≤ 22) : ∀ {N : LN}, LOk us N → N.flatten.length ≤ 5 → rD us fee N ≤ 70 * N.length * 6 ^ N.flatten.length
  | [], _, _ => by simp [rD]
  | g :: r, hN, hl => by
    rw [List.flatten_cons, List.length_append] at hl
    have a := rD_hi h hf (N := r) (fun c hc => hN c (List.mem_cons_of_mem _ hc)) (by omega)
    have n := rD_nn h hf.1 (N := r) (fun c hc => hN c (List.mem_cons_of_mem _ hc))
    have b := rC_bd h (hN g List.mem_cons_self)
    have c := rP_bd h (hN g List.mem_cons_self)
    have p := p6_pos (g.length + r.flatten.length)
    simp only [rD, List.length_cons, List.flatten_cons, List.length_append]
    have m1 : rP us g * rD us fee r ≤ 6 ^ g.length * (70 * r.length * 6 ^ r.flatten.length) := Int.mul_le_mul c.2 a n (Int.le_of_lt (p6_pos _))
    have m2 : (fee + rC us g) * 6 ^ (g.length + r.flatten.length) ≤ 70 * 6 ^ (g.length + r.flatten.length) := Int.mul_le_mul_of_nonneg_right (by omega) (by omega)
    have e : (6 : Int) ^ g.length * (70 * r.length * 6 ^ r.flatten.length) = 70 * r.length * 6 ^ (g.length + r.flatten.length) := by
      rw [Int.pow_add]
      generalize (6 : Int) ^ g.length = x
      generalize (6 : Int) ^ r.flatten.length = y
      grind
    rw [e] at m1
    push_cast
    rw [show (70 : Int) * (r.length + 1) * 6 ^ (g.length + r.flatten.length) = 70 * r.length * 6 ^ (g.length + r.flatten.length) + 70 * 6 ^ (g.length + r.flatten.length) by grind]
    omega
def stBk (us : List T) (fee avg : Int) (op : Nat) (R : List (List Int)) : LS :=
  ⟨[(3, .adr (.sl 0 (us.map e2))), (5, .adr (.i fee)), (7, .oad 3592 1 0 0), (8, .oad 4104 1 0 0), (27, .fn n_slices_Backward_int_int_1 [.adr (.sl 0 (R.map eR))])], [(3592, [.i avg]), (4104, [.i op])]⟩
set_option maxHeartbeats 4000000 in
theorem bk_round {us : List T} (h : us.all tOk = true) (hm : us.length ≤ 5) {fee avg : Int} (hf : 0 ≤ fee ∧ fee ≤ 22) (ha : 0 ≤ avg ∧ avg ≤ 10000000) {op : Nat} (R : List (List Int)) {g : List Nat} (gl : g.length + op ≤ 5) (hg : ∀ k ∈ g, k < us.length) (nd : g.Nodup) (k : Nat) :
    roundL (ex lf F_impl_RoundAverage_R0) 28 29 [3, 5, 7, 8, 10] [⟨some 10, .mv, [.t 29], none⟩] (eR (ni g)) k (stBk us fee avg op R) = some (stBk us fee ((fee + rC us g) * 6 ^ (g.length + op) + rP us g * avg) (g.length + op) R) := by
  have C1 := c_impl_setOf (g := g) (by omega) (fun x hx => by have := hg x hx; omega)
  have P := setN_perm nd hg
  have C2 := c_impl_averageOfRound (us := us) (r := setN g) (n := g.length + op) (fee := fee) (beh := avg) h hm gl hf ha
  rw [rC_perm us P, rP_perm us P] at C2
  have w1 : wr ((op : Int) + (g.length : Int)) = ((g.length + op : Nat) : Int) := by rw [wr_id (by omega) (by omega)]; omega
  have nl := ni_len g
  have e : eR (ni g) = .sl 0 ((ni g).map .i) := rfl
  have X : ex lf F_impl_RoundAverage_R0 ⟨[(3, .adr (.sl 0 (us.map e2))), (5, .adr (.i fee)), (7, .oad 1039 1 0 0), (8, .oad 1551 1 0 0), (10, .sl 0 ((ni g).map .i))], [(1039, [.i avg]), (1551, [.i op])]⟩ =
      some (.normal, ⟨[(3, .adr (.sl 0 (us.map e2))), (5, .adr (.i fee)), (7, .oad 1039 1 0 0), (8, .oad 1551 1 0 0), (10, .sl 0 ((ni g).map .i))], [(1039, [.i ((fee + rC us g) * 6 ^ (g.length + op) + rP us g * avg)]), (1551, [.i ((g.length + op : Nat) : Int)])]⟩) := by
    generalize (fee + rC us g) * 6 ^ (g.length + op) + rP us g * avg = A at *
    generalize g.length + op = o2 at *
    generalize setN g = s at *
    generalize ni g = g2 at *
    simp [F_impl_RoundAverage_R0, C1, C2, w1, nl]
  rw [e]
  unfold stBk roundL
  generalize (fee + rC us g) * 6 ^ (g.length + op) + rP us g * avg = A at *
  generalize g.length + op = o2 at *
  generalize ni g = g2 at *
  simp [runQ, reslot, X]
theorem bk_all {us : List T} (h : us.all tOk = true) (hm : us.length ≤ 5) {fee : Int} (hf : 0 ≤ fee ∧ fee ≤ 22) (R : List (List Int)) : ∀ (B r : LN), LOk us (B.reverse ++ r) → (∀ g ∈ B, g.Nodup) → (B.reverse ++ r).flatten.length ≤ 5 → (∀ g ∈ B.reverse ++ r, g ≠ []) →
    backL (roundL (ex lf F_impl_RoundAverage_R0) 28 29 [3, 5, 7, 8, 10] [⟨some 10, .mv, [.t 29], none⟩]) ((B.map ni).map eR) (stBk us fee (rD us fee r) r.flatten.length R) = some (stBk us fee (rD us fee (B.reverse ++ r)) (B.reverse ++ r).flatten.length R)
  | [], r, _, _, _, _ => rfl
  | g :: B, r, hL, nd, hl, ne => by
    have e : (g :: B).reverse ++ r = B.reverse ++ (g :: r) := by simp
    rw [e] at hL hl ne ⊢
    have hl2 : g.length + r.flatten.length ≤ 5 := by simp at hl ⊢; omega
    have lr : LOk us r := fun c hc => hL c (by simp [hc])
    have up := rD_hi h hf lr (by omega)
    have nn := rD_nn h hf.1 lr
    have rl : r.length ≤ 5 := by
      have : r.length ≤ r.flatten.length := flat_ge9 fun c hc => ne c (by simp [hc])
      omega
    have p := (p6 (n := r.flatten.length) (by omega))
    have ub : rD us fee r ≤ 70 * 5 * 7776 := Int.le_trans up (Int.mul_le_mul (by omega) p.2 (by omega) (by omega))
    have S := bk_round h hm hf (avg := rD us fee r) ⟨nn, by omega⟩ (op := r.flatten.length) R (g := g) hl2 (hL g (by simp)) (nd g List.mem_cons_self) ((B.map ni).map eR).length
    rw [List.map_cons, List.map_cons]
    simp only [backL, S]
    have I := bk_all h hm hf R B (g :: r) hL (fun c hc => nd c (List.mem_cons_of_mem _ hc)) hl ne
    rw [← I]
    simp only [rD, List.flatten_cons, List.length_append]
set_option maxHeartbeats 4000000 in
theorem c_impl_RoundAverage (us : List T) (L : List (List Int)) (fee : Int) (ha : (us.length : Int) < 1099511627776) (hb : (L.length : Int) < 1099511627776) (hf : (L.flatten.length : Int) < 1099511627776) :
    call lf n_impl_RoundAverage [.sl 0 (us.map e2), .sl 0 (L.map eR), .i fee] = some (.i (rdV us L fee), []) := by
  rw [call_k lf n_impl_RoundAverage _ (F := F_impl_RoundAverage) rfl rfl]
  have C1 := c_impl_TestsOk us ha
  have C2 := c_impl_GroupsOk us.length L hb
  have C3 := c_impl_feeOk fee
  unfold rdV rdO
  cases h1 : tsOk us with
  | false => rw [h1] at C1; simp [F_impl_RoundAverage, C1]
  | true =>
    rw [h1] at C1
    cases h2 : gokB us.length L with
    | false => rw [h2] at C2; simp [F_impl_RoundAverage, C1, C2]
    | true =>
      rw [h2] at C2
      cases h3 : decide (0 ≤ fee ∧ fee ≤ 20) with
      | false => rw [h3] at C3; simp [F_impl_RoundAverage, C1, C2, C3]
      | true =>
        rw [h3] at C3
        have h4 := of_decide_eq_true h3
        have h' := tsOk_iff.1 h1
        obtain ⟨N, rfl, G⟩ := gok_of (m := us.length) (by omega) h2
        have gl := gok_len G
        have nt : ((N.map ni).map fun r => r.map Int.toNat) = N := natL_ni N
        rw [nt, Bool.true_and, Bool.true_and, if_pos rfl]
        have J := bk_all h'.2 (by omega) (fee := fee) ⟨h4.1, by omega⟩ (N.map ni) N.reverse [] (by rw [List.reverse_reverse, List.append_nil]; exact G.lt) (fun g hg => by
          obtain ⟨A, B, e⟩ := List.append_of_mem (List.mem_reverse.1 hg)
          have nd := G.nd
          rw [e, List.flatten_append, List.flatten_cons] at nd
          exact (List.nodup_append.1 (List.nodup_append.1 nd).2.1).1) (by rw [List.reverse_reverse, List.append_nil]; omega) (by rw [List.reverse_reverse, List.append_nil]; exact G.ne)
        rw [List.reverse_reverse, List.append_nil] at J
        have rv : (N.reverse.map ni).map eR = ((N.map ni).map eR).reverse := by rw [← List.map_reverse, ← List.map_reverse]
        rw [rv] at J
        have e0 : rD us fee [] = 0 := rfl
        have e1 : ([] : LN).flatten.length = 0 := rfl
        rw [e0, e1] at J
        have Bw := c_backward (N.map ni)
        have on : ((N.map ni).map eR).all DV.oneC = true := by
          rw [List.all_map, List.all_eq_true]; intro x _; rfl
        have K : ex lf F_impl_RoundAverage_B0 (stBk us fee 0 0 (N.map ni)) = some (.normal, stBk us fee (rD us fee N) N.flatten.length (N.map ni)) := by
          unfold F_impl_RoundAverage_B0
          rw [ex_back]
          have hr : backRow bkFs (look (stBk us fee 0 0 (N.map ni)).sl 27) = some ((N.map ni).map eR) := by
            show backRow bkFs (.fn n_slices_Backward_int_int_1 [.adr (.sl 0 ((N.map ni).map eR))]) = _
            unfold backRow
            simp only [on, Bool.and_true]
            rw [if_pos (by decide +kernel)]
          rw [hr]
          simp only
          rw [if_pos (by decide +kernel), J]
          rfl
        unfold stBk at K
        simp only [Int.natCast_zero] at K
        have ll : (N.map ni).length = N.length := by simp
        generalize rD us fee N = Z at *
        generalize N.flatten.length = q at *
        generalize N.map ni = L at *
        simp [F_impl_RoundAverage, C1, C2, C3, Bw, K, ll, adopt_eR]
end
section
attribute [-simp] DV.cells
attribute [local simp] sliceD cells_st cells_sl cells_i cells_y cells_b cells_s cells_w
theorem rdO_of {us : List T} {L : List (List Int)} {fee : Int} (h : rdO us L fee = true) : ∃ N : LN, L = N.map ni ∧ tsOk us = true ∧ Gok us.length N ∧ (1 ≤ us.length ∧ us.length ≤ 5) ∧ (0 ≤ fee ∧ fee ≤ 20) := by
  unfold rdO at h
  simp only [Bool.and_eq_true, decide_eq_true_eq] at h
  have h' := tsOk_iff.1 h.1.1
  obtain ⟨N, rfl, G⟩ := gok_of (m := us.length) (by omega) h.1.2
  exact ⟨N, rfl, h.1.1, G, by omega, h.2⟩
theorem rdV_ok {us : List T} (h : tsOk us = true) {N : LN} (G : Gok us.length N) {fee : Int} (hf : 0 ≤ fee ∧ fee ≤ 20) : rdO us (N.map ni) fee = true ∧ rdV us (N.map ni) fee = rD us fee N := by
  have h' := tsOk_iff.1 h
  have o : rdO us (N.map ni) fee = true := by
    unfold rdO
    rw [h, gok_to (by omega) G]
    simpa using hf
  refine ⟨o, ?_⟩
  have nt : ((N.map ni).map fun r => r.map Int.toNat) = N := natL_ni N
  unfold rdV
  rw [o, if_pos rfl, nt]
theorem rdV_bad {us : List T} {L : List (List Int)} {fee : Int} (h : rdO us L fee = false) : rdV us L fee = -1 := by unfold rdV; rw [h]; rfl
theorem rdV_nn {us : List T} {L : List (List Int)} {fee : Int} (h : rdO us L fee = true) : 0 ≤ rdV us L fee := by
  obtain ⟨N, rfl, h1, G, _, hf⟩ := rdO_of h
  rw [(rdV_ok h1 G hf).2]
  exact rD_nn (tsOk_iff.1 h1).2 hf.1 G.lt
theorem rD_up {us : List T} (h : us.all tOk = true) {fee : Int} (hf : 0 ≤ fee) : ∀ {N : LN}, LOk us N → rD us fee N ≤ (fee * N.length + rC us N.flatten) * 6 ^ N.flatten.length
  | [], _ => by simp [rD, rC]
  | g :: r, hN => by
    have hr : LOk us r := fun c hc => hN c (List.mem_cons_of_mem _ hc)
    have ih := rD_up h hf hr
    have c := rP_bd h (hN g List.mem_cons_self)
    have nn := rD_nn h hf hr
    have p := p6_pos g.length
    simp only [rD]
    rw [List.flatten_cons, List.length_append, List.length_cons, rC_app, Int.pow_add]
    have m1 : rP us g * rD us fee r ≤ 6 ^ g.length * ((fee * r.length + rC us r.flatten) * 6 ^ r.flatten.length) := Int.mul_le_mul c.2 ih nn (by omega)
    push_cast
    generalize (6 : Int) ^ g.length = P at *
    generalize (6 : Int) ^ r.flatten.length = Q at *
    generalize rD us fee r = D at *
    generalize rC us g = x at *
    generalize rC us r.flatten = y at *
    generalize (r.length : Int) = n at *
    have e : (fee * (n + 1) + (x + y)) * (P * Q) = (fee + x) * (P * Q) + P * ((fee * n + y) * Q) := by grind
    rw [e]
    omega
theorem rdV_le {us : List T} {L : List (List Int)} {fee : Int} (h : rdO us L fee = true) : rdV us L fee ≤ 1300000 ∧ L.length ≤ 5 := by
  obtain ⟨N, rfl, h1, G, hm, hf⟩ := rdO_of h
  have u := rD_up (tsOk_iff.1 h1).2 hf.1 G.lt
  have gl := gok_len G
  have nl := flat_ge9 G.ne
  have rc := rC_bd (tsOk_iff.1 h1).2 (g := N.flatten) fun x hx => by
    obtain ⟨c, c1, c2⟩ := List.mem_flatten.1 hx
    exact G.lt c c1 x c2
  have p := p6 (n := us.length) (by omega)
  rw [(rdV_ok h1 G hf).2, List.length_map]
  rw [gl] at u nl rc
  have a : fee * (N.length : Int) ≤ 20 * 5 := Int.mul_le_mul hf.2 (by omega) (by omega) (by omega)
  have b : 0 ≤ fee * (N.length : Int) := Int.mul_nonneg hf.1 (by omega)
  have m : (fee * (N.length : Int) + rC us N.flatten) * 6 ^ us.length ≤ 145 * 7776 := Int.mul_le_mul (by omega) p.2 (by omega) (by omega)
  omega
/-- one more for the fee -/
theorem rdV_more {us : List T} {L : List (List Int)} {fee : Int} (h : rdO us L fee = true) : (rdV us L (fee + 1) < 0 ∧ rdV us L (fee + 1) = -1) ∨ (rdV us L fee + 6 ^ us.length ≤ rdV us L (fee + 1) ∧ rdV us L (fee + 1) ≤ rdV us L fee + 6 ^ us.length * L.length) := by
  obtain ⟨N, rfl, h1, G, hm, hf⟩ := rdO_of h
  by_cases q : fee + 1 ≤ 20
  · right
    have h' := tsOk_iff.1 h1
    have a := rdW_bd h'.2 G.lt
    have b := rdW_one h'.2 G.lt (fun e => by have := gok_len G; rw [e] at this; simp at this; omega)
    have c := rD_fee us fee 1 N
    rw [gok_len G] at a b
    rw [(rdV_ok h1 G hf).2, (rdV_ok h1 G (fee := fee + 1) ⟨by omega, q⟩).2, List.length_map]
    omega
  · left
    have : rdO us (N.map ni) (fee + 1) = false := by
      unfold rdO
      have : decide (0 ≤ fee + 1 ∧ fee + 1 ≤ 20) = false := by simp; omega
      rw [this, Bool.and_false]
    rw [rdV_bad this]
    omega
/-- as many rounds as tests: one by one -/
theorem ones_of {m : Nat} {N : LN} (G : Gok m N) (h : m ≤ N.length) : ∀ g ∈ N, g.length = 1 := by
  have key : ∀ N : LN, (∀ g ∈ N, g ≠ []) → N.length ≤ N.flatten.length ∧ (N.flatten.length ≤ N.length → ∀ g ∈ N, g.length = 1) := by
    intro N
    induction N with
    | nil => intro _; exact ⟨Nat.le_refl _, fun _ g hg => by cases hg⟩
    | cons g r ih =>
      intro ne
      obtain ⟨a, b⟩ := ih fun c hc => ne c (List.mem_cons_of_mem _ hc)
      have l := List.length_pos_iff.2 (ne g List.mem_cons_self)
      rw [List.flatten_cons, List.length_append, List.length_cons]
      refine ⟨by omega, fun h c hc => ?_⟩
      rcases List.mem_cons.1 hc with e | e
      · rw [e]; omega
      · exact b (by omega) c e
  exact (key N G.ne).2 (by rw [gok_len G]; exact h)
theorem rdV_ones {us : List T} {L : List (List Int)} {fee : Int} (h : rdO us L fee = true) (hl : us.length ≤ L.length) : rdV us L 0 = raOf us L.flatten 0 := by
  obtain ⟨N, rfl, h1, G, hm, hf⟩ := rdO_of h
  rw [(rdV_ok h1 G (fee := 0) ⟨by omega, by omega⟩).2, ni_flat, raOf_row h1 (gok_or hm G)]
  exact rD_ones us (ones_of G (by simpa using hl))
/-- each round turned -/
theorem rdV_rev (us : List T) (L : List (List Int)) (fee : Int) : rdV us (L.map List.reverse) fee = rdV us L fee := by
  have eo : rdO us (L.map List.reverse) fee = rdO us L fee := by
    have eg : gokB us.length (L.map List.reverse) = gokB us.length L := by
      unfold gokB
      congr 1
      · rw [List.all_map]
        congr 1
        funext r
        simp
      · refine orOk_perm ?_
        induction L with
        | nil => exact List.Perm.refl _
        | cons r L ih => rw [List.map_cons, List.flatten_cons, List.flatten_cons]; exact (r.reverse_perm).append ih
    unfold rdO
    rw [eg]
  cases h : rdO us L fee with
  | false => rw [rdV_bad h, rdV_bad (eo.trans h)]
  | true =>
    unfold rdV
    rw [eo, h, if_pos rfl, if_pos rfl]
    have e : ((L.map List.reverse).map fun r => r.map Int.toNat) = (L.map fun r => r.map Int.toNat).map List.reverse := by
      rw [List.map_map, List.map_map]
      apply List.map_congr_left
      intro r _
      simp
    rw [e]
    exact (rD_perm us fee (fun g => g.reverse_perm) _).1
end
section
attribute [-simp] DV.cells
attribute [local simp] sliceD cells_st cells_sl cells_i cells_y cells_b cells_s cells_w
attribute [local simp] lend_eR al_eR lend_eN adopt_eN new_eN
def stT0 (us : List T) (R : List (List Int)) (fee n : Int) (k : Nat) : LS :=
  ⟨[(3, .own 8209 us.length 0 us.length), (4, .own 8202 R.length 0 R.length), (5, .i fee), (6, .i n), (7, .own 18952 (R.take k).flatten.length 0 (R.take k).flatten.length), (8, .i k)], [(8202, R.map eN), (8209, us.map e2), (18952, (R.take k).flatten.map .i)]⟩
set_option maxHeartbeats 8000000 in
theorem t0_loop (us : List T) {R : List (List Int)} (hR : R.length ≤ 6) (hf : R.flatten.length ≤ 6) (fee n : Int) : ex lf F_laws_FnRoundAverage_W0 (stT0 us R fee n 0) = some (.exit 0, stT0 us R fee n R.length) := by
  refine loop_count R.length (fun k => stT0 us R fee n k) (fun k hk => ?_) ?_ (by simp)
  · have hk' : (k : Int) < R.length := by omega
    have w1 := wr_succ (k := k) (by omega)
    have hkr : R[k]? = some R[k] := List.getElem?_eq_getElem hk
    have e0 : (R.map eN)[k]? = some (.sl 1 (R[k].map .i)) := by rw [List.getElem?_map, hkr]; rfl
    have a1 : atI (R.map eN) (k : Int) = some (.sl 1 (R[k].map .i)) := by
      simp only [atI, if_pos (Int.natCast_nonneg k)]
      show (R.map eN)[(k : Int).toNat]? = _
      rw [Int.toNat_natCast]; exact e0
    have a2 : atN (R.map eN) k = some (.sl 1 (R[k].map .i)) := e0
    have ft : (R.take (k + 1)).flatten = (R.take k).flatten ++ R[k] := by rw [List.take_add_one, hkr, List.flatten_append]; simp
    have bl : (R.take (k + 1)).flatten.length ≤ 6 := by
      have := congrArg (fun x => x.flatten.length) (List.take_append_drop (k + 1) R)
      simp only [List.flatten_append, List.length_append] at this
      omega
    rw [ft, List.length_append] at bl
    have cb : (R.take k).flatten.length + R[k].length ≤ bound := by unfold bound; omega
    show ex lf F_laws_FnRoundAverage_L0 (stT0 us R fee n k) = some (.normal, stT0 us R fee n (k + 1))
    unfold stT0
    rw [ft, List.length_append, List.map_append]
    generalize R[k] = r at *
    generalize (R.take k).flatten = f at *
    simp [F_laws_FnRoundAverage_L0, hk, hk', w1, a1, a2, cb, -Int.natCast_add]
  · show ex lf F_laws_FnRoundAverage_L0 (stT0 us R fee n R.length) = _
    unfold stT0
    generalize (R.take R.length).flatten = f at *
    simp [F_laws_FnRoundAverage_L0]
set_option maxHeartbeats 16000000 in
theorem law_FnRoundAverage (x : List Nat) (_ : x.length ≤ Go.maxLen) (hb : ∀ y ∈ x, y < 256) : call lf n_laws_FnRoundAverage [bys x] = some (.b true, []) := by
  show call lf n_laws_FnRoundAverage [.sl 0 (x.map .y)] = _
  rw [call_k lf n_laws_FnRoundAverage _ (F := F_laws_FnRoundAverage) rfl rfl]
  by_cases hl : 1048576 < (x.length : Int)
  · simp (config := { maxSteps := 2000000 }) [F_laws_FnRoundAverage, hl]
  · obtain ⟨us, R, fee, u1, r1, r2, f1, d⟩ := c_DrawRoundAverage hb (by omega)
    have C1 := c_impl_RoundAverage us R fee (by omega) (by omega) (by omega)
    have C2 := c_spec_RoundAverage us R fee (by omega) (by omega) (by omega)
    have lb1 : us.length ≤ bound := by unfold bound; omega
    have lb2 : R.length ≤ bound := by unfold bound; omega
    have tk1 := tk_e2 us
    have tk2 : List.take R.length (R.map eN) = R.map eN := List.take_of_length_le (by simp)
    cases h : rdO us R fee with
    | false =>
      have e := rdV_bad h
      rw [e] at C1 C2
      simp (config := { maxSteps := 2000000 }) [F_laws_FnRoundAverage, hl, d, C1, C2, lb1, lb2, tk1, tk2, c_alive]
    | true =>
      have nn := rdV_nn h
      have n0 : ¬ rdV us R fee < 0 := by omega
      have w0 : wr (fee + 1) = fee + 1 := wr_id (by omega) (by omega)
      have C3 := c_impl_RoundAverage us R (fee + 1) (by omega) (by omega) (by omega)
      have C4 := c_impl_RoundAverage us R 0 (by omega) (by omega) (by omega)
      have W := c_impl_RowAverage us R.flatten 0 (by omega) (by omega)
      have L := t0_loop us r1 r2 fee (rdV us R fee)
      obtain ⟨N, hN, h1, G, hm, hf⟩ := rdO_of h
      have P := c_power (us.length : Int) (by omega) (by omega)
      rw [Int.toNat_natCast] at P
      have pk := p6 (n := us.length) (by omega)
      have M := rdV_more h
      have O := rdV_ones h
      have vb := rdV_le h
      have ml : 0 ≤ (6 : Int) ^ us.length * (R.length : Int) ∧ (6 : Int) ^ us.length * (R.length : Int) ≤ 7776 * 6 := ⟨Int.mul_nonneg (by omega) (by omega), Int.mul_le_mul pk.2 (by omega) (by omega) (by omega)⟩
      have w1 : wr (rdV us R fee + 6 ^ us.length) = rdV us R fee + 6 ^ us.length := wr_id (by omega) (by omega)
      have w2 : wr ((6 : Int) ^ us.length * (R.length : Int)) = 6 ^ us.length * (R.length : Int) := wr_id (by omega) (by omega)
      have w3 : wr (rdV us R fee + 6 ^ us.length * (R.length : Int)) = rdV us R fee + 6 ^ us.length * (R.length : Int) := wr_id (by omega) (by omega)
      have z0 : (R.take 0).flatten = [] := rfl
      have tkf : List.take R.flatten.length (R.flatten.map DV.i) = R.flatten.map .i := List.take_of_length_le (by rw [List.length_map]; exact Nat.le_refl _)
      have lb3 : R.flatten.length ≤ bound := by unfold bound; omega
      unfold stT0 at L
      rw [z0, List.take_length] at L
      simp only [List.map_nil, List.length_nil, Int.natCast_zero] at L
      clear hN G
      generalize rdV us R fee = v at *
      generalize rdV us R (fee + 1) = v1 at *
      generalize rdV us R 0 = v2 at *
      generalize raOf us R.flatten 0 = v3 at *
      generalize (6 : Int) ^ us.length = p at *
      generalize R.flatten = f at *
      have key : ∀ b : Bool, ((R.length : Int) < us.length ∨ v2 = v3) := fun _ => by
        by_cases q : (R.length : Int) < us.length
        · exact .inl q
        · exact .inr (O (by omega))
      have key := key true
      by_cases q1 : (R.length : Int) < us.length
      · have q1' : R.length < us.length := by omega
        rcases M with ⟨m1, m2⟩ | ⟨m1, m2⟩
        · simp (config := { maxSteps := 2000000 }) [F_laws_FnRoundAverage, hl, d, C1, C2, C3, C4, W, L, P, n0, w0, w1, w2, w3, q1, q1', m1, lb1, lb2, lb3, tk1, tk2, tkf, c_alive]
        · have m3 : ¬ v1 < 0 := by omega
          simp (config := { maxSteps := 2000000 }) [F_laws_FnRoundAverage, hl, d, C1, C2, C3, C4, W, L, P, n0, w0, w1, w2, w3, q1, q1', m1, m2, m3, lb1, lb2, lb3, tk1, tk2, tkf, c_alive]
      · have q2 : v2 = v3 := by rcases key with k | k; exact absurd k q1; exact k
        have q1' : ¬ R.length < us.length := by omega
        rw [← q2] at W
        rcases M with ⟨m1, m2⟩ | ⟨m1, m2⟩
        · simp (config := { maxSteps := 2000000 }) [F_laws_FnRoundAverage, hl, d, C1, C2, C3, C4, W, L, P, n0, w0, w1, w2, w3, q1, q1', m1, lb1, lb2, lb3, tk1, tk2, tkf, c_alive]
        · have m3 : ¬ v1 < 0 := by omega
          simp (config := { maxSteps := 2000000 }) [F_laws_FnRoundAverage, hl, d, C1, C2, C3, C4, W, L, P, n0, w0, w1, w2, w3, q1, q1', m1, m2, m3, lb1, lb2, lb3, tk1, tk2, tkf, c_alive]
end
section
attribute [-simp] DV.cells
attribute [local simp] sliceD cells_st cells_sl cells_i cells_y cells_b cells_s cells_w
attribute [local simp] lend_eR al_eR lend_eN adopt_eN new_eN
def stU0 (us : List T) (R : List (List Int)) (fee n : Int) (k : Nat) : LS :=
  ⟨[(3, .own 8209 us.length 0 us.length), (4, .own 8202 R.length 0 R.length), (5, .i fee), (6, .i n), (7, .own 13832 k 0 k), (8, .i k)], [(8202, R.map eN), (8209, us.map e2), (13832, ((R.take k).map List.reverse).map eN)]⟩
def stU1 (us : List T) (R : List (List Int)) (fee n : Int) (k : Nat) (K : Nat) (row : List Int) (j : Nat) : LS :=
  ⟨[(3, .own 8209 us.length 0 us.length), (4, .own 8202 R.length 0 R.length), (5, .i fee), (6, .i n), (7, .own 13832 k 0 k), (8, .i k), (9, .own K row.length 0 row.length), (10, .i j)], [(8202, R.map eN), (8209, us.map e2), (13832, ((R.take k).map List.reverse).map eN), (K, row.map .i)]⟩
set_option maxHeartbeats 8000000 in
theorem u1_loop (us : List T) {R : List (List Int)} {fee n : Int} {k : Nat} {g : List Int} (hk : R[k]? = some g) (hR : R.length ≤ 6) (g6 : g.length ≤ 6) : ∀ (d j K : Nat), (K = 17416 ∨ K = 26120) → j + d = g.length →
    ex lf F_laws_FnRoundOrder_W1 (stU1 us R fee n k K (g.take j).reverse j) = some (.exit 2, stU1 us R fee n k 17416 g.reverse g.length) := by
  have e0 : (R.map eN)[k]? = some (.sl 1 (g.map .i)) := by rw [List.getElem?_map, hk]; rfl
  have a1 : atI (R.map eN) (k : Int) = some (.sl 1 (g.map .i)) := by
    simp only [atI, if_pos (Int.natCast_nonneg k)]
    show (R.map eN)[(k : Int).toNat]? = _
    rw [Int.toNat_natCast]; exact e0
  have a2 : atN (R.map eN) k = some (.sl 1 (g.map .i)) := e0
  have kl := (List.getElem?_eq_some_iff.1 hk).1
  have kl' : (k : Int) < R.length := by omega
  intro d
  induction d with
  | zero =>
    intro j K hK hj
    have e : j = g.length := by omega
    subst e
    rw [w_laws_FnRoundOrder_1, List.take_length]
    have lr : (g.reverse.map DV.i).length = g.length := by simp
    unfold stU1
    rw [List.length_reverse]
    generalize g.reverse.map DV.i = G at *
    generalize ((R.take k).map List.reverse).map eN = B at *
    rcases hK with rfl | rfl <;> simp [F_laws_FnRoundOrder_L1, a1, a2, kl, kl', lr]
  | succ d ih =>
    intro j K hK hj
    have jl : j < g.length := by omega
    have jl' : (j : Int) < g.length := by omega
    have gj : g[j]? = some g[j] := List.getElem?_eq_getElem jl
    have ih := ih (j + 1) 26120 (.inr rfl) (by omega)
    have at1 := atI_int gj
    have w1 := wr_succ (k := j) (by omega)
    have tr : (g.take (j + 1)).reverse = g[j] :: (g.take j).reverse := by rw [List.take_add_one, gj, Option.toList_some, List.reverse_append]; rfl
    have tl : (g.take j).reverse.length = j := by rw [List.length_reverse, List.length_take]; omega
    have lm : ((g.take j).reverse.map DV.i).length = j := by rw [List.length_map, tl]
    have tk : List.take j ((g.take j).reverse.map DV.i) = (g.take j).reverse.map .i := List.take_of_length_le (by omega)
    have cb : 1 + j ≤ bound := by unfold bound; omega
    have cb2 : j + 1 ≤ bound := by unfold bound; omega
    have ej : 1 + j = j + 1 := by omega
    rw [tr] at ih
    rw [w_laws_FnRoundOrder_1]
    unfold stU1 at *
    rw [tl]
    simp only [List.length_cons, tl, List.map_cons] at ih
    have cw : ∀ e ∈ (g.take j).reverse.map DV.i, e.cells.length = 1 := fun e he => by
      obtain ⟨r, _, rfl⟩ := List.mem_map.1 he; rfl
    generalize (g.take j).reverse.map DV.i = G at *
    generalize g[j] = x at *
    generalize ((R.take k).map List.reverse).map eN = B at *
    rcases hK with rfl | rfl <;> simp [F_laws_FnRoundOrder_L1, a1, a2, kl, kl', jl, jl', at1, w1, lm, tk, cb, cb2, ej, if_pos cw, ih, -Int.natCast_add]
set_option maxHeartbeats 8000000 in
theorem u0_loop (us : List T) {R : List (List Int)} (hR : R.length ≤ 6) (hf : R.flatten.length ≤ 6) (fee n : Int) : ex lf F_laws_FnRoundOrder_W0 (stU0 us R fee n 0) = some (.exit 0, stU0 us R fee n R.length) := by
  refine loop_count R.length (fun k => stU0 us R fee n k) (fun k hk => ?_) ?_ (by simp)
  · have hk' : (k : Int) < R.length := by omega
    have w1 := wr_succ (k := k) (by omega)
    have hkr : R[k]? = some R[k] := List.getElem?_eq_getElem hk
    have g6 : R[k].length ≤ 6 := by
      obtain ⟨A, B, e⟩ := List.append_of_mem (List.getElem_mem hk)
      have := congrArg (fun x => x.flatten.length) e
      simp only [List.flatten_append, List.flatten_cons, List.length_append] at this
      omega
    have I := u1_loop us (fee := fee) (n := n) hkr hR g6 R[k].length 0 17416 (.inl rfl) (by omega)
    have ft : ((R.take (k + 1)).map List.reverse).map eN = ((R.take k).map List.reverse).map eN ++ [.sl 1 (R[k].reverse.map .i)] := by rw [List.take_add_one, hkr, Option.toList_some, List.map_append, List.map_append]; rfl
    have lk : (((R.take k).map List.reverse).map eN).length = k := by simp; omega
    have cb : k + 1 ≤ bound := by unfold bound; omega
    have rl : R[k].reverse.length = R[k].length := by simp
    have tk : List.take R[k].length (R[k].reverse.map DV.i) = R[k].reverse.map .i := List.take_of_length_le (by simp)
    have lm : (R[k].reverse.map DV.i).length = R[k].length := by simp
    show ex lf F_laws_FnRoundOrder_L0 (stU0 us R fee n k) = some (.normal, stU0 us R fee n (k + 1))
    unfold stU0
    unfold stU1 at I
    rw [ft]
    rw [rl] at I
    simp only [List.take_zero, List.reverse_nil, List.map_nil, List.length_nil, Int.natCast_zero] at I
    generalize R[k].reverse.map DV.i = G at *
    generalize R[k].length = m at *
    generalize ((R.take k).map List.reverse).map eN = B at *
    simp [F_laws_FnRoundOrder_L0, hk, hk', w1, I, lk, cb, lm, tk, -Int.natCast_add]
  · show ex lf F_laws_FnRoundOrder_L0 (stU0 us R fee n R.length) = _
    unfold stU0
    generalize ((R.take R.length).map List.reverse).map eN = B at *
    simp [F_laws_FnRoundOrder_L0]
set_option maxHeartbeats 16000000 in
theorem law_FnRoundOrder (x : List Nat) (_ : x.length ≤ Go.maxLen) (hb : ∀ y ∈ x, y < 256) : call lf n_laws_FnRoundOrder [bys x] = some (.b true, []) := by
  show call lf n_laws_FnRoundOrder [.sl 0 (x.map .y)] = _
  rw [call_k lf n_laws_FnRoundOrder _ (F := F_laws_FnRoundOrder) rfl rfl]
  by_cases hl : 1048576 < (x.length : Int)
  · simp (config := { maxSteps := 2000000 }) [F_laws_FnRoundOrder, hl]
  · obtain ⟨us, R, fee, u1, r1, r2, f1, d⟩ := c_DrawRoundAverage hb (by omega)
    have C1 := c_impl_RoundAverage us R fee (by omega) (by omega) (by omega)
    have lb1 : us.length ≤ bound := by unfold bound; omega
    have lb2 : R.length ≤ bound := by unfold bound; omega
    have tk1 := tk_e2 us
    have tk2 : List.take R.length (R.map eN) = R.map eN := List.take_of_length_le (by simp)
    have rf : (R.map List.reverse).flatten.length = R.flatten.length := by
      clear C1 tk2 lb2 d r1 r2
      induction R with
      | nil => rfl
      | cons r R ih => simp only [List.map_cons, List.flatten_cons, List.length_append, List.length_reverse]; omega
    have C2 := c_impl_RoundAverage us (R.map List.reverse) fee (by omega) (by rw [List.length_map]; omega) (by omega)
    rw [rdV_rev] at C2
    have L := u0_loop us r1 r2 fee (rdV us R fee)
    have lr : ((R.map List.reverse).map eN).length = R.length := by simp
    have tk3 : List.take R.length ((R.map List.reverse).map eN) = (R.map List.reverse).map eN := List.take_of_length_le (by omega)
    have le := lend_eN (R.map List.reverse)
    unfold stU0 at L
    simp only [List.take_zero, List.map_nil, List.take_length, Int.natCast_zero] at L
    generalize rdV us R fee = v at *
    generalize (R.map List.reverse).map eN = D at *
    generalize (R.map List.reverse).map eR = D2 at *
    by_cases q : v < 0
    · simp (config := { maxSteps := 2000000 }) [F_laws_FnRoundOrder, hl, d, C1, q, lb1, lb2, tk1, tk2, c_alive]
    · simp (config := { maxSteps := 2000000 }) [F_laws_FnRoundOrder, hl, d, C1, C2, L, q, lr, le, lb1, lb2, tk1, tk2, tk3, c_alive]
end
end Zz
