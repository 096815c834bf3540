/- What the functions answer, as equations: EA. No conditions. -/
import Derived.Test.YtldepejkagfdmaaIrzc
import Derived.Test.YtldepejkagfdmaaE0
import Derived.Test.YtldepejkagfdmaaLgEzc
set_option linter.unusedSectionVars false
set_option linter.unusedVariables false
set_option linter.unusedSimpArgs false
namespace Zz
open Go.Lg Md
set_option linter.unusedSimpArgs false
set_option linter.unusedVariables false
attribute [local simp] tm_mv tm_newnil tm_pick tm_bin tm_eqb tm_eqs tm_un tm_len tm_lens tm_chk tm_fld tm_fldv tm_idxa tm_idx tm_load tm_store tm_slice tm_slices tm_make tm_alloc tm_box tm_build tm_app tm_conv tm_ext tm_call tm_calld tm_mkfn tm_mm tm_idxp tm_eqn tm_callg tm_callm tm_bslice0 tm_bslice1 tm_bslice2 tm_bslice cw_nil cw_cons cd_none cd_some ec_nil ec_cons es_nil es_one es_more nn_nil nn_cons ns_nil ns_cons si_nil si_cons sk_t stod_oad stod_own stod_adr stod_dead ml_nil ml_cons nt_nil nt_cons nc_nil' nc_cons sa_mkfn cv_adr cv_i cv_y cv_b cv_w sa_calld nm_def nh_nil nh_cons nxM_some nxM_none sc_st sd_i sd_y sd_b sd_s sd_w sd_q sc_i sc_y sc_b sc_s sc_w sc_q sa_bslice sa_app nc_own nc_nil sa_call sa_alloc sa_build sa_callm rm_nil rm_one rm_gen bq_mul bq_eql ia_mv ia_newnil ia_pick ia_bin ia_eqb ia_eqs ia_un ia_len ia_lens ia_chk ia_fld ia_fldv ia_idxa ia_idx ia_load ia_store ia_slice ia_slices ia_make ia_alloc ia_box ia_build ia_bslice ia_app ia_b2i ia_i2b ia_i2i ia_same ia_b2s ia_s2b ia_ext ia_mm ia_idxp ia_calld ia_mkfn ia_i2r ia_r2s ia_call pt_nil pt_cons mi_nil mi_cons md_bslice md_mv md_newnil md_pick md_bin md_eqb md_un md_len md_lens md_fld md_fldv md_idxa md_idx md_load md_store md_slice md_slices md_make md_alloc md_box md_build md_app md_conv md_ext md_call md_calld md_callg md_mkfn md_mm md_idxp md_eqn md_eqs md_chk tg_bslice tg_mv tg_newnil tg_pick tg_bin tg_eqb tg_un tg_len tg_lens tg_fld tg_fldv tg_idxa tg_idx tg_load tg_store tg_slice tg_slices tg_make tg_alloc tg_box tg_build tg_app tg_conv tg_ext tg_call tg_calld tg_callg tg_mkfn tg_mm tg_idxp tg_eqn tg_eqs tg_chk rp_eq ro_eq ifP_t ifP_f np_def ng1_nil ng2_nil ng_gate ng_gen tgA_t tgA_0 tgA_1 tgA_2 aC_nil aC_c aC_t nxP_some nxP_none rq_nil rq_gen rq_gate nxR_some nxR_none ru_nil ru_gen ru_gate pl_none pl_some gt_nil gt_t gt_c di_some di_none an_nil an_cons nxG_some nxG_none rg_nil rg_gen rg_gate oldO_some oa_nil oa_i oa_y oa_b oa_s oa_st oa_sl oa_own oa_oad oa_nl al_nil al_cons al_i al_y al_b al_s al_st al_sl nxF_some nxF_none rf_nil rf_gen rf_gate hk_newnil hk_make hk_alloc hk_box hk_build hk_bslice hk_call hk_store hk_app hk_appn em_cel mm_cel ok_cel ov_cel so_cel il_cel oi_cel oj_cel ol_cel nm_cel hk_appc ef_bslice5 ef_app_cel ks_shut shu_own shc_none shc_cel cl_nil cl_cons ai_nil ai_cons il_i il_y il_b il_s il_st il_sl il_own il_adr il_oad il_ref il_fr il_tup il_nil il_np il_und il_dead ol_adr ol_b ol_dead ol_e ol_fn ol_fr ol_i ol_nil ol_np ol_oad ol_own ol_q ol_r ol_ref ol_s ol_sl ol_st ol_tup ol_und ol_w ol_y oj_e oj_i oj_y oj_b oj_s oj_st oj_sl oj_own oj_adr oj_oad oj_ref oj_fr oj_tup oj_nil oj_np oj_und oj_dead oj_w oj_q oj_r oj_fn oi_e oi_i oi_y oi_b oi_s oi_st oi_sl oi_own oi_adr oi_oad oi_ref oi_fr oi_tup oi_nil oi_np oi_und oi_dead as_nil as_cons ao_nil ao_cons av_i av_y av_b av_s av_st av_sl av_own av_adr av_oad av_ref av_fr av_tup av_nil av_np av_und av_dead pro_cons ghK_some ks_promote ks_freeze frz_own ks_rename ren_own dropO adoptP newP wholeP cutP allOldL ex_skip ex_ret ex_exit ks_region ks_seq ks_cond ks_block seqK_n seqK_e seqK_r regK_some condK_t condK_f blkK_n blkK_r blkK_e endK_n endK_r rr_false rr_true rd_free mo_nil mo_cons drK_some drK_none nxW_some nxW_none rw_nil rw_gen rw_gate ak_newnil ak_make ak_alloc ak_box ak_build ak_bslice ak_call ak_store ak_app iw_mm iw_eqn iw_idxp ef_callg cgK_some gv_e gv_own gv_i gv_sl gv_st gv_b gv_nil gvK_some gvO_some iw_callg ia_callg ak_callg hk_callg is_mv is_newnil is_pick is_bin is_eqb is_eqs is_un is_len is_lens is_chk is_fld is_fldv is_idxa is_idx is_load is_slice is_slices is_make is_alloc is_box is_build is_bslice is_app is_conv is_ext is_call is_calld is_callg is_mkfn is_mm is_idxp is_eqn is_store rt_nil rt_gen rt_gate nxT_some nxT_none ef_eqn_nil ef_eqn_sl ef_eqn_own ia_eqn ef_mmx ef_mmn ef_idxp nxD_some nxD_none ov_i ov_y ov_b ov_s ov_st ov_sl ov_own ov_oad ov_adr ov_nil ov_np ov_und ov_dead ov_tup oldN_some oldN_nil oldN_none so_none so_tup DV.noM so_i so_y so_b so_s so_st so_sl so_adr so_nil so_np so_und so_dead anyM_nil anyM_t anyM_c so_own so_oad rd_nil rd_gen rd_mv rd_gate iw_mv iw_newnil iw_pick iw_bin iw_eqb iw_eqs iw_un iw_len iw_lens iw_chk iw_fld iw_fldv iw_idxa iw_idx iw_load iw_store iw_slice iw_slices iw_make iw_alloc iw_box iw_build iw_bslice iw_app iw_b2i iw_i2b iw_i2i iw_same iw_b2s iw_s2b iw_ext iw_call nm_i nm_y nm_b nm_s nm_st nm_sl nm_own nm_oad nm_adr nm_nil nm_np nm_und nm_dead nm_tup rl_nil rl_gate rl_mv rl_gen opv_t opv_c nx_some nx_none gate_tt gate_tf gate_ft gate_ff gate_u fr_ap em_nil em_i em_y em_b em_s em_st em_sl em_own em_adr em_oad em_ref em_nl em_np em_und em_dead em_tup0 em_tup_i em_tup_b em_tup_s em_tup_sl em_tup_st em_tup_np em_tup_own em_tup_oad mm_i mm_y mm_b mm_s mm_st mm_sl mm_own mm_oad mm_adr mm_nil mm_np mm_und mm_dead ef_mv ef_newnil ef_pickt ef_pickf ef_bin ef_eqb ef_eqs ef_un ef_lens ef_len_sl ef_len_own ef_len_nil ef_chk_adr ef_chk_oad ef_fld_adr ef_fld_oad ef_fldv idxR_some ef_idxa_sl ef_idxa_own ef_idx ef_load_adr_st ef_load_adr_i ef_load_adr_y ef_load_adr_b ef_load_adr_s ef_load_adr_sl atN_nil atN_zero atN_succ ef_load_oad ef_store ef_slice ef_slices ef_make ef_alloc ef_box ef_build ef_bslice ef_app_own ef_app_nil ef_b2i ef_i2b ef_i2i ef_same ef_ext ret1 ret2_some calL_some ef_call retC_i retC_y retC_b retC_s retC_st retC_sl retC_np retC_fr retC_ref retC_tup rk_nil rk_i rk_y rk_b rk_s rk_st rk_sl rk_own rk_oad rk_nl ok_nil ok_i ok_y ok_b ok_s ok_st ok_sl ok_own ok_oad ok_nl lo_nil lo_i lo_y lo_b lo_s lo_st lo_sl lo_own lo_oad lo_nl pr_nil pr_i pr_y pr_b pr_s pr_st pr_sl pr_own pr_nl pr_oad nr_i nr_y nr_b nr_s nr_st nr_sl nr_fr nr_np nr_tup ng_i ng_b ng_s ng_fr ng_nil resV effP_eff binD bi_add bi_sub bi_mul bi_quo bi_rem bi_eql bi_neq bi_lss bi_leq bi_gtr bi_geq bi_shl bi_shr bi_and bi_or bi_xor bi_andNot binY binS unD look put putD LS.get LS.drop killE sweep lookO putO dropO enter leave giveBackL giveBack outs lendArgs lendArg newOuts takeIn takeInL lendL DV.lend adoptL DV.adopt elems apartKs part DV.cells unpart settle settleL over mkId szId fillP fillE tk_e2 tk_i tk_y lt_e2 lt_i lt_y lend_rep al_e2 al_is al_ys al_rep al_app lend_app adopt_app new_app lend_e2 lend_i lend_y adopt_e2 adopt_i adopt_y new_e2 new_i allNewL DV.allNew bounds sliceD sliceS em_w em_q em_r em_fn em_tup_w em_tup_q em_tup_r mm_w mm_q mm_r mm_fn ef_load_adr_w ef_load_adr_q ef_load_adr_r retC_w retC_q retC_r rk_w rk_q rk_r rk_fn ok_w ok_q ok_r ok_fn lo_w lo_q lo_r lo_fn pr_w pr_q pr_r pr_fn nr_w nr_q nr_r ng_w ng_q ng_r oa_w oa_q oa_r oa_fn al_w al_q al_r al_fn ov_w ov_q ov_r ov_fn so_w so_q so_r so_fn il_w il_q il_r il_fn oi_w oi_q oi_r oi_fn av_w av_q av_r av_fn nm_w nm_q nm_r nm_fn ef_i2r ef_r2s ef_mkfn ef_mkbd ef_idxp_adr ef_idxp_q ef_calld_nil ef_calld_adr ef_calld_bd DV.capB capsOk DV.cell List.all_cons List.all_nil rk_own_t lo_own_t lk_f lk_t pr_own_t mutB ak_calld hk_calld iw_calld iw_mkfn iw_i2r iw_r2s bw_and bw_or bw_xor bw_andNot bw_eql bw_neq sw_shl sw_shr sq_shl gEnv_nil rk_adr ok_adr lo_adr pr_adr oa_adr capL capArg DV.cap ak_mkfn hk_mkfn hk_mkbd ef_callm gf_ap ga_nil ga_cons tgv_own gk_e gk_giv gk_i gk_y gk_b gk_s gk_w gk_q gk_r gk_fn gk_st gk_sl gk_own gk_oad gk_adr gk_nl gk_np rk_giv ok_giv lo_giv pr_giv oa_giv iw_callm hk_callm ak_callm is_callm ia_callm tg_callm md_callm ef_i2q ef_q2i ef_q2q iw_i2q iw_q2i iw_q2q ia_i2q ia_q2i ia_q2q bq_and bq_add bq_shr sq_shr tgv_nil gk_ref rk_ref ok_ref lo_ref pr_ref oa_ref retC_fn nr_fn ef_load_adr_fn ks_close cls_oad
attribute [local congr] nxM_congr ifP_congr nxP_congr nxR_congr nxT_congr nxG_congr nxF_congr ghK_congr gate_congr nx_congr nxD_congr runL_congr runD_congr eff_congr calL_congr ret2_congr seqK_congr regK_congr condK_congr endK_congr drK_congr nxW_congr
attribute [local simp ↓] nxM_some rm_nil rm_one rm_gen nxT_some rt_nil rt_gen rt_gate nxP_some rq_nil rq_gen rq_gate nxR_some ru_nil ru_gen ru_gate nxG_some rg_nil rg_gen rg_gate nxF_some rf_nil rf_gen rf_gate ks_promote ks_freeze frz_own ks_rename ghK_some gate_tt gate_tf gate_ft gate_ff gate_u nx_some nxD_some rl_nil rl_mv rl_gen rl_gate rd_nil rd_mv rd_gen rd_gate rd_free rr_false rr_true drK_some drK_none nxW_some rw_nil rw_gen rw_gate ks_region ks_seq ks_cond ks_block seqK_n seqK_e seqK_r regK_some condK_t condK_f blkK_n blkK_r endK_n endK_r calL_some ret2_some opv_t opv_c
section
theorem c_impl_isWithin (a b c : Int) : call lf n_impl_isWithin [.i a, .i b, .i c] = some (.b (decide (b ≤ a ∧ a ≤ c)), []) := by
  rw [call_k lf n_impl_isWithin _ (F := F_impl_isWithin) rfl rfl]
  by_cases h : b ≤ a <;> simp [F_impl_isWithin, h]
theorem c_spec_l1In (a b c : Int) : call lf n_spec_l1In [.i a, .i b, .i c] = some (.b (decide (b ≤ a ∧ a ≤ c)), []) := by
  rw [call_k lf n_spec_l1In _ (F := F_spec_l1In) rfl rfl]
  by_cases h : b ≤ a <;> simp [F_spec_l1In, h]
theorem c_impl_manyOk (a : Int) : call lf n_impl_manyOk [.i a] = some (.b (nOk a), []) := by
  rw [call_k lf n_impl_manyOk _ (F := F_impl_manyOk) rfl rfl]
  simp [F_impl_manyOk, c_impl_isWithin, nOk]

theorem l_impl_TestsOk (n : Int) (hb : n < 1099511627776) (es : List DV) (rest : List T) : ∀ k : Int, 0 ≤ k → k + (rest.map e2).length = n → es.drop k.toNat = rest.map e2 →
    ex lf F_impl_TestsOk_W0 ⟨[(9, .sl 0 es), (10, .i n), (11, .i k)], []⟩ =
    if rest.all tOk then some (.exit 0, ⟨[(9, .sl 0 es), (10, .i n), (11, .i n)], []⟩) else some (.ret, ⟨[(2, .b false)], []⟩) := by
  induction rest with
  | nil =>
    intro k h0 hn hd
    rw [w_impl_TestsOk_0]
    have hk : k = n := by simpa using hn
    simp [F_impl_TestsOk_L0, hk]
  | cons t rest ih =>
    intro k h0 hn hd
    obtain ⟨q1, q2, q3, q4, q5, q6⟩ := stp h0 hn hb hd
    have ih := ih (k + 1) q4 q5 q6
    simp only [e2] at q2
    rw [w_impl_TestsOk_0]
    have xt := tOk_def t
    cases x1 : decide (1 ≤ t.1 ∧ t.1 ≤ 9) <;> cases x2 : decide (1 ≤ t.2 ∧ t.2 ≤ 5) <;> rw [x1, x2] at xt <;> simp [F_impl_TestsOk_L0, q1, q2, q3, c_impl_isWithin, ih, xt, x1, x2, -List.all_eq_true]
theorem c_impl_TestsOk (ts : List T) (hb : (ts.length : Int) < 1099511627776) : call lf n_impl_TestsOk [.sl 0 (ts.map e2)] = some (.b (tsOk ts), []) := by
  rw [call_k lf n_impl_TestsOk _ (F := F_impl_TestsOk) rfl rfl]
  have L := l_impl_TestsOk ts.length hb (ts.map e2) ts 0 (by omega) (by simp) (by simp)
  cases h1 : nOk ts.length <;> cases h2 : ts.all tOk <;> simp [F_impl_TestsOk, c_impl_manyOk, L, h1, h2, tsOk]

theorem l_spec_TestsOk (n : Int) (hb : n < 1099511627776) (es : List DV) (hE : (es.length : Int) = n) (rest : List T) : ∀ k : Int, 0 ≤ k → k + (rest.map e2).length = n → es.drop k.toNat = rest.map e2 →
    ex lf F_spec_TestsOk_W0 ⟨[(0, .sl 0 es), (3, .i k)], []⟩ =
    if rest.all tOk then some (.exit 0, ⟨[(0, .sl 0 es), (3, .i n)], []⟩) else some (.ret, ⟨[(2, .b false)], []⟩) := by
  induction rest with
  | nil =>
    intro k h0 hn hd
    rw [w_spec_TestsOk_0]
    have hk : k = n := by simpa using hn
    simp [F_spec_TestsOk_L0, hk, hE]
  | cons t rest ih =>
    intro k h0 hn hd
    obtain ⟨q1, q2, q3, q4, q5, q6⟩ := stp h0 hn hb hd
    have ih := ih (k + 1) q4 q5 q6
    simp only [e2] at q2
    rw [w_spec_TestsOk_0]
    have xt := tOk_def t
    cases x1 : decide (1 ≤ t.1 ∧ t.1 ≤ 9) <;> cases x2 : decide (1 ≤ t.2 ∧ t.2 ≤ 5) <;> rw [x1, x2] at xt <;> simp [F_spec_TestsOk_L0, q1, q2, q3, hE, c_spec_l1In, ih, xt, x1, x2, -List.all_eq_true]
theorem c_spec_TestsOk (ts : List T) (hb : (ts.length : Int) < 1099511627776) : call lf n_spec_TestsOk [.sl 0 (ts.map e2)] = some (.b (tsOk ts), []) := by
  rw [call_k lf n_spec_TestsOk _ (F := F_spec_TestsOk) rfl rfl]
  have L := l_spec_TestsOk ts.length hb (ts.map e2) (by simp) ts 0 (by omega) (by simp) (by simp)
  cases h2 : ts.all tOk <;> simp [F_spec_TestsOk, c_spec_l1In, L, h2, tsOk, nOk]

theorem nOk_iff {a : Int} : nOk a = true ↔ 1 ≤ a ∧ a ≤ 5 := by simp [nOk]
theorem tsOk_iff {ts : List T} : tsOk ts = true ↔ (1 ≤ (ts.length : Int) ∧ (ts.length : Int) ≤ 5) ∧ ts.all tOk = true := by
  rw [tsOk, Bool.and_eq_true, nOk_iff]
end
section
theorem p2 {ts : List T} (h : tsOk ts = true) : 1 ≤ (2 : Nat) ^ ts.length ∧ (2 : Nat) ^ ts.length ≤ 32 ∧ ((2 ^ ts.length : Nat) : Int) = 2 ^ ts.length := by
  have h' := tsOk_iff.1 h
  have a : (2 : Nat) ^ ts.length ≤ 2 ^ 5 := Nat.pow_le_pow_right (by omega) (by omega)
  exact ⟨Nat.pow_pos (by omega), by omega, by simp⟩
def ot (ts : List T) (i : Nat) : List DV := ((ts.take i).map other).map e2
def cn (ts : List T) (i : Nat) : List DV := ot ts i ++ List.replicate (ts.length - i) (.st [.i 0, .i 0])
end
section
/-- a mark read with p parts before it -/
def mkS (m p : Int) (t : T) : Option Int :=
  if t.1 = 0 then (if 0 ≤ t.2 ∧ t.2 < m then some (p + 1) else none)
  else if t.1 = 1 then (if t.2 = 0 ∧ 1 ≤ p then some p else none)
  else if t.1 = 2 ∨ t.1 = 3 then (if t.2 = 0 ∧ 2 ≤ p then some (p - 1) else none)
  else none
def runM (m : Int) : Int → List T → Option Int
  | p, [] => some p
  | p, t :: r => match mkS m p t with
    | some q => runM m q r
    | none => none
end
section
/-- how many parts a mark takes -/
def taken (k : Int) : Nat := if k = 0 then 0 else if k = 1 then 1 else 2
def stepG {P : Type} (mk : T → List P → P) (st : List P) (t : T) : List P := st.take (st.length - taken t.1) ++ [mk t (st.drop (st.length - taken t.1))]
def yesW (a : Nat) : BitVec 32 := match a with
  | 0 => 2863311530#32
  | 1 => 3435973836#32
  | 2 => 4042322160#32
  | 3 => 4278255360#32
  | _ => 4294901760#32
def mkW (t : T) (ps : List (BitVec 32)) : BitVec 32 :=
  if t.1 = 0 then yesW t.2.toNat else if t.1 = 1 then ~~~(ps.getD 0 0) else if t.1 = 2 then ps.getD 0 0 &&& ps.getD 1 0 else ps.getD 0 0 ||| ps.getD 1 0
def tsW (ts : List T) : BitVec 32 := (ts.foldl (stepG mkW) []).headD 0
/-- the value of a term in a state -/
def tv (ts : List T) (s : Nat) : Bool := (tsW ts).getLsbD s
end
section
theorem xor_bound {a b : Int} (h1 : 0 ≤ a) (h2 : a < 4611686018427387904) (h3 : 0 ≤ b) (h4 : b < 4611686018427387904) : 0 ≤ xorI a b ∧ xorI a b < 4611686018427387904 := by
  have e : (BitVec.ofInt 64 a ^^^ BitVec.ofInt 64 b).toNat = a.toNat ^^^ b.toNat := by
    simp only [BitVec.toNat_xor, BitVec.toNat_ofInt]
    congr 1 <;> omega
  have k : a.toNat ^^^ b.toNat < 2 ^ 62 := Nat.xor_lt_two_pow (by omega) (by omega)
  unfold xorI
  rw [e, wr_id (by omega) (by omega)]
  omega
def hs (bs : List Nat) (p : Int) : Int := (bs.getD (p.tmod bs.length).toNat 0 : Nat) * 131 + (bs.getD ((p * 7 + 3).tmod bs.length).toNat 0 : Nat) * 1117 + p * 29 + p.tdiv bs.length * 53
def pk (bs : List Nat) (p n : Int) : Int := if bs.length = 0 then 0 else if p < bs.length then ((bs.getD p.toNat 0 : Nat) : Int).tmod n else (xorI (hs bs p) ((hs bs p).tdiv 64)).tmod n
theorem byte_lt {bs : List Nat} (hb : ∀ y ∈ bs, y < 256) (i : Nat) : bs.getD i 0 < 256 := by
  by_cases h : i < bs.length
  · have : bs.getD i 0 = bs[i] := by simp [List.getD, h]
    rw [this]
    exact hb _ (List.getElem_mem h)
  · have : bs.getD i 0 = 0 := by simp [List.getD, List.getElem?_eq_none (by omega : bs.length ≤ i)]
    omega
theorem tdiv_bound {p l : Int} (h0 : 0 ≤ p) (hl : 1 ≤ l) : 0 ≤ p.tdiv l ∧ p.tdiv l ≤ p := by
  rw [Int.tdiv_eq_ediv_of_nonneg h0]
  exact ⟨Int.ediv_nonneg h0 (by omega), Int.ediv_le_self _ h0⟩
theorem tmod_bound {p l : Int} (h0 : 0 ≤ p) (hl : 1 ≤ l) : 0 ≤ p.tmod l ∧ p.tmod l < l := by
  rw [Int.tmod_eq_emod_of_nonneg h0]
  exact ⟨Int.emod_nonneg _ (by omega), Int.emod_lt_of_pos _ (by omega)⟩
theorem hs_bound {bs : List Nat} (hb : ∀ y ∈ bs, y < 256) {p : Int} (h0 : 0 ≤ p) (h1 : p ≤ 1000000) (hl : 1 ≤ bs.length) : 0 ≤ hs bs p ∧ hs bs p < 1000000000 := by
  have a := byte_lt hb (p.tmod bs.length).toNat
  have b := byte_lt hb ((p * 7 + 3).tmod bs.length).toNat
  have c := tdiv_bound (p := p) (l := bs.length) h0 (by omega)
  unfold hs
  omega
theorem pk_bound {bs : List Nat} (hb : ∀ y ∈ bs, y < 256) {p n : Int} (h0 : 0 ≤ p) (h1 : p ≤ 1000000) (hn : 1 ≤ n) : 0 ≤ pk bs p n ∧ pk bs p n < n := by
  unfold pk
  split
  · omega
  · split
    · exact tmod_bound (by omega) hn
    · have a := hs_bound hb h0 h1 (by omega)
      have b := tdiv_bound (p := hs bs p) (l := 64) a.1 (by omega)
      have c := xor_bound a.1 (by omega) b.1 (by omega)
      exact tmod_bound c.1 hn
theorem atI_y {bs : List Nat} {i : Int} (h0 : 0 ≤ i) (h1 : i < bs.length) : atI (bs.map .y) i = some (.y (bs.getD i.toNat 0)) := by
  have : i.toNat < bs.length := by omega
  simp [atI, h0, List.getD, this]

theorem c_pick {bs : List Nat} (hb : ∀ y ∈ bs, y < 256) (hl : bs.length ≤ 2000) {p n : Int} (h0 : 0 ≤ p) (h1 : p < 1000000) (hn : 1 ≤ n) :
    call lf n_spec_l20Rd_pick [.ref (.st [.sl 0 (bs.map .y), .i p]), .i n] = some (.i (pk bs p n), [.st [.sl 0 (bs.map .y), .i (p + 1)]]) := by
  rw [call_k lf n_spec_l20Rd_pick _ (F := F_spec_l20Rd_pick) rfl rfl]
  have w1 : wr (p + 1) = p + 1 := wr_id (by omega) (by omega)
  have w2 : wr p = p := wr_id (by omega) (by omega)
  have n1 : ¬ n < 1 := by omega
  have n2 : ¬ n = 0 := by omega
  by_cases e : bs.length = 0
  · have e1 : ((bs.length : Int) == 0) = true := by rw [e]; rfl
    simp [F_spec_l20Rd_pick, w1, n1, e1, pk, e]
  · have e1 : ((bs.length : Int) == 0) = false := beq_eq_false_iff_ne.2 (by omega)
    by_cases f : p < bs.length
    · have a := atI_y (bs := bs) h0 f
      simp [F_spec_l20Rd_pick, w1, w2, n1, n2, e1, pk, e, f, a]
    · have lpos : (1 : Int) ≤ bs.length := by omega
      have l0 : ¬ bs = [] := fun h => e (by rw [h]; rfl)
      have t1 := tmod_bound h0 lpos
      have t2 := tmod_bound (p := p * 7 + 3) (by omega) lpos
      have a1 := atI_y t1.1 t1.2
      have a2 := atI_y t2.1 t2.2
      have b1 := byte_lt hb (p.tmod bs.length).toNat
      have b2 := byte_lt hb ((p * 7 + 3).tmod bs.length).toNat
      have d := tdiv_bound h0 lpos
      have H := hs_bound hb h0 (by omega) (by omega : 1 ≤ bs.length)
      have hd : hs bs p = (bs.getD (p.tmod bs.length).toNat 0 : Nat) * 131 + (bs.getD ((p * 7 + 3).tmod bs.length).toNat 0 : Nat) * 1117 + p * 29 + p.tdiv bs.length * 53 := rfl
      have hp : pk bs p n = (xorI (hs bs p) ((hs bs p).tdiv 64)).tmod n := by unfold pk; rw [if_neg e, if_neg f]
      generalize bs.getD (p.tmod bs.length).toNat 0 = u at *
      generalize bs.getD ((p * 7 + 3).tmod bs.length).toNat 0 = v at *
      have v1 : wr (p * 7) = p * 7 := wr_id (by omega) (by omega)
      have v2 : wr (p * 7 + 3) = p * 7 + 3 := wr_id (by omega) (by omega)
      have v3 : wr ((u : Int) * 131) = u * 131 := wr_id (by omega) (by omega)
      have v4 : wr ((v : Int) * 1117) = v * 1117 := wr_id (by omega) (by omega)
      have v5 : wr ((u : Int) * 131 + v * 1117) = u * 131 + v * 1117 := wr_id (by omega) (by omega)
      have v6 : wr (p * 29) = p * 29 := wr_id (by omega) (by omega)
      have v7 : wr ((u : Int) * 131 + v * 1117 + p * 29) = u * 131 + v * 1117 + p * 29 := wr_id (by omega) (by omega)
      have v8 : wr (p.tdiv bs.length) = p.tdiv bs.length := wr_id (by omega) (by omega)
      have v9 : wr (p.tdiv bs.length * 53) = p.tdiv bs.length * 53 := wr_id (by omega) (by omega)
      have va : wr ((u : Int) * 131 + v * 1117 + p * 29 + p.tdiv bs.length * 53) = hs bs p := by rw [hd]; exact wr_id (by omega) (by omega)
      have b := tdiv_bound (p := hs bs p) (l := 64) H.1 (by omega)
      have vb : wr ((hs bs p).tdiv 64) = (hs bs p).tdiv 64 := wr_id (by omega) (by omega)
      simp [F_spec_l20Rd_pick, w1, w2, n1, n2, e1, f, l0, a1, a2, v1, v2, v3, v4, v5, v6, v7, v8, v9, va, vb, hp]
theorem c_odd {bs : List Nat} (hb : ∀ y ∈ bs, y < 256) (hl : bs.length ≤ 2000) {p n : Int} (h0 : 0 ≤ p) (h1 : p < 1000000) (hn : 1 ≤ n) (hn2 : n ≤ 1000000) :
    call lf n_spec_l20Rd_odd [.ref (.st [.sl 0 (bs.map .y), .i p]), .i n] = some (.b (pk bs p n == n - 1), [.st [.sl 0 (bs.map .y), .i (p + 1)]]) := by
  rw [call_k lf n_spec_l20Rd_odd _ (F := F_spec_l20Rd_odd) rfl rfl]
  have n1 : 0 < n := by omega
  have w : wr (n - 1) = n - 1 := wr_id (by omega) (by omega)
  simp [F_spec_l20Rd_odd, n1, w, c_pick hb hl h0 h1 hn]
theorem c_open {bs : List Nat} (hl : bs.length ≤ 1048576) : call lf n_spec_l20Open [.sl 0 (bs.map .y)] = some (.ref (.st [.sl 0 ((bs.take 2000).map .y), .i 0]), []) := by
  rw [call_k lf n_spec_l20Open _ (F := F_spec_l20Open) rfl rfl]
  by_cases h : 2000 < (bs.length : Int)
  · have h2 : (2000 : Int) ≤ bs.length := by omega
    have h3 : ∀ x ∈ bs, (DV.y x).cells.length = 1 := fun _ _ => rfl
    simp [F_spec_l20Open, h, h2, List.map_take]
  · have h2 : bs.take 2000 = bs := List.take_of_length_le (by omega)
    simp [F_spec_l20Open, h, h2]

theorem l_l20Tests {bs : List Nat} (hb : ∀ y ∈ bs, y < 256) (hl : bs.length ≤ 2000) (nn : Int) (j : Nat) : ∀ (p : Int) (ts : List T), 0 ≤ p → p + 2 * j < 900000 → ts.length + j ≤ 100 →
    ∃ us : List T, us.length = ts.length + j ∧
    ex lf F_spec_l20Tests_W0 ⟨[(0, .oad 23 1 0 0), (1, .i nn), (5, .own 3600 ts.length 0 ts.length), (6, .i j)], [(23, [.st [.sl 0 (bs.map .y), .i p]]), (3600, ts.map e2)]⟩ =
      some (.exit 0, ⟨[(0, .oad 23 1 0 0), (1, .i nn), (5, .own 3600 us.length 0 us.length), (6, .i 0)], [(23, [.st [.sl 0 (bs.map .y), .i (p + 2 * j)]]), (3600, us.map e2)]⟩) := by
  induction j with
  | zero =>
    intro p ts h0 h1 h2
    refine ⟨ts, by omega, ?_⟩
    rw [w_spec_l20Tests_0]
    simp [F_spec_l20Tests_L0]
  | succ j ih =>
    intro p ts h0 h1 h2
    have a1 := pk_bound hb h0 (by omega : p ≤ 1000000) (by omega : (1 : Int) ≤ 9)
    have a2 := pk_bound hb (by omega : 0 ≤ p + 1) (by omega : p + 1 ≤ 1000000) (by omega : (1 : Int) ≤ 5)
    have k1 := c_pick hb hl h0 (by omega : p < 1000000) (by omega : (1 : Int) ≤ 9)
    have k2 := c_pick hb hl (by omega : 0 ≤ p + 1) (by omega : p + 1 < 1000000) (by omega : (1 : Int) ≤ 5)
    have w1 : wr (1 + pk bs p 9) = 1 + pk bs p 9 := wr_id (by omega) (by omega)
    have w2 : wr (1 + pk bs (p + 1) 5) = 1 + pk bs (p + 1) 5 := wr_id (by omega) (by omega)
    have w3 : wr (j : Int) = j := wr_id (by omega) (by omega)
    obtain ⟨us, u1, u2⟩ := ih (p + 1 + 1) (ts ++ [(1 + pk bs p 9, 1 + pk bs (p + 1) 5)]) (by omega) (by omega) (by simp; omega)
    refine ⟨us, by rw [u1]; simp; omega, ?_⟩
    rw [w_spec_l20Tests_0]
    have c1 : (0 : Int) < (j : Int) + 1 := by omega
    have c2 : ts.length + 1 ≤ bound := by unfold bound; omega
    simp [e2, Int.natCast_add] at u2
    rw [show p + 2 * ((j + 1 : Nat) : Int) = p + 1 + 1 + 2 * j by omega]
    simp [F_spec_l20Tests_L0, c1, c2, k1, k2, w1, w2, w3, e2, u2]
theorem c_l20Tests {bs : List Nat} (hb : ∀ y ∈ bs, y < 256) (hl : bs.length ≤ 2000) {p n : Int} (h0 : 0 ≤ p) (h1 : p < 800000) (hn : 1 ≤ n) (hn2 : n ≤ 1000000) :
    ∃ (us : List T) (p' : Int), us.length ≤ 5 ∧ p ≤ p' ∧ p' ≤ p + 20 ∧ call lf n_spec_l20Tests [.ref (.st [.sl 0 (bs.map .y), .i p]), .i n] = some (.fr 2 (us.map e2), [.st [.sl 0 (bs.map .y), .i p']]) := by
  have a1 := pk_bound hb h0 (by omega : p ≤ 1000000) (by omega : (1 : Int) ≤ 5)
  have k1 := c_pick hb hl h0 (by omega : p < 1000000) (by omega : (1 : Int) ≤ 5)
  obtain ⟨j, hj⟩ : ∃ j : Nat, 1 + pk bs p 5 = j := ⟨(1 + pk bs p 5).toNat, by omega⟩
  have w1 : wr (j : Int) = j := wr_id (by omega) (by omega)
  obtain ⟨us, u1, u2⟩ := l_l20Tests hb hl n j (p + 1) [] (by omega) (by omega) (by simp; omega)
  simp at u1 u2
  have q0 : 0 ≤ p + 1 + 2 * (j : Int) := by omega
  have k2 := c_odd hb hl q0 (by omega) hn hn2
  generalize hq : p + 1 + 2 * (j : Int) = q at *
  cases ho : (pk bs q n == n - 1) with
  | false =>
    rw [ho] at k2
    refine ⟨us, q + 1, by omega, by omega, by omega, ?_⟩
    rw [call_k lf n_spec_l20Tests _ (F := F_spec_l20Tests) rfl rfl]
    simp [F_spec_l20Tests, k1, hj, w1, u2, k2]
  | true =>
    rw [ho] at k2
    have k3 := c_pick hb hl (by omega : 0 ≤ q + 1) (by omega : q + 1 < 1000000) (by omega : (1 : Int) ≤ 3)
    have a3 := pk_bound hb (by omega : 0 ≤ q + 1) (by omega : q + 1 ≤ 1000000) (by omega : (1 : Int) ≤ 3)
    have k4 := c_pick hb hl (by omega : 0 ≤ q + 1 + 1) (by omega : q + 1 + 1 < 1000000) (by omega : (1 : Int) ≤ 2)
    have a4 := pk_bound hb (by omega : 0 ≤ q + 1 + 1) (by omega : q + 1 + 1 ≤ 1000000) (by omega : (1 : Int) ≤ 2)
    match us, u1 with
    | [], u1 => simp at u1; omega
    | t :: r, u1 =>
      simp [e2, Int.natCast_add] at u2
      generalize pk bs (q + 1) 3 = x3 at *
      generalize pk bs (q + 1 + 1) 2 = x4 at *
      have c3 : x3 = 0 ∨ x3 = 1 ∨ x3 = 2 := by omega
      have c4 : x4 = 0 ∨ x4 = 1 := by omega
      have e0 : ∀ (a b : Int), DV.st [.i a, .i b] = e2 (a, b) := fun _ _ => rfl
      rcases c3 with rfl | rfl | rfl
      · refine ⟨[], q + 1 + 1, by simp, by omega, by omega, ?_⟩
        rw [call_k lf n_spec_l20Tests _ (F := F_spec_l20Tests) rfl rfl]
        simp [F_spec_l20Tests, k1, hj, w1, u2, k2, k3]
      · rcases c4 with rfl | rfl
        · refine ⟨(0, t.2) :: r, q + 1 + 1 + 1, by simp at u1 ⊢; omega, by omega, by omega, ?_⟩
          rw [call_k lf n_spec_l20Tests _ (F := F_spec_l20Tests) rfl rfl]
          simp [F_spec_l20Tests, k1, hj, w1, u2, k2, k3, k4, e2]
        · refine ⟨(10, t.2) :: r, q + 1 + 1 + 1, by simp at u1 ⊢; omega, by omega, by omega, ?_⟩
          rw [call_k lf n_spec_l20Tests _ (F := F_spec_l20Tests) rfl rfl]
          simp [F_spec_l20Tests, k1, hj, w1, u2, k2, k3, k4, e2]
      · rcases c4 with rfl | rfl
        · refine ⟨(t.1, 0) :: r, q + 1 + 1 + 1, by simp at u1 ⊢; omega, by omega, by omega, ?_⟩
          rw [call_k lf n_spec_l20Tests _ (F := F_spec_l20Tests) rfl rfl]
          simp [F_spec_l20Tests, k1, hj, w1, u2, k2, k3, k4, e2]
        · refine ⟨(t.1, 6) :: r, q + 1 + 1 + 1, by simp at u1 ⊢; omega, by omega, by omega, ?_⟩
          rw [call_k lf n_spec_l20Tests _ (F := F_spec_l20Tests) rfl rfl]
          simp [F_spec_l20Tests, k1, hj, w1, u2, k2, k3, k4, e2]

theorem take_b {bs : List Nat} (hb : ∀ y ∈ bs, y < 256) : (∀ y ∈ bs.take 2000, y < 256) ∧ (bs.take 2000).length ≤ 2000 :=
  ⟨fun y h => hb y (List.mem_of_mem_take h), by simp; omega⟩
end
section
theorem cells_st (cs : List DV) : (DV.st cs).cells = cs := rfl
theorem cells_sl (p : Nat) (es : List DV) : (DV.sl p es).cells = [DV.sl p es] := rfl
theorem cells_i (n : Int) : (DV.i n).cells = [DV.i n] := rfl
theorem cells_y (n : Nat) : (DV.y n).cells = [DV.y n] := rfl
theorem cells_b (n : Bool) : (DV.b n).cells = [DV.b n] := rfl
theorem cells_s (n : List UInt8) : (DV.s n).cells = [DV.s n] := rfl
attribute [-simp] DV.cells
attribute [local simp] cells_st cells_sl cells_i cells_y cells_b cells_s
def row (t : List T) : DV := .sl 1 (t.map e2)
theorem flat_set (m : T) : ∀ {ps : List (List T)} {A : Nat} {t : List T}, ps[A]? = some t → (ps.set A (t ++ [m])).flatten.length = ps.flatten.length + 1
  | [], _, _, h => by simp at h
  | x :: ps, 0, t, h => by simp at h; subst h; simp; omega
  | x :: ps, A + 1, t, h => by
    simp only [List.getElem?_cons_succ] at h
    have := flat_set m h
    simp at this ⊢
    omega
theorem flat_len : ∀ {ps : List (List T)} {A : Nat} {t : List T}, ps[A]? = some t → t.length ≤ ps.flatten.length
  | [], _, _, h => by simp at h
  | x :: ps, 0, t, h => by simp at h; subst h; simp
  | x :: ps, A + 1, t, h => by
    simp only [List.getElem?_cons_succ] at h
    have := flat_len h
    simp only [List.flatten_cons, List.length_append]; omega
end
section
attribute [-simp] DV.cells
attribute [local simp] cells_st cells_sl cells_i cells_y cells_b cells_s
theorem cells_w (x : BitVec 32) : (DV.w x).cells = [DV.w x] := rfl
attribute [local simp] cells_w
end
section
attribute [-simp] DV.cells
attribute [local simp] cells_st cells_sl cells_i cells_y cells_b cells_s cells_w
attribute [-simp] sliceD
def bI (b : Bool) : Int := if b then 1 else 0
end
section
attribute [-simp] DV.cells sliceD
attribute [local simp] cells_st cells_sl cells_i cells_y cells_b cells_s cells_w
theorem bit_bI {a s : Nat} (hs : s ≤ 60) : (shrI (a : Int) (s : Int)).tmod 2 = bI (a.testBit s) := by
  rw [shr1 (by omega) (by omega), tmod2 (Int.ediv_nonneg (by omega) (Int.le_of_lt (Int.pow_pos (by omega))))]
  unfold bI
  rw [Nat.testBit_eq_decide_div_mod_eq, Int.toNat_natCast]
  have : (a : Int) / 2 ^ s % 2 = ((a / 2 ^ s % 2 : Nat) : Int) := by simp
  rw [this]
  by_cases h : a / 2 ^ s % 2 = 1
  · simp [h]
  · have : a / 2 ^ s % 2 = 0 := by omega
    simp [this]
theorem pow5 {m : Int} (h1 : 1 ≤ m) (h5 : m ≤ 5) : 2 ≤ 2 ^ m.toNat ∧ 2 ^ m.toNat ≤ 32 ∧ ((2 ^ m.toNat : Nat) : Int) = 2 ^ m.toNat := by
  have c : m = 1 ∨ m = 2 ∨ m = 3 ∨ m = 4 ∨ m = 5 := by omega
  rcases c with rfl | rfl | rfl | rfl | rfl <;> decide
end
section
attribute [-simp] DV.cells sliceD
attribute [local simp] cells_st cells_sl cells_i cells_y cells_b cells_s cells_w
/-- 1 if f holds wherever g does below N, 0 if nowhere, else -1 -/
def fo (f g : Nat → Bool) (N : Nat) : Int := if allTo (fun s => !g s || f s) N then 1 else if allTo (fun s => !g s || !f s) N then 0 else -1
/-- What the states say that agree. -/
def agB (ks : List Int) (s : Nat) : Bool := ag ks (s : Int)
end
section
attribute [-simp] DV.cells sliceD
attribute [local simp] cells_st cells_sl cells_i cells_y cells_b cells_s cells_w
/-- what is known of a term by what is known of its tests -/
def foT (m : Int) (ts : List T) (ks : List Int) : Int := fo (tv ts) (agB ks) (2 ^ m.toNat)
def told (m : Nat) (st so : Nat) : List Int := (List.range m).map fun k => if so.testBit k then bI (st.testBit k) else -1
theorem bI_eq1 (b : Bool) : (bI b == 1) = b := by cases b <;> rfl
end
section
attribute [-simp] DV.cells sliceD
attribute [local simp] cells_st cells_sl cells_i cells_y cells_b cells_s cells_w
def agW : List Int → Nat → BitVec 32 → BitVec 32
  | [], _, w => w
  | k :: r, i, w => agW r (i + 1) (if k = 0 then w &&& ~~~(yesW i) else if k = 1 then w &&& yesW i else w)
end
section
attribute [-simp] DV.cells sliceD
attribute [local simp] cells_st cells_sl cells_i cells_y cells_b cells_s cells_w
theorem div_bI (a s : Nat) : (a : Int) / 2 ^ s % 2 = bI (a.testBit s) := by
  unfold bI
  rw [Nat.testBit_eq_decide_div_mod_eq]
  have : (a : Int) / 2 ^ s % 2 = ((a / 2 ^ s % 2 : Nat) : Int) := by simp
  rw [this]
  by_cases h : a / 2 ^ s % 2 = 1
  · simp [h]
  · have : a / 2 ^ s % 2 = 0 := by omega
    simp [this]
theorem c_impl_hasTest (so k : Nat) (hk : k ≤ 40) : call lf n_impl_hasTest [.i so, .i k] = some (.b (so.testBit k), []) := by
  rw [call_k lf n_impl_hasTest _ (F := F_impl_hasTest) rfl rfl]
  have ni : ¬ (k : Int) < 0 := by omega
  have e : andI (shrI (so : Int) (k : Int)) 1 = bI (so.testBit k) := by
    rw [bit_and, shr1 (by omega) (by omega), Int.toNat_natCast, div_bI]
  simp [F_impl_hasTest, ni, e, bI_eq1]
end
section
theorem c_alive : call lf n_laws_alive [] = some (.b true, []) := by
  rw [call_k lf n_laws_alive _ (F := F_laws_alive) rfl rfl]
  have a := c_impl_TestsOk [(1, 1)] (by simp)
  have b := c_impl_TestsOk [(0, 0)] (by simp)
  have a1 : tsOk [(1, 1)] = true := by decide
  have b1 : tsOk [(0, 0)] = false := by decide
  rw [a1] at a
  rw [b1] at b
  simp [e2] at a b
  simp [F_laws_alive, a, b]
end
section
attribute [-simp] DV.cells
attribute [local simp] cells_st cells_sl cells_i cells_y cells_b cells_s cells_w
theorem or_fin : ∀ (s : _root_.Fin 32) (k : _root_.Fin 5), orI (s.val : Int) ((2 : Int) ^ k.val) = ((s.val ||| 2 ^ k.val : Nat) : Int) := by decide +kernel
theorem or_nat {s k : Nat} (hs : s < 32) (hk : k < 5) : orI (s : Int) ((2 : Int) ^ k) = ((s ||| 2 ^ k : Nat) : Int) := or_fin ⟨s, hs⟩ ⟨k, hk⟩
end
section
/-- each of the tests once, from those on that some tests are -/
def orS (m : Int) : Nat → List Int → Bool
  | _, [] => true
  | so, a :: r => decide (0 ≤ a ∧ a < m) && !so.testBit a.toNat && orS m (so ||| 2 ^ a.toNat) r
def orOk (m : Int) (os : List Int) : Bool := nOk m && decide ((os.length : Int) = m) && orS m 0 os
def setO : Nat → List Int → Nat
  | so, [] => so
  | so, a :: r => setO (so ||| 2 ^ a.toNat) r
theorem orS_cons {m : Int} {so : Nat} {a : Int} {r : List Int} : orS m so (a :: r) = true ↔ (0 ≤ a ∧ a < m) ∧ so.testBit a.toNat = false ∧ orS m (so ||| 2 ^ a.toNat) r = true := by
  simp [orS, and_assoc]
theorem orOk_iff {m : Int} {os : List Int} : orOk m os = true ↔ (1 ≤ m ∧ m ≤ 5) ∧ (os.length : Int) = m ∧ orS m 0 os = true := by
  rw [orOk, Bool.and_eq_true, Bool.and_eq_true, nOk_iff, decide_eq_true_eq, and_assoc]
theorem setO_app : ∀ (so : Nat) (p q : List Int), setO so (p ++ q) = setO (setO so p) q
  | _, [], _ => rfl
  | so, a :: r, q => setO_app (so ||| 2 ^ a.toNat) r q
theorem orS_app {m : Int} : ∀ (so : Nat) (p q : List Int), orS m so (p ++ q) = (orS m so p && orS m (setO so p) q)
  | _, [], q => by simp [orS, setO]
  | so, a :: r, q => by simp only [List.cons_append, orS, setO, orS_app (so ||| 2 ^ a.toNat) r q, Bool.and_assoc]
theorem or_bit (so a k : Nat) : (so ||| 2 ^ a).testBit k = (so.testBit k || decide (a = k)) := by
  rw [Nat.testBit_or, Nat.testBit_two_pow]
theorem or_lt2 {m so a : Nat} (h : so < 2 ^ m) (ha : a < m) : so ||| 2 ^ a < 2 ^ m := Nat.or_lt_two_pow h (Nat.pow_lt_pow_right (by omega) ha)
theorem setO_bit : ∀ {os : List Int} {so k : Nat}, (∀ o ∈ os, 0 ≤ o) → ((setO so os).testBit k = true ↔ so.testBit k = true ∨ (k : Int) ∈ os)
  | [], _, _, _ => by simp [setO]
  | a :: r, so, k, h => by
    have ha := h a (by simp)
    rw [setO, setO_bit (os := r) (fun o ho => h o (by simp [ho])), or_bit]
    simp only [Bool.or_eq_true, decide_eq_true_eq, List.mem_cons]
    have : a.toNat = k ↔ (k : Int) = a := by omega
    rw [this, or_assoc]
/-- how many tests are not among some -/
def uc (so : Nat) : Nat → Nat
  | 0 => 0
  | i + 1 => uc so i + if so.testBit i then 0 else 1
theorem uc_zero : ∀ n, uc 0 n = n
  | 0 => rfl
  | n + 1 => by simp [uc, uc_zero n]
theorem uc_congr {a b : Nat} : ∀ {n}, (∀ k, k < n → a.testBit k = b.testBit k) → uc a n = uc b n
  | 0, _ => rfl
  | n + 1, h => by simp only [uc]; rw [uc_congr (fun k hk => h k (by omega)), h n (by omega)]
theorem uc_or {so a : Nat} : ∀ {n}, a < n → so.testBit a = false → uc (so ||| 2 ^ a) n + 1 = uc so n
  | 0, h, _ => by omega
  | n + 1, h, hb => by
    simp only [uc]
    by_cases e : a = n
    · subst e
      rw [uc_congr (a := so ||| 2 ^ a) (b := so) (fun k hk => by rw [or_bit, decide_eq_false (by omega), Bool.or_false]), or_bit, hb]
      simp
    · have := uc_or (so := so) (a := a) (n := n) (by omega) hb
      rw [or_bit, decide_eq_false e, Bool.or_false]
      omega
theorem uc_all {so : Nat} : ∀ {n}, uc so n = 0 → ∀ k, k < n → so.testBit k = true
  | 0, _, k, hk => by omega
  | n + 1, h, k, hk => by
    simp only [uc] at h
    rcases Nat.lt_succ_iff_lt_or_eq.1 hk with q | rfl
    · exact uc_all (n := n) (by omega) k q
    · cases hb : so.testBit k with
      | true => rfl
      | false => rw [hb] at h; simp at h
theorem uc_setO {m : Int} (hm : 0 ≤ m) : ∀ {os : List Int} {so : Nat}, orS m so os = true → uc (setO so os) m.toNat + os.length = uc so m.toNat
  | [], _, _ => by simp [setO]
  | a :: r, so, h => by
    obtain ⟨h1, h2, h3⟩ := orS_cons.1 h
    have i := uc_setO hm (os := r) h3
    have u := uc_or (so := so) (a := a.toNat) (n := m.toNat) (by omega) h2
    simp only [setO, List.length_cons]; omega
theorem set_all {m : Int} {os : List Int} (h : orOk m os = true) : ∀ k, k < m.toNat → (setO 0 os).testBit k = true := by
  obtain ⟨h1, h2, h3⟩ := orOk_iff.1 h
  have u := uc_setO (by omega) h3
  rw [uc_zero] at u
  exact uc_all (by omega)
def cA (us : List T) (a : Nat) : Int := (us.getD a (0, 0)).1
theorem cA_nn {us : List T} (h : us.all tOk = true) (k : Nat) : 0 ≤ cA us k ∧ (k < us.length → 1 ≤ cA us k) ∧ cA us k ≤ 9 := by
  unfold cA
  by_cases hk : k < us.length
  · have e : us.getD k (0, 0) = us[k] := by simp [List.getD, hk]
    rw [e]
    have := tOk_iff.1 (List.all_eq_true.1 h us[k] (List.getElem_mem hk))
    omega
  · have e : us.getD k (0, 0) = (0, 0) := by simp [List.getD, List.getElem?_eq_none (by omega : us.length ≤ k)]
    rw [e]; simp; omega
end
section
theorem orS_nodup {m : Int} : ∀ {os : List Int} {so : Nat}, orS m so os = true ↔ (∀ o ∈ os, (0 ≤ o ∧ o < m) ∧ so.testBit o.toNat = false) ∧ os.Nodup
  | [], so => by simp [orS]
  | a :: r, so => by
    rw [orS_cons, orS_nodup (os := r), List.nodup_cons]
    constructor
    · rintro ⟨h1, h2, h3, h4⟩
      refine ⟨fun o ho => ?_, fun hm => ?_, h4⟩
      · rcases List.mem_cons.1 ho with rfl | ho
        · exact ⟨h1, h2⟩
        · obtain ⟨q1, q2⟩ := h3 o ho
          rw [or_bit, Bool.or_eq_false_iff] at q2
          exact ⟨q1, q2.1⟩
      · have q := (h3 a hm).2
        rw [or_bit] at q; simp at q
    · rintro ⟨h1, h2, h3⟩
      obtain ⟨a1, a2⟩ := h1 a (by simp)
      refine ⟨a1, a2, fun o ho => ?_, h3⟩
      obtain ⟨q1, q2⟩ := h1 o (by simp [ho])
      refine ⟨q1, ?_⟩
      rw [or_bit, q2, Bool.false_or, decide_eq_false]
      intro e
      have : a = o := by omega
      exact h2 (this ▸ ho)
def rng (n : Nat) : List Int := (List.range n).map fun (k : Nat) => (k : Int)
theorem rng_len (n : Nat) : (rng n).length = n := by simp [rng]
theorem rng_succ (n : Nat) : rng (n + 1) = rng n ++ [(n : Int)] := by simp [rng, List.range_succ]
theorem mem_rng {n : Nat} {o : Int} : o ∈ rng n ↔ 0 ≤ o ∧ o < n := by
  unfold rng
  rw [List.mem_map]
  constructor
  · rintro ⟨k, h, rfl⟩; have := List.mem_range.1 h; omega
  · intro h; exact ⟨o.toNat, List.mem_range.2 (by omega), by omega⟩
theorem orOk_len {m : Int} {os : List Int} (h : orOk m os = true) : (os.length : Int) = m := (orOk_iff.1 h).2.1
end
section
def hkn (m : Nat) (ks : List Int) (so : Nat) : Prop := ∀ k, k < m → (ks[k]? = some (-1) ↔ so.testBit k = false)
def non (m : Nat) : List Int := List.replicate m (-1)
end
section
attribute [-simp] DV.cells sliceD
attribute [local simp] cells_st cells_sl cells_i cells_y cells_b cells_s cells_w
theorem hasTest_i {so : Nat} {a : Int} (h0 : 0 ≤ a) (h5 : a < 5) : call lf n_impl_hasTest [.i so, .i a] = some (.b (so.testBit a.toNat), []) := by
  have := c_impl_hasTest so a.toNat (by omega)
  rw [Int.toNat_of_nonneg h0] at this
  exact this
theorem or_i {so : Nat} {a : Int} (hs : so < 32) (h0 : 0 ≤ a) (h5 : a < 5) : orI (so : Int) (shlI 1 a) = ((so ||| 2 ^ a.toNat : Nat) : Int) := by
  rw [shl1 h0 (by omega)]
  exact or_nat hs (by omega)
theorem pow_le5 {m : Int} (h : 1 ≤ m ∧ m ≤ 5) : 2 ^ m.toNat ≤ 32 := (pow5 h.1 h.2).2.1
theorem l_impl_OrderOk {m : Int} (hm : 1 ≤ m ∧ m ≤ 5) (n : Int) (hb : n < 1099511627776) (es : List DV) (rest : List Int) : ∀ (k : Int) (so : Nat), so < 2 ^ m.toNat → 0 ≤ k → k + (rest.map DV.i).length = n → es.drop k.toNat = rest.map .i →
    ex lf F_impl_OrderOk_W0 ⟨[(0, .i m), (5, .i so), (17, .sl 0 es), (18, .i n), (19, .i k)], []⟩ =
    if orS m so rest = true then some (.exit 0, ⟨[(0, .i m), (5, .i (setO so rest : Nat)), (17, .sl 0 es), (18, .i n), (19, .i n)], []⟩) else some (.ret, ⟨[(4, .b false)], []⟩) := by
  have p5 := pow_le5 hm
  induction rest with
  | nil =>
    intro k so hs h0 hn hd
    rw [w_impl_OrderOk_0]
    have hk : k = n := by simpa using hn
    simp [F_impl_OrderOk_L0, hk, orS, setO]
  | cons a rest ih =>
    intro k so hs h0 hn hd
    obtain ⟨q1, q2, q3, q4, q5, q6⟩ := stp h0 hn hb hd
    have w : wr (m - 1) = m - 1 := wr_id (by omega) (by omega)
    rw [w_impl_OrderOk_0]
    by_cases ha : 0 ≤ a ∧ a < m
    · have e1 : decide (0 ≤ a ∧ a ≤ m - 1) = true := decide_eq_true (by omega)
      have e2 : decide (0 ≤ a ∧ a < m) = true := decide_eq_true ha
      have H := hasTest_i (so := so) ha.1 (by omega)
      have n0 : ¬ a < 0 := by omega
      have o := or_i (so := so) (by omega) ha.1 (by omega : a < 5)
      have ih := ih (k + 1) (so ||| 2 ^ a.toNat) (or_lt2 hs (by omega)) q4 q5 q6
      simp only [orS, e2, Bool.true_and, setO]
      cases hb : so.testBit a.toNat with
      | true =>
        rw [hb] at H
        simp [F_impl_OrderOk_L0, q1, q2, q3, w, c_impl_isWithin, e1, H]
      | false =>
        rw [hb] at H
        simp [F_impl_OrderOk_L0, q1, q2, q3, w, c_impl_isWithin, e1, H, n0, o, ih]
    · have e1 : decide (0 ≤ a ∧ a ≤ m - 1) = false := decide_eq_false (by omega)
      have e2 : decide (0 ≤ a ∧ a < m) = false := decide_eq_false ha
      simp only [orS, e2, Bool.false_and]
      simp [F_impl_OrderOk_L0, q1, q2, q3, w, c_impl_isWithin, e1]
theorem c_impl_OrderOk (m : Int) (os : List Int) (hb : (os.length : Int) < 1099511627776) : call lf n_impl_OrderOk [.i m, .sl 0 (os.map .i)] = some (.b (orOk m os), []) := by
  rw [call_k lf n_impl_OrderOk _ (F := F_impl_OrderOk) rfl rfl]
  unfold orOk
  cases h1 : nOk m with
  | false => simp [F_impl_OrderOk, c_impl_manyOk, h1]
  | true =>
    by_cases h2 : (os.length : Int) = m
    · have L := l_impl_OrderOk (nOk_iff.1 h1) os.length hb (os.map .i) os 0 0 (Nat.pow_pos (by omega)) (by omega) (by simp) (by simp)
      simp only [Int.natCast_zero] at L
      cases h3 : orS m 0 os <;> rw [h3] at L <;> simp at L <;> simp [F_impl_OrderOk, c_impl_manyOk, h1, h2, L, h3] <;> (subst h2; simp [L])
    · have y : ((os.length : Int) != m) = true := bne_iff_ne.2 h2
      simp [F_impl_OrderOk, c_impl_manyOk, h1, y, h2]
theorem l_spec_OrderOk (m : Int) (n : Int) (hb : n < 1099511627776) (es : List DV) (hE : (es.length : Int) = n) (rest : List Int) : ∀ (k : Int) (so : Nat), so < 32 → 0 ≤ k → k + (rest.map DV.i).length = n → es.drop k.toNat = rest.map .i →
    ex lf F_spec_OrderOk_W0 ⟨[(0, .i m), (1, .sl 0 es), (5, .i so), (6, .i k)], []⟩ =
    if orS (min m 5) so rest = true then some (.exit 0, ⟨[(0, .i m), (1, .sl 0 es), (5, .i (setO so rest : Nat)), (6, .i n)], []⟩) else some (.ret, ⟨[(4, .b false)], []⟩) := by
  induction rest with
  | nil =>
    intro k so hs h0 hn hd
    rw [w_spec_OrderOk_0]
    have hk : k = n := by simpa using hn
    simp [F_spec_OrderOk_L0, hk, hE, orS, setO]
  | cons a rest ih =>
    intro k so hs h0 hn hd
    obtain ⟨q1, q2, q3, q4, q5, q6⟩ := stp h0 hn hb hd
    rw [w_spec_OrderOk_0]
    by_cases a0 : a < 0
    · have e2 : decide (0 ≤ a ∧ a < min m 5) = false := decide_eq_false (by omega)
      simp only [orS, e2, Bool.false_and]
      simp [F_spec_OrderOk_L0, q1, q2, hE, a0]
    · by_cases a1 : m ≤ a
      · have e2 : decide (0 ≤ a ∧ a < min m 5) = false := decide_eq_false (by omega)
        simp only [orS, e2, Bool.false_and]
        simp [F_spec_OrderOk_L0, q1, q2, hE, a0, a1]
      · by_cases a5 : 5 ≤ a
        · have e2 : decide (0 ≤ a ∧ a < min m 5) = false := decide_eq_false (by omega)
          simp only [orS, e2, Bool.false_and]
          simp [F_spec_OrderOk_L0, q1, q2, hE, a0, a1, a5]
        · have e2 : decide (0 ≤ a ∧ a < min m 5) = true := decide_eq_true (by omega)
          have o := or_i (so := so) (by omega) (by omega : 0 ≤ a) (by omega : a < 5)
          have bb := bit_bI (a := so) (s := a.toNat) (by omega)
          rw [Int.toNat_of_nonneg (by omega)] at bb
          have ih := ih (k + 1) (so ||| 2 ^ a.toNat) (or_lt2 (m := 5) hs (by omega)) q4 q5 q6
          simp only [orS, e2, Bool.true_and, setO]
          cases hb : so.testBit a.toNat with
          | true =>
            rw [hb] at bb
            have q : (bI true == 1) = true := rfl
            simp [F_spec_OrderOk_L0, q1, q2, hE, a0, a1, a5, bb, q]
          | false =>
            rw [hb] at bb
            have q : (bI false == 1) = false := rfl
            simp [F_spec_OrderOk_L0, q1, q2, q3, hE, a0, a1, a5, bb, q, o, ih]
theorem c_spec_OrderOk (m : Int) (os : List Int) (hb : (os.length : Int) < 1099511627776) : call lf n_spec_OrderOk [.i m, .sl 0 (os.map .i)] = some (.b (orOk m os), []) := by
  rw [call_k lf n_spec_OrderOk _ (F := F_spec_OrderOk) rfl rfl]
  have L := l_spec_OrderOk m os.length hb (os.map .i) (by simp) os 0 0 (by omega) (by omega) (by simp) (by simp)
  simp only [Int.natCast_zero] at L
  have e1 : nOk m = decide (1 ≤ m ∧ m ≤ 5) := rfl
  unfold orOk
  cases h1 : decide (1 ≤ m ∧ m ≤ 5) with
  | false =>
    rw [e1, h1]
    cases h3 : orS (min m 5) 0 os <;> rw [h3] at L <;> simp at L <;> simp [F_spec_OrderOk, L, c_spec_l1In, h1]
  | true =>
    rw [e1, h1]
    have hm := of_decide_eq_true h1
    have e5 : min m 5 = m := by omega
    rw [e5] at L
    by_cases h2 : (os.length : Int) = m
    · cases h3 : orS m 0 os <;> rw [h3] at L <;> simp at L <;> simp [F_spec_OrderOk, L, c_spec_l1In, h1, h2]
    · cases h3 : orS m 0 os <;> rw [h3] at L <;> simp at L <;> simp [F_spec_OrderOk, L, c_spec_l1In, h1, h2]
end
section
attribute [-simp] DV.cells
attribute [local simp] sliceD cells_st cells_sl cells_i cells_y cells_b cells_s cells_w
theorem ins_perm {p q : List Int} {i : Nat} (h : (p ++ q).Perm (rng i)) : (p ++ (i : Int) :: q).Perm (rng (i + 1)) := by
  rw [rng_succ]
  refine List.perm_middle.trans ?_
  refine (List.Perm.cons _ h).trans ?_
  exact (List.perm_append_singleton _ _).symm
theorem perm_len {us : List Int} {i : Nat} (h : us.Perm (rng i)) : us.length = i := by rw [h.length_eq, rng_len]
set_option maxHeartbeats 4000000 in
theorem l_l20Order {bs : List Nat} (hb : ∀ y ∈ bs, y < 256) (hl : bs.length ≤ 2000) (m : Nat) (hm : m ≤ 5) (n : Int) (j : Nat) : ∀ (i : Nat) (p : Int) (K : Nat) (os : List Int), (K = 5640 ∨ K = 11272) → 0 ≤ p → p + j < 900000 → i + j = m → os.Perm (rng i) →
    ∃ us : List Int, us.Perm (rng m) ∧
    ex lf F_spec_l20Order_W0 ⟨[(0, .oad 23 1 0 0), (1, .i m), (2, .i n), (7, .own K i 0 i), (8, .i i)], [(23, [.st [.sl 0 (bs.map .y), .i p]]), (K, os.map .i)]⟩ =
      some (.exit 0, ⟨[(0, .oad 23 1 0 0), (1, .i m), (2, .i n), (7, .own 5640 m 0 m), (8, .i m)], [(23, [.st [.sl 0 (bs.map .y), .i (p + j)]]), (5640, us.map .i)]⟩) := by
  induction j with
  | zero =>
    intro i p K os hK h0 h1 h2 h3
    have : i = m := by omega
    subst this
    have lo := perm_len h3
    refine ⟨os, h3, ?_⟩
    rw [w_spec_l20Order_0]
    rcases hK with rfl | rfl <;> simp [F_spec_l20Order_L0, lo]
  | succ j ih =>
    intro i p K os hK h0 h1 h2 h3
    have lo := perm_len h3
    have b1 := pk_bound hb h0 (by omega : p ≤ 1000000) (by omega : (1 : Int) ≤ (i : Int) + 1)
    have k1 := c_pick hb hl h0 (by omega : p < 1000000) (by omega : (1 : Int) ≤ (i : Int) + 1)
    obtain ⟨a, ha⟩ : ∃ a : Nat, pk bs p ((i : Int) + 1) = a := ⟨(pk bs p ((i : Int) + 1)).toNat, by omega⟩
    rw [ha] at k1 b1
    obtain ⟨x, y, rfl, rfl⟩ : ∃ x y, os = x ++ y ∧ x.length = a := ⟨os.take a, os.drop a, (List.take_append_drop a os).symm, by simp; omega⟩
    have P := ins_perm h3
    have w1 : wr ((i : Int) + 1) = (i : Int) + 1 := wr_id (by omega) (by omega)
    obtain ⟨us, u1, u2⟩ := ih (i + 1) (p + 1) 11272 (x ++ (i : Int) :: y) (.inr rfl) (by omega) (by omega) (by omega) P
    refine ⟨us, u1, ?_⟩
    rw [show p + ((j + 1 : Nat) : Int) = p + 1 + j by omega]
    have lxy : x.length + y.length = i := by simpa using lo
    have hlt : (i : Int) < m := by omega
    have c1 : x.length ≤ bound := by unfold bound; omega
    have c2 : x.length + 1 ≤ bound := by unfold bound; omega
    have c3 : i + 1 ≤ bound := by unfold bound; omega
    have xi : x.length ≤ i := by omega
    have xi' : (x.length : Int) ≤ i := by omega
    have t1 : ((x ++ y).map DV.i).take x.length = x.map .i := by simp
    have t2 : ((x ++ y).map DV.i).drop x.length = y.map .i := by simp
    have t3 : (x ++ y).map DV.i = ((x ++ y).map DV.i).take i := (List.take_of_length_le (by simp; omega)).symm
    have t4 : List.take i ((x ++ y).map DV.i) = (x ++ y).map DV.i := t3.symm
    have hL : ((x ++ y).map DV.i).length = i := by simp; omega
    have e1 : x.length + 1 + y.length = i + 1 := by omega
    rw [w_spec_l20Order_0]
    simp only [Int.natCast_add, Int.natCast_one, List.map_append, List.map_cons] at u2
    have n0 : ¬ (i < x.length) := by omega
    generalize (x ++ y).map DV.i = L at *
    rcases hK with rfl | rfl <;> simp [F_spec_l20Order_L0, hlt, lo, k1, w1, hL, t1, t2, t4, c1, c2, c3, xi, xi', e1, u2]
set_option maxHeartbeats 4000000 in
theorem c_l20Order {bs : List Nat} (hb : ∀ y ∈ bs, y < 256) (hl : bs.length ≤ 2000) {p n : Int} {m : Nat} (h0 : 0 ≤ p) (h1 : p < 700000) (hm : m ≤ 5) (hn : 1 ≤ n) (hn2 : n ≤ 1000000) :
    ∃ (us : List Int) (p' : Int), us.length ≤ 6 ∧ p ≤ p' ∧ p' ≤ p + 20 ∧ call lf n_spec_l20Order [.ref (.st [.sl 0 (bs.map .y), .i p]), .i m, .i n] = some (.fr 1 (us.map .i), [.st [.sl 0 (bs.map .y), .i p']]) := by
  obtain ⟨us, u1, L⟩ := l_l20Order hb hl m hm n m 0 p 5640 [] (.inl rfl) h0 (by omega) (by omega) (by rfl)
  have lu := perm_len u1
  simp only [Int.natCast_zero, List.map_nil] at L
  have q0 : 0 ≤ p + (m : Int) := by omega
  have k2 := c_odd hb hl q0 (by omega) hn hn2
  generalize hq : p + (m : Int) = q at *
  have lb : m + 1 ≤ bound := by unfold bound; omega
  cases ho : (pk bs q n == n - 1) with
  | false =>
    rw [ho] at k2
    refine ⟨us, q + 1, by omega, by omega, by omega, ?_⟩
    rw [call_k lf n_spec_l20Order _ (F := F_spec_l20Order) rfl rfl]
    simp [F_spec_l20Order, L, k2, lu]
  | true =>
    rw [ho] at k2
    have k3 := c_pick hb hl (p := q + 1) (n := 2) (by omega) (by omega) (by omega)
    have a3 := pk_bound hb (p := q + 1) (n := 2) (by omega) (by omega) (by omega)
    by_cases z : pk bs (q + 1) 2 = 0
    · rw [z] at k3
      refine ⟨us ++ [0], q + 1 + 1, by simp; omega, by omega, by omega, ?_⟩
      rw [call_k lf n_spec_l20Order _ (F := F_spec_l20Order) rfl rfl]
      simp [F_spec_l20Order, L, k2, k3, lu, lb]
    · have z1 : pk bs (q + 1) 2 = 1 := by omega
      rw [z1] at k3
      by_cases hm0 : m = 0
      · subst hm0
        refine ⟨us, q + 1 + 1, by omega, by omega, by omega, ?_⟩
        rw [call_k lf n_spec_l20Order _ (F := F_spec_l20Order) rfl rfl]
        simp at L lu
        subst lu
        simp [F_spec_l20Order, L, k2, k3]
      · have k4 := c_pick hb hl (p := q + 1 + 1) (n := 2) (by omega) (by omega) (by omega)
        have a4 := pk_bound hb (p := q + 1 + 1) (n := 2) (by omega) (by omega) (by omega)
        obtain ⟨u, r, rfl⟩ : ∃ u r, us = u :: r := by
          cases us with
          | nil => simp at lu; omega
          | cons u r => exact ⟨u, r, rfl⟩
        simp only [List.length_cons] at lu
        have hp : 0 < m := by omega
        by_cases z4 : pk bs (q + 1 + 1) 2 = 0
        · rw [z4] at k4
          refine ⟨5 :: r, q + 1 + 1 + 1, by simp; omega, by omega, by omega, ?_⟩
          rw [call_k lf n_spec_l20Order _ (F := F_spec_l20Order) rfl rfl]
          simp at L
          simp [F_spec_l20Order, L, k2, k3, k4, lu, hp]
        · have z5 : pk bs (q + 1 + 1) 2 = 1 := by omega
          rw [z5] at k4
          refine ⟨-1 :: r, q + 1 + 1 + 1, by simp; omega, by omega, by omega, ?_⟩
          rw [call_k lf n_spec_l20Order _ (F := F_spec_l20Order) rfl rfl]
          simp at L
          simp [F_spec_l20Order, L, k2, k3, k4, lu, hp]
end
section
/-- the chance of a test to end a row -/
def eA (us : List T) (row : Int) (a : Nat) : Int := if row = 0 then 6 - (us.getD a (0, 0)).2 else (us.getD a (0, 0)).2
def rA (us : List T) (row : Int) : Int → List Int → Int
  | _, [] => 0
  | on, a :: r => cA us a.toNat * on * 6 ^ (r.length + 1) + rA us row (on * (6 - eA us row a.toNat)) r
end
section
theorem rng_nodup (n : Nat) : (rng n).Nodup := List.Pairwise.map _ (fun a b h e => h (by omega)) (List.nodup_range (n := n))
theorem or_perm {m : Int} {os : List Int} (h : orOk m os = true) : os.Perm (rng m.toNat) := by
  obtain ⟨g1, g2, g3⟩ := orOk_iff.1 h
  obtain ⟨n1, n2⟩ := orS_nodup.1 g3
  refine (List.perm_ext_iff_of_nodup n2 (rng_nodup _)).2 fun o => ?_
  constructor
  · intro ho
    exact mem_rng.2 (by have := (n1 o ho).1; omega)
  · intro ho
    have hr := mem_rng.1 ho
    have := set_all h o.toNat (by omega)
    rw [setO_bit (fun x hx => (n1 x hx).1.1)] at this
    rcases this with q | q
    · simp at q
    · rwa [Int.toNat_of_nonneg hr.1] at q
end
section
def fl (s : Int) (i : Nat) : Bool := s / 2 ^ i % 2 == 1
end
section
def prR (us : List T) (row : Int) : Int → List Int → Int
  | on, [] => on
  | on, a :: r => prR us row (on * (6 - eA us row a.toNat)) r
end
section
attribute [-simp] DV.cells sliceD
attribute [local simp] cells_st cells_sl cells_i cells_y cells_b cells_s cells_w
theorem p6 : ∀ {n : Nat}, n ≤ 5 → (1 : Int) ≤ 6 ^ n ∧ (6 : Int) ^ n ≤ 7776 := by
  intro n hn
  have : n = 0 ∨ n = 1 ∨ n = 2 ∨ n = 3 ∨ n = 4 ∨ n = 5 := by omega
  rcases this with rfl | rfl | rfl | rfl | rfl | rfl <;> decide
theorem c_spec_l1Power {n : Nat} (h : n ≤ 5) : call lf n_spec_l1Power [.i n] = some (.i (6 ^ n), []) := by
  have L := loop_count (lf := lf) (L := F_spec_l1Power_L0) n (fun i => ⟨[(0, .i n), (3, .i (6 ^ i)), (4, .i i)], []⟩) (x := .exit 0) (R := ⟨[(0, .i n), (3, .i (6 ^ n)), (4, .i n)], []⟩) (fun i hi => by
    have p := p6 (n := i) (by omega)
    have w1 : wr ((i : Int) + 1) = i + 1 := wr_id (by omega) (by omega)
    have w2 : wr ((6 : Int) ^ i * 6) = 6 ^ (i + 1) := by rw [wr_id (by omega) (by omega), Int.pow_succ]
    simp [F_spec_l1Power_L0, hi, w1, w2]) (by simp [F_spec_l1Power_L0]) (by simp)
  have L' : ex lf F_spec_l1Power_W0 ⟨[(0, .i n), (3, .i 1), (4, .i 0)], []⟩ = some (.exit 0, ⟨[(0, .i n), (3, .i (6 ^ n)), (4, .i n)], []⟩) := L
  rw [call_k lf n_spec_l1Power _ (F := F_spec_l1Power) rfl rfl]
  simp [F_spec_l1Power, L']
def stW (us : List T) (tab : Nat) (os : List Int) (k : Nat) (ks : List Int) (w a sum sd : Int) : LS :=
  ⟨[(0, .sl 0 (us.map e2)), (1, .i tab), (2, .sl 0 (os.map .i)), (3, .i k), (4, .sl 0 (ks.map .i)), (5, .i w), (13, .i a), (14, .i sum), (15, .i sd)], []⟩
end
section
attribute [-simp] DV.cells
attribute [local simp] sliceD cells_st cells_sl cells_i cells_y cells_b cells_s cells_w
theorem p6le {i j : Nat} (h : i + j ≤ 5) {on : Int} (h0 : 0 ≤ on) (h1 : on ≤ 6 ^ i) : 0 ≤ on * 6 ^ j ∧ on * 6 ^ j ≤ 7776 := by
  have pj := p6 (n := j) (by omega)
  have q := (p6 h).2
  rw [Int.pow_add] at q
  have := Int.mul_le_mul_of_nonneg_right h1 (show (0 : Int) ≤ 6 ^ j by omega)
  have := Int.mul_nonneg h0 (show (0 : Int) ≤ 6 ^ j by omega)
  omega
end
section
inductive PT where
  | stop
  | ask (k : Nat) (no yes : PT)
def fcd (m : Nat) (t : List T) (ks : List Int) : Bool := foT m t ks != -1
end
section
open Classical in
noncomputable def rc (P : Nat → Prop) : Nat → Nat
  | 0 => 0
  | n + 1 => rc P n + if P n then 1 else 0
end
section
abbrev C3 := Int × Int × Int
/-- a tree with the places of its choices -/
inductive LT where
  | stop
  | ask (p k : Nat) (no yes : LT)
def LT.size : LT → Nat
  | .stop => 0
  | .ask _ _ n y => 1 + n.size + y.size
/-- where one may go on to from a place -/
def nxt (N : Nat) (p : Nat) (a : Int) : Prop := a = -1 ∨ ((p : Int) + 1 ≤ a ∧ a ≤ (N : Int) - 1)
instance (N p : Nat) (a : Int) : Decidable (nxt N p a) := by unfold nxt; infer_instance
/-- the row holds the tree, from a place on -/
def enc (P : List C3) : Int → LT → Prop
  | a, .stop => a = -1
  | a, .ask p k n y => a = (p : Int) ∧ ∃ no ye, P[p]? = some ((k : Int), no, ye) ∧ nxt P.length p no ∧ nxt P.length p ye ∧ enc P no n ∧ enc P ye y
/-- where a row goes on to -/
def rfs : List C3 → List Int
  | [] => []
  | (_, no, ye) :: r => (if no = -1 then [] else [no]) ++ (if ye = -1 then [] else [ye]) ++ rfs r
end
section
def PT.size : PT → Nat
  | .stop => 0
  | .ask _ n y => 1 + n.size + y.size
def rot (P : List C3) : Int := if P = [] then -1 else 0
end
section
attribute [-simp] DV.cells
attribute [local simp] sliceD cells_st cells_sl cells_i cells_y cells_b cells_s cells_w
theorem lend_e3 (P : List C3) : lendL (P.map e3) = P.map e3 := by rw [lendL_map, List.map_map]; rfl
theorem adopt_e3 (o : Bool) (P : List C3) : adoptL o (P.map e3) = P.map e3 := by rw [adoptL_map, List.map_map]; rfl
theorem new_e3 (P : List C3) : allNewL (P.map e3) = true := by rw [allNewL_all, List.all_map, List.all_eq_true]; intro x _; rfl
theorem al_e3 (P : List C3) : allOldL (P.map e3) = true := by rw [allOldL_all, List.all_map, List.all_eq_true]; intro x _; rfl
theorem lt_e3 (n : Nat) (P : List C3) : lendL (List.take n (P.map e3)) = List.take n (P.map e3) := by rw [← List.map_take, lend_e3]
attribute [local simp] lend_e3 adopt_e3 new_e3 al_e3 lt_e3
def C3.nx (c : C3) (b : Bool) : Int := if b then c.2.2 else c.2.1
end
section
def aN : List Int → Nat
  | [] => 0
  | k :: r => (if k = -1 then 0 else 1) + 2 * aN r
def kn : List Int → Nat
  | [] => 0
  | k :: r => (if k = -1 then 0 else 1) + kn r
/-- what agrees, as a number -/
def lfW (ks : List Int) : BitVec 32 := agW ks 0 (4294967295#32)
end
section
abbrev Pts := List (Option (List Int))
/-- one goes on to where it is noted -/
def go3 (m : Nat) (t : List T) (N : Nat) (pts : Pts) (p : Int) (a : Int) (ks : List Int) : Prop :=
  (a = -1 ∧ fcd m t ks = true) ∨ (p + 1 ≤ a ∧ a ≤ (N : Int) - 1 ∧ pts[a.toNat]? = some (some ks))
structure Inv (m : Nat) (t : List T) (P : List C3) (p : Nat) (pts : Pts) : Prop where
  len : pts.length = P.length
  nd : (rfs (P.take p)).Nodup
  rng : ∀ a ∈ rfs (P.take p), 1 ≤ a ∧ a < P.length
  iff_ : ∀ a : Nat, a < P.length → (pts[a]? ≠ some none ↔ (a = 0 ∨ (a : Int) ∈ rfs (P.take p)))
  ok : ∀ (a : Nat) (ks : List Int), pts[a]? = some (some ks) → ks.length = m ∧ ks.all kOk = true ∧ fcd m t ks = false
  loc : ∀ q : Nat, q < p → ∃ (ks : List Int) (k no ye : Int), P[q]? = some (k, no, ye) ∧ pts[q]? = some (some ks) ∧ (0 ≤ k ∧ k < m) ∧ ks[k.toNat]? = some (-1) ∧ go3 m t P.length pts q no (ks.set k.toNat 0) ∧ go3 m t P.length pts q ye (ks.set k.toNat 1)
theorem none_of {pts : Pts} {a : Nat} (h : a < pts.length) (hn : ¬ pts[a]? ≠ some none) : pts[a]? = some none := Classical.not_not.1 hn
end
section
attribute [-simp] DV.cells
attribute [local simp] sliceD cells_st cells_sl cells_i cells_y cells_b cells_s cells_w
attribute [local simp] lend_e3 adopt_e3 new_e3 al_e3 lt_e3
def pv (m a : Int) (w v : BitVec 32) : DV := .st [.i m, .i a, .w w, .w v]
/-- the point at which so much is known -/
def pD (m : Nat) (t : List T) (ks : List Int) : DV := pv m (aN ks) (lfW ks) (tsW t)
end
section
attribute [-simp] DV.cells
attribute [local simp] sliceD cells_st cells_sl cells_i cells_y cells_b cells_s cells_w
attribute [local simp] lend_e3 adopt_e3 new_e3 al_e3 lt_e3
def e4 (m : Nat) (t : List T) : Option (List Int) → DV
  | some ks => pD m t ks
  | none => pv 0 0 (0#32) (0#32)
end
section
attribute [-simp] DV.cells
attribute [local simp] sliceD cells_st cells_sl cells_i cells_y cells_b cells_s cells_w
attribute [local simp] lend_e3 adopt_e3 new_e3 al_e3 lt_e3
structure Fin (m : Nat) (t : List T) (P : List C3) (L : LT) (pts : Pts) : Prop where
  inv : Inv m t P P.length pts
  start : go3 m t P.length pts (-1) (rot P) (non m)
end
section
/-- what it costs, the parts in which it ends all, and its whole -/
abbrev I3 := Int × Int × Int
def gM : List I3 → Int
  | [] => 1
  | x :: r => x.2.2 * gM r
def gD : List I3 → Int
  | [] => 0
  | x :: r => x.1 * gM r + (x.2.2 - x.2.1) * gD r
def iOk (x : I3) : Prop := 0 ≤ x.1 ∧ 0 < x.2.1 ∧ x.2.1 ≤ x.2.2
theorem gM_pos : ∀ {l : List I3}, (∀ x ∈ l, iOk x) → 0 < gM l
  | [], _ => by simp [gM]
  | x :: r, h => by
    have hx := h x List.mem_cons_self
    have := gM_pos (l := r) (fun y hy => h y (List.mem_cons_of_mem _ hy))
    exact Int.mul_pos (by unfold iOk at hx; omega) this
theorem gD_nn : ∀ {l : List I3}, (∀ x ∈ l, iOk x) → 0 ≤ gD l
  | [], _ => by simp [gD]
  | x :: r, h => by
    obtain ⟨h1, h2, h3⟩ := h x List.mem_cons_self
    have hr : ∀ y ∈ r, iOk y := fun y hy => h y (List.mem_cons_of_mem _ hy)
    have a := Int.mul_nonneg h1 (Int.le_of_lt (gM_pos hr))
    have b := Int.mul_nonneg (show 0 ≤ x.2.2 - x.2.1 by omega) (gD_nn hr)
    simp only [gD]
    omega
end
section
def pA (us : List T) (k : Nat) : Int := (us.getD k (0, 0)).2
theorem pA_bd {us : List T} (h : us.all tOk = true) {k : Nat} (hk : k < us.length) : 1 ≤ pA us k ∧ pA us k ≤ 5 := by
  unfold pA
  have e : us.getD k (0, 0) = us[k] := by simp [List.getD, hk]
  rw [e]
  have := tOk_iff.1 (List.all_eq_true.1 h us[k] (List.getElem_mem hk))
  omega
/-- groups: all tests, each once -/
structure Gok (m : Nat) (L : List (List Nat)) : Prop where
  lt : ∀ g ∈ L, ∀ k ∈ g, k < m
  nd : L.flatten.Nodup
  all : ∀ k, k < m → k ∈ L.flatten
  ne : ∀ g ∈ L, g ≠ []
end
section
theorem gok_len {m : Nat} {L : List (List Nat)} (G : Gok m L) : L.flatten.length = m := by
  have : L.flatten.Perm (List.range m) := (List.perm_ext_iff_of_nodup G.nd List.nodup_range).2 fun k => by
    rw [List.mem_range]
    refine ⟨fun hk => ?_, G.all k⟩
    obtain ⟨g, h1, h2⟩ := List.mem_flatten.1 hk
    exact G.lt g h1 k h2
  rw [this.length_eq, List.length_range]
end
section
attribute [-simp] DV.cells
attribute [local simp] sliceD cells_st cells_sl cells_i cells_y cells_b cells_s cells_w
theorem lend_eR (L : List (List Int)) : lendL (L.map eR) = L.map eR := by
  rw [lendL_map, List.map_map]
  apply List.map_congr_left
  intro r _
  simp [eR, DV.lend]
theorem al_eR (L : List (List Int)) : allOldL (L.map eR) = true := by
  rw [allOldL_all, List.all_map, List.all_eq_true]
  intro r _
  simp [eR, DV.allOld]
attribute [local simp] lend_eR al_eR
def gokB (m : Int) (L : List (List Int)) : Bool := L.all (fun r => !r.isEmpty) && orOk m L.flatten
def gAl (m : Int) : Nat → List (List Int) → Bool
  | _, [] => true
  | n, r :: L => decide (1 ≤ (r.length : Int) ∧ (r.length : Int) ≤ m - n) && gAl m (n + r.length) L
theorem gAl_iff {m : Int} : ∀ {L : List (List Int)} {n : Nat}, (n : Int) ≤ m → (gAl m n L = true ↔ L.all (fun r => !r.isEmpty) = true ∧ ((n + L.flatten.length : Nat) : Int) ≤ m)
  | [], n, h => by simp [gAl, h]
  | r :: L, n, h => by
    simp only [gAl, Bool.and_eq_true, decide_eq_true_eq, List.all_cons, List.flatten_cons, List.length_append]
    by_cases hr : (r.length : Int) ≤ m - n
    · rw [gAl_iff (L := L) (n := n + r.length) (by omega)]
      cases r with
      | nil => simp
      | cons a r =>
        simp only [List.isEmpty_cons, Bool.not_false, true_and, List.length_cons] at *
        constructor
        · rintro ⟨_, h1, h2⟩; exact ⟨h1, by omega⟩
        · rintro ⟨h1, h2⟩; exact ⟨⟨by omega, by omega⟩, h1, by omega⟩
    · constructor
      · rintro ⟨⟨_, h2⟩, _⟩; exact absurd h2 hr
      · rintro ⟨_, h2⟩; omega
theorem gokB_al {m : Int} (hm : 1 ≤ m ∧ m ≤ 5) (L : List (List Int)) : gokB m L = (gAl m 0 L && orOk m L.flatten) := by
  unfold gokB
  cases h : orOk m L.flatten with
  | false => simp
  | true =>
    have := orOk_len h
    rw [Bool.and_true, Bool.and_true, Bool.eq_iff_iff, gAl_iff (by omega)]
    exact ⟨fun h => ⟨h, by omega⟩, fun h => h.1⟩
def stGk (m : Int) (L : List (List Int)) (acc : List Int) (k : Nat) : LS := ⟨[(0, .i m), (5, .own 2568 acc.length 0 acc.length), (11, .sl 0 (L.map eR)), (12, .i L.length), (13, .i k)], [(2568, acc.map .i)]⟩
theorem l_impl_GroupsOk {m : Int} (hm : 1 ≤ m ∧ m ≤ 5) (A : List (List Int)) (hb : (A.length : Int) < 1099511627776) : ∀ (L : List (List Int)) (k : Nat) (acc : List Int), (acc.length : Int) ≤ m → k + L.length = A.length → A.drop k = L →
    ex lf F_impl_GroupsOk_W0 (stGk m A acc k) = if gAl m acc.length L = true then some (.exit 0, stGk m A (acc ++ L.flatten) A.length) else some (.ret, ⟨[(4, .b false)], []⟩)
  | [], k, acc, ha, hk, hd => by
    have e : k = A.length := by simpa using hk
    subst e
    rw [w_impl_GroupsOk_0]
    simp [stGk, F_impl_GroupsOk_L0, gAl]
  | r :: L, k, acc, ha, hk, hd => by
    simp only [List.length_cons] at hk
    have hlt : (k : Int) < A.length := by omega
    have hd2 : A.drop (k + 1) = L := by rw [← List.drop_drop, hd]; rfl
    have hat : A[k]? = some r := by
      have := congrArg (fun l => l[0]?) hd
      simpa using this
    have at1 : atI (A.map eR) (k : Int) = some (.sl 0 (r.map .i)) := by
      simp only [atI, if_pos (Int.natCast_nonneg k)]
      show (A.map eR)[(k : Int).toNat]? = _
      rw [Int.toNat_natCast, List.getElem?_map, hat]; rfl
    have w1 : wr ((k : Int) + 1) = ((k + 1 : Nat) : Int) := by rw [wr_id (by omega) (by omega)]; omega
    have w2 : wr (m - acc.length) = m - acc.length := wr_id (by omega) (by omega)
    have W := c_impl_isWithin (r.length : Int) 1 (m - acc.length)
    rw [w_impl_GroupsOk_0]
    by_cases hr : 1 ≤ (r.length : Int) ∧ (r.length : Int) ≤ m - acc.length
    · rw [decide_eq_true hr] at W
      have ih := l_impl_GroupsOk hm A hb L (k + 1) (acc ++ r) (by simp; omega) (by omega) hd2
      have e : gAl m acc.length (r :: L) = gAl m (acc ++ r).length L := by simp only [gAl]; rw [decide_eq_true hr]; simp
      rw [e, List.flatten_cons, ← List.append_assoc, ← ih]
      have c1 : acc.length + r.length ≤ bound := by unfold bound; omega
      unfold stGk
      simp [F_impl_GroupsOk_L0, hlt, at1, w1, w2, W, c1, -Int.natCast_add]
    · rw [decide_eq_false hr] at W
      have e : gAl m acc.length (r :: L) = false := by simp only [gAl]; rw [decide_eq_false hr]; rfl
      rw [e]
      unfold stGk
      simp [F_impl_GroupsOk_L0, hlt, at1, w1, w2, W, -Int.natCast_add]
theorem c_impl_GroupsOk (m : Int) (L : List (List Int)) (hb : (L.length : Int) < 1099511627776) : call lf n_impl_GroupsOk [.i m, .sl 0 (L.map eR)] = some (.b (gokB m L), []) := by
  rw [call_k lf n_impl_GroupsOk _ (F := F_impl_GroupsOk) rfl rfl]
  cases h1 : nOk m with
  | false =>
    have e : gokB m L = false := by unfold gokB orOk; simp [h1]
    simp [F_impl_GroupsOk, c_impl_manyOk, h1, e]
  | true =>
    have hm := nOk_iff.1 h1
    rw [gokB_al hm]
    have I := l_impl_GroupsOk hm L hb L 0 [] (by simp; omega) (by simp) rfl
    unfold stGk at I
    simp only [List.length_nil, List.map_nil, Int.natCast_zero, List.nil_append] at I
    cases h2 : gAl m 0 L with
    | false =>
      rw [h2] at I
      simp at I
      simp [F_impl_GroupsOk, c_impl_manyOk, h1, I]
    | true =>
      rw [h2, if_pos rfl] at I
      have l5 := ((gAl_iff (n := 0) (by omega)).1 h2).2
      have C := c_impl_OrderOk m L.flatten (by omega)
      generalize L.flatten = M at *
      have tk : List.take M.length (M.map DV.i) = M.map .i := List.take_of_length_le (by simp)
      simp [F_impl_GroupsOk, c_impl_manyOk, h1, I, C, tk]
end
section
attribute [-simp] DV.cells
attribute [local simp] sliceD cells_st cells_sl cells_i cells_y cells_b cells_s cells_w
attribute [local simp] lend_eR al_eR
theorem at_eR {A : List (List Int)} {k : Nat} {r : List Int} (h : A[k]? = some r) : atI (A.map eR) (k : Int) = some (.sl 0 (r.map .i)) := by
  simp only [atI, if_pos (Int.natCast_nonneg k)]
  show (A.map eR)[(k : Int).toNat]? = _
  rw [Int.toNat_natCast, List.getElem?_map, h]; rfl
theorem atI_int {r : List Int} {j : Nat} {a : Int} (h : r[j]? = some a) : atI (r.map DV.i) (j : Int) = some (.i a) := by
  simp only [atI, if_pos (Int.natCast_nonneg j)]
  show (r.map DV.i)[(j : Int).toNat]? = _
  rw [Int.toNat_natCast, List.getElem?_map, h]; rfl
theorem drop_cons {α : Type} {A : List α} {k : Nat} {r : α} {L : List α} (h : A.drop k = r :: L) : k < A.length ∧ A[k]? = some r ∧ A.drop (k + 1) = L := by
  have hk : k < A.length := by
    rcases Nat.lt_or_ge k A.length with h1 | h1
    · exact h1
    · rw [List.drop_eq_nil_of_le h1] at h; cases h
  refine ⟨hk, ?_, by rw [← List.drop_drop, h]; rfl⟩
  have := congrArg (fun l => l[0]?) h
  simpa using this
theorem wr_succ {k : Nat} (h : (k : Int) < 1099511627776) : wr ((k : Int) + 1) = ((k + 1 : Nat) : Int) := by rw [wr_id (by omega) (by omega)]; omega
def stGi (m : Int) (A : List (List Int)) (so n k j : Nat) : LS := ⟨[(0, .i m), (1, .sl 0 (A.map eR)), (5, .i so), (6, .i n), (7, .i k), (8, .i j)], []⟩
theorem gs_inner (m : Int) (A : List (List Int)) {k : Nat} {R : List Int} (hk : A[k]? = some R) (hkl : (k : Int) < A.length) : ∀ (r : List Int) (j so n : Nat), so < 32 → ((n + r.length : Nat) : Int) < 1099511627776 → (R.length : Int) < 1099511627776 → R.drop j = r → j + r.length = R.length →
    ex lf F_spec_GroupsOk_W1 (stGi m A so n k j) = if orS (min m 5) so r = true then some (.exit 2, stGi m A (setO so r) (n + r.length) k R.length) else some (.ret, ⟨[(4, .b false)], []⟩) := by
  intro r
  induction r with
  | nil =>
    intro j so n hs hn hR hd hj
    have at1 := at_eR hk
    have e : j = R.length := by simpa using hj
    subst e
    rw [w_spec_GroupsOk_1]
    simp [stGi, F_spec_GroupsOk_L1, orS, setO, at1, hkl]
  | cons a r ih0 =>
    intro j so n hs hn hR hd hj
    have at1 := at_eR hk
    obtain ⟨j1, j2, j3⟩ := drop_cons hd
    have j1' : (j : Int) < R.length := by omega
    have at2 := atI_int j2
    simp only [List.length_cons] at hn hj
    have w1 := wr_succ (k := j) (by omega)
    have w2 := wr_succ (k := n) (by omega)
    rw [w_spec_GroupsOk_1]
    by_cases a0 : a < 0
    · have e2 : decide (0 ≤ a ∧ a < min m 5) = false := decide_eq_false (by omega)
      simp only [orS, e2, Bool.false_and]
      simp [stGi, F_spec_GroupsOk_L1, at1, at2, hkl, j1, j1', a0]
    · by_cases a1 : m ≤ a
      · have e2 : decide (0 ≤ a ∧ a < min m 5) = false := decide_eq_false (by omega)
        simp only [orS, e2, Bool.false_and]
        simp [stGi, F_spec_GroupsOk_L1, at1, at2, hkl, j1, j1', a0, a1]
      · by_cases a5 : 5 ≤ a
        · have e2 : decide (0 ≤ a ∧ a < min m 5) = false := decide_eq_false (by omega)
          simp only [orS, e2, Bool.false_and]
          simp [stGi, F_spec_GroupsOk_L1, at1, at2, hkl, j1, j1', a0, a1, a5]
        · have e2 : decide (0 ≤ a ∧ a < min m 5) = true := decide_eq_true (by omega)
          have o := or_i (so := so) (by omega) (by omega : 0 ≤ a) (by omega : a < 5)
          have bb := bit_bI (a := so) (s := a.toNat) (by omega)
          rw [Int.toNat_of_nonneg (by omega)] at bb
          have ih := ih0 (j + 1) (so ||| 2 ^ a.toNat) (n + 1) (or_lt2 (m := 5) hs (by omega)) (by omega) hR j3 (by omega)
          rw [show n + 1 + r.length = n + (r.length + 1) by omega] at ih
          simp only [orS, e2, Bool.true_and, setO, List.length_cons]
          unfold stGi at *
          cases hb : so.testBit a.toNat with
          | true =>
            rw [hb] at bb
            have q : (bI true == 1) = true := rfl
            simp [F_spec_GroupsOk_L1, at1, at2, hkl, j1, j1', a0, a1, a5, bb, q]
          | false =>
            rw [hb] at bb
            have q : (bI false == 1) = false := rfl
            simp [F_spec_GroupsOk_L1, at1, at2, hkl, j1, j1', a0, a1, a5, bb, q, o, w1, w2, ih, -Int.natCast_add]
def gSp (m : Int) : Nat → List (List Int) → Bool
  | _, [] => true
  | so, r :: L => !r.isEmpty && (orS m so r && gSp m (setO so r) L)
theorem gSp_eq (m : Int) : ∀ (L : List (List Int)) (so : Nat), gSp m so L = (L.all (fun r => !r.isEmpty) && orS m so L.flatten)
  | [], so => by simp [gSp, orS]
  | r :: L, so => by
    simp only [gSp, List.all_cons, List.flatten_cons, orS_app, gSp_eq m L]
    cases r.isEmpty <;> cases orS m so r <;> simp
theorem setO32 {m : Int} : ∀ {os : List Int} {so : Nat}, so < 32 → orS (min m 5) so os = true → setO so os < 32
  | [], _, h, _ => h
  | a :: r, so, h, ho => by
    obtain ⟨h1, h2, h3⟩ := orS_cons.1 ho
    exact setO32 (os := r) (or_lt2 (m := 5) h (by omega)) h3
def stGo (m : Int) (A : List (List Int)) (so n k : Nat) : LS := ⟨[(0, .i m), (1, .sl 0 (A.map eR)), (5, .i so), (6, .i n), (7, .i k)], []⟩
theorem gs_outer (m : Int) (A : List (List Int)) (hb : (A.length : Int) < 1099511627776) : ∀ (L : List (List Int)) (k so n : Nat), so < 32 → ((n + L.flatten.length : Nat) : Int) < 1099511627776 → A.drop k = L → k + L.length = A.length →
    ex lf F_spec_GroupsOk_W0 (stGo m A so n k) = if gSp (min m 5) so L = true then some (.exit 0, stGo m A (setO so L.flatten) (n + L.flatten.length) A.length) else some (.ret, ⟨[(4, .b false)], []⟩) := by
  intro L
  induction L with
  | nil =>
    intro k so n hs hn hd hk
    have e : k = A.length := by simpa using hk
    subst e
    rw [w_spec_GroupsOk_0]
    simp [stGo, F_spec_GroupsOk_L0, gSp, setO]
  | cons R L ih0 =>
    intro k so n hs hn hd hk
    obtain ⟨k1, k2, k3⟩ := drop_cons hd
    have k1' : (k : Int) < A.length := by omega
    have at1 := at_eR k2
    simp only [List.flatten_cons, List.length_append] at hn
    simp only [List.length_cons] at hk
    have w1 := wr_succ (k := k) (by omega)
    rw [w_spec_GroupsOk_0]
    by_cases h0 : R = []
    · subst h0
      simp only [gSp]
      simp [stGo, F_spec_GroupsOk_L0, k1, k1', at1]
    · have I := gs_inner m A k2 k1' R 0 so n hs (by omega) (by omega) rfl (by simp)
      have e0 : R.isEmpty = false := by simpa using h0
      have r0 : ((R.length : Int) == 0) = false := by have := List.length_pos_iff.2 h0; exact beq_false_of_ne (by omega)
      simp only [gSp, e0, Bool.not_false, Bool.true_and]
      unfold stGi at I
      unfold stGo at *
      simp only [Int.natCast_zero] at I
      cases h1 : orS (min m 5) so R with
      | false =>
        rw [h1] at I
        simp at I
        simp [F_spec_GroupsOk_L0, k1, k1', at1, r0, I]
      | true =>
        rw [h1, if_pos rfl] at I
        have ih := ih0 (k + 1) (setO so R) (n + R.length) (setO32 hs h1) (by omega) k3 (by omega)
        rw [← Nat.add_assoc, List.flatten_cons, setO_app, List.length_append, ← Nat.add_assoc] at *
        simp only [Bool.true_and]
        simp [F_spec_GroupsOk_L0, k1, k1', at1, r0, I, w1, ih, -Int.natCast_add, -List.length_flatten]
theorem c_spec_GroupsOk (m : Int) (L : List (List Int)) (hb : (L.length : Int) < 1099511627776) (hf : (L.flatten.length : Int) < 1099511627776) : call lf n_spec_GroupsOk [.i m, .sl 0 (L.map eR)] = some (.b (gokB m L), []) := by
  rw [call_k lf n_spec_GroupsOk _ (F := F_spec_GroupsOk) rfl rfl]
  have I := gs_outer m L hb L 0 0 0 (by omega) (by omega) rfl (by simp)
  unfold stGo at I
  simp only [Int.natCast_zero, Nat.zero_add] at I
  have e1 : nOk m = decide (1 ≤ m ∧ m ≤ 5) := rfl
  rw [gSp_eq] at I
  unfold gokB orOk
  rw [e1]
  by_cases hm : 1 ≤ m ∧ m ≤ 5
  · have h1 : decide (1 ≤ m ∧ m ≤ 5) = true := decide_eq_true hm
    have e5 : min m 5 = m := by omega
    rw [e5] at I
    rw [h1]
    cases h3 : (L.all (fun r => !r.isEmpty) && orS m 0 L.flatten) with
    | false =>
      rw [h3] at I
      simp at I
      have e : (L.all (fun r => !r.isEmpty) && (true && decide ((L.flatten.length : Int) = m) && orS m 0 L.flatten)) = false := by
        rw [Bool.true_and, ← Bool.and_assoc, Bool.and_right_comm, h3]; rfl
      rw [e]
      simp [F_spec_GroupsOk, I]
    | true =>
      rw [h3, if_pos rfl] at I
      rw [Bool.and_eq_true] at h3
      rw [h3.1, h3.2]
      generalize L.flatten.length = z at *
      simp [F_spec_GroupsOk, I, c_spec_l1In, h1, Bool.beq_eq_decide_eq]
  · have h1 : decide (1 ≤ m ∧ m ≤ 5) = false := decide_eq_false hm
    rw [h1]
    cases h3 : (L.all (fun r => !r.isEmpty) && orS (min m 5) 0 L.flatten) with
    | false =>
      rw [h3] at I
      simp at I
      simp [F_spec_GroupsOk, I]
    | true =>
      rw [h3, if_pos rfl] at I
      generalize L.flatten.length = z at *
      simp [F_spec_GroupsOk, I, c_spec_l1In, h1]
end
section
attribute [-simp] DV.cells
attribute [local simp] sliceD cells_st cells_sl cells_i cells_y cells_b cells_s cells_w
attribute [local simp] lend_eR al_eR
def ni (l : List Nat) : List Int := l.map fun k : Nat => (k : Int)
theorem ni_len (l : List Nat) : (ni l).length = l.length := by simp [ni]
theorem ni_toNat (l : List Nat) : (ni l).map Int.toNat = l := by
  unfold ni
  rw [List.map_map]
  conv => rhs; rw [← List.map_id l]
  apply List.map_congr_left
  intro k _
  simp
theorem ni_app (p q : List Nat) : ni (p ++ q) = ni p ++ ni q := by simp [ni]
theorem atT {us : List T} {k : Nat} (hk : k < us.length) : atI (us.map e2) (k : Int) = some (.st [.i (cA us k), .i (pA us k)]) := by
  simp only [atI, if_pos (Int.natCast_nonneg k)]
  show (us.map e2)[(k : Int).toNat]? = _
  rw [Int.toNat_natCast, List.getElem?_map, List.getElem?_eq_getElem hk]
  unfold cA pA
  simp [List.getD, hk, e2]
theorem cA_bd {us : List T} (h : us.all tOk = true) {k : Nat} (hk : k < us.length) : 1 ≤ cA us k ∧ cA us k ≤ 9 := by
  have := tOk_iff.1 (List.all_eq_true.1 h us[k] (List.getElem_mem hk))
  unfold cA
  simp only [List.getD, List.getElem?_eq_getElem hk, Option.getD_some]
  exact this.1
theorem at_ni {L : List Nat} {j k : Nat} (h : L[j]? = some k) : atI ((ni L).map DV.i) (j : Int) = some (.i k) ∧ atN ((ni L).map DV.i) j = some (.i k) := by
  have h' : (ni L)[j]? = some (k : Int) := by unfold ni; rw [List.getElem?_map, h]; rfl
  refine ⟨atI_int h', ?_⟩
  show ((ni L).map DV.i)[j]? = _
  rw [List.getElem?_map, h']; rfl
end
section
attribute [-simp] DV.cells
attribute [local simp] sliceD cells_st cells_sl cells_i cells_y cells_b cells_s cells_w
attribute [local simp] lend_eR al_eR
theorem gok_of {m : Nat} (hm : 1 ≤ m ∧ m ≤ 5) {L : List (List Int)} (h : gokB m L = true) : ∃ N : List (List Nat), L = N.map ni ∧ Gok m N := by
  unfold gokB at h
  rw [Bool.and_eq_true] at h
  obtain ⟨h1, h2⟩ := h
  obtain ⟨o1, o2, o3⟩ := orOk_iff.1 h2
  obtain ⟨o4, o5⟩ := orS_nodup.1 o3
  have e : L = (L.map (List.map Int.toNat)).map ni := by
    rw [List.map_map]
    conv => lhs; rw [← List.map_id L]
    apply List.map_congr_left
    intro r hr
    show r = ni (r.map Int.toNat)
    unfold ni
    rw [List.map_map]
    conv => lhs; rw [← List.map_id r]
    apply List.map_congr_left
    intro a ha
    have := (o4 a (List.mem_flatten.2 ⟨r, hr, ha⟩)).1
    show a = ((a.toNat : Nat) : Int)
    omega
  have ef : (L.map (List.map Int.toNat)).flatten = L.flatten.map Int.toNat := by rw [List.map_flatten]
  have lt : ∀ g ∈ L.map (List.map Int.toNat), ∀ k ∈ g, k < m := by
    intro g hg k hk
    obtain ⟨r, hr, rfl⟩ := List.mem_map.1 hg
    obtain ⟨a, ha, rfl⟩ := List.mem_map.1 hk
    have := (o4 a (List.mem_flatten.2 ⟨r, hr, ha⟩)).1
    omega
  have nd : (L.map (List.map Int.toNat)).flatten.Nodup := by
    rw [ef, List.nodup_iff_pairwise_ne, List.pairwise_map]
    refine List.Pairwise.imp_of_mem (fun {a b} ha hb hab h => hab ?_) (List.nodup_iff_pairwise_ne.1 o5)
    have := (o4 a ha).1
    have := (o4 b hb).1
    omega
  refine ⟨_, e, lt, nd, fun k hk => ?_, ?_⟩
  · rw [ef, List.mem_map]
    have p := (or_perm h2).mem_iff.2 (mem_rng.2 (show 0 ≤ (k : Int) ∧ (k : Int) < ((m : Int).toNat : Nat) by omega))
    exact ⟨(k : Int), p, by simp⟩
  · intro g hg
    obtain ⟨r, hr, rfl⟩ := List.mem_map.1 hg
    have := List.all_eq_true.1 h1 r hr
    simpa using this
theorem gok_to {m : Nat} (hm : 1 ≤ m ∧ m ≤ 5) {N : List (List Nat)} (G : Gok m N) : gokB m (N.map ni) = true := by
  unfold gokB
  rw [Bool.and_eq_true]
  have ef : (N.map ni).flatten = ni N.flatten := by unfold ni; rw [List.map_flatten]
  refine ⟨?_, ?_⟩
  · rw [List.all_map, List.all_eq_true]
    intro g hg
    have := G.ne g hg
    cases g with
    | nil => exact absurd rfl this
    | cons a g => rfl
  · rw [ef, orOk_iff, orS_nodup]
    refine ⟨by omega, by rw [ni_len, gok_len G], fun o ho => ?_, ?_⟩
    · obtain ⟨k, hk, rfl⟩ := List.mem_map.1 ho
      obtain ⟨g, h1, h2⟩ := List.mem_flatten.1 hk
      have := G.lt g h1 k h2
      exact ⟨by omega, by simp⟩
    · unfold ni
      rw [List.nodup_iff_pairwise_ne, List.pairwise_map]
      exact List.Pairwise.imp (fun {a b} (hab : a ≠ b) h => hab (Int.ofNat_inj.1 h)) (List.nodup_iff_pairwise_ne.1 G.nd)
end
section
def ci (ts : List Int) (i : Nat) : List DV := (ts.take i).map .i ++ List.replicate (ts.length - i) (.i 0)
end
section
attribute [-simp] DV.cells
attribute [local simp] sliceD cells_st cells_sl cells_i cells_y cells_b cells_s cells_w
attribute [local simp] lend_eR al_eR
def eN (r : List Int) : DV := .sl 1 (r.map .i)
theorem lend_eN (L : List (List Int)) : lendL (L.map eN) = L.map eR := by
  rw [lendL_map, List.map_map]
  apply List.map_congr_left
  intro r _
  simp [eN, eR, DV.lend]
theorem adopt_eN (o : Bool) (L : List (List Int)) : adoptL o (L.map eN) = L.map eN := by
  rw [adoptL_map, List.map_map]
  apply List.map_congr_left
  intro r _
  simp [eN, DV.adopt, adoptP]
theorem new_eN (L : List (List Int)) : allNewL (L.map eN) = true := by
  rw [allNewL_all, List.all_map, List.all_eq_true]
  intro r _
  simp [eN, DV.allNew, newP]
attribute [local simp] lend_eN adopt_eN new_eN
end
section
attribute [-simp] DV.cells
attribute [local simp] sliceD cells_st cells_sl cells_i cells_y cells_b cells_s cells_w
attribute [local simp] lend_eR al_eR lend_eN adopt_eN new_eN
theorem cells_cel (k n : Nat) : (DV.cel k n).cells = [.cel k n] := rfl
theorem noc_i (xs : List Int) : noCelL (xs.map DV.i) = true := by rw [noCelL_all, List.all_map, List.all_eq_true]; intro x _; rfl
theorem noc_y (xs : List Nat) : noCelL (xs.map DV.y) = true := by rw [noCelL_all, List.all_map, List.all_eq_true]; intro x _; rfl
theorem noc_eN (L : List (List Int)) : noCelL (L.map eN) = true := by
  rw [noCelL_all, List.all_map, List.all_eq_true]
  intro x _
  show noCelL (x.map DV.i) = true
  exact noc_i x
theorem c_odd0 (bs : List Nat) (p : Int) : call lf n_spec_l20Rd_odd [.ref (.st [.sl 0 (bs.map .y), .i p]), .i 0] = some (.b false, [.st [.sl 0 (bs.map .y), .i p]]) := by
  rw [call_k lf n_spec_l20Rd_odd _ (F := F_spec_l20Rd_odd) rfl rfl]
  simp [F_spec_l20Rd_odd]
theorem c_l20OrderG {bs : List Nat} (hb : ∀ y ∈ bs, y < 256) (hl : bs.length ≤ 2000) {p : Int} {m : Nat} (h0 : 0 ≤ p) (h1 : p < 700000) (hm : m ≤ 5) :
    ∃ us : List Int, us.length = m ∧ call lf n_spec_l20Order [.ref (.st [.sl 0 (bs.map .y), .i p]), .i m, .i 0] = some (.fr 1 (us.map .i), [.st [.sl 0 (bs.map .y), .i (p + m)]]) := by
  obtain ⟨us, u1, L⟩ := l_l20Order hb hl m hm 0 m 0 p 5640 [] (.inl rfl) h0 (by omega) (by omega) (by rfl)
  have lu := perm_len u1
  simp only [Int.natCast_zero, List.map_nil] at L
  have k2 := c_odd0 bs (p + m)
  refine ⟨us, lu, ?_⟩
  rw [call_k lf n_spec_l20Order _ (F := F_spec_l20Order) rfl rfl]
  generalize hq : p + (m : Int) = q at *
  simp [F_spec_l20Order, L, k2, lu]
attribute [local simp] cells_cel noc_i noc_y noc_eN noCelE noCelO noCelL DV.noCel
/-- the rows that are done, the row that grows -/
def stG2 (bs : List Nat) (n : Int) (os : List Int) (init : List (List Int)) (last : List Int) (i : Nat) (p : Int) : LS :=
  ⟨[(0, .oad 23 1 0 0), (2, .i n), (7, .own 6664 os.length 0 os.length), (8, .own 7176 (init.length + 1) 0 (init.length + 1)), (9, .i i)],
    [(23, [.st [.sl 0 (bs.map .y), .i p]]), (6664, os.map .i), (7176, init.map eN ++ [.cel 15373 last.length]), (15373, last.map .i)]⟩
set_option maxHeartbeats 8000000 in
theorem g2_step {bs : List Nat} (n : Int) (os : List Int) (hos : os.length ≤ 5) (init : List (List Int)) (last : List Int) {i : Nat} {a : Int} (hi : os[i]? = some a) (hil : init.length ≤ 5) (hl : last.length ≤ 5) {p : Int} {b : Bool}
    (k : call lf n_spec_l20Rd_pick [.ref (.st [.sl 0 (bs.map .y), .i p]), .i 2] = some (.i (if b then 0 else 1), [.st [.sl 0 (bs.map .y), .i (p + 1)]])) :
    ex lf F_spec_l20Groups_L0 (stG2 bs n os init last i p) = some (.normal, if b then stG2 bs n os (init ++ [last]) [a] (i + 1) (p + 1) else stG2 bs n os init (last ++ [a]) (i + 1) (p + 1)) := by
  have hlt : i < os.length := (List.getElem?_eq_some_iff.1 hi).1
  have hlt' : (i : Int) < os.length := by omega
  have w1 := wr_succ (k := i) (by omega)
  have a1 := atI_int hi
  have a2 : atN (os.map DV.i) i = some (.i a) := by
    show (os.map DV.i)[i]? = _
    rw [List.getElem?_map, hi]; rfl
  have tk : List.take os.length (os.map DV.i) = os.map .i := List.take_of_length_le (by simp)
  have r3 : ∀ (I : List (List Int)) (x : DV), atN (I.map eN ++ [x]) I.length = some x := fun I x => by
    show (I.map eN ++ [x])[I.length]? = _
    rw [List.getElem?_append_right (by simp)]
    simp
  have s3 : ∀ (I : List (List Int)) (x y : DV), (I.map eN ++ [x]).set I.length y = I.map eN ++ [y] := fun I x y => by
    rw [List.set_append_right _ _ (by simp)]
    simp
  cases b with
  | true =>
    have c1 : init.length + 1 + 1 ≤ bound := by unfold bound; omega
    have w2 : wr (((init.length + 1 + 1 : Nat) : Int) - 1) = ((init.length + 1 : Nat) : Int) := by rw [wr_id (by omega) (by omega)]; omega
    have e0 : (((init.length + 1 : Nat) : Int) == 0) = false := beq_false_of_ne (by omega)
    have r4 := r3 (init ++ [last]) (.cel 15373 0)
    have s4 := s3 (init ++ [last]) (.cel 15373 0) (.cel 15373 1)
    have sh : init.map eN ++ [DV.sl 1 (last.map .i)] = (init ++ [last]).map eN := by rw [List.map_append]; rfl
    have ln : (init ++ [last]).length = init.length + 1 := by simp
    have lM : ((init ++ [last]).map eN).length = init.length + 1 := by simp
    rw [ln] at r4 s4
    have cb : 1 ≤ bound := by unfold bound; omega
    have nM := noc_eN (init ++ [last])
    rw [if_pos rfl] at k
    simp only [if_true]
    unfold stG2
    rw [ln]
    generalize hM : (init ++ [last]).map eN = M at *
    have tkM : List.take (init.length + 1) M = M := List.take_of_length_le (by omega)
    simp [F_spec_l20Groups_L0, hlt, hlt', w1, w2, e0, k, a1, a2, tk, sh, lM, c1, r4, s4, cb, tkM, nM, -Int.natCast_add]
  | false =>
    have w2 : wr (((init.length + 1 : Nat) : Int) - 1) = (init.length : Nat) := by rw [wr_id (by omega) (by omega)]; omega
    have e0 : (((init.length + 1 : Nat) : Int) == 0) = false := beq_false_of_ne (by omega)
    have cb : last.length + 1 ≤ bound := by unfold bound; omega
    unfold stG2
    simp at k
    simp [F_spec_l20Groups_L0, hlt, hlt', w1, w2, e0, k, a1, a2, tk, r3, s3, cb, -Int.natCast_add]
set_option maxHeartbeats 8000000 in
theorem g2_first {bs : List Nat} (n : Int) {os : List Int} (hos : os.length ≤ 5) {a : Int} (hi : os[0]? = some a) (p : Int) :
    ex lf F_spec_l20Groups_L0 ⟨[(0, .oad 23 1 0 0), (2, .i n), (7, .own 6664 os.length 0 os.length), (8, .own 7176 0 0 0), (9, .i 0)], [(23, [.st [.sl 0 (bs.map .y), .i p]]), (6664, os.map .i), (7176, [])]⟩ = some (.normal, stG2 bs n os [] [a] 1 p) := by
  have hlt : 0 < os.length := (List.getElem?_eq_some_iff.1 hi).1
  have a1 := atI_int hi
  simp only [Int.natCast_zero] at a1
  have a2 : atN (os.map DV.i) 0 = some (.i a) := by
    show (os.map DV.i)[0]? = _
    rw [List.getElem?_map, hi]; rfl
  have tk : List.take os.length (os.map DV.i) = os.map .i := List.take_of_length_le (by simp)
  have cb : 1 ≤ bound := by unfold bound; omega
  have w1 : wr (1 : Int) = 1 := wr_id (by omega) (by omega)
  have w0 : wr (0 : Int) = 0 := wr_id (by omega) (by omega)
  unfold stG2
  simp [F_spec_l20Groups_L0, hlt, a1, a2, tk, cb, w0, w1]
theorem g2_loop {bs : List Nat} (hb : ∀ y ∈ bs, y < 256) (hl : bs.length ≤ 2000) (n : Int) (os : List Int) (hos : os.length ≤ 5) : ∀ (d i : Nat) (init : List (List Int)) (last : List Int) (p : Int), i + d = os.length → 1 ≤ i → init.length + 1 ≤ i → init.flatten.length + last.length = i → 0 ≤ p → p + d < 900000 →
    ∃ (init' : List (List Int)) (last' : List Int) (p' : Int), p ≤ p' ∧ p' ≤ p + d ∧ init'.length + 1 ≤ os.length ∧ init'.flatten.length + last'.length = os.length ∧
      ex lf F_spec_l20Groups_W0 (stG2 bs n os init last i p) = some (.exit 0, stG2 bs n os init' last' os.length p') := by
  intro d
  induction d with
  | zero =>
    intro i init last p hi h1 h2 h3 h4 h5
    have e : i = os.length := by omega
    subst e
    refine ⟨init, last, p, by omega, by omega, h2, h3, ?_⟩
    rw [w_spec_l20Groups_0]
    simp [stG2, F_spec_l20Groups_L0]
  | succ d ih =>
    intro i init last p hi h1 h2 h3 h4 h5
    have hk : os[i]? = some os[i] := List.getElem?_eq_getElem (by omega)
    have k := c_pick hb hl (p := p) (n := 2) h4 (by omega) (by omega)
    have bd := pk_bound hb (p := p) (n := 2) h4 (by omega) (by omega)
    by_cases z : pk bs p 2 = 0
    · rw [z] at k
      have S := g2_step n os hos init last hk (by omega) (by omega) (b := true) (p := p) (by simpa using k)
      obtain ⟨i', l', p', q1, q2, q3, q4, q5⟩ := ih (i + 1) (init ++ [last]) [os[i]] (p + 1) (by omega) (by omega) (by simp; omega) (by simp only [List.flatten_append, List.length_append, List.flatten_cons, List.flatten_nil, List.length_nil, List.length_singleton]; omega) (by omega) (by omega)
      refine ⟨i', l', p', by omega, by omega, q3, q4, ?_⟩
      rw [w_spec_l20Groups_0, S]
      simpa using q5
    · have z1 : pk bs p 2 = 1 := by omega
      rw [z1] at k
      have S := g2_step n os hos init last hk (by omega) (by omega) (b := false) (p := p) (by simpa using k)
      obtain ⟨i', l', p', q1, q2, q3, q4, q5⟩ := ih (i + 1) init (last ++ [os[i]]) (p + 1) (by omega) (by omega) (by omega) (by simp only [List.length_append, List.length_singleton]; omega) (by omega) (by omega)
      refine ⟨i', l', p', by omega, by omega, q3, q4, ?_⟩
      rw [w_spec_l20Groups_0, S]
      simpa using q5
set_option maxHeartbeats 8000000 in
theorem c_l20Groups {bs : List Nat} (hb : ∀ y ∈ bs, y < 256) (hl : bs.length ≤ 2000) {p n : Int} {m : Nat} (h0 : 0 ≤ p) (h1 : p < 600000) (hm : m ≤ 5) (hn : 1 ≤ n) (hn2 : n ≤ 1000000) :
    ∃ (R : List (List Int)) (p' : Int), R.length ≤ 6 ∧ R.flatten.length ≤ 6 ∧ p ≤ p' ∧ p' ≤ p + 30 ∧ call lf n_spec_l20Groups [.ref (.st [.sl 0 (bs.map .y), .i p]), .i m, .i n] = some (.fr 1 (R.map eN), [.st [.sl 0 (bs.map .y), .i p']]) := by
  obtain ⟨os, lo, CO⟩ := c_l20OrderG hb hl (p := p) (m := m) h0 (by omega) hm
  obtain ⟨Q, q, S1, b1, b2, b3, b4, W, H⟩ : ∃ (Q : List (List Int)) (q : Int) (S1 : LS), Q.length ≤ 5 ∧ Q.flatten.length ≤ 5 ∧ p ≤ q ∧ q ≤ p + 15 ∧
      ex lf F_spec_l20Groups_W0 ⟨[(0, .oad 23 1 0 0), (2, .i n), (7, .own 6664 os.length 0 os.length), (8, .own 7176 0 0 0), (9, .i 0)], [(23, [.st [.sl 0 (bs.map .y), .i (p + m)]]), (6664, os.map .i), (7176, [])]⟩ = some (.exit 0, S1) ∧
      ∀ X : LC, ex lf (.ghost (.shut 8) X) S1 = ex lf X ⟨[(0, .oad 23 1 0 0), (2, .i n), (7, .own 6664 os.length 0 os.length), (8, .own 7176 Q.length 0 Q.length), (9, .i os.length)], [(23, [.st [.sl 0 (bs.map .y), .i q]]), (6664, os.map .i), (7176, Q.map eN)]⟩ := by
    cases os with
    | nil =>
      refine ⟨[], p + m, ⟨[(0, .oad 23 1 0 0), (2, .i n), (7, .own 6664 0 0 0), (8, .own 7176 0 0 0), (9, .i 0)], [(23, [.st [.sl 0 (bs.map .y), .i (p + m)]]), (6664, []), (7176, [])]⟩, by simp, by simp, by omega, by omega, ?_, fun X => ?_⟩
      · rw [w_spec_l20Groups_0]
        simp [F_spec_l20Groups_L0]
      · simp
    | cons a os =>
      have S := g2_first (bs := bs) n (os := a :: os) (by omega) (a := a) rfl (p + m)
      have lo' : os.length + 1 = m := by simpa using lo
      obtain ⟨I, l, q, q1, q2, q3, q4, q5⟩ := g2_loop hb hl n (a :: os) (by omega) os.length 1 [] [a] (p + m) (by simp; omega) (by omega) (by simp) (by simp) (by omega) (by omega)
      refine ⟨I ++ [l], q, stG2 bs n (a :: os) I l (a :: os).length q, by simp only [List.length_append, List.length_singleton]; omega, by simp only [List.flatten_append, List.length_append, List.flatten_cons, List.flatten_nil, List.length_nil]; omega, by omega, by simp only [List.length_cons] at lo; omega, ?_, fun X => ?_⟩
      · rw [w_spec_l20Groups_0, S]
        exact q5
      · have sh : I.map eN ++ [DV.sl 1 (l.map .i)] = (I ++ [l]).map eN := by rw [List.map_append]; rfl
        have ln : (I ++ [l]).length = I.length + 1 := by simp
        unfold stG2
        rw [ln]
        generalize (I ++ [l]).map eN = M at *
        simp [sh]
  have k2 := c_odd hb hl (p := q) (n := n) (by omega) (by omega) hn hn2
  have tk : List.take Q.length (Q.map eN) = Q.map eN := List.take_of_length_le (by simp)
  have cb : Q.length + 1 ≤ bound := by unfold bound; omega
  cases ho : (pk bs q n == n - 1) with
  | false =>
    rw [ho] at k2
    refine ⟨Q, q + 1, by omega, by omega, by omega, by omega, ?_⟩
    rw [call_k lf n_spec_l20Groups _ (F := F_spec_l20Groups) rfl rfl]
    generalize hpm : p + (m : Int) = pm at *
    simp [F_spec_l20Groups, CO, W, H, k2, tk, -ks_shut]
  | true =>
    rw [ho] at k2
    have k3 := c_pick hb hl (p := q + 1) (n := 2) (by omega) (by omega) (by omega)
    have a3 := pk_bound hb (p := q + 1) (n := 2) (by omega) (by omega) (by omega)
    by_cases z : pk bs (q + 1) 2 = 0
    · rw [z] at k3
      refine ⟨Q ++ [[]], q + 1 + 1, by simp; omega, by simp only [List.flatten_append, List.length_append, List.flatten_cons, List.flatten_nil, List.length_nil]; omega, by omega, by omega, ?_⟩
      rw [call_k lf n_spec_l20Groups _ (F := F_spec_l20Groups) rfl rfl]
      generalize hpm : p + (m : Int) = pm at *
      simp [F_spec_l20Groups, CO, W, H, k2, k3, tk, cb, -ks_shut, eN]
    · have z1 : pk bs (q + 1) 2 = 1 := by omega
      rw [z1] at k3
      refine ⟨Q ++ [[0]], q + 1 + 1, by simp; omega, by simp only [List.flatten_append, List.length_append, List.flatten_cons, List.flatten_nil, List.length_nil, List.length_singleton]; omega, by omega, by omega, ?_⟩
      rw [call_k lf n_spec_l20Groups _ (F := F_spec_l20Groups) rfl rfl]
      generalize hpm : p + (m : Int) = pm at *
      simp [F_spec_l20Groups, CO, W, H, k2, k3, tk, cb, -ks_shut, eN]
end
section
attribute [-simp] DV.cells
attribute [local simp] sliceD cells_st cells_sl cells_i cells_y cells_b cells_s cells_w
attribute [local simp] lend_eR al_eR lend_eN adopt_eN new_eN
theorem c_l20Grouped {bs : List Nat} (hb : ∀ y ∈ bs, y < 256) (hl : bs.length ≤ 2000) {p : Int} (h0 : 0 ≤ p) (h1 : p < 500000) :
    ∃ (us : List T) (R : List (List Int)) (p' : Int), us.length ≤ 5 ∧ R.length ≤ 6 ∧ R.flatten.length ≤ 6 ∧ p ≤ p' ∧ p' ≤ p + 60 ∧
      call lf n_spec_l20Grouped [.ref (.st [.sl 0 (bs.map .y), .i p])] = some (.tup [.fr 2 (us.map e2), .fr 1 (R.map eN)], [.st [.sl 0 (bs.map .y), .i p']]) := by
  obtain ⟨us, p1, u1, u2, u3, U⟩ := c_l20Tests hb hl (p := p) (n := 14) h0 (by omega) (by omega) (by omega)
  obtain ⟨R, p', q1, q2, q3, q4, G⟩ := c_l20Groups hb hl (p := p1) (n := 14) (m := us.length) (by omega) (by omega) u1 (by omega) (by omega)
  refine ⟨us, R, p', u1, q1, q2, by omega, by omega, ?_⟩
  rw [call_k lf n_spec_l20Grouped _ (F := F_spec_l20Grouped) rfl rfl]
  have tk : List.take R.length (R.map eN) = R.map eN := List.take_of_length_le (by simp)
  have tk2 : List.take us.length (us.map e2) = us.map e2 := List.take_of_length_le (by simp)
  simp [F_spec_l20Grouped, U, G, tk, tk2]
end
section
structure CS where
  c : Nat → Int
  p : Nat → Int
  q : Nat → Int
  lA : Nat → Nat → Bool
  lB : Nat → Nat → Bool
  ch : List Nat → Nat → Nat
def rk (l : Nat → Nat → Bool) (S : List Nat) (i : Nat) : Nat := S.countP fun x => l x i
/-- what the rule costs -/
def vR (C : CS) : Nat → List Nat → Nat → Int
  | 0, _, _ => 0
  | f + 1, S, k => if k = 0 ∨ S.length < k then 0 else 6 ^ S.length * C.c (C.ch S k) + C.p (C.ch S k) * vR C f (S.erase (C.ch S k)) (k - 1) + C.q (C.ch S k) * vR C f (S.erase (C.ch S k)) k
def CS.V (C : CS) (S : List Nat) (k : Nat) : Int := vR C S.length S k
def CS.W (C : CS) (S : List Nat) (k i : Nat) : Int := 6 ^ S.length * C.c i + C.p i * C.V (S.erase i) (k - 1) + C.q i * C.V (S.erase i) k
end
section
/-- tests, the two orders by ratios, and the least test of both -/
def tltA (us : List T) (a b : Nat) : Bool := decide (cA us a * pA us b < cA us b * pA us a ∨ cA us b * pA us a = cA us a * pA us b ∧ a < b)
def tltB (us : List T) (a b : Nat) : Bool := decide (cA us a * (6 - pA us b) < cA us b * (6 - pA us a) ∨ cA us b * (6 - pA us a) = cA us a * (6 - pA us b) ∧ a < b)
def bothL (us : List T) (S : List Nat) (k : Nat) : List Nat := S.filter fun i => decide (rk (tltA us) S i < k) && decide (rk (tltB us) S i + k ≤ S.length)
def cs (us : List T) : CS := ⟨cA us, pA us, fun i => 6 - pA us i, tltA us, tltB us, fun S k => (bothL us S k).headD 0⟩
end
section
/-- what is not known, and how many yes -/
def unk (m : Nat) (ks : List Int) : List Nat := (List.range m).filter fun k => ks[k]? == some (-1)
end
section
def gS : List I3 → Int
  | [] => 1
  | x :: r => (x.2.2 - x.2.1) * gS r
theorem gS_bd : ∀ {l : List I3}, (∀ x ∈ l, iOk x) → 0 ≤ gS l ∧ gS l ≤ gM l
  | [], _ => by simp [gS, gM]
  | x :: r, h => by
    obtain ⟨h1, h2, h3⟩ := h x List.mem_cons_self
    have hr : ∀ y ∈ r, iOk y := fun y hy => h y (List.mem_cons_of_mem _ hy)
    obtain ⟨a, b⟩ := gS_bd hr
    have c := gM_pos hr
    simp only [gS, gM]
    refine ⟨Int.mul_nonneg (by omega) a, ?_⟩
    have k1 := Int.mul_le_mul_of_nonneg_right (show x.2.2 - x.2.1 ≤ x.2.2 by omega) a
    have k2 := Int.mul_le_mul_of_nonneg_left b (show 0 ≤ x.2.2 by omega)
    omega
/-- the parts in which a row ends -/
def gE (l : List I3) : Int := gM l - gS l
theorem gE_pos {l : List I3} (h : ∀ x ∈ l, iOk x) (hne : l ≠ []) : 0 < gE l := by
  cases l with
  | nil => exact absurd rfl hne
  | cons x r =>
    obtain ⟨h1, h2, h3⟩ := h x List.mem_cons_self
    have hr : ∀ y ∈ r, iOk y := fun y hy => h y (List.mem_cons_of_mem _ hy)
    obtain ⟨a, b⟩ := gS_bd hr
    have c := gM_pos hr
    unfold gE
    simp only [gS, gM]
    have k1 := Int.mul_le_mul_of_nonneg_left b (show 0 ≤ x.2.2 - x.2.1 by omega)
    have k2 := Int.mul_pos h2 c
    rw [Int.sub_mul] at k1 ⊢
    rw [Int.sub_mul] at k1
    omega
/-- cost less a ratio (x by y) times the parts that end -/
def gf (x y : Int) (l : List I3) : Int := y * gD l - x * gE l
theorem gf_nil (x y : Int) : gf x y [] = 0 := by simp [gf, gD, gE, gM, gS]
theorem gf_cons (x y : Int) (a : I3) (l : List I3) : gf x y (a :: l) = (y * a.1 - x * a.2.1) * gM l + (a.2.2 - a.2.1) * gf x y l := by
  unfold gf gE
  simp only [gD, gM, gS]
  grind
/-- what is carried along never falls below nothing -/
def Car (x y A s : Int) (l : List I3) : Prop := ∀ P Q, l = P ++ Q → 0 ≤ A * gM P + s * gf x y P
theorem Car.next {x y A s : Int} {a : I3} {l : List I3} (h : Car x y A s (a :: l)) : Car x y (A * a.2.2 + s * (y * a.1 - x * a.2.1)) (s * (a.2.2 - a.2.1)) l := fun P Q e => by
  have := h (a :: P) Q (by rw [e]; rfl)
  rw [gf_cons] at this
  simp only [gM] at this
  grind
theorem Car.head {x y A s : Int} {a : I3} {l : List I3} (h : Car x y A s (a :: l)) : 0 ≤ A * a.2.2 + s * (y * a.1 - x * a.2.1) := by
  have := h [a] l rfl
  rw [gf_cons, gf_nil] at this
  simp only [gM] at this
  grind
end
section
/-- again and again the first part with the least ratio -/
inductive Gr : List (List I3) → List I3 → Prop
  | nil (L : List (List I3)) (h : ∀ c ∈ L, c = []) : Gr L []
  | step (A B : List (List I3)) (X W row : List I3) (hne : X ≠ []) (hl : ∀ c ∈ A ++ (X ++ W) :: B, ∀ P Q, c = P ++ Q → gD X * gE P ≤ gD P * gE X) (h : Gr (A ++ W :: B) row) : Gr (A ++ (X ++ W) :: B) (X ++ row)
end
section
/-- rows that keep chains, one by one -/
inductive Wk : List (List Nat) → List Nat → Prop
  | nil (L : List (List Nat)) (h : ∀ c ∈ L, c = []) : Wk L []
  | step (A B : List (List Nat)) (k : Nat) (c row : List Nat) (h : Wk (A ++ c :: B) row) : Wk (A ++ (k :: c) :: B) (k :: row)
theorem wk_perm {L : List (List Nat)} {row : List Nat} (h : Wk L row) : row.Perm L.flatten := by
  induction h with
  | nil L h =>
    have : L.flatten = [] := by rw [List.flatten_eq_nil_iff]; exact h
    rw [this]
  | step A B k c row h ih =>
    rw [List.flatten_append, List.flatten_cons] at ih ⊢
    exact (ih.cons k).trans (by
      have p := (List.perm_middle (a := k) (l₁ := A.flatten) (l₂ := c ++ B.flatten)).symm
      simpa using p)
/-- a test in the row of all -/
def itC (us : List T) (k : Nat) : I3 := (6 * cA us k, 6 - pA us k, 6)
theorem itC_M (us : List T) (l : List Nat) : gM (l.map (itC us)) = 6 ^ l.length := by
  induction l with
  | nil => rfl
  | cons a r ih => simp only [List.map_cons, gM, List.length_cons]; rw [ih, Int.pow_succ, Int.mul_comm]; rfl
theorem itC_ok {us : List T} (h : us.all tOk = true) {l : List Nat} (hl : ∀ x ∈ l, x < us.length) : ∀ x ∈ l.map (itC us), iOk x := fun x hx => by
  obtain ⟨k, hk, rfl⟩ := List.mem_map.1 hx
  have := pA_bd h (hl k hk)
  have := cA_nn h k
  unfold itC iOk
  simp only
  omega
theorem rA_gC (us : List T) : ∀ (l : List Int) (on : Int), rA us 0 on l = on * gD ((l.map Int.toNat).map (itC us))
  | [], on => by simp [rA, gD]
  | a :: r, on => by
    simp only [rA, List.map_cons, gD]
    rw [rA_gC us r, itC_M, List.length_map, Int.pow_succ]
    have e1 : (itC us a.toNat).1 = 6 * cA us a.toNat := rfl
    have e2 : (itC us a.toNat).2.2 - (itC us a.toNat).2.1 = 6 - (6 - pA us a.toNat) := rfl
    have e3 : eA us 0 a.toNat = 6 - pA us a.toNat := by unfold eA pA; rfl
    rw [e1, e2, e3]
    grind
theorem rA_row (us : List T) (l : List Nat) : rA us 0 1 (ni l) = gD (l.map (itC us)) := by
  rw [rA_gC, ni_toNat, Int.one_mul]
def mnO (f : Nat → Option Int) : Nat → Int
  | 0 => -1
  | i + 1 => match f i with
    | none => mnO f i
    | some n => if mnO f i < 0 ∨ n < mnO f i then n else mnO f i
end
section
def c9 (us : List T) (l : List Nat) : Int := gD (l.map (itC us))
def e9 (us : List T) (l : List Nat) : Int := gE (l.map (itC us))
abbrev LN := List (List Nat)
def fp (L : LN) (i n : Nat) : List Nat := (L.getD i []).take n
/-- one more first part: the one so far stays unless this one's ratio is less -/
def cnd (us : List T) (L : LN) (st : Option (Nat × Nat)) (i n : Nat) : Option (Nat × Nat) := match st with
  | none => some (i, n)
  | some (a, b) => if c9 us (fp L i n) * e9 us (fp L a b) < c9 us (fp L a b) * e9 us (fp L i n) then some (i, n) else some (a, b)
def cndN (us : List T) (L : LN) (i : Nat) (st : Option (Nat × Nat)) : Nat → Option (Nat × Nat)
  | 0 => st
  | n + 1 => cnd us L (cndN us L i st n) i (n + 1)
def cndI (us : List T) (L : LN) : Nat → Option (Nat × Nat)
  | 0 => none
  | i + 1 => cndN us L i (cndI us L i) (L.getD i []).length
/-- the least of those that were seen -/
def lstOf (us : List T) (L : LN) (seen : Nat → Nat → Prop) (st : Option (Nat × Nat)) : Prop := match st with
  | none => ∀ i n, ¬ seen i n
  | some (a, b) => seen a b ∧ ∀ i n, seen i n → c9 us (fp L a b) * e9 us (fp L i n) ≤ c9 us (fp L i n) * e9 us (fp L a b)
theorem ratio_trans {x1 y1 x2 y2 x3 y3 : Int} (h1 : 0 ≤ x1) (h3 : 0 ≤ x3) (p2 : 0 < y2) (q1 : 0 < y1) (q3 : 0 < y3) (a : x1 * y2 ≤ x2 * y1) (b : x2 * y3 ≤ x3 * y2) : x1 * y3 ≤ x3 * y1 := by
  have m1 := Int.mul_le_mul_of_nonneg_right a (Int.le_of_lt q3)
  have m2 := Int.mul_le_mul_of_nonneg_right b (Int.le_of_lt q1)
  refine Int.le_of_mul_le_mul_right (a := y2) ?_ p2
  have e1 : x1 * y2 * y3 = x1 * y3 * y2 := by grind
  have e2 : x2 * y1 * y3 = x2 * y3 * y1 := by grind
  have e3 : x3 * y2 * y1 = x3 * y1 * y2 := by grind
  omega
/-- chains of tests that are there -/
def LOk (us : List T) (L : LN) : Prop := ∀ c ∈ L, ∀ x ∈ c, x < us.length
theorem fp_mem {L : LN} {i n x : Nat} (h : x ∈ fp L i n) : ∃ c ∈ L, x ∈ c := by
  unfold fp at h
  have h := List.mem_of_mem_take h
  by_cases hi : i < L.length
  · refine ⟨L[i], List.getElem_mem hi, ?_⟩
    rw [List.getD_eq_getElem?_getD, List.getElem?_eq_getElem hi] at h
    exact h
  · rw [List.getD_eq_getElem?_getD, List.getElem?_eq_none (by omega)] at h
    cases h
theorem fp_ok {us : List T} (h : us.all tOk = true) {L : LN} (hL : LOk us L) (i n : Nat) : ∀ x ∈ (fp L i n).map (itC us), iOk x := itC_ok h fun x hx => by
  obtain ⟨c, hc, hxc⟩ := fp_mem hx
  exact hL c hc x hxc
theorem fp_pos {us : List T} (h : us.all tOk = true) {L : LN} (hL : LOk us L) {i n : Nat} (h1 : 1 ≤ n) (hn : n ≤ (L.getD i []).length) : 0 < e9 us (fp L i n) := by
  refine gE_pos (fp_ok h hL i n) fun e => ?_
  have : (fp L i n).length = 0 := by have := congrArg List.length e; simpa using this
  unfold fp at this
  rw [List.length_take] at this
  omega
theorem cnd_lst {us : List T} (h : us.all tOk = true) {L : LN} (hL : LOk us L) {seen : Nat → Nat → Prop} (hs : ∀ i n, seen i n → 1 ≤ n ∧ n ≤ (L.getD i []).length) {st : Option (Nat × Nat)} (H : lstOf us L seen st) {i n : Nat} (h1 : 1 ≤ n) (hn : n ≤ (L.getD i []).length) :
    lstOf us L (fun j k => seen j k ∨ (j = i ∧ k = n)) (cnd us L st i n) := by
  cases st with
  | none =>
    show (seen i n ∨ (i = i ∧ n = n)) ∧ _
    refine ⟨.inr ⟨rfl, rfl⟩, fun j k hk => ?_⟩
    rcases hk with hk | ⟨rfl, rfl⟩
    · exact absurd hk (H j k)
    · exact Int.le_refl _
  | some p =>
    obtain ⟨a, b⟩ := p
    obtain ⟨H1, H2⟩ := H
    obtain ⟨b1, b2⟩ := hs a b H1
    have ea := fp_pos h hL b1 b2
    have en := fp_pos h hL h1 hn
    simp only [cnd]
    by_cases c : c9 us (fp L i n) * e9 us (fp L a b) < c9 us (fp L a b) * e9 us (fp L i n)
    · rw [if_pos c]
      refine ⟨.inr ⟨rfl, rfl⟩, fun j k hk => ?_⟩
      rcases hk with hk | ⟨rfl, rfl⟩
      · obtain ⟨k1, k2⟩ := hs j k hk
        exact ratio_trans (gD_nn (fp_ok h hL i n)) (gD_nn (fp_ok h hL j k)) ea en (fp_pos h hL k1 k2) (Int.le_of_lt c) (H2 j k hk)
      · exact Int.le_refl _
    · rw [if_neg c]
      refine ⟨.inl H1, fun j k hk => ?_⟩
      rcases hk with hk | ⟨rfl, rfl⟩
      · exact H2 j k hk
      · omega
theorem lst_congr {us : List T} {L : LN} {s s' : Nat → Nat → Prop} {st : Option (Nat × Nat)} (h : ∀ i n, s i n ↔ s' i n) (H : lstOf us L s st) : lstOf us L s' st := by
  cases st with
  | none => exact fun i n q => H i n ((h i n).2 q)
  | some p => exact ⟨(h _ _).1 H.1, fun i n q => H.2 i n ((h i n).2 q)⟩
theorem cndN_lst {us : List T} (h : us.all tOk = true) {L : LN} (hL : LOk us L) {seen : Nat → Nat → Prop} (hs : ∀ i n, seen i n → 1 ≤ n ∧ n ≤ (L.getD i []).length) {st : Option (Nat × Nat)} (H : lstOf us L seen st) (i : Nat) : ∀ N, N ≤ (L.getD i []).length →
    lstOf us L (fun j k => seen j k ∨ (j = i ∧ 1 ≤ k ∧ k ≤ N)) (cndN us L i st N)
  | 0, _ => lst_congr (fun j k => ⟨.inl, fun q => q.elim id fun q => by omega⟩) H
  | N + 1, hN => by
    have ih := cndN_lst h hL hs H i N (by omega)
    refine lst_congr (fun j k => ?_) (cnd_lst h hL (fun j k q => q.elim (hs j k) fun q => by obtain ⟨rfl, q1, q2⟩ := q; exact ⟨q1, by omega⟩) ih (show 1 ≤ N + 1 by omega) hN)
    constructor
    · rintro ((q | q) | q)
      · exact .inl q
      · exact .inr ⟨q.1, q.2.1, by omega⟩
      · exact .inr ⟨q.1, by omega, by omega⟩
    · rintro (q | q)
      · exact .inl (.inl q)
      · by_cases e : k = N + 1
        · exact .inr ⟨q.1, e⟩
        · exact .inl (.inr ⟨q.1, q.2.1, by omega⟩)
theorem cndI_lst {us : List T} (h : us.all tOk = true) {L : LN} (hL : LOk us L) : ∀ m, lstOf us L (fun j k => j < m ∧ 1 ≤ k ∧ k ≤ (L.getD j []).length) (cndI us L m)
  | 0 => fun i n q => by omega
  | m + 1 => by
    have ih := cndI_lst h hL m
    refine lst_congr (fun j k => ?_) (cndN_lst h hL (fun j k q => q.2) ih m (L.getD m []).length (Nat.le_refl _))
    constructor
    · rintro (q | ⟨rfl, q⟩)
      · exact ⟨by omega, q.2⟩
      · exact ⟨by omega, q⟩
    · rintro ⟨q1, q2⟩
      by_cases e : j = m
      · subst e; exact .inr ⟨rfl, q2⟩
      · exact .inl ⟨by omega, q2⟩
/-- the order of first parts -/
def chF (us : List T) : Nat → LN → List Nat
  | 0, _ => []
  | f + 1, L => match cndI us L L.length with
    | none => []
    | some (a, b) => fp L a b ++ chF us f (L.set a ((L.getD a []).drop b))
theorem wk_pre {A B : LN} {W row : List Nat} (h : Wk (A ++ W :: B) row) : ∀ X : List Nat, Wk (A ++ (X ++ W) :: B) (X ++ row)
  | [] => h
  | k :: X => .step _ _ _ _ _ (wk_pre h X)
theorem splitN_at {L : LN} {a : Nat} (ha : a < L.length) (b : Nat) : ∃ A B, A.length = a ∧ L = A ++ ((L.getD a []).take b ++ (L.getD a []).drop b) :: B ∧ L.set a ((L.getD a []).drop b) = A ++ (L.getD a []).drop b :: B := by
  have e : L.getD a [] = L[a] := by rw [List.getD_eq_getElem?_getD, List.getElem?_eq_getElem ha]; rfl
  refine ⟨L.take a, L.drop (a + 1), by rw [List.length_take]; omega, ?_, ?_⟩
  · rw [List.take_append_drop, e, List.getElem_cons_drop, List.take_append_drop]
  · rw [List.set_eq_take_append_cons_drop, if_pos ha]
theorem chF_ok {us : List T} (h : us.all tOk = true) : ∀ (f : Nat) (L : LN), LOk us L → L.flatten.length ≤ f → Wk L (chF us f L) ∧ Gr (L.map (List.map (itC us))) ((chF us f L).map (itC us))
  | f, L, hL, hf => by
    have none_of : (∀ i n, ¬ (i < L.length ∧ 1 ≤ n ∧ n ≤ (L.getD i []).length)) → ∀ c ∈ L, c = [] := fun H c hc => by
      obtain ⟨i, hi, rfl⟩ := List.getElem_of_mem hc
      have e : L.getD i [] = L[i] := by rw [List.getD_eq_getElem?_getD, List.getElem?_eq_getElem hi]; rfl
      cases hl : L[i] with
      | nil => rfl
      | cons x r => exact absurd ⟨hi, Nat.le_refl 1, by rw [e, hl]; simp⟩ (H i 1)
    have nil_ok : (∀ c ∈ L, c = []) → Wk L [] ∧ Gr (L.map (List.map (itC us))) (([] : List Nat).map (itC us)) := fun H => ⟨.nil L H, .nil _ fun c hc => by
      obtain ⟨d, hd, rfl⟩ := List.mem_map.1 hc
      rw [H d hd]; rfl⟩
    cases f with
    | zero =>
      refine nil_ok fun c hc => ?_
      have e : L.flatten = [] := List.length_eq_zero_iff.1 (by omega)
      exact List.flatten_eq_nil_iff.1 e c hc
    | succ f =>
      have I := cndI_lst h hL L.length
      simp only [chF]
      cases hc : cndI us L L.length with
      | none =>
        rw [hc] at I
        exact nil_ok (none_of I)
      | some p =>
        obtain ⟨a, b⟩ := p
        rw [hc] at I
        obtain ⟨⟨a1, b1, b2⟩, I2⟩ := I
        obtain ⟨A, B, hA, e1, e2⟩ := splitN_at a1 b
        simp only
        have lt : (L.set a ((L.getD a []).drop b)).flatten.length ≤ f := by
          rw [e2]
          have := hf
          rw [e1] at this
          simp only [List.flatten_append, List.flatten_cons, List.length_append, List.length_take, List.length_drop] at this ⊢
          omega
        have hL2 : LOk us (L.set a ((L.getD a []).drop b)) := by
          rw [e2]
          intro c hc x hx
          rcases List.mem_append.1 hc with q | q
          · refine hL c ?_ x hx
            rw [e1]
            exact List.mem_append_left _ q
          · rcases List.mem_cons.1 q with q | q
            · have hm : L.getD a [] ∈ L := by rw [List.getD_eq_getElem?_getD, List.getElem?_eq_getElem a1]; exact List.getElem_mem a1
              rw [q] at hx
              exact hL _ hm x (List.mem_of_mem_drop hx)
            · refine hL c ?_ x hx
              rw [e1]
              exact List.mem_append_right _ (List.mem_cons_of_mem _ q)
        obtain ⟨w, g⟩ := chF_ok h f _ hL2 lt
        constructor
        · have w' : Wk (A ++ (L.getD a []).drop b :: B) (chF us f (L.set a ((L.getD a []).drop b))) := by rw [← e2]; exact w
          have := wk_pre w' ((L.getD a []).take b)
          rw [← e1] at this
          exact this
        · have g' : Gr (A.map (List.map (itC us)) ++ ((L.getD a []).drop b).map (itC us) :: B.map (List.map (itC us))) ((chF us f (L.set a ((L.getD a []).drop b))).map (itC us)) := by
            rw [show A.map (List.map (itC us)) ++ ((L.getD a []).drop b).map (itC us) :: B.map (List.map (itC us)) = (L.set a ((L.getD a []).drop b)).map (List.map (itC us)) by rw [e2]; simp]
            exact g
          have e1' : L.map (List.map (itC us)) = A.map (List.map (itC us)) ++ (((L.getD a []).take b).map (itC us) ++ ((L.getD a []).drop b).map (itC us)) :: B.map (List.map (itC us)) := by
            have := congrArg (List.map (List.map (itC us))) e1
            rw [this]
            simp
          rw [List.map_append, e1']
          refine .step _ _ _ _ _ (fun q => ?_) (fun c hc P Q e => ?_) g'
          · have := congrArg List.length q
            simp at this
            rcases this with q | q
            · omega
            · rw [List.getD_eq_getElem?_getD] at b2; rw [q] at b2; simp at b2; omega
          · rw [← e1'] at hc
            obtain ⟨d, hd, rfl⟩ := List.mem_map.1 hc
            obtain ⟨i, hi, rfl⟩ := List.getElem_of_mem hd
            have ed : L.getD i [] = L[i] := by rw [List.getD_eq_getElem?_getD, List.getElem?_eq_getElem hi]; rfl
            by_cases z : P = []
            · subst z
              simp [gE, gM, gS, gD]
            · have lP : P.length ≤ L[i].length := by have := congrArg List.length e; simp at this; omega
              have eP : P = (fp L i P.length).map (itC us) := by
                unfold fp
                rw [ed, List.map_take, e]
                simp
              have := I2 i P.length ⟨hi, by have := List.length_pos_iff.2 z; omega, by rw [ed]; exact lP⟩
              unfold c9 e9 at this
              rw [← eP] at this
              exact this
end
section
/-- each test is behind the one ahead of it -/
def kpr (os : List Nat) : List Nat → Bool
  | a :: b :: r => decide (os.idxOf a ≤ os.idxOf b) && kpr os (b :: r)
  | _ => true
theorem idx_ne {x y : Nat} {r : List Nat} (h : x ≠ y) : (x :: r).idxOf y = r.idxOf y + 1 := by
  rw [List.idxOf_cons, beq_false_of_ne h]; rfl
theorem idx_pw : ∀ {os : List Nat}, os.Nodup → os.Pairwise (fun a b => os.idxOf a < os.idxOf b)
  | [], _ => .nil
  | x :: r, nd => by
    obtain ⟨n1, n2⟩ := List.nodup_cons.1 nd
    refine List.pairwise_cons.2 ⟨fun y hy => ?_, ?_⟩
    · have : x ≠ y := fun e => n1 (e ▸ hy)
      rw [List.idxOf_cons_self, idx_ne this]
      omega
    · refine List.Pairwise.imp_of_mem (fun {a b} ha hb h => ?_) (idx_pw n2)
      have e1 : x ≠ a := fun e => n1 (e ▸ ha)
      have e2 : x ≠ b := fun e => n1 (e ▸ hb)
      rw [idx_ne e1, idx_ne e2]
      omega
theorem kpr_pw {os : List Nat} : ∀ {c : List Nat}, c.Pairwise (fun a b => os.idxOf a < os.idxOf b) → kpr os c = true
  | [], _ => rfl
  | [a], _ => rfl
  | a :: b :: r, h => by
    obtain ⟨h1, h2⟩ := List.pairwise_cons.1 h
    simp only [kpr, Bool.and_eq_true, decide_eq_true_eq]
    exact ⟨Nat.le_of_lt (h1 b List.mem_cons_self), kpr_pw h2⟩
theorem kpr_sub {os c : List Nat} (nd : os.Nodup) (h : c.Sublist os) : kpr os c = true := kpr_pw ((idx_pw nd).sublist h)
theorem pw_kpr {os : List Nat} (nd : os.Nodup) : ∀ {c : List Nat}, c.Nodup → (∀ x ∈ c, x ∈ os) → kpr os c = true → c.Pairwise (fun a b => os.idxOf a < os.idxOf b)
  | [], _, _, _ => .nil
  | [a], _, _, _ => List.pairwise_singleton _ _
  | a :: b :: r, nc, hm, h => by
    simp only [kpr, Bool.and_eq_true, decide_eq_true_eq] at h
    obtain ⟨n1, n2⟩ := List.nodup_cons.1 nc
    have ih := pw_kpr nd n2 (fun x hx => hm x (List.mem_cons_of_mem _ hx)) h.2
    have hab : os.idxOf a < os.idxOf b := by
      refine Nat.lt_of_le_of_ne h.1 fun e => ?_
      have ha := hm a List.mem_cons_self
      have hb := hm b (List.mem_cons_of_mem _ List.mem_cons_self)
      have g1 := List.getElem_idxOf (x := a) (xs := os) (List.idxOf_lt_length_of_mem ha)
      have g2 := List.getElem_idxOf (x := b) (xs := os) (List.idxOf_lt_length_of_mem hb)
      have : a = b := by rw [← g1, ← g2]; congr 1
      exact n1 (this ▸ List.mem_cons_self)
    refine List.pairwise_cons.2 ⟨fun y hy => ?_, ih⟩
    rcases List.mem_cons.1 hy with q | q
    · rw [q]; exact hab
    · exact Nat.lt_trans hab ((List.pairwise_cons.1 ih).1 y q)
theorem sorted_eq {f : Nat → Nat} : ∀ {p q : List Nat}, p.Perm q → p.Pairwise (fun a b => f a < f b) → q.Pairwise (fun a b => f a < f b) → p = q
  | [], q, hp, _, _ => by rw [List.Perm.nil_eq hp]
  | a :: p, q, hp, h1, h2 => by
    cases q with
    | nil => exact absurd hp.length_eq (by simp)
    | cons b q =>
      obtain ⟨a1, a2⟩ := List.pairwise_cons.1 h1
      obtain ⟨b1, b2⟩ := List.pairwise_cons.1 h2
      have e : a = b := by
        have ha := hp.mem_iff.1 (List.mem_cons_self (a := a) (l := p))
        have hb := hp.mem_iff.2 (List.mem_cons_self (a := b) (l := q))
        rcases List.mem_cons.1 ha with q1 | q1
        · exact q1
        · rcases List.mem_cons.1 hb with q2 | q2
          · exact q2.symm
          · have := a1 b q2; have := b1 a q1; omega
      subst e
      rw [sorted_eq (hp.cons_inv) a2 b2]
/-- one chain of all is kept by itself alone -/
theorem kpr_all {os c : List Nat} (nd : os.Nodup) (p : c.Perm os) : kpr os c = true ↔ c = os := by
  constructor
  · intro h
    exact sorted_eq p (pw_kpr nd (p.nodup_iff.2 nd) (fun x hx => p.mem_iff.1 hx) h) (idx_pw nd)
  · intro e
    rw [e]
    exact kpr_sub nd (List.Sublist.refl _)
theorem kpr_one (os : List Nat) (k : Nat) : kpr os [k] = true := rfl
end
section
attribute [-simp] DV.cells
attribute [local simp] sliceD cells_st cells_sl cells_i cells_y cells_b cells_s cells_w
attribute [local simp] lend_eR al_eR
theorem prR_gS (us : List T) : ∀ (l : List Nat) (on : Int), prR us 0 on (ni l) = on * gS (l.map (itC us))
  | [], on => by simp [ni, prR, gS]
  | k :: r, on => by
    have e : eA us 0 k = 6 - pA us k := by unfold eA pA; simp
    show prR us 0 (on * (6 - eA us 0 ((k : Nat) : Int).toNat)) (ni r) = _
    rw [prR_gS us r, Int.toNat_natCast, e]
    simp only [List.map_cons, gS]
    have e2 : (itC us k).2.2 - (itC us k).2.1 = 6 - (6 - pA us k) := rfl
    rw [e2, Int.mul_assoc]
def stRc (us : List T) (g : List Nat) (sum on : Int) (k : Nat) : LS := ⟨[(0, .sl 0 (us.map e2)), (1, .sl 0 ((ni g).map .i)), (6, .i sum), (7, .i on), (8, .i k)], []⟩
set_option maxHeartbeats 4000000 in
theorem ratio_loop9 {us : List T} (h : us.all tOk = true) (g : List Nat) (h5 : g.length ≤ 5) (hg : ∀ k ∈ g, k < us.length) : ∀ (rest : List Nat) (k : Nat) (on sum : Int), 0 ≤ on → on ≤ 6 ^ k → 0 ≤ sum → sum ≤ 70000 * k → k + rest.length = g.length → g.drop k = rest →
    ex lf F_spec_l9Ratio_W0 (stRc us g sum on k) = some (.exit 0, stRc us g (sum + rA us 0 on (ni rest)) (prR us 0 on (ni rest)) g.length) := by
  intro rest
  induction rest with
  | nil =>
    intro k on sum n0 n1 s0 s1 hn hd
    have e : k = g.length := by simpa using hn
    subst e
    rw [w_spec_l9Ratio_0]
    simp [stRc, F_spec_l9Ratio_L0, ni, rA, prR]
  | cons a rest ih0 =>
    intro k on sum n0 n1 s0 s1 hn hd
    obtain ⟨k1, k2, k3⟩ := drop_cons hd
    have ha : a < us.length := hg a (List.mem_of_getElem? k2)
    have k1' : (k : Int) < g.length := by omega
    have k2' : (ni g)[k]? = some (a : Int) := by unfold ni; rw [List.getElem?_map, k2]; rfl
    have at1 := atI_int k2'
    have at2 := atT ha
    have cb := cA_bd h ha
    have pb := pA_bd h ha
    have hl : rest.length + 1 = g.length - k := by simp at hn; omega
    have pp := p6le (i := k) (j := rest.length + 1) (by omega) n0 n1
    have pk := p6 (n := k) (by omega)
    have C := c_spec_l1Power (n := rest.length + 1) (by omega)
    have w1 : wr ((g.length : Int) - k) = ((rest.length + 1 : Nat) : Int) := by rw [wr_id (by omega) (by omega)]; omega
    have m1 : 0 ≤ cA us a * on ∧ cA us a * on ≤ 9 * 7776 := ⟨Int.mul_nonneg (by omega) n0, Int.mul_le_mul (by omega) (by omega) n0 (by omega)⟩
    have w2 : wr (cA us a * on) = cA us a * on := wr_id (by omega) (by omega)
    have m2 : 0 ≤ cA us a * on * 6 ^ (rest.length + 1) ∧ cA us a * on * 6 ^ (rest.length + 1) ≤ 9 * 7776 := by
      rw [Int.mul_assoc]
      exact ⟨Int.mul_nonneg (by omega) pp.1, Int.mul_le_mul (by omega) pp.2 pp.1 (by omega)⟩
    have w3 : wr (cA us a * on * 6 ^ (rest.length + 1)) = cA us a * on * 6 ^ (rest.length + 1) := wr_id (by omega) (by omega)
    have w4 : wr (sum + cA us a * on * 6 ^ (rest.length + 1)) = sum + cA us a * on * 6 ^ (rest.length + 1) := wr_id (by omega) (by omega)
    have m3 : 0 ≤ on * pA us a ∧ on * pA us a ≤ 6 ^ (k + 1) := by
      refine ⟨Int.mul_nonneg n0 (by omega), ?_⟩
      rw [Int.pow_succ]
      exact Int.mul_le_mul n1 (by omega) (by omega) (by omega)
    have pk1 := p6 (n := k + 1) (by omega)
    have w6 : wr (on * pA us a) = on * pA us a := wr_id (by omega) (by omega)
    have w7 := wr_succ (k := k) (by omega)
    have I := ih0 (k + 1) (on * pA us a) (sum + cA us a * on * 6 ^ (rest.length + 1)) m3.1 m3.2 (by omega) (by omega) (by simp at hn; omega) k3
    have ea : 6 - eA us 0 a = pA us a := by unfold eA pA; simp; omega
    have e : sum + rA us 0 on (ni (a :: rest)) = sum + cA us a * on * 6 ^ (rest.length + 1) + rA us 0 (on * pA us a) (ni rest) := by
      simp only [ni, List.map_cons, rA, List.length_map, Int.toNat_natCast, ea]; omega
    have e' : prR us 0 on (ni (a :: rest)) = prR us 0 (on * pA us a) (ni rest) := by
      simp only [ni, List.map_cons, prR, Int.toNat_natCast, ea]
    rw [w_spec_l9Ratio_0, e, e']
    unfold stRc at *
    have nl := ni_len g
    generalize (6 : Int) ^ (rest.length + 1) = P at *
    generalize rA us 0 _ (ni rest) = Z at *
    generalize prR us 0 _ (ni rest) = Y at *
    generalize cA us a = c at *
    generalize pA us a = q at *
    simp [F_spec_l9Ratio_L0, k1, k1', nl, at1, at2, ha, C, w1, w2, w3, w4, w6, w7, I, -Int.natCast_add]
theorem e9_eq (us : List T) (g : List Nat) : e9 us g = 6 ^ g.length - gS (g.map (itC us)) := by
  unfold e9 gE
  rw [itC_M]
theorem c_spec_l9Ratio {us : List T} (h : tsOk us = true) {g : List Nat} (h5 : g.length ≤ 5) (hg : ∀ k ∈ g, k < us.length) :
    call lf n_spec_l9Ratio [.sl 0 (us.map e2), .sl 0 ((ni g).map .i)] = some (.tup [.i (c9 us g), .i (e9 us g)], []) := by
  rw [call_k lf n_spec_l9Ratio _ (F := F_spec_l9Ratio) rfl rfl]
  have h' := tsOk_iff.1 h
  have I := ratio_loop9 h'.2 g h5 hg g 0 1 0 (by omega) (by omega) (by omega) (by omega) (by omega) rfl
  have b := gS_bd (itC_ok h'.2 hg)
  have pk := p6 (n := g.length) (by omega)
  rw [itC_M] at b
  rw [rA_row, prR_gS, Int.one_mul, Int.zero_add] at I
  have C := c_spec_l1Power (n := g.length) (by omega)
  rw [e9_eq]
  have nl := ni_len g
  unfold c9
  unfold stRc at I
  simp only [Int.natCast_zero] at I
  generalize gS (g.map (itC us)) = S at *
  generalize gD (g.map (itC us)) = D at *
  generalize (6 : Int) ^ g.length = P at *
  have w : wr (P - S) = P - S := wr_id (by omega) (by omega)
  simp [F_spec_l9Ratio, I, C, nl, w]
end
section
attribute [-simp] DV.cells
attribute [local simp] sliceD cells_st cells_sl cells_i cells_y cells_b cells_s cells_w
attribute [local simp] lend_eR al_eR
/-- how many of a chain are asked -/
def inP (p c : List Nat) : Nat := (p.map fun o => c.count o).sum
def left (C : LN) (p : List Nat) : LN := C.map fun c => c.drop (inP p c)
theorem flat_ge9 : ∀ {C : LN}, (∀ c ∈ C, c ≠ []) → C.length ≤ C.flatten.length
  | [], _ => by simp
  | c :: C, h => by
    have := flat_ge9 (C := C) fun d hd => h d (List.mem_cons_of_mem _ hd)
    have c0 : 0 < c.length := List.length_pos_iff.2 (h c List.mem_cons_self)
    simp only [List.length_cons, List.flatten_cons, List.length_append]
    omega
theorem at_C {C : LN} {i : Nat} (hi : i < C.length) : atI ((C.map ni).map eR) (i : Int) = some (.sl 0 ((ni C[i]).map .i)) := at_eR (by rw [List.getElem?_map, List.getElem?_eq_getElem hi]; rfl)
end
section
attribute [-simp] DV.cells
attribute [local simp] sliceD cells_st cells_sl cells_i cells_y cells_b cells_s cells_w
attribute [local simp] lend_eR al_eR
def natL (L : List (List Int)) : LN := L.map fun r => r.map Int.toNat
theorem natL_ni (N : LN) : natL (N.map ni) = N := by
  unfold natL
  rw [List.map_map]
  conv => rhs; rw [← List.map_id N]
  apply List.map_congr_left
  intro r _
  exact ni_toNat r
def cbO (us : List T) (L : List (List Int)) : Bool := tsOk us && gokB us.length L
/-- places by tests -/
def plS (m : Nat) (os : List Nat) : Nat → List Int
  | 0 => List.replicate m 0
  | j + 1 => (plS m os j).set (os.getD j 0) j
theorem plS_len (m : Nat) (os : List Nat) : ∀ j, (plS m os j).length = m
  | 0 => by simp [plS]
  | j + 1 => by simp [plS, plS_len m os j]
theorem plS_at {m : Nat} {os : List Nat} (nd : os.Nodup) (lt : ∀ x ∈ os, x < m) : ∀ j, j ≤ os.length → ∀ i, (h : i < os.length) → i < j → (plS m os j)[os[i]]? = some ((i : Nat) : Int)
  | 0, _, i, _, h => absurd h (by omega)
  | j + 1, hj, i, hi, h => by
    simp only [plS]
    have e : os.getD j 0 = os[j] := by rw [List.getD_eq_getElem?_getD, List.getElem?_eq_getElem (by omega)]; rfl
    have l := lt os[i] (List.getElem_mem hi)
    rw [e]
    by_cases q : i = j
    · subst q
      rw [List.getElem?_set_self (by rw [plS_len]; exact l)]
    · have ne : os[j] ≠ os[i] := fun r => List.pairwise_iff_getElem.1 nd i j hi (by omega) (by omega) r.symm
      rw [List.getElem?_set_ne ne]
      exact plS_at nd lt j (by omega) i hi (by omega)
theorem plS_idx {m : Nat} {os : List Nat} (nd : os.Nodup) (lt : ∀ x ∈ os, x < m) {x : Nat} (hx : x ∈ os) : (plS m os os.length)[x]? = some ((os.idxOf x : Nat) : Int) := by
  have hi := List.idxOf_lt_length_of_mem hx
  have := plS_at nd lt os.length (Nat.le_refl _) (os.idxOf x) hi hi
  rwa [List.getElem_idxOf hi] at this
theorem at_row {R : List Int} {x : Nat} {v : Int} (h : R[x]? = some v) : atI (R.map DV.i) (x : Int) = some (.i v) ∧ atN (R.map DV.i) x = some (.i v) := by
  refine ⟨atI_int h, ?_⟩
  show (R.map DV.i)[x]? = _
  rw [List.getElem?_map, h]; rfl
def stK2 (L : LN) (R : List Int) (k j : Nat) : LS := ⟨[(1, .sl 0 ((L.map ni).map eR)), (7, .own 11272 R.length 0 R.length), (9, .i k), (10, .i j)], [(11272, R.map .i)]⟩
def stK1 (L : LN) (R : List Int) (k : Nat) : LS := ⟨[(1, .sl 0 ((L.map ni).map eR)), (7, .own 11272 R.length 0 R.length), (9, .i k)], [(11272, R.map .i)]⟩
set_option maxHeartbeats 2000000 in
theorem kc_inner {L : LN} {R : List Int} {os : List Nat} {k : Nat} (hk : k < L.length) (h5 : L[k].length ≤ 5) (hR : ∀ x ∈ L[k], x < R.length ∧ R[x]? = some ((os.idxOf x : Nat) : Int)) : ∀ (r : List Nat) (a j : Nat), L[k].drop j = a :: r →
    ex lf F_spec_KeepsChains_W2 (stK2 L R k (j + 1)) = if kpr os (a :: r) then some (.exit 4, stK2 L R k L[k].length) else some (.ret, ⟨[(6, .b false)], []⟩) := by
  have A := at_C hk
  have hk' : (k : Int) < (L.map ni).length := by simp; omega
  have nl := ni_len L[k]
  intro r
  induction r with
  | nil =>
    intro a j hd
    obtain ⟨k1, k2, k3⟩ := drop_cons hd
    have e : j + 1 = L[k].length := by
      have := congrArg List.length k3
      simp at this
      omega
    rw [w_spec_KeepsChains_2, e]
    unfold stK2
    generalize L.map ni = L' at *
    simp [F_spec_KeepsChains_L2, A, hk', nl, kpr]
  | cons x r ih =>
    intro a j hd
    obtain ⟨k1, k2, k3⟩ := drop_cons hd
    obtain ⟨l1, l2, l3⟩ := drop_cons k3
    obtain ⟨ao, an⟩ := at_ni k2
    obtain ⟨xo, xn⟩ := at_ni l2
    obtain ⟨ra, rb⟩ := hR a (List.mem_of_getElem? k2)
    obtain ⟨rc, rd⟩ := hR x (List.mem_of_getElem? l2)
    obtain ⟨ro, rn⟩ := at_row rb
    obtain ⟨so, sn⟩ := at_row rd
    have I := ih x (j + 1) k3
    have l1' : ((j + 1 : Nat) : Int) < L[k].length := by omega
    have k1' : (j : Int) < L[k].length := by omega
    have w0 : wr (((j + 1 : Nat) : Int) - 1) = (j : Int) := by rw [wr_id (by omega) (by omega)]; omega
    have w1 := wr_succ (k := j + 1) (by omega)
    rw [w_spec_KeepsChains_2]
    have ra' : (a : Int) < R.length := by omega
    have rc' : (x : Int) < R.length := by omega
    generalize hj : j + 1 = j1 at *
    by_cases q : os.idxOf a ≤ os.idxOf x
    · have q' : ¬ (os.idxOf x < os.idxOf a) := by omega
      have ek : kpr os (a :: x :: r) = kpr os (x :: r) := by simp [kpr, q]
      rw [ek]
      unfold stK2 at *
      generalize L.map ni = L' at *
      simp [F_spec_KeepsChains_L2, A, hk', nl, ao, an, xo, xn, ro, rn, so, sn, l1, l1', k1, k1', w0, w1, ra, ra', rc, rc', q, q', I, -Int.natCast_add]
    · have q' : os.idxOf x < os.idxOf a := by omega
      have ek : kpr os (a :: x :: r) = false := by simp [kpr, q]
      rw [ek]
      unfold stK2 at *
      generalize L.map ni = L' at *
      simp [F_spec_KeepsChains_L2, A, hk', nl, ao, an, xo, xn, ro, rn, so, sn, l1, l1', k1, k1', w0, w1, ra, ra', rc, rc', q, q', I, -Int.natCast_add]
set_option maxHeartbeats 2000000 in
theorem kc_outer {L : LN} {R : List Int} {os : List Nat} (cn : L.length ≤ 5) (h5 : ∀ c ∈ L, c.length ≤ 5) (ne : ∀ c ∈ L, c ≠ []) (hR : ∀ c ∈ L, ∀ x ∈ c, x < R.length ∧ R[x]? = some ((os.idxOf x : Nat) : Int)) : ∀ (r : LN) (k : Nat), L.drop k = r →  k + r.length = L.length →
    ex lf F_spec_KeepsChains_W1 (stK1 L R k) = if r.all (kpr os) then some (.exit 2, stK1 L R L.length) else some (.ret, ⟨[(6, .b false)], []⟩) := by
  have ll : (L.map ni).length = L.length := by simp
  intro r
  induction r with
  | nil =>
    intro k hd hl
    have e : k = L.length := by simpa using hl
    subst e
    rw [w_spec_KeepsChains_1]
    unfold stK1
    generalize L.map ni = L' at *
    simp [F_spec_KeepsChains_L1, ll]
  | cons c r ih =>
    intro k hd hl
    obtain ⟨k1, k2, k3⟩ := drop_cons hd
    have e : L[k] = c := (List.getElem?_eq_some_iff.1 k2).2
    have hc : c ∈ L := List.mem_of_getElem? k2
    have I := ih (k + 1) k3 (by simp at hl; omega)
    cases c with
    | nil => exact absurd rfl (ne _ hc)
    | cons a c =>
      have J := kc_inner (R := R) (os := os) k1 (by rw [e]; exact h5 _ hc) (by rw [e]; exact hR _ hc) c a 0 (by rw [e]; rfl)
      rw [e] at J
      have k1' : (k : Int) < L.length := by omega
      have w1 := wr_succ (k := k) (by omega)
      rw [w_spec_KeepsChains_1, List.all_cons]
      cases q : kpr os (a :: c) with
      | true =>
        rw [q, if_pos rfl] at J
        rw [Bool.true_and]
        unfold stK1 at *
        unfold stK2 at J
        have e1 : (((0 + 1 : Nat)) : Int) = 1 := rfl
        rw [e1] at J
        generalize L.map ni = L' at *
        simp [F_spec_KeepsChains_L1, ll, k1, k1', w1, J, I, -Int.natCast_add]
      | false =>
        rw [q, if_neg (by simp)] at J
        rw [Bool.false_and]
        unfold stK1 at *
        unfold stK2 at J
        have e1 : (((0 + 1 : Nat)) : Int) = 1 := rfl
        rw [e1] at J
        generalize L.map ni = L' at *
        simp [F_spec_KeepsChains_L1, ll, k1, k1', w1, J, -Int.natCast_add]
def stK0 (L : List (List Int)) (os : List Nat) (m k : Nat) : LS := ⟨[(1, .sl 0 (L.map eR)), (2, .sl 0 ((ni os).map .i)), (7, .own 11272 m 0 m), (8, .i k)], [(11272, (plS m os k).map .i)]⟩
set_option maxHeartbeats 2000000 in
theorem kc_places (L : List (List Int)) {os : List Nat} {m : Nat} (h5 : os.length ≤ 5) (lt : ∀ x ∈ os, x < m) : ex lf F_spec_KeepsChains_W0 (stK0 L os m 0) = some (.exit 0, stK0 L os m os.length) := by
  have nl := ni_len os
  refine loop_count (lf := lf) (L := F_spec_KeepsChains_L0) os.length (fun k => stK0 L os m k) (fun k hk => ?_) ?_ (by simp)
  · have k2 : os[k]? = some os[k] := List.getElem?_eq_getElem hk
    obtain ⟨ao, an⟩ := at_ni k2
    have e : os.getD k 0 = os[k] := by rw [List.getD_eq_getElem?_getD, k2]; rfl
    have l := lt os[k] (List.getElem_mem hk)
    have hk' : (k : Int) < os.length := by omega
    have w1 := wr_succ (k := k) (by omega)
    have pl := plS_len m os k
    show ex lf F_spec_KeepsChains_L0 (stK0 L os m k) = some (.normal, stK0 L os m (k + 1))
    unfold stK0
    simp only [plS]
    rw [e]
    generalize os[k] = o at *
    generalize plS m os k = R at *
    have l' : (o : Int) < m := by omega
    obtain ⟨v, hv⟩ : ∃ v, R[o]? = some v := ⟨R[o], List.getElem?_eq_getElem (by omega)⟩
    obtain ⟨ro, rn⟩ := at_row hv
    simp [F_spec_KeepsChains_L0, nl, hk, hk', ao, an, ro, rn, l, l', w1, pl, -Int.natCast_add]
  · show ex lf F_spec_KeepsChains_L0 (stK0 L os m os.length) = _
    unfold stK0
    simp [F_spec_KeepsChains_L0, nl]
def kcV (m : Int) (L : List (List Int)) (os : List Int) : Bool := orOk m os && gokB m L && (natL L).all (kpr (os.map Int.toNat))
theorem os_of {m : Int} {os : List Int} (h : orOk m os = true) : ∃ p : List Nat, os = ni p ∧ p.Nodup ∧ (∀ x ∈ p, x < m.toNat) ∧ p.length = m.toNat ∧ (1 ≤ m ∧ m ≤ 5) := by
  obtain ⟨h1, h2, h3⟩ := orOk_iff.1 h
  obtain ⟨n1, n2⟩ := orS_nodup.1 h3
  have e : os = ni (os.map Int.toNat) := by
    unfold ni
    rw [List.map_map]
    conv => lhs; rw [← List.map_id os]
    apply List.map_congr_left
    intro o ho
    have := (n1 o ho).1
    show o = ((o.toNat : Nat) : Int)
    omega
  refine ⟨os.map Int.toNat, e, ?_, fun x hx => ?_, by rw [List.length_map]; omega, h1⟩
  · refine List.pairwise_map.2 (n2.imp_of_mem fun {a b} ha hb q r => q ?_)
    have := (n1 a ha).1
    have := (n1 b hb).1
    omega
  · obtain ⟨o, ho, rfl⟩ := List.mem_map.1 hx
    have := (n1 o ho).1
    omega
theorem nd_le : ∀ {l r : List Nat}, l.Nodup → l ⊆ r → l.length ≤ r.length
  | [], _, _, _ => Nat.zero_le _
  | a :: l, r, nd, h => by
    obtain ⟨n1, n2⟩ := List.nodup_cons.1 nd
    have ha : a ∈ r := h List.mem_cons_self
    have := nd_le (r := r.erase a) n2 fun x hx => by
      have ne : x ≠ a := fun e => n1 (e ▸ hx)
      exact (List.mem_erase_of_ne ne).2 (h (List.mem_cons_of_mem _ hx))
    rw [List.length_erase_of_mem ha] at this
    have : 0 < r.length := List.length_pos_of_mem ha
    rw [List.length_cons]
    omega
theorem os_all {m : Nat} {p : List Nat} (nd : p.Nodup) (lt : ∀ x ∈ p, x < m) (hl : p.length = m) {x : Nat} (hx : x < m) : x ∈ p := by
  by_cases q : x ∈ p
  · exact q
  · have nd2 : (x :: p).Nodup := List.nodup_cons.2 ⟨q, nd⟩
    have sub : (x :: p) ⊆ List.range m := fun y hy => by
      rcases List.mem_cons.1 hy with r | r
      · rw [r]; exact List.mem_range.2 hx
      · exact List.mem_range.2 (lt y r)
    have := nd_le nd2 sub
    simp at this
    omega
set_option maxHeartbeats 4000000 in
theorem c_spec_KeepsChains (m : Int) (L : List (List Int)) (os : List Int) (hb : (L.length : Int) < 1099511627776) (hf : (L.flatten.length : Int) < 1099511627776) (hc : (os.length : Int) < 1099511627776) :
    call lf n_spec_KeepsChains [.i m, .sl 0 (L.map eR), .sl 0 (os.map .i)] = some (.b (kcV m L os), []) := by
  rw [call_k lf n_spec_KeepsChains _ (F := F_spec_KeepsChains) rfl rfl]
  have C1 := c_spec_OrderOk m os hc
  have C2 := c_spec_GroupsOk m L hb hf
  unfold kcV
  cases h1 : orOk m os with
  | false => rw [h1] at C1; simp [F_spec_KeepsChains, C1]
  | true =>
    rw [h1] at C1
    cases h2 : gokB m L with
    | false => rw [h2] at C2; simp [F_spec_KeepsChains, C1, C2]
    | true =>
      rw [h2] at C2
      obtain ⟨p, rfl, nd, lt, hl, hm⟩ := os_of h1
      obtain ⟨n, rfl⟩ := Int.eq_ofNat_of_zero_le (show 0 ≤ m by omega)
      rw [Int.toNat_natCast] at lt hl
      have hm' : 1 ≤ n ∧ n ≤ 5 := by omega
      obtain ⟨N, rfl, G⟩ := gok_of hm' h2
      have gl := gok_len G
      have cn : N.length ≤ 5 := by have := flat_ge9 G.ne; omega
      have c5 : ∀ c ∈ N, c.length ≤ 5 := fun c hc => by
        obtain ⟨A, B, e⟩ := List.append_of_mem hc
        have e2 : N.flatten.length = (A ++ c :: B).flatten.length := by rw [← e]
        rw [List.flatten_append, List.flatten_cons, List.length_append, List.length_append] at e2
        omega
      have P := kc_places (N.map ni) (os := p) (m := n) (by omega) lt
      have pl := plS_len n p p.length
      have hR : ∀ c ∈ N, ∀ x ∈ c, x < (plS n p p.length).length ∧ (plS n p p.length)[x]? = some ((p.idxOf x : Nat) : Int) := fun c hc x hx => by
        have := G.lt c hc x hx
        exact ⟨by omega, plS_idx nd lt (os_all nd lt hl this)⟩
      have O := kc_outer (os := p) cn c5 G.ne hR N 0 rfl (by simp)
      rw [natL_ni, ni_toNat, Bool.true_and, Bool.true_and]
      unfold stK0 at P
      unfold stK1 at O
      rw [pl] at O
      simp only [plS, Int.natCast_zero] at P O
      generalize plS n p p.length = R at *
      have nb : n ≤ bound := by unfold bound; omega
      have nn : ¬ (n : Int) < 0 := by omega
      have rp : (List.replicate n (0 : Int)).map DV.i = List.replicate n (.i 0) := by simp
      rw [rp] at P
      cases q : N.all (kpr p) with
      | true =>
        rw [q, if_pos rfl] at O
        generalize N.map ni = L' at *
        simp [F_spec_KeepsChains, C1, C2, P, O, nb, nn]
      | false =>
        rw [q, if_neg (by simp)] at O
        generalize N.map ni = L' at *
        simp [F_spec_KeepsChains, C1, C2, P, O, nb, nn]
end
section
attribute [-simp] DV.cells
attribute [local simp] sliceD cells_st cells_sl cells_i cells_y cells_b cells_s cells_w
attribute [local simp] lend_eR al_eR
theorem c9_bd {us : List T} (h : us.all tOk = true) : ∀ {l : List Nat}, (∀ k ∈ l, k < us.length) → 0 ≤ c9 us l ∧ c9 us l ≤ 9 * l.length * 6 ^ l.length
  | [], _ => by simp [c9, gD]
  | k :: r, hr => by
    obtain ⟨a1, a2⟩ := c9_bd h (l := r) (fun x hx => hr x (by simp [hx]))
    have cb := cA_bd h (hr k (by simp))
    have pb := pA_bd h (hr k (by simp))
    have e : c9 us (k :: r) = 6 * cA us k * 6 ^ r.length + pA us k * c9 us r := by
      unfold c9
      simp only [List.map_cons, gD, itC_M]
      have : (itC us k).2.2 - (itC us k).2.1 = pA us k := by simp [itC]; omega
      rw [this]; rfl
    have p : (0 : Int) < 6 ^ r.length := Int.pow_pos (by omega)
    rw [e]
    refine ⟨Int.add_nonneg (Int.mul_nonneg (by omega) (by omega)) (Int.mul_nonneg (by omega) a1), ?_⟩
    have x1 : 6 * cA us k * 6 ^ r.length ≤ 54 * 6 ^ r.length := Int.mul_le_mul_of_nonneg_right (by omega) (by omega)
    have x2 : pA us k * c9 us r ≤ 6 * (9 * r.length * 6 ^ r.length) := Int.mul_le_mul (by omega) a2 a1 (by omega)
    have e2' : 9 * ((k :: r).length : Int) * 6 ^ (k :: r).length = 54 * 6 ^ r.length + 6 * (9 * r.length * 6 ^ r.length) := by
      rw [List.length_cons, Int.pow_succ]
      push_cast
      grind
    omega
theorem c9_le {us : List T} (h : us.all tOk = true) {l : List Nat} (h5 : l.length ≤ 5) (hl : ∀ k ∈ l, k < us.length) : (0 ≤ c9 us l ∧ c9 us l ≤ 349920) ∧ 0 ≤ e9 us l ∧ e9 us l ≤ 7776 := by
  obtain ⟨a, b⟩ := c9_bd h hl
  have p := p6 (n := l.length) h5
  refine ⟨⟨a, Int.le_trans b ?_⟩, ?_⟩
  · have : 9 * (l.length : Int) * 6 ^ l.length ≤ 45 * 7776 := Int.mul_le_mul (by omega) p.2 (by omega) (by omega)
    omega
  · have g := gS_bd (itC_ok h hl)
    rw [itC_M] at g
    rw [e9_eq]
    omega
/-- what is left of chains of which so many are done -/
structure Lft (C L : LN) (d : List Nat) : Prop where
  len : L.length = C.length
  dl : d.length = C.length
  eq : ∀ i (hi : i < C.length), L.getD i [] = C[i].drop (d.getD i 0)
  le : ∀ i (hi : i < C.length), d.getD i 0 ≤ C[i].length
def s7 : Option (Nat × Nat) → Int
  | none => -1
  | some (a, _) => a
def s8 : Option (Nat × Nat) → Int
  | none => 0
  | some (_, b) => b
def s9 (us : List T) (L : LN) : Option (Nat × Nat) → Int
  | none => 0
  | some (a, b) => c9 us (fp L a b)
def s10 (us : List T) (L : LN) : Option (Nat × Nat) → Int
  | none => 1
  | some (a, b) => e9 us (fp L a b)
def stN2 (us : List T) (C L : LN) (out d : List Nat) (st : Option (Nat × Nat)) (k n : Nat) : LS :=
  ⟨[(0, .sl 0 (us.map e2)), (1, .sl 0 ((C.map ni).map eR)), (5, .own 7688 out.length 0 out.length), (6, .own 14856 d.length 0 d.length), (7, .i (s7 st)), (8, .i (s8 st)), (9, .i (s9 us L st)), (10, .i (s10 us L st)), (11, .i k), (12, .i n)], [(7688, (ni out).map .i), (14856, (ni d).map .i)]⟩
def stN1 (us : List T) (C L : LN) (out d : List Nat) (st : Option (Nat × Nat)) (k : Nat) : LS :=
  ⟨[(0, .sl 0 (us.map e2)), (1, .sl 0 ((C.map ni).map eR)), (5, .own 7688 out.length 0 out.length), (6, .own 14856 d.length 0 d.length), (7, .i (s7 st)), (8, .i (s8 st)), (9, .i (s9 us L st)), (10, .i (s10 us L st)), (11, .i k)], [(7688, (ni out).map .i), (14856, (ni d).map .i)]⟩
def stN0 (us : List T) (C : LN) (out d : List Nat) : LS :=
  ⟨[(0, .sl 0 (us.map e2)), (1, .sl 0 ((C.map ni).map eR)), (5, .own 7688 out.length 0 out.length), (6, .own 14856 d.length 0 d.length)], [(7688, (ni out).map .i), (14856, (ni d).map .i)]⟩
theorem fp_len (L : LN) (a b : Nat) : (fp L a b).length = min b (L.getD a []).length := by simp [fp]
theorem fp5 {L : LN} (h5 : ∀ c ∈ L, c.length ≤ 5) (a b : Nat) : (fp L a b).length ≤ 5 := by
  rw [fp_len]
  by_cases q : a < L.length
  · have := h5 _ (List.getElem_mem q)
    rw [List.getD_eq_getElem?_getD, List.getElem?_eq_getElem q, Option.getD_some]
    omega
  · rw [List.getD_eq_getElem?_getD, List.getElem?_eq_none (by omega)]
    simp
set_option maxHeartbeats 4000000 in
theorem co_inner {us : List T} (h : tsOk us = true) {C L : LN} {out d : List Nat} (hL : LOk us L) (F : Lft C L d) {k : Nat} (hk : k < C.length) (h5 : ∀ c ∈ L, c.length ≤ 5) (hC : C[k].length ≤ 5) (st : Option (Nat × Nat)) :
    ex lf F_spec_ChainOrder_W2 (stN2 us C L out d st k 1) = some (.exit 4, stN2 us C L out d (cndN us L k st (L.getD k []).length) k ((L.getD k []).length + 1)) := by
  have h' := tsOk_iff.1 h
  have A := at_C hk
  have hk' : (k : Int) < (C.map ni).length := by simp; omega
  have nl := ni_len C[k]
  have nd := ni_len d
  have no := ni_len out
  have hd : k < d.length := by rw [F.dl]; exact hk
  have hd' : (k : Int) < d.length := by omega
  have dk : d[k]? = some (d.getD k 0) := by rw [List.getD_eq_getElem?_getD, List.getElem?_eq_getElem hd]; rfl
  obtain ⟨ao, an⟩ := at_ni dk
  have Fe := F.eq k hk
  have Fl := F.le k hk
  have ll : (L.getD k []).length = C[k].length - d.getD k 0 := by rw [Fe]; simp
  refine loop_count (lf := lf) (L := F_spec_ChainOrder_L2) (L.getD k []).length (fun i => stN2 us C L out d (cndN us L k st i) k (i + 1)) (fun i hi => ?_) ?_ (by simp)
  · show ex lf F_spec_ChainOrder_L2 (stN2 us C L out d (cndN us L k st i) k (i + 1)) = some (.normal, stN2 us C L out d (cnd us L (cndN us L k st i) k (i + 1)) k (i + 2))
    generalize cndN us L k st i = s at *
    have gm : ∀ x ∈ fp L k (i + 1), x < us.length := fun x hx => by
      obtain ⟨c, hc, hxc⟩ := fp_mem hx
      exact hL c hc x hxc
    have g5 : (fp L k (i + 1)).length ≤ 5 := by rw [fp_len]; omega
    have R := c_spec_l9Ratio h g5 gm
    have B := c9_le h'.2 g5 gm
    have tk : List.drop (d.getD k 0) (List.take (d.getD k 0 + (i + 1)) ((ni C[k]).map DV.i)) = (ni (fp L k (i + 1))).map .i := by
      unfold fp ni
      rw [Fe]
      simp [List.drop_take]
    have w1 : wr ((d.getD k 0 : Int) + ((i + 1 : Nat) : Int)) = ((d.getD k 0 + (i + 1) : Nat) : Int) := by rw [wr_id (by omega) (by omega)]; omega
    have w2 := wr_succ (k := i + 1) (by omega)
    have q1 : d.getD k 0 + (i + 1) ≤ C[k].length := by omega
    have q2 : d.getD k 0 ≤ d.getD k 0 + (i + 1) := by omega
    generalize d.getD k 0 + (i + 1) = e at *
    generalize d.getD k 0 = dn at *
    cases s with
    | none =>
      have e1 : cnd us L none k (i + 1) = some (k, i + 1) := rfl
      rw [e1]
      unfold stN2
      simp only [s7, s8, s9, s10]
      generalize fp L k (i + 1) = g at *
      generalize C.map ni = L' at *
      generalize hi1 : i + 1 = i1 at *
      have hi2 : i + 2 = i1 + 1 := by omega
      rw [hi2]
      simp [F_spec_ChainOrder_L2, A, hk', nl, nd, no, hd, hd', ao, an, w1, w2, q1, q2, tk, R, -Int.natCast_add]
    | some p =>
      obtain ⟨a, b⟩ := p
      have H := fp5 h5 a b
      have am : ∀ x ∈ fp L a b, x < us.length := fun x hx => by
        obtain ⟨c, hc, hxc⟩ := fp_mem hx
        exact hL c hc x hxc
      have B2 := c9_le h'.2 H am
      have e1 : cnd us L (some (a, b)) k (i + 1) = if c9 us (fp L k (i + 1)) * e9 us (fp L a b) < c9 us (fp L a b) * e9 us (fp L k (i + 1)) then some (k, i + 1) else some (a, b) := rfl
      rw [e1]
      have m1 : 0 ≤ c9 us (fp L k (i + 1)) * e9 us (fp L a b) ∧ c9 us (fp L k (i + 1)) * e9 us (fp L a b) ≤ 349920 * 7776 := ⟨Int.mul_nonneg B.1.1 B2.2.1, Int.mul_le_mul B.1.2 B2.2.2 B2.2.1 (by omega)⟩
      have m2 : 0 ≤ c9 us (fp L a b) * e9 us (fp L k (i + 1)) ∧ c9 us (fp L a b) * e9 us (fp L k (i + 1)) ≤ 349920 * 7776 := ⟨Int.mul_nonneg B2.1.1 B.2.1, Int.mul_le_mul B2.1.2 B.2.2 B.2.1 (by omega)⟩
      have w3 : wr (c9 us (fp L k (i + 1)) * e9 us (fp L a b)) = c9 us (fp L k (i + 1)) * e9 us (fp L a b) := wr_id (by omega) (by omega)
      have w4 : wr (c9 us (fp L a b) * e9 us (fp L k (i + 1))) = c9 us (fp L a b) * e9 us (fp L k (i + 1)) := wr_id (by omega) (by omega)
      have na : ¬ (a : Int) < 0 := by omega
      by_cases q : c9 us (fp L k (i + 1)) * e9 us (fp L a b) < c9 us (fp L a b) * e9 us (fp L k (i + 1))
      · rw [if_pos q]
        unfold stN2
        simp only [s7, s8, s9, s10]
        generalize fp L k (i + 1) = g at *
        generalize fp L a b = g2 at *
        generalize C.map ni = L' at *
        generalize hi1 : i + 1 = i1 at *
        have hi2 : i + 2 = i1 + 1 := by omega
        rw [hi2]
        simp [F_spec_ChainOrder_L2, A, hk', nl, nd, no, hd, hd', ao, an, w1, w2, w3, w4, q, na, q1, q2, tk, R, -Int.natCast_add]
      · rw [if_neg q]
        unfold stN2
        simp only [s7, s8, s9, s10]
        generalize fp L k (i + 1) = g at *
        generalize fp L a b = g2 at *
        generalize C.map ni = L' at *
        generalize hi1 : i + 1 = i1 at *
        have hi2 : i + 2 = i1 + 1 := by omega
        rw [hi2]
        simp [F_spec_ChainOrder_L2, A, hk', nl, nd, no, hd, hd', ao, an, w1, w2, w3, w4, q, na, q1, q2, tk, R, -Int.natCast_add]
  · show ex lf F_spec_ChainOrder_L2 (stN2 us C L out d (cndN us L k st (L.getD k []).length) k ((L.getD k []).length + 1)) = _
    have w1 : wr ((d.getD k 0 : Int) + (((L.getD k []).length + 1 : Nat) : Int)) = ((d.getD k 0 + ((L.getD k []).length + 1) : Nat) : Int) := by rw [wr_id (by omega) (by omega)]; omega
    have q1 : ¬ (d.getD k 0 + ((L.getD k []).length + 1) ≤ C[k].length) := by omega
    generalize cndN us L k st (L.getD k []).length = s at *
    generalize (L.getD k []).length + 1 = n1 at *
    generalize d.getD k 0 + n1 = e at *
    generalize d.getD k 0 = dn at *
    unfold stN2
    generalize C.map ni = L' at *
    simp [F_spec_ChainOrder_L2, A, hk', nl, nd, no, hd, hd', ao, an, w1, q1, -Int.natCast_add]
set_option maxHeartbeats 1000000 in
theorem co_outer {us : List T} (h : tsOk us = true) {C L : LN} {out d : List Nat} (hL : LOk us L) (F : Lft C L d) (h5 : ∀ c ∈ L, c.length ≤ 5) (hC : ∀ c ∈ C, c.length ≤ 5) (cn : C.length ≤ 5) :
    ex lf F_spec_ChainOrder_W1 (stN1 us C L out d none 0) = some (.exit 2, stN1 us C L out d (cndI us L C.length) C.length) := by
  have ll : (C.map ni).length = C.length := by simp
  refine loop_count (lf := lf) (L := F_spec_ChainOrder_L1) C.length (fun k => stN1 us C L out d (cndI us L k) k) (fun k hk => ?_) ?_ (by simp)
  · have I := co_inner (out := out) h hL F hk h5 (hC _ (List.getElem_mem hk)) (cndI us L k)
    have e : cndN us L k (cndI us L k) (L.getD k []).length = cndI us L (k + 1) := rfl
    rw [e] at I
    show ex lf F_spec_ChainOrder_L1 (stN1 us C L out d (cndI us L k) k) = some (.normal, stN1 us C L out d (cndI us L (k + 1)) (k + 1))
    have hk' : (k : Int) < C.length := by omega
    have w1 := wr_succ (k := k) (by omega)
    generalize cndI us L (k + 1) = s2 at *
    generalize cndI us L k = s1 at *
    generalize (L.getD k []).length + 1 = nn at *
    unfold stN1
    unfold stN2 at I
    have e1 : ((1 : Nat) : Int) = 1 := rfl
    rw [e1] at I
    generalize C.map ni = L' at *
    simp [F_spec_ChainOrder_L1, ll, hk, hk', w1, I, -Int.natCast_add]
  · show ex lf F_spec_ChainOrder_L1 (stN1 us C L out d (cndI us L C.length) C.length) = _
    generalize cndI us L C.length = s1 at *
    unfold stN1
    generalize C.map ni = L' at *
    simp [F_spec_ChainOrder_L1, ll]
theorem lft_set {C L : LN} {d : List Nat} (F : Lft C L d) {a b : Nat} (ha : a < C.length) (hb : b ≤ (L.getD a []).length) : Lft C (L.set a ((L.getD a []).drop b)) (d.set a (d.getD a 0 + b)) := by
  have Fa := F.eq a ha
  have Fl := F.le a ha
  have la : (L.getD a []).length = C[a].length - d.getD a 0 := by rw [Fa]; simp
  refine ⟨by rw [List.length_set]; exact F.len, by rw [List.length_set]; exact F.dl, fun i hi => ?_, fun i hi => ?_⟩
  · by_cases e : i = a
    · subst e
      rw [List.getD_eq_getElem?_getD, List.getElem?_set_self (by rw [F.len]; exact hi), Option.getD_some]
      rw [List.getD_eq_getElem?_getD (l := d.set i _), List.getElem?_set_self (by rw [F.dl]; exact hi), Option.getD_some, Fa, List.drop_drop]
    · have := F.eq i hi
      rw [List.getD_eq_getElem?_getD] at this
      rw [List.getD_eq_getElem?_getD, List.getElem?_set_ne (fun q => e q.symm), this]
      rw [List.getD_eq_getElem?_getD (l := d.set a _), List.getElem?_set_ne (fun q => e q.symm), ← List.getD_eq_getElem?_getD]
  · by_cases e : i = a
    · subst e
      rw [List.getD_eq_getElem?_getD, List.getElem?_set_self (by rw [F.dl]; exact hi), Option.getD_some]
      omega
    · have := F.le i hi
      rw [List.getD_eq_getElem?_getD, List.getElem?_set_ne (fun q => e q.symm), ← List.getD_eq_getElem?_getD]
      exact this
theorem ni_set (d : List Nat) (a e : Nat) : ((ni d).map DV.i).set a (.i (e : Int)) = (ni (d.set a e)).map .i := by simp [ni, List.map_set]
/-- one turn: the first part found goes behind the others -/
def CoStep (us : List T) (C : LN) : Prop := ∀ (L : LN) (d out : List Nat) (a b : Nat), LOk us L → Lft C L d → (∀ c ∈ L, c.length ≤ 5) → out.length + L.flatten.length = us.length → cndI us L L.length = some (a, b) → a < L.length → 1 ≤ b → b ≤ (L.getD a []).length → out.length < us.length →
    ex lf F_spec_ChainOrder_L0 (stN0 us C out d) = some (.normal, stN0 us C (out ++ fp L a b) (d.set a (d.getD a 0 + b)))
set_option maxHeartbeats 4000000 in
theorem co_main {us : List T} (h : tsOk us = true) {C : LN} (hC : ∀ c ∈ C, c.length ≤ 5) (cn : C.length ≤ 5) (step : CoStep us C) : ∀ (f : Nat) (L : LN) (d out : List Nat), LOk us L → Lft C L d → (∀ c ∈ L, c.length ≤ 5) → L.flatten.length ≤ f → out.length + L.flatten.length = us.length →
    ∃ d' : List Nat, ex lf F_spec_ChainOrder_W0 (stN0 us C out d) = some (.exit 0, stN0 us C (out ++ chF us f L) d') := by
  have h' := tsOk_iff.1 h
  have m5 : us.length ≤ 5 := by omega
  have ul : (us.map e2).length = us.length := by simp
  have done : ∀ (L : LN) (d out : List Nat), L.flatten.length = 0 → out.length + L.flatten.length = us.length → ex lf F_spec_ChainOrder_W0 (stN0 us C out d) = some (.exit 0, stN0 us C out d) := fun L d out z hl => by
    have e : out.length = us.length := by omega
    rw [w_spec_ChainOrder_0]
    unfold stN0
    generalize C.map ni = L' at *
    simp [F_spec_ChainOrder_L0, e]
  intro f
  induction f with
  | zero =>
    intro L d out hL F h5 hf hl
    refine ⟨d, ?_⟩
    show _ = some (Ex.exit 0, stN0 us C (out ++ []) d)
    rw [List.append_nil]
    exact done L d out (by omega) hl
  | succ f ih =>
    intro L d out hL F h5 hf hl
    have I := cndI_lst h'.2 hL L.length
    simp only [chF]
    cases hc : cndI us L L.length with
    | none =>
      rw [hc] at I
      have z : L.flatten = [] := List.flatten_eq_nil_iff.2 fun c hcm => by
        obtain ⟨i, hi, rfl⟩ := List.getElem_of_mem hcm
        have e : L.getD i [] = L[i] := by rw [List.getD_eq_getElem?_getD, List.getElem?_eq_getElem hi]; rfl
        cases q : L[i] with
        | nil => rfl
        | cons x r => exact absurd ⟨hi, Nat.le_refl 1, by rw [e, q]; simp⟩ (I i 1)
      refine ⟨d, ?_⟩
      show _ = some (Ex.exit 0, stN0 us C (out ++ []) d)
      rw [List.append_nil]
      exact done L d out (by rw [z]; rfl) hl
    | some p =>
      obtain ⟨a, b⟩ := p
      rw [hc] at I
      obtain ⟨⟨a1, b1, b2⟩, I2⟩ := I
      obtain ⟨A, B, hA, e1, e2⟩ := splitN_at a1 b
      have aC : a < C.length := by rw [← F.len]; exact a1
      have fl : L.flatten.length = b + (L.set a ((L.getD a []).drop b)).flatten.length := by
        rw [e2]
        have := congrArg (fun x => x.flatten.length) e1
        simp only [List.flatten_append, List.flatten_cons, List.length_append, List.length_take, List.length_drop] at this ⊢
        omega
      have gm : L.getD a [] ∈ L := by rw [List.getD_eq_getElem?_getD, List.getElem?_eq_getElem a1]; exact List.getElem_mem a1
      have hL2 : LOk us (L.set a ((L.getD a []).drop b)) := fun c hc x hx => by
        rcases List.mem_or_eq_of_mem_set hc with q | q
        · exact hL c q x hx
        · rw [q] at hx; exact hL _ gm x (List.mem_of_mem_drop hx)
      have h52 : ∀ c ∈ L.set a ((L.getD a []).drop b), c.length ≤ 5 := fun c hc => by
        rcases List.mem_or_eq_of_mem_set hc with q | q
        · exact h5 c q
        · rw [q, List.length_drop]; have := h5 _ gm; omega
      have gl : (fp L a b).length = b := by rw [fp_len]; omega
      obtain ⟨d', J⟩ := ih _ (d.set a (d.getD a 0 + b)) (out ++ fp L a b) hL2 (lft_set F aC b2) h52 (by omega) (by rw [List.length_append, gl]; omega)
      refine ⟨d', ?_⟩
      simp only
      rw [← List.append_assoc, ← J, w_spec_ChainOrder_0, step L d out a b hL F h5 hl hc a1 b1 b2 (by omega)]
end
section
attribute [-simp] DV.cells
attribute [local simp] sliceD cells_st cells_sl cells_i cells_y cells_b cells_s cells_w
attribute [local simp] lend_eR al_eR
set_option maxHeartbeats 4000000 in
theorem co_step {us : List T} (h : tsOk us = true) {C : LN} (hC : ∀ c ∈ C, c.length ≤ 5) (cn : C.length ≤ 5) : CoStep us C := by
      intro L d out a b hL F h5 hl hc a1 b1 b2 hlt0
      have h' := tsOk_iff.1 h
      have m5 : us.length ≤ 5 := by omega
      have aC : a < C.length := by rw [← F.len]; exact a1
      have gl : (fp L a b).length = b := by rw [fp_len]; omega
      have O := co_outer (out := out) h hL F h5 hC cn
      rw [← F.len, hc] at O
      have Aa := at_C aC
      have ha' : (a : Int) < (C.map ni).length := by simp; omega
      have nl := ni_len C[a]
      have nd := ni_len d
      have no := ni_len out
      have hd : a < d.length := by rw [F.dl]; exact aC
      have hd' : (a : Int) < d.length := by omega
      have dk : d[a]? = some (d.getD a 0) := by rw [List.getD_eq_getElem?_getD, List.getElem?_eq_getElem hd]; rfl
      obtain ⟨ao, an⟩ := at_ni dk
      have Fe := F.eq a aC
      have Fl := F.le a aC
      have ll : (L.getD a []).length = C[a].length - d.getD a 0 := by rw [Fe]; simp
      have c5 := hC _ (List.getElem_mem aC)
      have tk : List.drop (d.getD a 0) (List.take (d.getD a 0 + b) ((ni C[a]).map DV.i)) = (ni (fp L a b)).map .i := by
        unfold fp ni
        rw [Fe]
        simp [List.drop_take]
      have w1 : wr ((d.getD a 0 : Int) + (b : Int)) = ((d.getD a 0 + b : Nat) : Int) := by rw [wr_id (by omega) (by omega)]; omega
      have q1 : d.getD a 0 + b ≤ C[a].length := by omega
      have q2 : d.getD a 0 ≤ d.getD a 0 + b := by omega
      have hlt : out.length < us.length := by omega
      have hlt' : (out.length : Int) < us.length := by omega
      have bd : out.length + b ≤ bound := by unfold bound; omega
      have ns := ni_set d a (d.getD a 0 + b)
      have ng : (ni (fp L a b)).length = b := by rw [ni_len, gl]
      have ap := ni_app out (fp L a b)
      generalize d.getD a 0 + b = e at *
      generalize d.getD a 0 = dn at *
      unfold stN0 at *
      unfold stN1 at O
      simp only [s7, s8, s9, s10, Int.natCast_zero] at O
      generalize c9 us (fp L a b) = z9 at *
      generalize e9 us (fp L a b) = z10 at *
      generalize fp L a b = g at *
      generalize C.map ni = L' at *
      simp [F_spec_ChainOrder_L0, Aa, ha', nl, nd, no, ng, gl, hd, hd', ao, an, w1, q1, q2, tk, hlt, hlt', bd, ns, ap, O, -Int.natCast_add]
def coV (us : List T) (L : List (List Int)) : List Nat := if cbO us L then chF us us.length (natL L) else []
set_option maxHeartbeats 1000000 in
theorem c_spec_ChainOrder (us : List T) (L : List (List Int)) (ha : (us.length : Int) < 1099511627776) (hb : (L.length : Int) < 1099511627776) (hf : (L.flatten.length : Int) < 1099511627776) :
    call lf n_spec_ChainOrder [.sl 0 (us.map e2), .sl 0 (L.map eR)] = some (.fr 1 ((ni (coV us L)).map .i), []) := by
  rw [call_k lf n_spec_ChainOrder _ (F := F_spec_ChainOrder) rfl rfl]
  have C1 := c_spec_TestsOk us ha
  have C2 := c_spec_GroupsOk us.length L hb hf
  have n0 : (ni []).map DV.i = [] := rfl
  unfold coV cbO
  cases h1 : tsOk us with
  | false => rw [h1] at C1; simp [F_spec_ChainOrder, C1, n0]
  | true =>
    rw [h1] at C1
    cases h2 : gokB us.length L with
    | false => rw [h2] at C2; simp [F_spec_ChainOrder, C1, C2, n0]
    | true =>
      rw [h2] at C2
      have h' := tsOk_iff.1 h1
      obtain ⟨N, rfl, G⟩ := gok_of (m := us.length) (by omega) h2
      have gl := gok_len G
      have cn : N.length ≤ 5 := by have := flat_ge9 G.ne; omega
      have c5 : ∀ c ∈ N, c.length ≤ 5 := fun c hc => by
        obtain ⟨A, B, e⟩ := List.append_of_mem hc
        have e2 : N.flatten.length = (A ++ c :: B).flatten.length := by rw [← e]
        rw [List.flatten_append, List.flatten_cons, List.length_append, List.length_append] at e2
        omega
      have F : Lft N N (List.replicate N.length 0) := by
        refine ⟨rfl, by simp, fun i hi => ?_, fun i hi => ?_⟩
        · rw [List.getD_eq_getElem?_getD, List.getElem?_eq_getElem hi, List.getD_eq_getElem?_getD, List.getElem?_replicate]
          simp [hi]
        · rw [List.getD_eq_getElem?_getD, List.getElem?_replicate]
          simp [hi]
      obtain ⟨d', J⟩ := co_main h1 c5 cn (co_step h1 c5 cn) us.length N _ [] G.lt F c5 (by omega) (by simp [gl])
      have rp : (ni (List.replicate N.length 0)).map DV.i = List.replicate N.length (.i 0) := by simp [ni]
      have nb : N.length ≤ bound := by unfold bound; omega
      have nn : ¬ (N.length : Int) < 0 := by omega
      have lN : (N.map ni).length = N.length := by simp
      unfold stN0 at J
      rw [rp, n0, List.nil_append] at J
      rw [natL_ni]
      have nc := ni_len (chF us us.length N)
      have tk : List.take (chF us us.length N).length ((ni (chF us us.length N)).map DV.i) = (ni (chF us us.length N)).map .i := List.take_of_length_le (by simp [nc])
      simp only [List.length_replicate, List.length_nil] at J
      generalize chF us us.length N = R at *
      generalize N.length = n at *
      generalize N.map ni = L' at *
      simp [F_spec_ChainOrder, C1, C2, J, lN, nb, nn, nc, tk]
end
section
attribute [-simp] DV.cells
attribute [local simp] sliceD cells_st cells_sl cells_i cells_y cells_b cells_s cells_w
attribute [local simp] lend_eR al_eR lend_eN adopt_eN new_eN
set_option maxHeartbeats 2000000 in
theorem c_DrawKeepsChains {bs : List Nat} (hb : ∀ y ∈ bs, y < 256) (hl : bs.length ≤ 1048576) :
    ∃ (m : Nat) (R : List (List Int)) (os : List Int), m ≤ 5 ∧ R.length ≤ 6 ∧ R.flatten.length ≤ 6 ∧ os.length ≤ 6 ∧ call lf n_spec_DrawKeepsChains [.sl 0 (bs.map .y)] = some (.tup [.i m, .fr 1 (R.map eN), .fr 1 (os.map .i)], []) := by
  obtain ⟨c1, c2⟩ := take_b hb
  have o := c_open hl
  generalize bs.take 2000 = cs at *
  obtain ⟨us, R, p', u1, q1, q2, q3, q4, G⟩ := c_l20Grouped c1 c2 (p := 0) (by omega) (by omega)
  have C := c_spec_ChainOrder us R (by omega) (by omega) (by omega)
  have k1 := c_pick c1 c2 (p := p') (n := 2) (by omega) (by omega) (by omega)
  have tk : List.take R.length (R.map eN) = R.map eN := List.take_of_length_le (by simp)
  have tk2 : List.take us.length (us.map e2) = us.map e2 := List.take_of_length_le (by simp)
  have nl := ni_len (coV us R)
  have cl : (coV us R).length ≤ 6 := by
    unfold coV
    cases h : cbO us R with
    | false => simp
    | true =>
      unfold cbO at h
      rw [Bool.and_eq_true] at h
      have h' := tsOk_iff.1 h.1
      obtain ⟨N, rfl, GN⟩ := gok_of (m := us.length) (by omega) h.2
      rw [natL_ni, if_pos rfl]
      have w := wk_perm (chF_ok h'.2 us.length N GN.lt (by have := gok_len GN; omega)).1
      have := w.length_eq
      have := gok_len GN
      omega
  have tk3 : List.take (coV us R).length ((ni (coV us R)).map DV.i) = (ni (coV us R)).map .i := List.take_of_length_le (by simp [nl])
  generalize pk cs p' 2 = x at *
  have lp : (0 : Int) < (coV us R).length ↔ coV us R ≠ [] := by
    rw [← List.length_pos_iff]; omega
  obtain ⟨os, p2, o1, o2, o3, O⟩ := c_l20Order c1 c2 (p := p') (n := 14) (m := us.length) (by omega) (by omega) u1 (by omega) (by omega)
  obtain ⟨os2, p3, o4, o5, o6, O2⟩ := c_l20Order c1 c2 (p := p' + 1) (n := 14) (m := us.length) (by omega) (by omega) u1 (by omega) (by omega)
  have tk4 : List.take os.length (os.map DV.i) = os.map .i := List.take_of_length_le (by simp)
  have tk5 : List.take os2.length (os2.map DV.i) = os2.map .i := List.take_of_length_le (by simp)
  by_cases q : (0 : Int) < (coV us R).length
  · have q' : 0 < (coV us R).length := by omega
    by_cases e : x = 0
    · refine ⟨us.length, R, ni (coV us R), u1, q1, q2, by rw [nl]; exact cl, ?_⟩
      rw [call_k lf n_spec_DrawKeepsChains _ (F := F_spec_DrawKeepsChains) rfl rfl]
      generalize coV us R = V at *
      simp [F_spec_DrawKeepsChains, o, G, C, k1, tk, tk2, tk3, nl, q, q', e]
    · refine ⟨us.length, R, os2, u1, q1, q2, o4, ?_⟩
      rw [call_k lf n_spec_DrawKeepsChains _ (F := F_spec_DrawKeepsChains) rfl rfl]
      have e' : (x == 0) = false := by simp [e]
      generalize coV us R = V at *
      simp [F_spec_DrawKeepsChains, o, G, C, k1, tk, tk2, tk3, tk5, nl, q, q', e, e', O2]
  · have q' : ¬ 0 < (coV us R).length := by omega
    refine ⟨us.length, R, os, u1, q1, q2, o1, ?_⟩
    rw [call_k lf n_spec_DrawKeepsChains _ (F := F_spec_DrawKeepsChains) rfl rfl]
    generalize coV us R = V at *
    simp [F_spec_DrawKeepsChains, o, G, C, k1, tk, tk2, tk3, tk4, nl, q, q', O]
end
section
attribute [-simp] DV.cells
attribute [local simp] sliceD cells_st cells_sl cells_i cells_y cells_b cells_s cells_w
attribute [local simp] lend_eR al_eR
theorem l_IndexN (a : Nat) (A : List Nat) (hA : A.length ≤ 1000) : ∀ (r : List Nat) (k : Nat), A.drop k = r → k + r.length = A.length → a ∈ r →
    ex lf F_slices_Index_int_int_W0 ⟨[(0, .sl 0 ((ni A).map .i)), (1, .i a), (7, .i A.length), (8, .i k)], []⟩ = some (.ret, ⟨[(4, .i ((k + r.idxOf a : Nat) : Int))], []⟩) := by
  intro r
  induction r with
  | nil => intro k hd hk hm; cases hm
  | cons b r ih0 =>
    intro k hd hk hm
    obtain ⟨k1, k2, k3⟩ := drop_cons hd
    have k1' : (k : Int) < A.length := by omega
    obtain ⟨at1, _⟩ := at_ni k2
    simp only [List.length_cons] at hk
    have w1 := wr_succ (k := k) (by omega)
    have nl := ni_len A
    rw [w_slices_Index_int_int_0]
    by_cases h : a = b
    · subst h
      have e : (a :: r).idxOf a = 0 := by simp
      rw [e, Nat.add_zero]
      simp [F_slices_Index_int_int_L0, k1, k1', at1, nl]
    · have hb : ((a : Int) == (b : Int)) = false := by simp; omega
      have hb' : ¬ (a : Int) = b := by omega
      have e : (b :: r).idxOf a = r.idxOf a + 1 := idx_ne (fun q => h q.symm)
      have ih := ih0 (k + 1) k3 (by omega) (by rcases List.mem_cons.1 hm with q | q; exact absurd q h; exact q)
      rw [e, show k + (r.idxOf a + 1) = k + 1 + r.idxOf a by omega]
      simp [F_slices_Index_int_int_L0, k1, k1', at1, nl, hb, hb', h, w1, ih, -Int.natCast_add]
theorem c_IndexN {a : Nat} {A : List Nat} (hA : A.length ≤ 1000) (h : a ∈ A) : call lf n_slices_Index_int_int [.sl 0 ((ni A).map .i), .i a] = some (.i ((A.idxOf a : Nat) : Int), []) := by
  rw [call_k lf n_slices_Index_int_int _ (F := F_slices_Index_int_int) rfl rfl]
  have I := l_IndexN a A hA A 0 rfl (by simp) h
  have nl := ni_len A
  rw [Nat.zero_add, Int.natCast_zero] at I
  generalize A.idxOf a = j at *
  simp [F_slices_Index_int_int, I, nl]
set_option maxHeartbeats 1000000 in
theorem c_byPlace {a b : Nat} {A : List Nat} (hA : A.length ≤ 1000) (ha : a ∈ A) (hb : b ∈ A) : call lf n_impl_KeepsChains_1 [.i a, .i b, .adr (.sl 0 ((ni A).map .i))] = some (.i ((A.idxOf a : Nat) - (A.idxOf b : Nat) : Int), []) := by
  rw [call_k lf n_impl_KeepsChains_1 _ (F := F_impl_KeepsChains_1) rfl rfl]
  have I := c_IndexN hA ha
  have J := c_IndexN hA hb
  have x := List.idxOf_lt_length_of_mem ha
  have y := List.idxOf_lt_length_of_mem hb
  have w : wr (((A.idxOf a : Nat) : Int) - ((A.idxOf b : Nat) : Int)) = (A.idxOf a : Nat) - (A.idxOf b : Nat) := wr_id (by omega) (by omega)
  generalize A.idxOf a = i at *
  generalize A.idxOf b = j at *
  simp [F_impl_KeepsChains_1, I, J, w]
def kS (os row : List Nat) (n : Nat) : Bool := (List.range n).all fun j => decide (os.idxOf (row.getD j 0) ≤ os.idxOf (row.getD (j + 1) 0))
theorem kS_succ (os row : List Nat) (n : Nat) : kS os row (n + 1) = (kS os row n && decide (os.idxOf (row.getD n 0) ≤ os.idxOf (row.getD (n + 1) 0))) := by
  unfold kS
  rw [List.range_succ, List.all_append]
  simp
theorem kpr_kS (os : List Nat) : ∀ row : List Nat, kpr os row = kS os row (row.length - 1)
  | [] => rfl
  | [a] => rfl
  | a :: b :: r => by
    have ih := kpr_kS os (b :: r)
    show (decide (os.idxOf a ≤ os.idxOf b) && kpr os (b :: r)) = kS os (a :: b :: r) (r.length + 1)
    rw [ih]
    unfold kS
    rw [show (b :: r).length - 1 = r.length by simp, List.range_succ_eq_map, List.all_cons, List.all_map]
    rfl
def stSs (os row : List Nat) (i : Int) : LS := ⟨[(0, .sl 0 ((ni row).map .i)), (1, .fn n_impl_KeepsChains_1 [.adr (.sl 0 ((ni os).map .i))]), (5, .i i)], []⟩
set_option maxHeartbeats 4000000 in
theorem l_sorted {os row : List Nat} (hA : os.length ≤ 1000) (hr : ∀ x ∈ row, x ∈ os) (h5 : row.length ≤ 1000) : ∀ n : Nat, n ≤ row.length - 1 →
    ex lf F_slices_IsSortedFunc_int_int_W0 (stSs os row (n : Nat)) = if kS os row n then some (.exit 0, stSs os row 0) else some (.ret, ⟨[(4, .b false)], []⟩) := by
  intro n
  induction n with
  | zero =>
    intro _
    rw [w_slices_IsSortedFunc_int_int_0]
    unfold stSs
    simp [F_slices_IsSortedFunc_int_int_L0, kS]
  | succ n ih =>
    intro hn
    have I := ih (by omega)
    rw [kS_succ, w_slices_IsSortedFunc_int_int_0]
    have k0 : row[n]? = some (row.getD n 0) := by rw [List.getD_eq_getElem?_getD, List.getElem?_eq_getElem (by omega)]; rfl
    have k1 : row[n + 1]? = some (row.getD (n + 1) 0) := by rw [List.getD_eq_getElem?_getD, List.getElem?_eq_getElem (by omega)]; rfl
    obtain ⟨at0, _⟩ := at_ni k0
    obtain ⟨at1, _⟩ := at_ni k1
    have m0 := hr _ (List.mem_of_getElem? k0)
    have m1 := hr _ (List.mem_of_getElem? k1)
    have C := c_byPlace hA m1 m0
    have nl := ni_len row
    have w1 : wr (((n + 1 : Nat) : Int) - 1) = (n : Nat) := by rw [wr_id (by omega) (by omega)]; omega
    have h0 : (0 : Int) < ((n + 1 : Nat) : Int) := by omega
    have h0' : 0 < n + 1 := by omega
    have h1 : ((n + 1 : Nat) : Int) < row.length := by omega
    have h2 : (n : Int) < row.length := by omega
    have h1' : n + 1 < row.length := by omega
    have h2' : n < row.length := by omega
    unfold stSs at *
    generalize row.getD n 0 = x at *
    generalize row.getD (n + 1) 0 = y at *
    generalize os.idxOf x = i at *
    generalize os.idxOf y = j at *
    generalize kS os row n = b at *
    generalize hN : n + 1 = N at *
    by_cases q : i ≤ j
    · have q' : ¬ ((j : Int) - (i : Int) < 0) := by omega
      rw [decide_eq_true q, Bool.and_true]
      simp [F_slices_IsSortedFunc_int_int_L0, at0, at1, C, nl, w1, h0, h0', h1, h2, h1', h2', q', I, -Int.natCast_add]
    · have q' : ((j : Int) - (i : Int) < 0) := by omega
      rw [decide_eq_false q, Bool.and_false]
      simp [F_slices_IsSortedFunc_int_int_L0, at0, at1, C, nl, w1, h0, h0', h1, h2, h1', h2', q', -Int.natCast_add]
set_option maxHeartbeats 1000000 in
theorem c_IsSorted {os row : List Nat} (hA : os.length ≤ 1000) (hr : ∀ x ∈ row, x ∈ os) (h5 : row.length ≤ 1000) (hn : row ≠ []) :
    call lf n_slices_IsSortedFunc_int_int [.sl 0 ((ni row).map .i), .fn n_impl_KeepsChains_1 [.adr (.sl 0 ((ni os).map .i))]] = some (.b (kpr os row), []) := by
  rw [call_k lf n_slices_IsSortedFunc_int_int _ (F := F_slices_IsSortedFunc_int_int) rfl rfl]
  have l0 : 1 ≤ row.length := List.length_pos_iff.2 hn
  have I := l_sorted hA hr h5 (row.length - 1) (Nat.le_refl _)
  have nl := ni_len row
  have w1 : wr ((row.length : Int) - 1) = ((row.length - 1 : Nat) : Int) := by rw [wr_id (by omega) (by omega)]; omega
  rw [kpr_kS]
  unfold stSs at I
  cases h : kS os row (row.length - 1) with
  | true =>
    rw [h, if_pos rfl] at I
    simp [F_slices_IsSortedFunc_int_int, I, nl, w1]
  | false =>
    rw [h, if_neg (by simp)] at I
    simp [F_slices_IsSortedFunc_int_int, I, nl, w1]
def stKc (os : List Nat) (L : LN) (k : Nat) : LS := ⟨[(7, .fn n_impl_KeepsChains_1 [.adr (.sl 0 ((ni os).map .i))]), (21, .sl 0 ((L.map ni).map eR)), (22, .i L.length), (23, .i k)], []⟩
set_option maxHeartbeats 4000000 in
theorem kc_loop {os : List Nat} {L : LN} (hA : os.length ≤ 1000) (hr : ∀ c ∈ L, c ≠ [] ∧ c.length ≤ 1000 ∧ ∀ x ∈ c, x ∈ os) (hL : L.length ≤ 1000) : ∀ (r : LN) (k : Nat), L.drop k = r → k + r.length = L.length →
    ex lf F_impl_KeepsChains_W0 (stKc os L k) = if r.all (kpr os) then some (.exit 0, stKc os L L.length) else some (.ret, ⟨[(6, .b false)], []⟩) := by
  have ll : (L.map ni).length = L.length := by simp
  intro r
  induction r with
  | nil =>
    intro k hd hk
    have e : k = L.length := by simpa using hk
    subst e
    rw [w_impl_KeepsChains_0]
    unfold stKc
    simp [F_impl_KeepsChains_L0]
  | cons c r ih0 =>
    intro k hd hk
    obtain ⟨k1, k2, k3⟩ := drop_cons hd
    have k1' : (k : Int) < L.length := by omega
    simp only [List.length_cons] at hk
    have I := ih0 (k + 1) k3 (by omega)
    obtain ⟨c1, c2, c3⟩ := hr c (List.mem_of_getElem? k2)
    have C := c_IsSorted hA c3 c2 c1
    have A := at_eR (A := L.map ni) (k := k) (r := ni c) (by rw [List.getElem?_map, k2]; rfl)
    have w1 := wr_succ (k := k) (by omega)
    rw [w_impl_KeepsChains_0, List.all_cons]
    unfold stKc at *
    cases hq : kpr os c with
    | true =>
      rw [hq] at C
      rw [Bool.true_and, ← I]
      generalize ex lf F_impl_KeepsChains_W0 = E at *
      generalize L.map ni = L' at *
      simp [F_impl_KeepsChains_L0, k1, k1', ll, A, C, w1, -Int.natCast_add]
    | false =>
      rw [hq] at C
      rw [Bool.false_and, if_neg (by simp)]
      generalize L.map ni = L' at *
      simp [F_impl_KeepsChains_L0, k1, k1', ll, A, C, w1, -Int.natCast_add]
set_option maxHeartbeats 4000000 in
theorem c_impl_KeepsChains (m : Int) (L : List (List Int)) (os : List Int) (hb : (L.length : Int) < 1099511627776) (hf : (L.flatten.length : Int) < 1099511627776) (hc : (os.length : Int) < 1099511627776) :
    call lf n_impl_KeepsChains [.i m, .sl 0 (L.map eR), .sl 0 (os.map .i)] = some (.b (kcV m L os), []) := by
  rw [call_k lf n_impl_KeepsChains _ (F := F_impl_KeepsChains) rfl rfl]
  have C1 := c_impl_OrderOk m os hc
  have C2 := c_impl_GroupsOk m L hb
  unfold kcV
  cases h1 : orOk m os with
  | false => rw [h1] at C1; simp [F_impl_KeepsChains, C1]
  | true =>
    rw [h1] at C1
    cases h2 : gokB m L with
    | false => rw [h2] at C2; simp [F_impl_KeepsChains, C1, C2]
    | true =>
      rw [h2] at C2
      obtain ⟨p, rfl, nd, lt, hl, hm⟩ := os_of h1
      obtain ⟨n, rfl⟩ := Int.eq_ofNat_of_zero_le (show 0 ≤ m by omega)
      rw [Int.toNat_natCast] at lt hl
      have hm' : 1 ≤ n ∧ n ≤ 5 := by omega
      obtain ⟨N, rfl, G⟩ := gok_of hm' h2
      have gl := gok_len G
      have cn : N.length ≤ 5 := by have := flat_ge9 G.ne; omega
      have c5 : ∀ c ∈ N, c.length ≤ 5 := fun c hc => by
        obtain ⟨A, B, e⟩ := List.append_of_mem hc
        have e2 : N.flatten.length = (A ++ c :: B).flatten.length := by rw [← e]
        rw [List.flatten_append, List.flatten_cons, List.length_append, List.length_append] at e2
        omega
      have O := kc_loop (os := p) (L := N) (by omega) (fun c hc => ⟨G.ne c hc, by have := c5 c hc; omega, fun x hx => os_all nd lt hl (G.lt c hc x hx)⟩) (by omega) N 0 rfl (by simp)
      rw [natL_ni, ni_toNat, Bool.true_and, Bool.true_and]
      unfold stKc at O
      simp only [Int.natCast_zero] at O
      have ll : (N.map ni).length = N.length := by simp
      cases q : N.all (kpr p) with
      | true =>
        rw [q, if_pos rfl] at O
        generalize N.map ni = L' at *
        simp [F_impl_KeepsChains, C1, C2, O, ll]
      | false =>
        rw [q, if_neg (by simp)] at O
        generalize N.map ni = L' at *
        simp [F_impl_KeepsChains, C1, C2, O, ll]
end
section
def gLA (us : List T) (L : LN) (f : Nat) (v : LN → Int) (i : Nat) : Option Int := match L.getD i [] with
  | [] => none
  | k :: c => some (cA us k * 6 ^ (f + 1) + pA us k * v (L.set i c))
def m0 (g : Nat → Option Int) (i : Nat) : Int := if mnO g i < 0 then 0 else mnO g i
def lA (us : List T) : Nat → LN → Int
  | 0, _ => 0
  | f + 1, L => m0 (gLA us L f (lA us f)) L.length
end
section
attribute [-simp] DV.cells
attribute [local simp] sliceD cells_st cells_sl cells_i cells_y cells_b cells_s cells_w
def eachN (k : Nat) : LN := (List.range k).map fun i : Nat => [i]
theorem eachN_succ (k : Nat) : eachN (k + 1) = eachN k ++ [[k]] := by simp [eachN, List.range_succ]
theorem eachN_flat : ∀ k : Nat, (eachN k).flatten = List.range k
  | 0 => rfl
  | k + 1 => by rw [eachN_succ, List.flatten_append, eachN_flat k, List.range_succ]; rfl
theorem eachN_mem {k : Nat} {c : List Nat} (h : c ∈ eachN k) : ∃ i, i < k ∧ c = [i] := by
  obtain ⟨i, hi, rfl⟩ := List.mem_map.1 h
  exact ⟨i, List.mem_range.1 hi, rfl⟩
theorem gok_eachN (m : Nat) : Gok m (eachN m) := by
  refine ⟨fun g hg k hk => ?_, ?_, fun k hk => ?_, fun g hg => ?_⟩
  · obtain ⟨i, hi, rfl⟩ := eachN_mem hg
    rw [List.mem_singleton.1 hk]; exact hi
  · rw [eachN_flat]; exact List.nodup_range
  · rw [eachN_flat]; exact List.mem_range.2 hk
  · obtain ⟨i, hi, rfl⟩ := eachN_mem hg
    simp
theorem ni_flat (N : LN) : (N.map ni).flatten = ni N.flatten := by unfold ni; rw [List.map_flatten]
theorem kc_each {m : Nat} {os : List Int} (h : orOk m os = true) : kcV m ((eachN m).map ni) os = true := by
  obtain ⟨p, rfl, nd, lt, hl, hm⟩ := os_of h
  unfold kcV
  rw [h, gok_to (by omega) (gok_eachN m), natL_ni, ni_toNat, Bool.true_and, Bool.true_and, List.all_eq_true]
  intro c hc
  obtain ⟨i, hi, rfl⟩ := eachN_mem hc
  exact kpr_one p i
theorem gok_self {m : Nat} {p : List Nat} (hm : 1 ≤ m) (nd : p.Nodup) (lt : ∀ x ∈ p, x < m) (hl : p.length = m) : Gok m [p] := by
  refine ⟨fun g hg k hk => ?_, by simpa using nd, fun k hk => ?_, fun g hg => ?_⟩
  · rw [List.mem_singleton.1 hg] at hk; exact lt k hk
  · have := os_all nd lt hl hk; simpa using this
  · rw [List.mem_singleton.1 hg]
    intro e
    rw [e] at hl
    simp at hl
    omega
theorem kc_self {m : Nat} {os : List Int} (h : orOk m os = true) : kcV m [os] os = true := by
  obtain ⟨p, rfl, nd, lt, hl, hm⟩ := os_of h
  rw [Int.toNat_natCast] at lt hl
  unfold kcV
  have e : [ni p] = [p].map ni := rfl
  rw [h, e, gok_to (by omega) (gok_self (by omega) nd lt hl), natL_ni, ni_toNat, Bool.true_and, Bool.true_and]
  simp only [List.all_cons, List.all_nil, Bool.and_true]
  exact (kpr_all nd (List.Perm.refl p)).2 rfl
theorem kc_one {m : Nat} {c os : List Int} (h : orOk m os = true) (hg : gokB m [c] = true) : kcV m [c] os = decide (c = os) := by
  obtain ⟨p, rfl, nd, lt, hl, hm⟩ := os_of h
  rw [Int.toNat_natCast] at lt hl
  obtain ⟨N, e, G⟩ := gok_of (m := m) (by omega) hg
  have : ∃ q, N = [q] ∧ c = ni q := by
    match N, e with
    | [q], e => exact ⟨q, rfl, by simpa using e⟩
  obtain ⟨q, rfl, rfl⟩ := this
  have gl := gok_len G
  have gn := G.nd
  have ga := G.all
  simp at gl gn ga
  have pm : q.Perm p := (List.perm_ext_iff_of_nodup gn nd).2 fun k => ⟨fun hk => os_all nd lt hl (G.lt q (by simp) k hk), fun hk => ga k (lt k hk)⟩
  unfold kcV
  rw [h, hg, e, natL_ni, ni_toNat, Bool.true_and, Bool.true_and]
  simp only [List.all_cons, List.all_nil, Bool.and_true]
  rw [Bool.eq_iff_iff, kpr_all nd pm, decide_eq_true_eq]
  refine ⟨fun e => by rw [e], fun e => ?_⟩
  have := congrArg (List.map Int.toNat) e
  rwa [ni_toNat, ni_toNat] at this
end
section
attribute [-simp] DV.cells
attribute [local simp] sliceD cells_st cells_sl cells_i cells_y cells_b cells_s cells_w
attribute [local simp] lend_eR al_eR lend_eN adopt_eN new_eN
theorem c_sameInts (A B : List Int) (ha : (A.length : Int) ≤ 1048576) : call lf n_laws_sameInts [.sl 0 (A.map .i), .sl 0 (B.map .i)] = some (.b (decide (A = B)), []) := by
  rw [call_k lf n_laws_sameInts _ (F := F_laws_sameInts) rfl rfl]
  have lm : (A.map DV.i).length = A.length := by simp
  have lm2 : (B.map DV.i).length = B.length := by simp
  by_cases hn : A.length = B.length
  · have at_ : ∀ (C : List Int) (i : Nat) (hi : i < C.length), atI (C.map DV.i) i = some (.i C[i]) := fun C i hi => by simp [atI, hi]
    have L : ∀ (d i : Nat), i + d = A.length → A.take i = B.take i → ex lf F_laws_sameInts_W0 ⟨[(0, .sl 0 (A.map .i)), (1, .sl 0 (B.map .i)), (5, .i i)], []⟩ = if A = B then some (.exit 0, ⟨[(0, .sl 0 (A.map .i)), (1, .sl 0 (B.map .i)), (5, .i A.length)], []⟩) else some (.ret, ⟨[(4, .b false)], []⟩) := by
      intro d
      induction d with
      | zero =>
        intro i hi ht
        have e : i = A.length := by omega
        subst e
        have e : A = B := by rw [List.take_length, hn, List.take_length] at ht; exact ht
        rw [if_pos e, w_laws_sameInts_0]
        simp [F_laws_sameInts_L0]
      | succ d ih =>
        intro i hi ht
        have hA : i < A.length := by omega
        have hB : i < B.length := by omega
        have hA' : (i : Int) < A.length := by omega
        have hB' : (i : Int) < B.length := by omega
        have q1 := at_ A i hA
        have q2 := at_ B i hB
        have w1 := wr_succ (k := i) (by omega)
        rw [w_laws_sameInts_0]
        by_cases e : A[i] = B[i]
        · have I := ih (i + 1) (by omega) (by rw [List.take_add_one, List.take_add_one, ht, List.getElem?_eq_getElem hA, List.getElem?_eq_getElem hB, e])
          rw [← I]
          rw [e] at q1
          generalize B[i] = y at *
          generalize A.map DV.i = es at *
          generalize B.map DV.i = fs at *
          simp [F_laws_sameInts_L0, lm, lm2, hA, hA', hB, hB', q1, q2, w1, -Int.natCast_add]
        · have ne : A ≠ B := fun q => by subst q; exact e rfl
          rw [if_neg ne]
          generalize B[i] = y at *
          generalize A[i] = z at *
          have e' : (z != y) = true := by simp [e]
          generalize A.map DV.i = es at *
          generalize B.map DV.i = fs at *
          simp [F_laws_sameInts_L0, lm, lm2, hA, hA', hB, hB', q1, q2, w1, e, e', -Int.natCast_add]
    have L := L A.length 0 (by omega) rfl
    rw [Int.natCast_zero] at L
    by_cases e : A = B
    · subst e
      rw [if_pos rfl] at L
      simp [F_laws_sameInts, L]
    · rw [if_neg e] at L
      rw [decide_eq_false e]
      simp [F_laws_sameInts, L, hn]
  · have ne : A ≠ B := fun q => hn (by rw [q])
    have hn' : ((A.length : Int) != B.length) = true := by simp; omega
    rw [decide_eq_false ne]
    simp [F_laws_sameInts, hn, hn']
def own9 (k : Nat) : List DV := ((eachN k).map ni).map eN
theorem own9_len (k : Nat) : (own9 k).length = k := by simp [own9, eachN]
theorem own9_succ (k : Nat) : own9 (k + 1) = own9 k ++ [.sl 1 [.i (k : Int)]] := by unfold own9; rw [eachN_succ]; simp [eN, ni]
theorem own9_lend (k : Nat) : lendL (own9 k) = ((eachN k).map ni).map eR := lend_eN _
def stK9 (R : List (List Int)) (os : List Int) (m : Nat) (b : Bool) (k : Nat) : LS :=
  ⟨[(3, .i m), (4, .own 7178 R.length 0 R.length), (5, .sl 1 (os.map .i)), (6, .b b), (7, .own 22024 k 0 k), (8, .i k)], [(7178, R.map eN), (22024, own9 k)]⟩
set_option maxHeartbeats 8000000 in
theorem k9_loop (R : List (List Int)) (os : List Int) {m : Nat} (hm : m ≤ 5) (b : Bool) : ex lf F_laws_FnKeepsChains_W0 (stK9 R os m b 0) = some (.exit 0, stK9 R os m b m) := by
  refine loop_count m (fun k => stK9 R os m b k) (fun k hk => ?_) ?_ (by simp)
  · have hk' : (k : Int) < m := by omega
    have w1 := wr_succ (k := k) (by omega)
    have cb : k + 1 ≤ bound := by unfold bound; omega
    have l2 := own9_len k
    unfold stK9
    rw [own9_succ]
    generalize own9 k = B at *
    simp [F_laws_FnKeepsChains_L0, hk, hk', w1, cb, l2, -Int.natCast_add]
  · simp [stK9, F_laws_FnKeepsChains_L0]
set_option maxHeartbeats 16000000 in
theorem law_FnKeepsChains (x : List Nat) (_ : x.length ≤ Go.maxLen) (hb : ∀ y ∈ x, y < 256) : call lf n_laws_FnKeepsChains [bys x] = some (.b true, []) := by
  show call lf n_laws_FnKeepsChains [.sl 0 (x.map .y)] = _
  rw [call_k lf n_laws_FnKeepsChains _ (F := F_laws_FnKeepsChains) rfl rfl]
  by_cases hl : 1048576 < (x.length : Int)
  · simp (config := { maxSteps := 2000000 }) [F_laws_FnKeepsChains, hl]
  · obtain ⟨m, R, os, m5, r1, r2, o1, d⟩ := c_DrawKeepsChains hb (by omega)
    have C1 := c_impl_KeepsChains m R os (by omega) (by omega) (by omega)
    have C2 := c_spec_KeepsChains m R os (by omega) (by omega) (by omega)
    have C3 := c_spec_OrderOk m os (by omega)
    have C4 := c_spec_GroupsOk m R (by omega) (by omega)
    have lb1 : os.length ≤ bound := by unfold bound; omega
    have lb2 : R.length ≤ bound := by unfold bound; omega
    have tk1 : List.take os.length (os.map DV.i) = os.map .i := List.take_of_length_le (by simp)
    have tk2 : List.take R.length (R.map eN) = R.map eN := List.take_of_length_le (by simp)
    cases h1 : orOk m os with
    | false =>
      have e : kcV m R os = false := by unfold kcV; rw [h1]; rfl
      rw [e] at C1 C2
      rw [h1] at C3
      simp (config := { maxSteps := 2000000 }) [F_laws_FnKeepsChains, hl, d, C1, C2, C3, lb1, lb2, tk1, tk2, c_alive]
    | true =>
      rw [h1] at C3
      cases h2 : gokB m R with
      | false =>
        have e : kcV m R os = false := by unfold kcV; rw [h1, h2]; rfl
        rw [e] at C1 C2
        rw [h2] at C4
        simp (config := { maxSteps := 2000000 }) [F_laws_FnKeepsChains, hl, d, C1, C2, C3, C4, lb1, lb2, tk1, tk2, c_alive]
      | true =>
        rw [h2] at C4
        have C5 := c_impl_KeepsChains m ((eachN m).map ni) os (by simp [eachN]; omega) (by rw [ni_flat, ni_len, eachN_flat]; simp; omega) (by omega)
        rw [kc_each h1] at C5
        have C6 := c_impl_KeepsChains m [os] os (by simp) (by simp; omega) (by omega)
        rw [kc_self h1] at C6
        have e3 : ([os].map eR) = [.sl 0 (os.map .i)] := rfl
        rw [e3] at C6
        have L := k9_loop R os m5 (kcV m R os)
        have le := own9_lend m
        have lm := own9_len m
        have tk3 : List.take m (own9 m) = own9 m := List.take_of_length_le (by omega)
        have z1 : own9 0 = [] := rfl
        unfold stK9 at L
        rw [z1, Int.natCast_zero] at L
        rw [← le] at C5
        by_cases q : R.length ≤ 1
        · have hR : ∃ c, R = [c] := by
            match R, h2, q with
            | [c], _, _ => exact ⟨c, rfl⟩
            | [], h2, _ =>
              exfalso
              unfold gokB at h2
              simp at h2
              have := (orOk_iff.1 h2).2.1
              have := (orOk_iff.1 h2).1
              simp at *
              omega
          obtain ⟨c, hc⟩ := hR
          have e : kcV m R os = decide (c = os) := by rw [hc] at h2 ⊢; exact kc_one h1 h2
          have cl : c.length ≤ 6 := by rw [hc] at r2; simpa using r2
          have S := c_sameInts c os (by omega)
          have a0 : atI (R.map eN) 0 = some (.sl 1 (c.map .i)) := by rw [hc]; rfl
          have a1 : atN (R.map eN) 0 = some (.sl 1 (c.map .i)) := by rw [hc]; rfl
          have rl : R.length = 1 := by rw [hc]; rfl
          have q1 : ¬ (1 : Int) < R.length := by omega
          have q2 : ¬ 1 < R.length := by omega
          have q3 : 0 < R.length := by omega
          have q4 : (0 : Int) < R.length := by omega
          rw [e] at C1 C2 L
          clear rl e hc
          generalize own9 m = D at *
          generalize decide (c = os) = b at *
          cases b <;> simp (config := { maxSteps := 2000000 }) [F_laws_FnKeepsChains, hl, d, C1, C2, C3, C4, C5, C6, L, S, a0, a1, q1, q2, q3, q4, lb1, lb2, tk1, tk2, tk3, lm, c_alive]
        · have q' : (1 : Int) < R.length := by omega
          have q2 : 1 < R.length := by omega
          generalize kcV m R os = b at *
          generalize own9 m = D at *
          cases b <;> simp (config := { maxSteps := 2000000 }) [F_laws_FnKeepsChains, hl, d, C1, C2, C3, C4, C5, C6, L, lb1, lb2, tk1, tk2, tk3, lm, q', q2, c_alive]
end
end Zz
