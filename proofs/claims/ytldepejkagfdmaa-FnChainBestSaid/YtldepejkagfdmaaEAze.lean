/- What the functions answer, as equations: EA. No conditions. -/
import Derived.Test.YtldepejkagfdmaaIrze
import Derived.Test.YtldepejkagfdmaaE0
import Derived.Test.YtldepejkagfdmaaLgEze
set_option linter.unusedSectionVars false
set_option linter.unusedVariables false
set_option linter.unusedSimpArgs false
namespace Zz
open Go.Lg Md
set_option linter.unusedSimpArgs false
set_option linter.unusedVariables false
attribute [local simp] tm_mv tm_newnil tm_pick tm_bin tm_eqb tm_eqs tm_un tm_len tm_lens tm_chk tm_fld tm_fldv tm_idxa tm_idx tm_load tm_store tm_slice tm_slices tm_make tm_alloc tm_box tm_build tm_app tm_conv tm_ext tm_call tm_calld tm_mkfn tm_mm tm_idxp tm_eqn tm_callg tm_callm tm_bslice0 tm_bslice1 tm_bslice2 tm_bslice cw_nil cw_cons cd_none cd_some ec_nil ec_cons es_nil es_one es_more nn_nil nn_cons ns_nil ns_cons si_nil si_cons sk_t stod_oad stod_own stod_adr stod_dead ml_nil ml_cons nt_nil nt_cons nc_nil' nc_cons sa_mkfn cv_adr cv_i cv_y cv_b cv_w sa_calld nm_def nh_nil nh_cons nxM_some nxM_none sc_st sd_i sd_y sd_b sd_s sd_w sd_q sc_i sc_y sc_b sc_s sc_w sc_q sa_bslice sa_app nc_own nc_nil sa_call sa_alloc sa_build sa_callm rm_nil rm_one rm_gen bq_mul bq_eql ia_mv ia_newnil ia_pick ia_bin ia_eqb ia_eqs ia_un ia_len ia_lens ia_chk ia_fld ia_fldv ia_idxa ia_idx ia_load ia_store ia_slice ia_slices ia_make ia_alloc ia_box ia_build ia_bslice ia_app ia_b2i ia_i2b ia_i2i ia_same ia_b2s ia_s2b ia_ext ia_mm ia_idxp ia_calld ia_mkfn ia_i2r ia_r2s ia_call pt_nil pt_cons mi_nil mi_cons md_bslice md_mv md_newnil md_pick md_bin md_eqb md_un md_len md_lens md_fld md_fldv md_idxa md_idx md_load md_store md_slice md_slices md_make md_alloc md_box md_build md_app md_conv md_ext md_call md_calld md_callg md_mkfn md_mm md_idxp md_eqn md_eqs md_chk tg_bslice tg_mv tg_newnil tg_pick tg_bin tg_eqb tg_un tg_len tg_lens tg_fld tg_fldv tg_idxa tg_idx tg_load tg_store tg_slice tg_slices tg_make tg_alloc tg_box tg_build tg_app tg_conv tg_ext tg_call tg_calld tg_callg tg_mkfn tg_mm tg_idxp tg_eqn tg_eqs tg_chk rp_eq ro_eq ifP_t ifP_f np_def ng1_nil ng2_nil ng_gate ng_gen tgA_t tgA_0 tgA_1 tgA_2 aC_nil aC_c aC_t nxP_some nxP_none rq_nil rq_gen rq_gate nxR_some nxR_none ru_nil ru_gen ru_gate pl_none pl_some gt_nil gt_t gt_c di_some di_none an_nil an_cons nxG_some nxG_none rg_nil rg_gen rg_gate oldO_some oa_nil oa_i oa_y oa_b oa_s oa_st oa_sl oa_own oa_oad oa_nl al_nil al_cons al_i al_y al_b al_s al_st al_sl nxF_some nxF_none rf_nil rf_gen rf_gate hk_newnil hk_make hk_alloc hk_box hk_build hk_bslice hk_call hk_store hk_app hk_appn em_cel mm_cel ok_cel ov_cel so_cel il_cel oi_cel oj_cel ol_cel nm_cel hk_appc ef_bslice5 ef_app_cel ks_shut shu_own shc_none shc_cel cl_nil cl_cons ai_nil ai_cons il_i il_y il_b il_s il_st il_sl il_own il_adr il_oad il_ref il_fr il_tup il_nil il_np il_und il_dead ol_adr ol_b ol_dead ol_e ol_fn ol_fr ol_i ol_nil ol_np ol_oad ol_own ol_q ol_r ol_ref ol_s ol_sl ol_st ol_tup ol_und ol_w ol_y oj_e oj_i oj_y oj_b oj_s oj_st oj_sl oj_own oj_adr oj_oad oj_ref oj_fr oj_tup oj_nil oj_np oj_und oj_dead oj_w oj_q oj_r oj_fn oi_e oi_i oi_y oi_b oi_s oi_st oi_sl oi_own oi_adr oi_oad oi_ref oi_fr oi_tup oi_nil oi_np oi_und oi_dead as_nil as_cons ao_nil ao_cons av_i av_y av_b av_s av_st av_sl av_own av_adr av_oad av_ref av_fr av_tup av_nil av_np av_und av_dead pro_cons ghK_some ks_promote ks_freeze frz_own ks_rename ren_own dropO adoptP newP wholeP cutP allOldL ex_skip ex_ret ex_exit ks_region ks_seq ks_cond ks_block seqK_n seqK_e seqK_r regK_some condK_t condK_f blkK_n blkK_r blkK_e endK_n endK_r rr_false rr_true rd_free mo_nil mo_cons drK_some drK_none nxW_some nxW_none rw_nil rw_gen rw_gate ak_newnil ak_make ak_alloc ak_box ak_build ak_bslice ak_call ak_store ak_app iw_mm iw_eqn iw_idxp ef_callg cgK_some gv_e gv_own gv_i gv_sl gv_st gv_b gv_nil gvK_some gvO_some iw_callg ia_callg ak_callg hk_callg is_mv is_newnil is_pick is_bin is_eqb is_eqs is_un is_len is_lens is_chk is_fld is_fldv is_idxa is_idx is_load is_slice is_slices is_make is_alloc is_box is_build is_bslice is_app is_conv is_ext is_call is_calld is_callg is_mkfn is_mm is_idxp is_eqn is_store rt_nil rt_gen rt_gate nxT_some nxT_none ef_eqn_nil ef_eqn_sl ef_eqn_own ia_eqn ef_mmx ef_mmn ef_idxp nxD_some nxD_none ov_i ov_y ov_b ov_s ov_st ov_sl ov_own ov_oad ov_adr ov_nil ov_np ov_und ov_dead ov_tup oldN_some oldN_nil oldN_none so_none so_tup DV.noM so_i so_y so_b so_s so_st so_sl so_adr so_nil so_np so_und so_dead anyM_nil anyM_t anyM_c so_own so_oad rd_nil rd_gen rd_mv rd_gate iw_mv iw_newnil iw_pick iw_bin iw_eqb iw_eqs iw_un iw_len iw_lens iw_chk iw_fld iw_fldv iw_idxa iw_idx iw_load iw_store iw_slice iw_slices iw_make iw_alloc iw_box iw_build iw_bslice iw_app iw_b2i iw_i2b iw_i2i iw_same iw_b2s iw_s2b iw_ext iw_call nm_i nm_y nm_b nm_s nm_st nm_sl nm_own nm_oad nm_adr nm_nil nm_np nm_und nm_dead nm_tup rl_nil rl_gate rl_mv rl_gen opv_t opv_c nx_some nx_none gate_tt gate_tf gate_ft gate_ff gate_u fr_ap em_nil em_i em_y em_b em_s em_st em_sl em_own em_adr em_oad em_ref em_nl em_np em_und em_dead em_tup0 em_tup_i em_tup_b em_tup_s em_tup_sl em_tup_st em_tup_np em_tup_own em_tup_oad mm_i mm_y mm_b mm_s mm_st mm_sl mm_own mm_oad mm_adr mm_nil mm_np mm_und mm_dead ef_mv ef_newnil ef_pickt ef_pickf ef_bin ef_eqb ef_eqs ef_un ef_lens ef_len_sl ef_len_own ef_len_nil ef_chk_adr ef_chk_oad ef_fld_adr ef_fld_oad ef_fldv idxR_some ef_idxa_sl ef_idxa_own ef_idx ef_load_adr_st ef_load_adr_i ef_load_adr_y ef_load_adr_b ef_load_adr_s ef_load_adr_sl atN_nil atN_zero atN_succ ef_load_oad ef_store ef_slice ef_slices ef_make ef_alloc ef_box ef_build ef_bslice ef_app_own ef_app_nil ef_b2i ef_i2b ef_i2i ef_same ef_ext ret1 ret2_some calL_some ef_call retC_i retC_y retC_b retC_s retC_st retC_sl retC_np retC_fr retC_ref retC_tup rk_nil rk_i rk_y rk_b rk_s rk_st rk_sl rk_own rk_oad rk_nl ok_nil ok_i ok_y ok_b ok_s ok_st ok_sl ok_own ok_oad ok_nl lo_nil lo_i lo_y lo_b lo_s lo_st lo_sl lo_own lo_oad lo_nl pr_nil pr_i pr_y pr_b pr_s pr_st pr_sl pr_own pr_nl pr_oad nr_i nr_y nr_b nr_s nr_st nr_sl nr_fr nr_np nr_tup ng_i ng_b ng_s ng_fr ng_nil resV effP_eff binD bi_add bi_sub bi_mul bi_quo bi_rem bi_eql bi_neq bi_lss bi_leq bi_gtr bi_geq bi_shl bi_shr bi_and bi_or bi_xor bi_andNot binY binS unD look put putD LS.get LS.drop killE sweep lookO putO dropO enter leave giveBackL giveBack outs lendArgs lendArg newOuts takeIn takeInL lendL DV.lend adoptL DV.adopt elems apartKs part DV.cells unpart settle settleL over mkId szId fillP fillE tk_e2 tk_i tk_y lt_e2 lt_i lt_y lend_rep al_e2 al_is al_ys al_rep al_app lend_app adopt_app new_app lend_e2 lend_i lend_y adopt_e2 adopt_i adopt_y new_e2 new_i allNewL DV.allNew bounds sliceD sliceS em_w em_q em_r em_fn em_tup_w em_tup_q em_tup_r mm_w mm_q mm_r mm_fn ef_load_adr_w ef_load_adr_q ef_load_adr_r retC_w retC_q retC_r rk_w rk_q rk_r rk_fn ok_w ok_q ok_r ok_fn lo_w lo_q lo_r lo_fn pr_w pr_q pr_r pr_fn nr_w nr_q nr_r ng_w ng_q ng_r oa_w oa_q oa_r oa_fn al_w al_q al_r al_fn ov_w ov_q ov_r ov_fn so_w so_q so_r so_fn il_w il_q il_r il_fn oi_w oi_q oi_r oi_fn av_w av_q av_r av_fn nm_w nm_q nm_r nm_fn ef_i2r ef_r2s ef_mkfn ef_mkbd ef_idxp_adr ef_idxp_q ef_calld_nil ef_calld_adr ef_calld_bd DV.capB capsOk DV.cell List.all_cons List.all_nil rk_own_t lo_own_t lk_f lk_t pr_own_t mutB ak_calld hk_calld iw_calld iw_mkfn iw_i2r iw_r2s bw_and bw_or bw_xor bw_andNot bw_eql bw_neq sw_shl sw_shr sq_shl gEnv_nil rk_adr ok_adr lo_adr pr_adr oa_adr capL capArg DV.cap ak_mkfn hk_mkfn hk_mkbd ef_callm gf_ap ga_nil ga_cons tgv_own gk_e gk_giv gk_i gk_y gk_b gk_s gk_w gk_q gk_r gk_fn gk_st gk_sl gk_own gk_oad gk_adr gk_nl gk_np rk_giv ok_giv lo_giv pr_giv oa_giv iw_callm hk_callm ak_callm is_callm ia_callm tg_callm md_callm ef_i2q ef_q2i ef_q2q iw_i2q iw_q2i iw_q2q ia_i2q ia_q2i ia_q2q bq_and bq_add bq_shr sq_shr tgv_nil gk_ref rk_ref ok_ref lo_ref pr_ref oa_ref retC_fn nr_fn ef_load_adr_fn ks_close cls_oad
attribute [local congr] nxM_congr ifP_congr nxP_congr nxR_congr nxT_congr nxG_congr nxF_congr ghK_congr gate_congr nx_congr nxD_congr runL_congr runD_congr eff_congr calL_congr ret2_congr seqK_congr regK_congr condK_congr endK_congr drK_congr nxW_congr
attribute [local simp ↓] nxM_some rm_nil rm_one rm_gen nxT_some rt_nil rt_gen rt_gate nxP_some rq_nil rq_gen rq_gate nxR_some ru_nil ru_gen ru_gate nxG_some rg_nil rg_gen rg_gate nxF_some rf_nil rf_gen rf_gate ks_promote ks_freeze frz_own ks_rename ghK_some gate_tt gate_tf gate_ft gate_ff gate_u nx_some nxD_some rl_nil rl_mv rl_gen rl_gate rd_nil rd_mv rd_gen rd_gate rd_free rr_false rr_true drK_some drK_none nxW_some rw_nil rw_gen rw_gate ks_region ks_seq ks_cond ks_block seqK_n seqK_e seqK_r regK_some condK_t condK_f blkK_n blkK_r endK_n endK_r calL_some ret2_some opv_t opv_c
section
theorem c_impl_isWithin (a b c : Int) : call lf n_impl_isWithin [.i a, .i b, .i c] = some (.b (decide (b ≤ a ∧ a ≤ c)), []) := by
  rw [call_k lf n_impl_isWithin _ (F := F_impl_isWithin) rfl rfl]
  by_cases h : b ≤ a <;> simp [F_impl_isWithin, h]
theorem c_spec_l1In (a b c : Int) : call lf n_spec_l1In [.i a, .i b, .i c] = some (.b (decide (b ≤ a ∧ a ≤ c)), []) := by
  rw [call_k lf n_spec_l1In _ (F := F_spec_l1In) rfl rfl]
  by_cases h : b ≤ a <;> simp [F_spec_l1In, h]
theorem c_impl_manyOk (a : Int) : call lf n_impl_manyOk [.i a] = some (.b (nOk a), []) := by
  rw [call_k lf n_impl_manyOk _ (F := F_impl_manyOk) rfl rfl]
  simp [F_impl_manyOk, c_impl_isWithin, nOk]

theorem l_impl_TestsOk (n : Int) (hb : n < 1099511627776) (es : List DV) (rest : List T) : ∀ k : Int, 0 ≤ k → k + (rest.map e2).length = n → es.drop k.toNat = rest.map e2 →
    ex lf F_impl_TestsOk_W0 ⟨[(9, .sl 0 es), (10, .i n), (11, .i k)], []⟩ =
    if rest.all tOk then some (.exit 0, ⟨[(9, .sl 0 es), (10, .i n), (11, .i n)], []⟩) else some (.ret, ⟨[(2, .b false)], []⟩) := by
  induction rest with
  | nil =>
    intro k h0 hn hd
    rw [w_impl_TestsOk_0]
    have hk : k = n := by simpa using hn
    simp [F_impl_TestsOk_L0, hk]
  | cons t rest ih =>
    intro k h0 hn hd
    obtain ⟨q1, q2, q3, q4, q5, q6⟩ := stp h0 hn hb hd
    have ih := ih (k + 1) q4 q5 q6
    simp only [e2] at q2
    rw [w_impl_TestsOk_0]
    have xt := tOk_def t
    cases x1 : decide (1 ≤ t.1 ∧ t.1 ≤ 9) <;> cases x2 : decide (1 ≤ t.2 ∧ t.2 ≤ 5) <;> rw [x1, x2] at xt <;> simp [F_impl_TestsOk_L0, q1, q2, q3, c_impl_isWithin, ih, xt, x1, x2, -List.all_eq_true]
theorem c_impl_TestsOk (ts : List T) (hb : (ts.length : Int) < 1099511627776) : call lf n_impl_TestsOk [.sl 0 (ts.map e2)] = some (.b (tsOk ts), []) := by
  rw [call_k lf n_impl_TestsOk _ (F := F_impl_TestsOk) rfl rfl]
  have L := l_impl_TestsOk ts.length hb (ts.map e2) ts 0 (by omega) (by simp) (by simp)
  cases h1 : nOk ts.length <;> cases h2 : ts.all tOk <;> simp [F_impl_TestsOk, c_impl_manyOk, L, h1, h2, tsOk]

theorem l_spec_TestsOk (n : Int) (hb : n < 1099511627776) (es : List DV) (hE : (es.length : Int) = n) (rest : List T) : ∀ k : Int, 0 ≤ k → k + (rest.map e2).length = n → es.drop k.toNat = rest.map e2 →
    ex lf F_spec_TestsOk_W0 ⟨[(0, .sl 0 es), (3, .i k)], []⟩ =
    if rest.all tOk then some (.exit 0, ⟨[(0, .sl 0 es), (3, .i n)], []⟩) else some (.ret, ⟨[(2, .b false)], []⟩) := by
  induction rest with
  | nil =>
    intro k h0 hn hd
    rw [w_spec_TestsOk_0]
    have hk : k = n := by simpa using hn
    simp [F_spec_TestsOk_L0, hk, hE]
  | cons t rest ih =>
    intro k h0 hn hd
    obtain ⟨q1, q2, q3, q4, q5, q6⟩ := stp h0 hn hb hd
    have ih := ih (k + 1) q4 q5 q6
    simp only [e2] at q2
    rw [w_spec_TestsOk_0]
    have xt := tOk_def t
    cases x1 : decide (1 ≤ t.1 ∧ t.1 ≤ 9) <;> cases x2 : decide (1 ≤ t.2 ∧ t.2 ≤ 5) <;> rw [x1, x2] at xt <;> simp [F_spec_TestsOk_L0, q1, q2, q3, hE, c_spec_l1In, ih, xt, x1, x2, -List.all_eq_true]
theorem c_spec_TestsOk (ts : List T) (hb : (ts.length : Int) < 1099511627776) : call lf n_spec_TestsOk [.sl 0 (ts.map e2)] = some (.b (tsOk ts), []) := by
  rw [call_k lf n_spec_TestsOk _ (F := F_spec_TestsOk) rfl rfl]
  have L := l_spec_TestsOk ts.length hb (ts.map e2) (by simp) ts 0 (by omega) (by simp) (by simp)
  cases h2 : ts.all tOk <;> simp [F_spec_TestsOk, c_spec_l1In, L, h2, tsOk, nOk]

theorem nOk_iff {a : Int} : nOk a = true ↔ 1 ≤ a ∧ a ≤ 5 := by simp [nOk]
theorem tsOk_iff {ts : List T} : tsOk ts = true ↔ (1 ≤ (ts.length : Int) ∧ (ts.length : Int) ≤ 5) ∧ ts.all tOk = true := by
  rw [tsOk, Bool.and_eq_true, nOk_iff]
end
section
theorem p2 {ts : List T} (h : tsOk ts = true) : 1 ≤ (2 : Nat) ^ ts.length ∧ (2 : Nat) ^ ts.length ≤ 32 ∧ ((2 ^ ts.length : Nat) : Int) = 2 ^ ts.length := by
  have h' := tsOk_iff.1 h
  have a : (2 : Nat) ^ ts.length ≤ 2 ^ 5 := Nat.pow_le_pow_right (by omega) (by omega)
  exact ⟨Nat.pow_pos (by omega), by omega, by simp⟩
def ot (ts : List T) (i : Nat) : List DV := ((ts.take i).map other).map e2
def cn (ts : List T) (i : Nat) : List DV := ot ts i ++ List.replicate (ts.length - i) (.st [.i 0, .i 0])
end
section
/-- a mark read with p parts before it -/
def mkS (m p : Int) (t : T) : Option Int :=
  if t.1 = 0 then (if 0 ≤ t.2 ∧ t.2 < m then some (p + 1) else none)
  else if t.1 = 1 then (if t.2 = 0 ∧ 1 ≤ p then some p else none)
  else if t.1 = 2 ∨ t.1 = 3 then (if t.2 = 0 ∧ 2 ≤ p then some (p - 1) else none)
  else none
def runM (m : Int) : Int → List T → Option Int
  | p, [] => some p
  | p, t :: r => match mkS m p t with
    | some q => runM m q r
    | none => none
end
section
/-- how many parts a mark takes -/
def taken (k : Int) : Nat := if k = 0 then 0 else if k = 1 then 1 else 2
def stepG {P : Type} (mk : T → List P → P) (st : List P) (t : T) : List P := st.take (st.length - taken t.1) ++ [mk t (st.drop (st.length - taken t.1))]
def yesW (a : Nat) : BitVec 32 := match a with
  | 0 => 2863311530#32
  | 1 => 3435973836#32
  | 2 => 4042322160#32
  | 3 => 4278255360#32
  | _ => 4294901760#32
def mkW (t : T) (ps : List (BitVec 32)) : BitVec 32 :=
  if t.1 = 0 then yesW t.2.toNat else if t.1 = 1 then ~~~(ps.getD 0 0) else if t.1 = 2 then ps.getD 0 0 &&& ps.getD 1 0 else ps.getD 0 0 ||| ps.getD 1 0
def tsW (ts : List T) : BitVec 32 := (ts.foldl (stepG mkW) []).headD 0
/-- the value of a term in a state -/
def tv (ts : List T) (s : Nat) : Bool := (tsW ts).getLsbD s
end
section
theorem xor_bound {a b : Int} (h1 : 0 ≤ a) (h2 : a < 4611686018427387904) (h3 : 0 ≤ b) (h4 : b < 4611686018427387904) : 0 ≤ xorI a b ∧ xorI a b < 4611686018427387904 := by
  have e : (BitVec.ofInt 64 a ^^^ BitVec.ofInt 64 b).toNat = a.toNat ^^^ b.toNat := by
    simp only [BitVec.toNat_xor, BitVec.toNat_ofInt]
    congr 1 <;> omega
  have k : a.toNat ^^^ b.toNat < 2 ^ 62 := Nat.xor_lt_two_pow (by omega) (by omega)
  unfold xorI
  rw [e, wr_id (by omega) (by omega)]
  omega
def hs (bs : List Nat) (p : Int) : Int := (bs.getD (p.tmod bs.length).toNat 0 : Nat) * 131 + (bs.getD ((p * 7 + 3).tmod bs.length).toNat 0 : Nat) * 1117 + p * 29 + p.tdiv bs.length * 53
def pk (bs : List Nat) (p n : Int) : Int := if bs.length = 0 then 0 else if p < bs.length then ((bs.getD p.toNat 0 : Nat) : Int).tmod n else (xorI (hs bs p) ((hs bs p).tdiv 64)).tmod n
theorem byte_lt {bs : List Nat} (hb : ∀ y ∈ bs, y < 256) (i : Nat) : bs.getD i 0 < 256 := by
  by_cases h : i < bs.length
  · have : bs.getD i 0 = bs[i] := by simp [List.getD, h]
    rw [this]
    exact hb _ (List.getElem_mem h)
  · have : bs.getD i 0 = 0 := by simp [List.getD, List.getElem?_eq_none (by omega : bs.length ≤ i)]
    omega
theorem tdiv_bound {p l : Int} (h0 : 0 ≤ p) (hl : 1 ≤ l) : 0 ≤ p.tdiv l ∧ p.tdiv l ≤ p := by
  rw [Int.tdiv_eq_ediv_of_nonneg h0]
  exact ⟨Int.ediv_nonneg h0 (by omega), Int.ediv_le_self _ h0⟩
theorem tmod_bound {p l : Int} (h0 : 0 ≤ p) (hl : 1 ≤ l) : 0 ≤ p.tmod l ∧ p.tmod l < l := by
  rw [Int.tmod_eq_emod_of_nonneg h0]
  exact ⟨Int.emod_nonneg _ (by omega), Int.emod_lt_of_pos _ (by omega)⟩
theorem hs_bound {bs : List Nat} (hb : ∀ y ∈ bs, y < 256) {p : Int} (h0 : 0 ≤ p) (h1 : p ≤ 1000000) (hl : 1 ≤ bs.length) : 0 ≤ hs bs p ∧ hs bs p < 1000000000 := by
  have a := byte_lt hb (p.tmod bs.length).toNat
  have b := byte_lt hb ((p * 7 + 3).tmod bs.length).toNat
  have c := tdiv_bound (p := p) (l := bs.length) h0 (by omega)
  unfold hs
  omega
theorem pk_bound {bs : List Nat} (hb : ∀ y ∈ bs, y < 256) {p n : Int} (h0 : 0 ≤ p) (h1 : p ≤ 1000000) (hn : 1 ≤ n) : 0 ≤ pk bs p n ∧ pk bs p n < n := by
  unfold pk
  split
  · omega
  · split
    · exact tmod_bound (by omega) hn
    · have a := hs_bound hb h0 h1 (by omega)
      have b := tdiv_bound (p := hs bs p) (l := 64) a.1 (by omega)
      have c := xor_bound a.1 (by omega) b.1 (by omega)
      exact tmod_bound c.1 hn
theorem atI_y {bs : List Nat} {i : Int} (h0 : 0 ≤ i) (h1 : i < bs.length) : atI (bs.map .y) i = some (.y (bs.getD i.toNat 0)) := by
  have : i.toNat < bs.length := by omega
  simp [atI, h0, List.getD, this]

theorem c_pick {bs : List Nat} (hb : ∀ y ∈ bs, y < 256) (hl : bs.length ≤ 2000) {p n : Int} (h0 : 0 ≤ p) (h1 : p < 1000000) (hn : 1 ≤ n) :
    call lf n_spec_l20Rd_pick [.ref (.st [.sl 0 (bs.map .y), .i p]), .i n] = some (.i (pk bs p n), [.st [.sl 0 (bs.map .y), .i (p + 1)]]) := by
  rw [call_k lf n_spec_l20Rd_pick _ (F := F_spec_l20Rd_pick) rfl rfl]
  have w1 : wr (p + 1) = p + 1 := wr_id (by omega) (by omega)
  have w2 : wr p = p := wr_id (by omega) (by omega)
  have n1 : ¬ n < 1 := by omega
  have n2 : ¬ n = 0 := by omega
  by_cases e : bs.length = 0
  · have e1 : ((bs.length : Int) == 0) = true := by rw [e]; rfl
    simp [F_spec_l20Rd_pick, w1, n1, e1, pk, e]
  · have e1 : ((bs.length : Int) == 0) = false := beq_eq_false_iff_ne.2 (by omega)
    by_cases f : p < bs.length
    · have a := atI_y (bs := bs) h0 f
      simp [F_spec_l20Rd_pick, w1, w2, n1, n2, e1, pk, e, f, a]
    · have lpos : (1 : Int) ≤ bs.length := by omega
      have l0 : ¬ bs = [] := fun h => e (by rw [h]; rfl)
      have t1 := tmod_bound h0 lpos
      have t2 := tmod_bound (p := p * 7 + 3) (by omega) lpos
      have a1 := atI_y t1.1 t1.2
      have a2 := atI_y t2.1 t2.2
      have b1 := byte_lt hb (p.tmod bs.length).toNat
      have b2 := byte_lt hb ((p * 7 + 3).tmod bs.length).toNat
      have d := tdiv_bound h0 lpos
      have H := hs_bound hb h0 (by omega) (by omega : 1 ≤ bs.length)
      have hd : hs bs p = (bs.getD (p.tmod bs.length).toNat 0 : Nat) * 131 + (bs.getD ((p * 7 + 3).tmod bs.length).toNat 0 : Nat) * 1117 + p * 29 + p.tdiv bs.length * 53 := rfl
      have hp : pk bs p n = (xorI (hs bs p) ((hs bs p).tdiv 64)).tmod n := by unfold pk; rw [if_neg e, if_neg f]
      generalize bs.getD (p.tmod bs.length).toNat 0 = u at *
      generalize bs.getD ((p * 7 + 3).tmod bs.length).toNat 0 = v at *
      have v1 : wr (p * 7) = p * 7 := wr_id (by omega) (by omega)
      have v2 : wr (p * 7 + 3) = p * 7 + 3 := wr_id (by omega) (by omega)
      have v3 : wr ((u : Int) * 131) = u * 131 := wr_id (by omega) (by omega)
      have v4 : wr ((v : Int) * 1117) = v * 1117 := wr_id (by omega) (by omega)
      have v5 : wr ((u : Int) * 131 + v * 1117) = u * 131 + v * 1117 := wr_id (by omega) (by omega)
      have v6 : wr (p * 29) = p * 29 := wr_id (by omega) (by omega)
      have v7 : wr ((u : Int) * 131 + v * 1117 + p * 29) = u * 131 + v * 1117 + p * 29 := wr_id (by omega) (by omega)
      have v8 : wr (p.tdiv bs.length) = p.tdiv bs.length := wr_id (by omega) (by omega)
      have v9 : wr (p.tdiv bs.length * 53) = p.tdiv bs.length * 53 := wr_id (by omega) (by omega)
      have va : wr ((u : Int) * 131 + v * 1117 + p * 29 + p.tdiv bs.length * 53) = hs bs p := by rw [hd]; exact wr_id (by omega) (by omega)
      have b := tdiv_bound (p := hs bs p) (l := 64) H.1 (by omega)
      have vb : wr ((hs bs p).tdiv 64) = (hs bs p).tdiv 64 := wr_id (by omega) (by omega)
      simp [F_spec_l20Rd_pick, w1, w2, n1, n2, e1, f, l0, a1, a2, v1, v2, v3, v4, v5, v6, v7, v8, v9, va, vb, hp]
theorem c_odd {bs : List Nat} (hb : ∀ y ∈ bs, y < 256) (hl : bs.length ≤ 2000) {p n : Int} (h0 : 0 ≤ p) (h1 : p < 1000000) (hn : 1 ≤ n) (hn2 : n ≤ 1000000) :
    call lf n_spec_l20Rd_odd [.ref (.st [.sl 0 (bs.map .y), .i p]), .i n] = some (.b (pk bs p n == n - 1), [.st [.sl 0 (bs.map .y), .i (p + 1)]]) := by
  rw [call_k lf n_spec_l20Rd_odd _ (F := F_spec_l20Rd_odd) rfl rfl]
  have n1 : 0 < n := by omega
  have w : wr (n - 1) = n - 1 := wr_id (by omega) (by omega)
  simp [F_spec_l20Rd_odd, n1, w, c_pick hb hl h0 h1 hn]
theorem c_open {bs : List Nat} (hl : bs.length ≤ 1048576) : call lf n_spec_l20Open [.sl 0 (bs.map .y)] = some (.ref (.st [.sl 0 ((bs.take 2000).map .y), .i 0]), []) := by
  rw [call_k lf n_spec_l20Open _ (F := F_spec_l20Open) rfl rfl]
  by_cases h : 2000 < (bs.length : Int)
  · have h2 : (2000 : Int) ≤ bs.length := by omega
    have h3 : ∀ x ∈ bs, (DV.y x).cells.length = 1 := fun _ _ => rfl
    simp [F_spec_l20Open, h, h2, List.map_take]
  · have h2 : bs.take 2000 = bs := List.take_of_length_le (by omega)
    simp [F_spec_l20Open, h, h2]

theorem l_l20Tests {bs : List Nat} (hb : ∀ y ∈ bs, y < 256) (hl : bs.length ≤ 2000) (nn : Int) (j : Nat) : ∀ (p : Int) (ts : List T), 0 ≤ p → p + 2 * j < 900000 → ts.length + j ≤ 100 →
    ∃ us : List T, us.length = ts.length + j ∧
    ex lf F_spec_l20Tests_W0 ⟨[(0, .oad 23 1 0 0), (1, .i nn), (5, .own 3600 ts.length 0 ts.length), (6, .i j)], [(23, [.st [.sl 0 (bs.map .y), .i p]]), (3600, ts.map e2)]⟩ =
      some (.exit 0, ⟨[(0, .oad 23 1 0 0), (1, .i nn), (5, .own 3600 us.length 0 us.length), (6, .i 0)], [(23, [.st [.sl 0 (bs.map .y), .i (p + 2 * j)]]), (3600, us.map e2)]⟩) := by
  induction j with
  | zero =>
    intro p ts h0 h1 h2
    refine ⟨ts, by omega, ?_⟩
    rw [w_spec_l20Tests_0]
    simp [F_spec_l20Tests_L0]
  | succ j ih =>
    intro p ts h0 h1 h2
    have a1 := pk_bound hb h0 (by omega : p ≤ 1000000) (by omega : (1 : Int) ≤ 9)
    have a2 := pk_bound hb (by omega : 0 ≤ p + 1) (by omega : p + 1 ≤ 1000000) (by omega : (1 : Int) ≤ 5)
    have k1 := c_pick hb hl h0 (by omega : p < 1000000) (by omega : (1 : Int) ≤ 9)
    have k2 := c_pick hb hl (by omega : 0 ≤ p + 1) (by omega : p + 1 < 1000000) (by omega : (1 : Int) ≤ 5)
    have w1 : wr (1 + pk bs p 9) = 1 + pk bs p 9 := wr_id (by omega) (by omega)
    have w2 : wr (1 + pk bs (p + 1) 5) = 1 + pk bs (p + 1) 5 := wr_id (by omega) (by omega)
    have w3 : wr (j : Int) = j := wr_id (by omega) (by omega)
    obtain ⟨us, u1, u2⟩ := ih (p + 1 + 1) (ts ++ [(1 + pk bs p 9, 1 + pk bs (p + 1) 5)]) (by omega) (by omega) (by simp; omega)
    refine ⟨us, by rw [u1]; simp; omega, ?_⟩
    rw [w_spec_l20Tests_0]
    have c1 : (0 : Int) < (j : Int) + 1 := by omega
    have c2 : ts.length + 1 ≤ bound := by unfold bound; omega
    simp [e2, Int.natCast_add] at u2
    rw [show p + 2 * ((j + 1 : Nat) : Int) = p + 1 + 1 + 2 * j by omega]
    simp [F_spec_l20Tests_L0, c1, c2, k1, k2, w1, w2, w3, e2, u2]
theorem c_l20Tests {bs : List Nat} (hb : ∀ y ∈ bs, y < 256) (hl : bs.length ≤ 2000) {p n : Int} (h0 : 0 ≤ p) (h1 : p < 800000) (hn : 1 ≤ n) (hn2 : n ≤ 1000000) :
    ∃ (us : List T) (p' : Int), us.length ≤ 5 ∧ p ≤ p' ∧ p' ≤ p + 20 ∧ call lf n_spec_l20Tests [.ref (.st [.sl 0 (bs.map .y), .i p]), .i n] = some (.fr 2 (us.map e2), [.st [.sl 0 (bs.map .y), .i p']]) := by
  have a1 := pk_bound hb h0 (by omega : p ≤ 1000000) (by omega : (1 : Int) ≤ 5)
  have k1 := c_pick hb hl h0 (by omega : p < 1000000) (by omega : (1 : Int) ≤ 5)
  obtain ⟨j, hj⟩ : ∃ j : Nat, 1 + pk bs p 5 = j := ⟨(1 + pk bs p 5).toNat, by omega⟩
  have w1 : wr (j : Int) = j := wr_id (by omega) (by omega)
  obtain ⟨us, u1, u2⟩ := l_l20Tests hb hl n j (p + 1) [] (by omega) (by omega) (by simp; omega)
  simp at u1 u2
  have q0 : 0 ≤ p + 1 + 2 * (j : Int) := by omega
  have k2 := c_odd hb hl q0 (by omega) hn hn2
  generalize hq : p + 1 + 2 * (j : Int) = q at *
  cases ho : (pk bs q n == n - 1) with
  | false =>
    rw [ho] at k2
    refine ⟨us, q + 1, by omega, by omega, by omega, ?_⟩
    rw [call_k lf n_spec_l20Tests _ (F := F_spec_l20Tests) rfl rfl]
    simp [F_spec_l20Tests, k1, hj, w1, u2, k2]
  | true =>
    rw [ho] at k2
    have k3 := c_pick hb hl (by omega : 0 ≤ q + 1) (by omega : q + 1 < 1000000) (by omega : (1 : Int) ≤ 3)
    have a3 := pk_bound hb (by omega : 0 ≤ q + 1) (by omega : q + 1 ≤ 1000000) (by omega : (1 : Int) ≤ 3)
    have k4 := c_pick hb hl (by omega : 0 ≤ q + 1 + 1) (by omega : q + 1 + 1 < 1000000) (by omega : (1 : Int) ≤ 2)
    have a4 := pk_bound hb (by omega : 0 ≤ q + 1 + 1) (by omega : q + 1 + 1 ≤ 1000000) (by omega : (1 : Int) ≤ 2)
    match us, u1 with
    | [], u1 => simp at u1; omega
    | t :: r, u1 =>
      simp [e2, Int.natCast_add] at u2
      generalize pk bs (q + 1) 3 = x3 at *
      generalize pk bs (q + 1 + 1) 2 = x4 at *
      have c3 : x3 = 0 ∨ x3 = 1 ∨ x3 = 2 := by omega
      have c4 : x4 = 0 ∨ x4 = 1 := by omega
      have e0 : ∀ (a b : Int), DV.st [.i a, .i b] = e2 (a, b) := fun _ _ => rfl
      rcases c3 with rfl | rfl | rfl
      · refine ⟨[], q + 1 + 1, by simp, by omega, by omega, ?_⟩
        rw [call_k lf n_spec_l20Tests _ (F := F_spec_l20Tests) rfl rfl]
        simp [F_spec_l20Tests, k1, hj, w1, u2, k2, k3]
      · rcases c4 with rfl | rfl
        · refine ⟨(0, t.2) :: r, q + 1 + 1 + 1, by simp at u1 ⊢; omega, by omega, by omega, ?_⟩
          rw [call_k lf n_spec_l20Tests _ (F := F_spec_l20Tests) rfl rfl]
          simp [F_spec_l20Tests, k1, hj, w1, u2, k2, k3, k4, e2]
        · refine ⟨(10, t.2) :: r, q + 1 + 1 + 1, by simp at u1 ⊢; omega, by omega, by omega, ?_⟩
          rw [call_k lf n_spec_l20Tests _ (F := F_spec_l20Tests) rfl rfl]
          simp [F_spec_l20Tests, k1, hj, w1, u2, k2, k3, k4, e2]
      · rcases c4 with rfl | rfl
        · refine ⟨(t.1, 0) :: r, q + 1 + 1 + 1, by simp at u1 ⊢; omega, by omega, by omega, ?_⟩
          rw [call_k lf n_spec_l20Tests _ (F := F_spec_l20Tests) rfl rfl]
          simp [F_spec_l20Tests, k1, hj, w1, u2, k2, k3, k4, e2]
        · refine ⟨(t.1, 6) :: r, q + 1 + 1 + 1, by simp at u1 ⊢; omega, by omega, by omega, ?_⟩
          rw [call_k lf n_spec_l20Tests _ (F := F_spec_l20Tests) rfl rfl]
          simp [F_spec_l20Tests, k1, hj, w1, u2, k2, k3, k4, e2]

theorem take_b {bs : List Nat} (hb : ∀ y ∈ bs, y < 256) : (∀ y ∈ bs.take 2000, y < 256) ∧ (bs.take 2000).length ≤ 2000 :=
  ⟨fun y h => hb y (List.mem_of_mem_take h), by simp; omega⟩
end
section
theorem cells_st (cs : List DV) : (DV.st cs).cells = cs := rfl
theorem cells_sl (p : Nat) (es : List DV) : (DV.sl p es).cells = [DV.sl p es] := rfl
theorem cells_i (n : Int) : (DV.i n).cells = [DV.i n] := rfl
theorem cells_y (n : Nat) : (DV.y n).cells = [DV.y n] := rfl
theorem cells_b (n : Bool) : (DV.b n).cells = [DV.b n] := rfl
theorem cells_s (n : List UInt8) : (DV.s n).cells = [DV.s n] := rfl
attribute [-simp] DV.cells
attribute [local simp] cells_st cells_sl cells_i cells_y cells_b cells_s
def row (t : List T) : DV := .sl 1 (t.map e2)
theorem flat_set (m : T) : ∀ {ps : List (List T)} {A : Nat} {t : List T}, ps[A]? = some t → (ps.set A (t ++ [m])).flatten.length = ps.flatten.length + 1
  | [], _, _, h => by simp at h
  | x :: ps, 0, t, h => by simp at h; subst h; simp; omega
  | x :: ps, A + 1, t, h => by
    simp only [List.getElem?_cons_succ] at h
    have := flat_set m h
    simp at this ⊢
    omega
theorem flat_len : ∀ {ps : List (List T)} {A : Nat} {t : List T}, ps[A]? = some t → t.length ≤ ps.flatten.length
  | [], _, _, h => by simp at h
  | x :: ps, 0, t, h => by simp at h; subst h; simp
  | x :: ps, A + 1, t, h => by
    simp only [List.getElem?_cons_succ] at h
    have := flat_len h
    simp only [List.flatten_cons, List.length_append]; omega
end
section
attribute [-simp] DV.cells
attribute [local simp] cells_st cells_sl cells_i cells_y cells_b cells_s
theorem cells_w (x : BitVec 32) : (DV.w x).cells = [DV.w x] := rfl
attribute [local simp] cells_w
end
section
attribute [-simp] DV.cells
attribute [local simp] cells_st cells_sl cells_i cells_y cells_b cells_s cells_w
attribute [-simp] sliceD
def bI (b : Bool) : Int := if b then 1 else 0
end
section
attribute [-simp] DV.cells sliceD
attribute [local simp] cells_st cells_sl cells_i cells_y cells_b cells_s cells_w
theorem bit_bI {a s : Nat} (hs : s ≤ 60) : (shrI (a : Int) (s : Int)).tmod 2 = bI (a.testBit s) := by
  rw [shr1 (by omega) (by omega), tmod2 (Int.ediv_nonneg (by omega) (Int.le_of_lt (Int.pow_pos (by omega))))]
  unfold bI
  rw [Nat.testBit_eq_decide_div_mod_eq, Int.toNat_natCast]
  have : (a : Int) / 2 ^ s % 2 = ((a / 2 ^ s % 2 : Nat) : Int) := by simp
  rw [this]
  by_cases h : a / 2 ^ s % 2 = 1
  · simp [h]
  · have : a / 2 ^ s % 2 = 0 := by omega
    simp [this]
theorem pow5 {m : Int} (h1 : 1 ≤ m) (h5 : m ≤ 5) : 2 ≤ 2 ^ m.toNat ∧ 2 ^ m.toNat ≤ 32 ∧ ((2 ^ m.toNat : Nat) : Int) = 2 ^ m.toNat := by
  have c : m = 1 ∨ m = 2 ∨ m = 3 ∨ m = 4 ∨ m = 5 := by omega
  rcases c with rfl | rfl | rfl | rfl | rfl <;> decide
end
section
attribute [-simp] DV.cells sliceD
attribute [local simp] cells_st cells_sl cells_i cells_y cells_b cells_s cells_w
/-- 1 if f holds wherever g does below N, 0 if nowhere, else -1 -/
def fo (f g : Nat → Bool) (N : Nat) : Int := if allTo (fun s => !g s || f s) N then 1 else if allTo (fun s => !g s || !f s) N then 0 else -1
/-- What the states say that agree. -/
def agB (ks : List Int) (s : Nat) : Bool := ag ks (s : Int)
end
section
attribute [-simp] DV.cells sliceD
attribute [local simp] cells_st cells_sl cells_i cells_y cells_b cells_s cells_w
/-- what is known of a term by what is known of its tests -/
def foT (m : Int) (ts : List T) (ks : List Int) : Int := fo (tv ts) (agB ks) (2 ^ m.toNat)
def told (m : Nat) (st so : Nat) : List Int := (List.range m).map fun k => if so.testBit k then bI (st.testBit k) else -1
theorem bI_eq1 (b : Bool) : (bI b == 1) = b := by cases b <;> rfl
end
section
attribute [-simp] DV.cells sliceD
attribute [local simp] cells_st cells_sl cells_i cells_y cells_b cells_s cells_w
def agW : List Int → Nat → BitVec 32 → BitVec 32
  | [], _, w => w
  | k :: r, i, w => agW r (i + 1) (if k = 0 then w &&& ~~~(yesW i) else if k = 1 then w &&& yesW i else w)
end
section
attribute [-simp] DV.cells sliceD
attribute [local simp] cells_st cells_sl cells_i cells_y cells_b cells_s cells_w
theorem div_bI (a s : Nat) : (a : Int) / 2 ^ s % 2 = bI (a.testBit s) := by
  unfold bI
  rw [Nat.testBit_eq_decide_div_mod_eq]
  have : (a : Int) / 2 ^ s % 2 = ((a / 2 ^ s % 2 : Nat) : Int) := by simp
  rw [this]
  by_cases h : a / 2 ^ s % 2 = 1
  · simp [h]
  · have : a / 2 ^ s % 2 = 0 := by omega
    simp [this]
theorem c_impl_hasTest (so k : Nat) (hk : k ≤ 40) : call lf n_impl_hasTest [.i so, .i k] = some (.b (so.testBit k), []) := by
  rw [call_k lf n_impl_hasTest _ (F := F_impl_hasTest) rfl rfl]
  have ni : ¬ (k : Int) < 0 := by omega
  have e : andI (shrI (so : Int) (k : Int)) 1 = bI (so.testBit k) := by
    rw [bit_and, shr1 (by omega) (by omega), Int.toNat_natCast, div_bI]
  simp [F_impl_hasTest, ni, e, bI_eq1]
end
section
attribute [-simp] DV.cells
attribute [local simp] cells_st cells_sl cells_i cells_y cells_b cells_s
def dT (t : T) : T := if t.1 = 2 then (3, 0) else if t.1 = 3 then (2, 0) else t
end
section
theorem c_alive : call lf n_laws_alive [] = some (.b true, []) := by
  rw [call_k lf n_laws_alive _ (F := F_laws_alive) rfl rfl]
  have a := c_impl_TestsOk [(1, 1)] (by simp)
  have b := c_impl_TestsOk [(0, 0)] (by simp)
  have a1 : tsOk [(1, 1)] = true := by decide
  have b1 : tsOk [(0, 0)] = false := by decide
  rw [a1] at a
  rw [b1] at b
  simp [e2] at a b
  simp [F_laws_alive, a, b]
end
section
attribute [-simp] DV.cells
attribute [local simp] cells_st cells_sl cells_i cells_y cells_b cells_s cells_w
theorem or_fin : ∀ (s : _root_.Fin 32) (k : _root_.Fin 5), orI (s.val : Int) ((2 : Int) ^ k.val) = ((s.val ||| 2 ^ k.val : Nat) : Int) := by decide +kernel
theorem or_nat {s k : Nat} (hs : s < 32) (hk : k < 5) : orI (s : Int) ((2 : Int) ^ k) = ((s ||| 2 ^ k : Nat) : Int) := or_fin ⟨s, hs⟩ ⟨k, hk⟩
end
section
/-- each of the tests once, from those on that some tests are -/
def orS (m : Int) : Nat → List Int → Bool
  | _, [] => true
  | so, a :: r => decide (0 ≤ a ∧ a < m) && !so.testBit a.toNat && orS m (so ||| 2 ^ a.toNat) r
def orOk (m : Int) (os : List Int) : Bool := nOk m && decide ((os.length : Int) = m) && orS m 0 os
def setO : Nat → List Int → Nat
  | so, [] => so
  | so, a :: r => setO (so ||| 2 ^ a.toNat) r
theorem orS_cons {m : Int} {so : Nat} {a : Int} {r : List Int} : orS m so (a :: r) = true ↔ (0 ≤ a ∧ a < m) ∧ so.testBit a.toNat = false ∧ orS m (so ||| 2 ^ a.toNat) r = true := by
  simp [orS, and_assoc]
theorem orOk_iff {m : Int} {os : List Int} : orOk m os = true ↔ (1 ≤ m ∧ m ≤ 5) ∧ (os.length : Int) = m ∧ orS m 0 os = true := by
  rw [orOk, Bool.and_eq_true, Bool.and_eq_true, nOk_iff, decide_eq_true_eq, and_assoc]
theorem setO_app : ∀ (so : Nat) (p q : List Int), setO so (p ++ q) = setO (setO so p) q
  | _, [], _ => rfl
  | so, a :: r, q => setO_app (so ||| 2 ^ a.toNat) r q
theorem orS_app {m : Int} : ∀ (so : Nat) (p q : List Int), orS m so (p ++ q) = (orS m so p && orS m (setO so p) q)
  | _, [], q => by simp [orS, setO]
  | so, a :: r, q => by simp only [List.cons_append, orS, setO, orS_app (so ||| 2 ^ a.toNat) r q, Bool.and_assoc]
theorem or_bit (so a k : Nat) : (so ||| 2 ^ a).testBit k = (so.testBit k || decide (a = k)) := by
  rw [Nat.testBit_or, Nat.testBit_two_pow]
theorem or_lt2 {m so a : Nat} (h : so < 2 ^ m) (ha : a < m) : so ||| 2 ^ a < 2 ^ m := Nat.or_lt_two_pow h (Nat.pow_lt_pow_right (by omega) ha)
theorem setO_bit : ∀ {os : List Int} {so k : Nat}, (∀ o ∈ os, 0 ≤ o) → ((setO so os).testBit k = true ↔ so.testBit k = true ∨ (k : Int) ∈ os)
  | [], _, _, _ => by simp [setO]
  | a :: r, so, k, h => by
    have ha := h a (by simp)
    rw [setO, setO_bit (os := r) (fun o ho => h o (by simp [ho])), or_bit]
    simp only [Bool.or_eq_true, decide_eq_true_eq, List.mem_cons]
    have : a.toNat = k ↔ (k : Int) = a := by omega
    rw [this, or_assoc]
/-- how many tests are not among some -/
def uc (so : Nat) : Nat → Nat
  | 0 => 0
  | i + 1 => uc so i + if so.testBit i then 0 else 1
theorem uc_zero : ∀ n, uc 0 n = n
  | 0 => rfl
  | n + 1 => by simp [uc, uc_zero n]
theorem uc_congr {a b : Nat} : ∀ {n}, (∀ k, k < n → a.testBit k = b.testBit k) → uc a n = uc b n
  | 0, _ => rfl
  | n + 1, h => by simp only [uc]; rw [uc_congr (fun k hk => h k (by omega)), h n (by omega)]
theorem uc_or {so a : Nat} : ∀ {n}, a < n → so.testBit a = false → uc (so ||| 2 ^ a) n + 1 = uc so n
  | 0, h, _ => by omega
  | n + 1, h, hb => by
    simp only [uc]
    by_cases e : a = n
    · subst e
      rw [uc_congr (a := so ||| 2 ^ a) (b := so) (fun k hk => by rw [or_bit, decide_eq_false (by omega), Bool.or_false]), or_bit, hb]
      simp
    · have := uc_or (so := so) (a := a) (n := n) (by omega) hb
      rw [or_bit, decide_eq_false e, Bool.or_false]
      omega
theorem uc_all {so : Nat} : ∀ {n}, uc so n = 0 → ∀ k, k < n → so.testBit k = true
  | 0, _, k, hk => by omega
  | n + 1, h, k, hk => by
    simp only [uc] at h
    rcases Nat.lt_succ_iff_lt_or_eq.1 hk with q | rfl
    · exact uc_all (n := n) (by omega) k q
    · cases hb : so.testBit k with
      | true => rfl
      | false => rw [hb] at h; simp at h
theorem uc_setO {m : Int} (hm : 0 ≤ m) : ∀ {os : List Int} {so : Nat}, orS m so os = true → uc (setO so os) m.toNat + os.length = uc so m.toNat
  | [], _, _ => by simp [setO]
  | a :: r, so, h => by
    obtain ⟨h1, h2, h3⟩ := orS_cons.1 h
    have i := uc_setO hm (os := r) h3
    have u := uc_or (so := so) (a := a.toNat) (n := m.toNat) (by omega) h2
    simp only [setO, List.length_cons]; omega
theorem set_all {m : Int} {os : List Int} (h : orOk m os = true) : ∀ k, k < m.toNat → (setO 0 os).testBit k = true := by
  obtain ⟨h1, h2, h3⟩ := orOk_iff.1 h
  have u := uc_setO (by omega) h3
  rw [uc_zero] at u
  exact uc_all (by omega)
def cA (us : List T) (a : Nat) : Int := (us.getD a (0, 0)).1
theorem cA_nn {us : List T} (h : us.all tOk = true) (k : Nat) : 0 ≤ cA us k ∧ (k < us.length → 1 ≤ cA us k) ∧ cA us k ≤ 9 := by
  unfold cA
  by_cases hk : k < us.length
  · have e : us.getD k (0, 0) = us[k] := by simp [List.getD, hk]
    rw [e]
    have := tOk_iff.1 (List.all_eq_true.1 h us[k] (List.getElem_mem hk))
    omega
  · have e : us.getD k (0, 0) = (0, 0) := by simp [List.getD, List.getElem?_eq_none (by omega : us.length ≤ k)]
    rw [e]; simp; omega
end
section
theorem orS_nodup {m : Int} : ∀ {os : List Int} {so : Nat}, orS m so os = true ↔ (∀ o ∈ os, (0 ≤ o ∧ o < m) ∧ so.testBit o.toNat = false) ∧ os.Nodup
  | [], so => by simp [orS]
  | a :: r, so => by
    rw [orS_cons, orS_nodup (os := r), List.nodup_cons]
    constructor
    · rintro ⟨h1, h2, h3, h4⟩
      refine ⟨fun o ho => ?_, fun hm => ?_, h4⟩
      · rcases List.mem_cons.1 ho with rfl | ho
        · exact ⟨h1, h2⟩
        · obtain ⟨q1, q2⟩ := h3 o ho
          rw [or_bit, Bool.or_eq_false_iff] at q2
          exact ⟨q1, q2.1⟩
      · have q := (h3 a hm).2
        rw [or_bit] at q; simp at q
    · rintro ⟨h1, h2, h3⟩
      obtain ⟨a1, a2⟩ := h1 a (by simp)
      refine ⟨a1, a2, fun o ho => ?_, h3⟩
      obtain ⟨q1, q2⟩ := h1 o (by simp [ho])
      refine ⟨q1, ?_⟩
      rw [or_bit, q2, Bool.false_or, decide_eq_false]
      intro e
      have : a = o := by omega
      exact h2 (this ▸ ho)
theorem orS_perm {m : Int} {so : Nat} {p q : List Int} (h : p.Perm q) : orS m so p = orS m so q := by
  rw [Bool.eq_iff_iff, orS_nodup, orS_nodup, h.nodup_iff]
  constructor
  · exact fun k => ⟨fun o ho => k.1 o (h.mem_iff.2 ho), k.2⟩
  · exact fun k => ⟨fun o ho => k.1 o (h.mem_iff.1 ho), k.2⟩
theorem orOk_perm {m : Int} {p q : List Int} (h : p.Perm q) : orOk m p = orOk m q := by
  unfold orOk
  rw [orS_perm h, h.length_eq]
def rng (n : Nat) : List Int := (List.range n).map fun (k : Nat) => (k : Int)
theorem rng_len (n : Nat) : (rng n).length = n := by simp [rng]
theorem rng_succ (n : Nat) : rng (n + 1) = rng n ++ [(n : Int)] := by simp [rng, List.range_succ]
theorem mem_rng {n : Nat} {o : Int} : o ∈ rng n ↔ 0 ≤ o ∧ o < n := by
  unfold rng
  rw [List.mem_map]
  constructor
  · rintro ⟨k, h, rfl⟩; have := List.mem_range.1 h; omega
  · intro h; exact ⟨o.toNat, List.mem_range.2 (by omega), by omega⟩
theorem rng_ok {m : Int} (h : 1 ≤ m ∧ m ≤ 5) : orOk m (rng m.toNat) = true := by
  rw [orOk_iff, orS_nodup]
  refine ⟨h, by rw [rng_len]; omega, fun o ho => ?_, ?_⟩
  · have := mem_rng.1 ho
    exact ⟨by omega, by simp⟩
  · unfold rng
    rw [List.nodup_iff_pairwise_ne, List.pairwise_map]
    exact List.Pairwise.imp (fun {a b} (hab : a ≠ b) h => hab (Int.ofNat_inj.1 h)) (List.nodup_iff_pairwise_ne.1 List.nodup_range)
theorem orOk_len {m : Int} {os : List Int} (h : orOk m os = true) : (os.length : Int) = m := (orOk_iff.1 h).2.1
theorem perm_ok {m : Int} {os : List Int} (h : 1 ≤ m ∧ m ≤ 5) (p : os.Perm (rng m.toNat)) : orOk m os = true := by rw [orOk_perm p]; exact rng_ok h
end
section
def hkn (m : Nat) (ks : List Int) (so : Nat) : Prop := ∀ k, k < m → (ks[k]? = some (-1) ↔ so.testBit k = false)
def non (m : Nat) : List Int := List.replicate m (-1)
end
section
attribute [-simp] DV.cells sliceD
attribute [local simp] cells_st cells_sl cells_i cells_y cells_b cells_s cells_w
theorem hasTest_i {so : Nat} {a : Int} (h0 : 0 ≤ a) (h5 : a < 5) : call lf n_impl_hasTest [.i so, .i a] = some (.b (so.testBit a.toNat), []) := by
  have := c_impl_hasTest so a.toNat (by omega)
  rw [Int.toNat_of_nonneg h0] at this
  exact this
theorem or_i {so : Nat} {a : Int} (hs : so < 32) (h0 : 0 ≤ a) (h5 : a < 5) : orI (so : Int) (shlI 1 a) = ((so ||| 2 ^ a.toNat : Nat) : Int) := by
  rw [shl1 h0 (by omega)]
  exact or_nat hs (by omega)
theorem pow_le5 {m : Int} (h : 1 ≤ m ∧ m ≤ 5) : 2 ^ m.toNat ≤ 32 := (pow5 h.1 h.2).2.1
theorem l_impl_OrderOk {m : Int} (hm : 1 ≤ m ∧ m ≤ 5) (n : Int) (hb : n < 1099511627776) (es : List DV) (rest : List Int) : ∀ (k : Int) (so : Nat), so < 2 ^ m.toNat → 0 ≤ k → k + (rest.map DV.i).length = n → es.drop k.toNat = rest.map .i →
    ex lf F_impl_OrderOk_W0 ⟨[(0, .i m), (5, .i so), (17, .sl 0 es), (18, .i n), (19, .i k)], []⟩ =
    if orS m so rest = true then some (.exit 0, ⟨[(0, .i m), (5, .i (setO so rest : Nat)), (17, .sl 0 es), (18, .i n), (19, .i n)], []⟩) else some (.ret, ⟨[(4, .b false)], []⟩) := by
  have p5 := pow_le5 hm
  induction rest with
  | nil =>
    intro k so hs h0 hn hd
    rw [w_impl_OrderOk_0]
    have hk : k = n := by simpa using hn
    simp [F_impl_OrderOk_L0, hk, orS, setO]
  | cons a rest ih =>
    intro k so hs h0 hn hd
    obtain ⟨q1, q2, q3, q4, q5, q6⟩ := stp h0 hn hb hd
    have w : wr (m - 1) = m - 1 := wr_id (by omega) (by omega)
    rw [w_impl_OrderOk_0]
    by_cases ha : 0 ≤ a ∧ a < m
    · have e1 : decide (0 ≤ a ∧ a ≤ m - 1) = true := decide_eq_true (by omega)
      have e2 : decide (0 ≤ a ∧ a < m) = true := decide_eq_true ha
      have H := hasTest_i (so := so) ha.1 (by omega)
      have n0 : ¬ a < 0 := by omega
      have o := or_i (so := so) (by omega) ha.1 (by omega : a < 5)
      have ih := ih (k + 1) (so ||| 2 ^ a.toNat) (or_lt2 hs (by omega)) q4 q5 q6
      simp only [orS, e2, Bool.true_and, setO]
      cases hb : so.testBit a.toNat with
      | true =>
        rw [hb] at H
        simp [F_impl_OrderOk_L0, q1, q2, q3, w, c_impl_isWithin, e1, H]
      | false =>
        rw [hb] at H
        simp [F_impl_OrderOk_L0, q1, q2, q3, w, c_impl_isWithin, e1, H, n0, o, ih]
    · have e1 : decide (0 ≤ a ∧ a ≤ m - 1) = false := decide_eq_false (by omega)
      have e2 : decide (0 ≤ a ∧ a < m) = false := decide_eq_false ha
      simp only [orS, e2, Bool.false_and]
      simp [F_impl_OrderOk_L0, q1, q2, q3, w, c_impl_isWithin, e1]
theorem c_impl_OrderOk (m : Int) (os : List Int) (hb : (os.length : Int) < 1099511627776) : call lf n_impl_OrderOk [.i m, .sl 0 (os.map .i)] = some (.b (orOk m os), []) := by
  rw [call_k lf n_impl_OrderOk _ (F := F_impl_OrderOk) rfl rfl]
  unfold orOk
  cases h1 : nOk m with
  | false => simp [F_impl_OrderOk, c_impl_manyOk, h1]
  | true =>
    by_cases h2 : (os.length : Int) = m
    · have L := l_impl_OrderOk (nOk_iff.1 h1) os.length hb (os.map .i) os 0 0 (Nat.pow_pos (by omega)) (by omega) (by simp) (by simp)
      simp only [Int.natCast_zero] at L
      cases h3 : orS m 0 os <;> rw [h3] at L <;> simp at L <;> simp [F_impl_OrderOk, c_impl_manyOk, h1, h2, L, h3] <;> (subst h2; simp [L])
    · have y : ((os.length : Int) != m) = true := bne_iff_ne.2 h2
      simp [F_impl_OrderOk, c_impl_manyOk, h1, y, h2]
theorem l_spec_OrderOk (m : Int) (n : Int) (hb : n < 1099511627776) (es : List DV) (hE : (es.length : Int) = n) (rest : List Int) : ∀ (k : Int) (so : Nat), so < 32 → 0 ≤ k → k + (rest.map DV.i).length = n → es.drop k.toNat = rest.map .i →
    ex lf F_spec_OrderOk_W0 ⟨[(0, .i m), (1, .sl 0 es), (5, .i so), (6, .i k)], []⟩ =
    if orS (min m 5) so rest = true then some (.exit 0, ⟨[(0, .i m), (1, .sl 0 es), (5, .i (setO so rest : Nat)), (6, .i n)], []⟩) else some (.ret, ⟨[(4, .b false)], []⟩) := by
  induction rest with
  | nil =>
    intro k so hs h0 hn hd
    rw [w_spec_OrderOk_0]
    have hk : k = n := by simpa using hn
    simp [F_spec_OrderOk_L0, hk, hE, orS, setO]
  | cons a rest ih =>
    intro k so hs h0 hn hd
    obtain ⟨q1, q2, q3, q4, q5, q6⟩ := stp h0 hn hb hd
    rw [w_spec_OrderOk_0]
    by_cases a0 : a < 0
    · have e2 : decide (0 ≤ a ∧ a < min m 5) = false := decide_eq_false (by omega)
      simp only [orS, e2, Bool.false_and]
      simp [F_spec_OrderOk_L0, q1, q2, hE, a0]
    · by_cases a1 : m ≤ a
      · have e2 : decide (0 ≤ a ∧ a < min m 5) = false := decide_eq_false (by omega)
        simp only [orS, e2, Bool.false_and]
        simp [F_spec_OrderOk_L0, q1, q2, hE, a0, a1]
      · by_cases a5 : 5 ≤ a
        · have e2 : decide (0 ≤ a ∧ a < min m 5) = false := decide_eq_false (by omega)
          simp only [orS, e2, Bool.false_and]
          simp [F_spec_OrderOk_L0, q1, q2, hE, a0, a1, a5]
        · have e2 : decide (0 ≤ a ∧ a < min m 5) = true := decide_eq_true (by omega)
          have o := or_i (so := so) (by omega) (by omega : 0 ≤ a) (by omega : a < 5)
          have bb := bit_bI (a := so) (s := a.toNat) (by omega)
          rw [Int.toNat_of_nonneg (by omega)] at bb
          have ih := ih (k + 1) (so ||| 2 ^ a.toNat) (or_lt2 (m := 5) hs (by omega)) q4 q5 q6
          simp only [orS, e2, Bool.true_and, setO]
          cases hb : so.testBit a.toNat with
          | true =>
            rw [hb] at bb
            have q : (bI true == 1) = true := rfl
            simp [F_spec_OrderOk_L0, q1, q2, hE, a0, a1, a5, bb, q]
          | false =>
            rw [hb] at bb
            have q : (bI false == 1) = false := rfl
            simp [F_spec_OrderOk_L0, q1, q2, q3, hE, a0, a1, a5, bb, q, o, ih]
theorem c_spec_OrderOk (m : Int) (os : List Int) (hb : (os.length : Int) < 1099511627776) : call lf n_spec_OrderOk [.i m, .sl 0 (os.map .i)] = some (.b (orOk m os), []) := by
  rw [call_k lf n_spec_OrderOk _ (F := F_spec_OrderOk) rfl rfl]
  have L := l_spec_OrderOk m os.length hb (os.map .i) (by simp) os 0 0 (by omega) (by omega) (by simp) (by simp)
  simp only [Int.natCast_zero] at L
  have e1 : nOk m = decide (1 ≤ m ∧ m ≤ 5) := rfl
  unfold orOk
  cases h1 : decide (1 ≤ m ∧ m ≤ 5) with
  | false =>
    rw [e1, h1]
    cases h3 : orS (min m 5) 0 os <;> rw [h3] at L <;> simp at L <;> simp [F_spec_OrderOk, L, c_spec_l1In, h1]
  | true =>
    rw [e1, h1]
    have hm := of_decide_eq_true h1
    have e5 : min m 5 = m := by omega
    rw [e5] at L
    by_cases h2 : (os.length : Int) = m
    · cases h3 : orS m 0 os <;> rw [h3] at L <;> simp at L <;> simp [F_spec_OrderOk, L, c_spec_l1In, h1, h2]
    · cases h3 : orS m 0 os <;> rw [h3] at L <;> simp at L <;> simp [F_spec_OrderOk, L, c_spec_l1In, h1, h2]
end
section
attribute [-simp] DV.cells
attribute [local simp] sliceD cells_st cells_sl cells_i cells_y cells_b cells_s cells_w
theorem ins_perm {p q : List Int} {i : Nat} (h : (p ++ q).Perm (rng i)) : (p ++ (i : Int) :: q).Perm (rng (i + 1)) := by
  rw [rng_succ]
  refine List.perm_middle.trans ?_
  refine (List.Perm.cons _ h).trans ?_
  exact (List.perm_append_singleton _ _).symm
theorem perm_len {us : List Int} {i : Nat} (h : us.Perm (rng i)) : us.length = i := by rw [h.length_eq, rng_len]
set_option maxHeartbeats 4000000 in
theorem l_l20Order {bs : List Nat} (hb : ∀ y ∈ bs, y < 256) (hl : bs.length ≤ 2000) (m : Nat) (hm : m ≤ 5) (n : Int) (j : Nat) : ∀ (i : Nat) (p : Int) (K : Nat) (os : List Int), (K = 5640 ∨ K = 11272) → 0 ≤ p → p + j < 900000 → i + j = m → os.Perm (rng i) →
    ∃ us : List Int, us.Perm (rng m) ∧
    ex lf F_spec_l20Order_W0 ⟨[(0, .oad 23 1 0 0), (1, .i m), (2, .i n), (7, .own K i 0 i), (8, .i i)], [(23, [.st [.sl 0 (bs.map .y), .i p]]), (K, os.map .i)]⟩ =
      some (.exit 0, ⟨[(0, .oad 23 1 0 0), (1, .i m), (2, .i n), (7, .own 5640 m 0 m), (8, .i m)], [(23, [.st [.sl 0 (bs.map .y), .i (p + j)]]), (5640, us.map .i)]⟩) := by
  induction j with
  | zero =>
    intro i p K os hK h0 h1 h2 h3
    have : i = m := by omega
    subst this
    have lo := perm_len h3
    refine ⟨os, h3, ?_⟩
    rw [w_spec_l20Order_0]
    rcases hK with rfl | rfl <;> simp [F_spec_l20Order_L0, lo]
  | succ j ih =>
    intro i p K os hK h0 h1 h2 h3
    have lo := perm_len h3
    have b1 := pk_bound hb h0 (by omega : p ≤ 1000000) (by omega : (1 : Int) ≤ (i : Int) + 1)
    have k1 := c_pick hb hl h0 (by omega : p < 1000000) (by omega : (1 : Int) ≤ (i : Int) + 1)
    obtain ⟨a, ha⟩ : ∃ a : Nat, pk bs p ((i : Int) + 1) = a := ⟨(pk bs p ((i : Int) + 1)).toNat, by omega⟩
    rw [ha] at k1 b1
    obtain ⟨x, y, rfl, rfl⟩ : ∃ x y, os = x ++ y ∧ x.length = a := ⟨os.take a, os.drop a, (List.take_append_drop a os).symm, by simp; omega⟩
    have P := ins_perm h3
    have w1 : wr ((i : Int) + 1) = (i : Int) + 1 := wr_id (by omega) (by omega)
    obtain ⟨us, u1, u2⟩ := ih (i + 1) (p + 1) 11272 (x ++ (i : Int) :: y) (.inr rfl) (by omega) (by omega) (by omega) P
    refine ⟨us, u1, ?_⟩
    rw [show p + ((j + 1 : Nat) : Int) = p + 1 + j by omega]
    have lxy : x.length + y.length = i := by simpa using lo
    have hlt : (i : Int) < m := by omega
    have c1 : x.length ≤ bound := by unfold bound; omega
    have c2 : x.length + 1 ≤ bound := by unfold bound; omega
    have c3 : i + 1 ≤ bound := by unfold bound; omega
    have xi : x.length ≤ i := by omega
    have xi' : (x.length : Int) ≤ i := by omega
    have t1 : ((x ++ y).map DV.i).take x.length = x.map .i := by simp
    have t2 : ((x ++ y).map DV.i).drop x.length = y.map .i := by simp
    have t3 : (x ++ y).map DV.i = ((x ++ y).map DV.i).take i := (List.take_of_length_le (by simp; omega)).symm
    have t4 : List.take i ((x ++ y).map DV.i) = (x ++ y).map DV.i := t3.symm
    have hL : ((x ++ y).map DV.i).length = i := by simp; omega
    have e1 : x.length + 1 + y.length = i + 1 := by omega
    rw [w_spec_l20Order_0]
    simp only [Int.natCast_add, Int.natCast_one, List.map_append, List.map_cons] at u2
    have n0 : ¬ (i < x.length) := by omega
    generalize (x ++ y).map DV.i = L at *
    rcases hK with rfl | rfl <;> simp [F_spec_l20Order_L0, hlt, lo, k1, w1, hL, t1, t2, t4, c1, c2, c3, xi, xi', e1, u2]
end
section
def rwOk (row : Int) : Bool := decide (0 ≤ row ∧ row ≤ 1)
/-- the chance of a test to end a row -/
def eA (us : List T) (row : Int) (a : Nat) : Int := if row = 0 then 6 - (us.getD a (0, 0)).2 else (us.getD a (0, 0)).2
def rA (us : List T) (row : Int) : Int → List Int → Int
  | _, [] => 0
  | on, a :: r => cA us a.toNat * on * 6 ^ (r.length + 1) + rA us row (on * (6 - eA us row a.toNat)) r
theorem eA_bd {us : List T} (h : us.all tOk = true) {row : Int} {a : Nat} (ha : a < us.length) : 1 ≤ eA us row a ∧ eA us row a ≤ 5 := by
  have e : us.getD a (0, 0) = us[a] := by simp [List.getD, ha]
  have := tOk_iff.1 (List.all_eq_true.1 h us[a] (List.getElem_mem ha))
  unfold eA
  rw [e]
  split <;> omega
/-- exchanging neighbours -/
theorem rA_swap (us : List T) (row on : Int) (a b : Int) (r : List Int) :
    rA us row on (a :: b :: r) - rA us row on (b :: a :: r) = on * 6 ^ (r.length + 1) * (cA us a.toNat * eA us row b.toNat - cA us b.toNat * eA us row a.toNat) := by
  simp only [rA, List.length_cons]
  rw [show on * (6 - eA us row b.toNat) * (6 - eA us row a.toNat) = on * (6 - eA us row a.toNat) * (6 - eA us row b.toNat) by rw [Int.mul_assoc, Int.mul_assoc, Int.mul_comm (6 - eA us row b.toNat)]]
  generalize rA us row _ r = z
  rw [Int.pow_succ 6 (r.length + 1)]
  generalize (6 : Int) ^ (r.length + 1) = p
  generalize cA us a.toNat = ca
  generalize cA us b.toNat = cb
  generalize eA us row a.toNat = ea
  generalize eA us row b.toNat = eb
  grind
end
section
/-- the one costs no more for its chance to end than the other -/
def rLe (us : List T) (row : Int) (a b : Int) : Bool := decide (cA us a.toNat * eA us row b.toNat ≤ cA us b.toNat * eA us row a.toNat)
def insR (us : List T) (row : Int) (k : Int) : List Int → List Int
  | [] => [k]
  | o :: r => if rLe us row o k = true then o :: insR us row k r else k :: o :: r
def rO (us : List T) (row : Int) : Nat → List Int
  | 0 => []
  | n + 1 => insR us row (n : Int) (rO us row n)
theorem insR_perm (us : List T) (row k : Int) : ∀ l : List Int, (insR us row k l).Perm (k :: l)
  | [] => List.Perm.refl _
  | o :: r => by
    simp only [insR]
    split
    · exact ((insR_perm us row k r).cons o).trans (List.Perm.swap k o r)
    · exact List.Perm.refl _
theorem rO_perm (us : List T) (row : Int) : ∀ n : Nat, (rO us row n).Perm (rng n)
  | 0 => List.Perm.refl _
  | n + 1 => by
    rw [rng_succ]
    exact (insR_perm us row n (rO us row n)).trans (((rO_perm us row n).cons (n : Int)).trans (List.perm_append_comm (l₁ := [(n : Int)])))
theorem rO_mem {us : List T} {row : Int} {n : Nat} {o : Int} (h : o ∈ rO us row n) : 0 ≤ o ∧ o < n := mem_rng.1 ((rO_perm us row n).mem_iff.1 h)
theorem rO_len (us : List T) (row : Int) (n : Nat) : (rO us row n).length = n := by rw [(rO_perm us row n).length_eq, rng_len]
theorem rO_ok {us : List T} (h : tsOk us = true) (row : Int) : orOk us.length (rO us row us.length) = true := by
  have h' := tsOk_iff.1 h
  exact perm_ok (m := us.length) (by omega) (by rw [Int.toNat_natCast]; exact rO_perm us row us.length)
theorem rLe_trans {us : List T} (h : us.all tOk = true) {row a b c : Int} (ha : a.toNat < us.length) (hb : b.toNat < us.length) (hc : c.toNat < us.length)
    (h1 : rLe us row a b = true) (h2 : rLe us row b c = true) : rLe us row a c = true := by
  unfold rLe at *
  rw [decide_eq_true_eq] at *
  have ea := eA_bd h (row := row) ha
  have eb := eA_bd h (row := row) hb
  have ec := eA_bd h (row := row) hc
  refine Int.le_of_mul_le_mul_right (a := eA us row b.toNat) ?_ (by omega)
  have q1 := Int.mul_le_mul_of_nonneg_right h1 (show 0 ≤ eA us row c.toNat by omega)
  have q2 := Int.mul_le_mul_of_nonneg_right h2 (show 0 ≤ eA us row a.toNat by omega)
  revert q1 q2
  generalize cA us a.toNat = ca
  generalize cA us b.toNat = cb
  generalize cA us c.toNat = cc
  generalize eA us row a.toNat = x
  generalize eA us row b.toNat = y
  generalize eA us row c.toNat = z
  intro q1 q2
  have e1 : ca * z * y = ca * y * z := by rw [Int.mul_assoc, Int.mul_comm z, Int.mul_assoc]
  have e2 : cb * x * z = cb * z * x := by rw [Int.mul_assoc, Int.mul_comm x, Int.mul_assoc]
  have e3 : cc * x * y = cc * y * x := by rw [Int.mul_assoc, Int.mul_comm x, Int.mul_assoc]
  omega
theorem rLe_total {us : List T} {row a b : Int} (h : rLe us row a b = false) : rLe us row b a = true := by
  unfold rLe at *
  rw [decide_eq_true_eq]
  rw [decide_eq_false_iff_not] at h
  omega
theorem insR_sorted {us : List T} (h : us.all tOk = true) {row k : Int} (hk : k.toNat < us.length) : ∀ {l : List Int}, (∀ o ∈ l, o.toNat < us.length) → l.Pairwise (fun a b => rLe us row a b = true) → (insR us row k l).Pairwise (fun a b => rLe us row a b = true)
  | [], _, _ => List.pairwise_singleton _ _
  | o :: r, hm, hp => by
    obtain ⟨p1, p2⟩ := List.pairwise_cons.1 hp
    have ho := hm o (List.mem_cons_self ..)
    have hr : ∀ x ∈ r, x.toNat < us.length := fun x hx => hm x (List.mem_cons_of_mem _ hx)
    simp only [insR]
    by_cases hc : rLe us row o k = true
    · rw [if_pos hc]
      refine List.pairwise_cons.2 ⟨fun x hx => ?_, insR_sorted h hk hr p2⟩
      rcases List.mem_cons.1 ((insR_perm us row k r).mem_iff.1 hx) with rfl | hx
      · exact hc
      · exact p1 x hx
    · rw [if_neg hc]
      have hc' : rLe us row k o = true := rLe_total (by simpa using hc)
      refine List.pairwise_cons.2 ⟨fun x hx => ?_, hp⟩
      rcases List.mem_cons.1 hx with rfl | hx
      · exact hc'
      · exact rLe_trans h hk ho (hr x hx) hc' (p1 x hx)
theorem rO_sorted {us : List T} (h : us.all tOk = true) (row : Int) : ∀ n : Nat, n ≤ us.length → (rO us row n).Pairwise (fun a b => rLe us row a b = true)
  | 0, _ => List.Pairwise.nil
  | n + 1, hn => by
    refine insR_sorted h (by omega) (fun o ho => ?_) (rO_sorted h row n (by omega))
    have := rO_mem ho
    omega
/-- the least ratio moved to the front -/
theorem rA_front {us : List T} {row : Int} (h : us.all tOk = true) {a : Int} : ∀ (p q : List Int) (on : Int), 0 ≤ on → (∀ x ∈ p, x.toNat < us.length) → (∀ x ∈ p, rLe us row a x = true) → rA us row on (a :: (p ++ q)) ≤ rA us row on (p ++ a :: q)
  | [], q, on, _, _, _ => Int.le_refl _
  | x :: p, q, on, hon, hx, hl => by
    have s := rA_swap us row on x a (p ++ q)
    have hx0 := hx x (List.mem_cons_self ..)
    have l0 := hl x (List.mem_cons_self ..)
    have ex := eA_bd h (row := row) hx0
    unfold rLe at l0
    rw [decide_eq_true_eq] at l0
    have f := rA_front h (row := row) (a := a) p q (on * (6 - eA us row x.toNat)) (Int.mul_nonneg hon (by omega)) (fun y hy => hx y (List.mem_cons_of_mem _ hy)) (fun y hy => hl y (List.mem_cons_of_mem _ hy))
    have pn : (0 : Int) ≤ on * 6 ^ ((p ++ q).length + 1) * (cA us x.toNat * eA us row a.toNat - cA us a.toNat * eA us row x.toNat) :=
      Int.mul_nonneg (Int.mul_nonneg hon (Int.pow_nonneg (by omega))) (by omega)
    have e1 : rA us row on (x :: a :: (p ++ q)) = cA us x.toNat * on * 6 ^ ((p ++ q).length + 1 + 1) + rA us row (on * (6 - eA us row x.toNat)) (a :: (p ++ q)) := rfl
    have e2 : rA us row on (x :: (p ++ a :: q)) = cA us x.toNat * on * 6 ^ ((p ++ a :: q).length + 1) + rA us row (on * (6 - eA us row x.toNat)) (p ++ a :: q) := rfl
    have e3 : (p ++ a :: q).length = (p ++ q).length + 1 := by simp; omega
    rw [e3] at e2
    show rA us row on (a :: x :: (p ++ q)) ≤ rA us row on (x :: (p ++ a :: q))
    omega
theorem rA_least {us : List T} {row : Int} (h : us.all tOk = true) : ∀ {l p : List Int} {on : Int}, 0 ≤ on → (∀ x ∈ l, x.toNat < us.length) → l.Pairwise (fun a b => rLe us row a b = true) → p.Perm l → rA us row on l ≤ rA us row on p
  | [], p, on, _, _, _, hp => by rw [hp.eq_nil]; exact Int.le_refl _
  | a :: l, p, on, hon, hm, hs, hp => by
    obtain ⟨p1, p2, rfl⟩ := List.append_of_mem (hp.mem_iff.2 (List.mem_cons_self ..))
    have hpp : (p1 ++ p2).Perm l := (List.perm_cons a).1 (List.perm_middle.symm.trans hp)
    obtain ⟨s1, s2⟩ := List.pairwise_cons.1 hs
    have hm1 : ∀ x ∈ p1, x ∈ l := fun x hx => hpp.mem_iff.1 (List.mem_append_left _ hx)
    have f := rA_front h (row := row) (a := a) p1 p2 on hon (fun x hx => hm x (List.mem_cons_of_mem _ (hm1 x hx))) (fun x hx => s1 x (hm1 x hx))
    have ea := eA_bd h (row := row) (hm a (List.mem_cons_self ..))
    have i := rA_least h (row := row) (l := l) (p := p1 ++ p2) (on := on * (6 - eA us row a.toNat)) (Int.mul_nonneg hon (by omega)) (fun x hx => hm x (List.mem_cons_of_mem _ hx)) s2 hpp
    have e1 : rA us row on (a :: l) = cA us a.toNat * on * 6 ^ (l.length + 1) + rA us row (on * (6 - eA us row a.toNat)) l := rfl
    have e2 : rA us row on (a :: (p1 ++ p2)) = cA us a.toNat * on * 6 ^ ((p1 ++ p2).length + 1) + rA us row (on * (6 - eA us row a.toNat)) (p1 ++ p2) := rfl
    rw [hpp.length_eq] at e2
    omega
theorem rng_nodup (n : Nat) : (rng n).Nodup := List.Pairwise.map _ (fun a b h e => h (by omega)) (List.nodup_range (n := n))
theorem or_perm {m : Int} {os : List Int} (h : orOk m os = true) : os.Perm (rng m.toNat) := by
  obtain ⟨g1, g2, g3⟩ := orOk_iff.1 h
  obtain ⟨n1, n2⟩ := orS_nodup.1 g3
  refine (List.perm_ext_iff_of_nodup n2 (rng_nodup _)).2 fun o => ?_
  constructor
  · intro ho
    exact mem_rng.2 (by have := (n1 o ho).1; omega)
  · intro ho
    have hr := mem_rng.1 ho
    have := set_all h o.toNat (by omega)
    rw [setO_bit (fun x hx => (n1 x hx).1.1)] at this
    rcases this with q | q
    · simp at q
    · rwa [Int.toNat_of_nonneg hr.1] at q
/-- No order is better than the one by ratios. -/
theorem rO_least {us : List T} (h : tsOk us = true) {row : Int} {os : List Int} (ho : orOk us.length os = true) : rA us row 1 (rO us row us.length) ≤ rA us row 1 os := by
  have h' := tsOk_iff.1 h
  refine rA_least h'.2 (by omega) (fun x hx => by have := rO_mem hx; omega) (rO_sorted h'.2 row us.length (Nat.le_refl _)) ?_
  have p := or_perm ho
  rw [Int.toNat_natCast] at p
  exact p.trans (rO_perm us row us.length).symm
end
section
def fl (s : Int) (i : Nat) : Bool := s / 2 ^ i % 2 == 1
end
section
attribute [-simp] DV.cells sliceD
attribute [local simp] cells_st cells_sl cells_i cells_y cells_b cells_s cells_w
theorem cA_at {us : List T} {a : Int} (h0 : 0 ≤ a) (h1 : a < us.length) : ∃ c q : Int, atI (us.map e2) a = some (.st [.i c, .i q]) ∧ c = cA us a.toNat ∧ us.getD a.toNat (0, 0) = (c, q) := by
  have hl : a.toNat < us.length := by omega
  have e : us.getD a.toNat (0, 0) = us[a.toNat] := by simp [List.getD, hl]
  refine ⟨us[a.toNat].1, us[a.toNat].2, ?_, ?_, e⟩
  · simp only [atI, if_pos h0]
    show (us.map e2)[a.toNat]? = _
    simp [hl, e2]
  · unfold cA; rw [e]
end
section
attribute [-simp] DV.cells sliceD
attribute [local simp] cells_st cells_sl cells_i cells_y cells_b cells_s cells_w
theorem p6 : ∀ {n : Nat}, n ≤ 5 → (1 : Int) ≤ 6 ^ n ∧ (6 : Int) ^ n ≤ 7776 := by
  intro n hn
  have : n = 0 ∨ n = 1 ∨ n = 2 ∨ n = 3 ∨ n = 4 ∨ n = 5 := by omega
  rcases this with rfl | rfl | rfl | rfl | rfl | rfl <;> decide
theorem c_spec_l1Power {n : Nat} (h : n ≤ 5) : call lf n_spec_l1Power [.i n] = some (.i (6 ^ n), []) := by
  have L := loop_count (lf := lf) (L := F_spec_l1Power_L0) n (fun i => ⟨[(0, .i n), (3, .i (6 ^ i)), (4, .i i)], []⟩) (x := .exit 0) (R := ⟨[(0, .i n), (3, .i (6 ^ n)), (4, .i n)], []⟩) (fun i hi => by
    have p := p6 (n := i) (by omega)
    have w1 : wr ((i : Int) + 1) = i + 1 := wr_id (by omega) (by omega)
    have w2 : wr ((6 : Int) ^ i * 6) = 6 ^ (i + 1) := by rw [wr_id (by omega) (by omega), Int.pow_succ]
    simp [F_spec_l1Power_L0, hi, w1, w2]) (by simp [F_spec_l1Power_L0]) (by simp)
  have L' : ex lf F_spec_l1Power_W0 ⟨[(0, .i n), (3, .i 1), (4, .i 0)], []⟩ = some (.exit 0, ⟨[(0, .i n), (3, .i (6 ^ n)), (4, .i n)], []⟩) := L
  rw [call_k lf n_spec_l1Power _ (F := F_spec_l1Power) rfl rfl]
  simp [F_spec_l1Power, L']
def stW (us : List T) (tab : Nat) (os : List Int) (k : Nat) (ks : List Int) (w a sum sd : Int) : LS :=
  ⟨[(0, .sl 0 (us.map e2)), (1, .i tab), (2, .sl 0 (os.map .i)), (3, .i k), (4, .sl 0 (ks.map .i)), (5, .i w), (13, .i a), (14, .i sum), (15, .i sd)], []⟩
end
section
attribute [-simp] DV.cells
attribute [local simp] sliceD cells_st cells_sl cells_i cells_y cells_b cells_s cells_w
theorem c_spec_l5Ends (c q row : Int) (hq : 1 ≤ q ∧ q ≤ 5) : call lf n_spec_l5Ends [.st [.i c, .i q], .i row] = some (.i (if row = 0 then 6 - q else q), []) := by
  have w1 : wr (6 - q) = 6 - q := wr_id (by omega) (by omega)
  rw [call_k lf n_spec_l5Ends _ (F := F_spec_l5Ends) rfl rfl]
  by_cases h : row = 0
  · simp [F_spec_l5Ends, h, w1]
  · have h' : (row == 0) = false := by simp [h]
    simp [F_spec_l5Ends, h, h']
def raOk (us : List T) (os : List Int) (row : Int) : Bool := tsOk us && orOk us.length os && rwOk row
def raOf (us : List T) (os : List Int) (row : Int) : Int := if raOk us os row then rA us row 1 os else -1
theorem p6le {i j : Nat} (h : i + j ≤ 5) {on : Int} (h0 : 0 ≤ on) (h1 : on ≤ 6 ^ i) : 0 ≤ on * 6 ^ j ∧ on * 6 ^ j ≤ 7776 := by
  have pj := p6 (n := j) (by omega)
  have q := (p6 h).2
  rw [Int.pow_add] at q
  have := Int.mul_le_mul_of_nonneg_right h1 (show (0 : Int) ≤ 6 ^ j by omega)
  have := Int.mul_nonneg h0 (show (0 : Int) ≤ 6 ^ j by omega)
  omega
theorem eA_call {us : List T} (h : us.all tOk = true) {row a : Int} (h0 : 0 ≤ a) (h1 : a < us.length) : ∃ c q : Int, atI (us.map e2) a = some (.st [.i c, .i q]) ∧ c = cA us a.toNat ∧ call lf n_spec_l5Ends [.st [.i c, .i q], .i row] = some (.i (eA us row a.toNat), []) := by
  obtain ⟨c, q, c1, c2, c3⟩ := cA_at (us := us) h0 h1
  refine ⟨c, q, c1, c2, ?_⟩
  have e : us.getD a.toNat (0, 0) = us[a.toNat] := by simp [List.getD, show a.toNat < us.length by omega]
  have tq := tOk_iff.1 (List.all_eq_true.1 h us[a.toNat] (List.getElem_mem (by omega)))
  rw [← e, c3] at tq
  rw [c_spec_l5Ends c q row tq.2]
  unfold eA
  rw [c3]
theorem l_spec_RowAverage {us : List T} (h : tsOk us = true) (row : Int) (os : List Int) (ho5 : os.length ≤ 5) (rest : List Int) : ∀ (k : Nat) (on sum : Int) (so : Nat), orS us.length so rest = true → 0 ≤ on → on ≤ 6 ^ k → 0 ≤ sum → sum ≤ 70000 * k → k + rest.length = os.length → (os.map DV.i).drop k = rest.map .i →
    ∃ on' : Int, ex lf F_spec_RowAverage_W0 ⟨[(0, .sl 0 (us.map e2)), (1, .sl 0 (os.map .i)), (2, .i row), (7, .i sum), (8, .i on), (9, .i k)], []⟩ =
      some (.exit 0, ⟨[(0, .sl 0 (us.map e2)), (1, .sl 0 (os.map .i)), (2, .i row), (7, .i (sum + rA us row on rest)), (8, .i on'), (9, .i os.length)], []⟩) := by
  have h' := tsOk_iff.1 h
  induction rest with
  | nil =>
    intro k on sum so ho n0 n1 s0 s1 hn hd
    have hk : k = os.length := by simpa using hn
    refine ⟨on, ?_⟩
    rw [w_spec_RowAverage_0]
    simp [F_spec_RowAverage_L0, hk, rA]
  | cons a rest ih =>
    intro k on sum so ho n0 n1 s0 s1 hn hd
    obtain ⟨o1, o2, o3⟩ := orS_cons.1 ho
    have hn2 : (k : Int) + ((DV.i a :: rest.map DV.i).length : Nat) = os.length := by simp at hn ⊢; omega
    obtain ⟨q1, q2, q3, q4, q5, q6⟩ := stp (es := os.map DV.i) (by omega) hn2 (by omega) (by simpa using hd)
    have kl : k < os.length := by omega
    obtain ⟨c, q, x1, x2, x3⟩ := eA_call h'.2 (row := row) o1.1 o1.2
    have cn := cA_nn h'.2 a.toNat
    have ea := eA_bd h'.2 (row := row) (a := a.toNat) (by omega)
    have hl : rest.length + 1 = os.length - k := by simp at hn; omega
    have pb := p6le (i := k) (j := rest.length + 1) (by omega) n0 n1
    have pk := p6 (n := k) (by omega)
    have C := c_spec_l1Power (n := rest.length + 1) (by omega)
    have w1 : wr ((os.length : Int) - k) = ((rest.length + 1 : Nat) : Int) := by rw [wr_id (by omega) (by omega)]; omega
    have m1 : 0 ≤ c * on ∧ c * on ≤ 9 * 7776 := ⟨Int.mul_nonneg (by omega) n0, Int.mul_le_mul (by omega) (by omega) n0 (by omega)⟩
    have w2 : wr (c * on) = c * on := wr_id (by omega) (by omega)
    have m2 : 0 ≤ c * on * 6 ^ (rest.length + 1) ∧ c * on * 6 ^ (rest.length + 1) ≤ 9 * 7776 := by
      rw [Int.mul_assoc]
      exact ⟨Int.mul_nonneg (by omega) pb.1, Int.mul_le_mul (by omega) pb.2 pb.1 (by omega)⟩
    have w3 : wr (c * on * 6 ^ (rest.length + 1)) = c * on * 6 ^ (rest.length + 1) := wr_id (by omega) (by omega)
    have w4 : wr (sum + c * on * 6 ^ (rest.length + 1)) = sum + c * on * 6 ^ (rest.length + 1) := wr_id (by omega) (by omega)
    have w5 : wr (6 - eA us row a.toNat) = 6 - eA us row a.toNat := wr_id (by omega) (by omega)
    have m3 : 0 ≤ on * (6 - eA us row a.toNat) ∧ on * (6 - eA us row a.toNat) ≤ 6 ^ (k + 1) := by
      refine ⟨Int.mul_nonneg n0 (by omega), ?_⟩
      rw [Int.pow_succ]
      exact Int.mul_le_mul n1 (by omega) (by omega) (by omega)
    have pk1 := p6 (n := k + 1) (by omega)
    have w6 : wr (on * (6 - eA us row a.toNat)) = on * (6 - eA us row a.toNat) := wr_id (by omega) (by omega)
    obtain ⟨on', I⟩ := ih (k + 1) (on * (6 - eA us row a.toNat)) (sum + c * on * 6 ^ (rest.length + 1)) _ o3 m3.1 m3.2 (by omega) (by omega) (by simp at hn; omega) (by simpa using q6)
    refine ⟨on', ?_⟩
    have q3' : wr ((k : Int) + 1) = ((k + 1 : Nat) : Int) := by rw [q3]; omega
    have e : sum + rA us row on (a :: rest) = sum + c * on * 6 ^ (rest.length + 1) + rA us row (on * (6 - eA us row a.toNat)) rest := by simp only [rA, x2]; omega
    have o11 := o1.1
    have o12 := o1.2
    rw [w_spec_RowAverage_0, e]
    generalize (6 : Int) ^ (rest.length + 1) = P at *
    generalize rA us row _ rest = Z at *
    generalize eA us row a.toNat = E at *
    simp [F_spec_RowAverage_L0, kl, q1, q2, q3', o11, o12, x1, x3, C, w1, w2, w3, w4, w5, w6, I, -Int.natCast_add]
theorem c_spec_RowAverage (us : List T) (os : List Int) (row : Int) (ha : (us.length : Int) < 1099511627776) (hc : (os.length : Int) < 1099511627776) :
    call lf n_spec_RowAverage [.sl 0 (us.map e2), .sl 0 (os.map .i), .i row] = some (.i (raOf us os row), []) := by
  rw [call_k lf n_spec_RowAverage _ (F := F_spec_RowAverage) rfl rfl]
  have C1 := c_spec_TestsOk us ha
  have C3 := c_spec_OrderOk us.length os hc
  unfold raOf raOk
  cases h1 : tsOk us with
  | false => rw [h1] at C1; simp [F_spec_RowAverage, C1]
  | true =>
    rw [h1] at C1
    cases h3 : orOk us.length os with
    | false => rw [h3] at C3; simp [F_spec_RowAverage, C1, C3]
    | true =>
      rw [h3] at C3
      cases h4 : rwOk row with
      | false =>
        have d : decide (0 ≤ row ∧ row ≤ 1) = false := h4
        simp [F_spec_RowAverage, C1, C3, c_spec_l1In, d]
      | true =>
        have d : decide (0 ≤ row ∧ row ≤ 1) = true := h4
        obtain ⟨g1, g2, g3⟩ := orOk_iff.1 h3
        obtain ⟨on', L⟩ := l_spec_RowAverage h1 row os (by omega) os 0 1 0 0 g3 (by omega) (by omega) (by omega) (by omega) (by omega) (by simp)
        simp only [Int.natCast_zero, Int.zero_add] at L
        simp [F_spec_RowAverage, C1, C3, c_spec_l1In, d, L]
end
section
attribute [-simp] DV.cells
attribute [local simp] sliceD cells_st cells_sl cells_i cells_y cells_b cells_s cells_w
def insPos (us : List T) (row k : Int) : List Int → Nat
  | [] => 0
  | o :: r => if rLe us row o k = true then insPos us row k r + 1 else 0
theorem insPos_le (us : List T) (row k : Int) : ∀ l : List Int, insPos us row k l ≤ l.length
  | [] => Nat.le_refl _
  | o :: r => by
    have := insPos_le us row k r
    simp only [insPos, List.length_cons]
    split <;> omega
theorem insR_pos (us : List T) (row k : Int) : ∀ l : List Int, insR us row k l = l.take (insPos us row k l) ++ k :: l.drop (insPos us row k l)
  | [] => rfl
  | o :: r => by
    simp only [insR, insPos]
    by_cases h : rLe us row o k = true
    · rw [if_pos h, if_pos h, insR_pos us row k r]; simp
    · rw [if_neg h, if_neg h]; simp
end
section
attribute [-simp] DV.cells
attribute [local simp] sliceD cells_st cells_sl cells_i cells_y cells_b cells_s cells_w
def roL (us : List T) (row : Int) : List Int := if tsOk us && rwOk row then rO us row us.length else []
end
section
inductive PT where
  | stop
  | ask (k : Nat) (no yes : PT)
def fcd (m : Nat) (t : List T) (ks : List Int) : Bool := foT m t ks != -1
end
section
/-- whether a tree asks a test -/
def asks (k : Nat) : PT → Prop
  | .stop => False
  | .ask j n y => j = k ∨ asks k n ∨ asks k y
end
section
abbrev C3 := Int × Int × Int
/-- a tree with the places of its choices -/
inductive LT where
  | stop
  | ask (p k : Nat) (no yes : LT)
def LT.size : LT → Nat
  | .stop => 0
  | .ask _ _ n y => 1 + n.size + y.size
/-- where one may go on to from a place -/
def nxt (N : Nat) (p : Nat) (a : Int) : Prop := a = -1 ∨ ((p : Int) + 1 ≤ a ∧ a ≤ (N : Int) - 1)
instance (N p : Nat) (a : Int) : Decidable (nxt N p a) := by unfold nxt; infer_instance
/-- the row holds the tree, from a place on -/
def enc (P : List C3) : Int → LT → Prop
  | a, .stop => a = -1
  | a, .ask p k n y => a = (p : Int) ∧ ∃ no ye, P[p]? = some ((k : Int), no, ye) ∧ nxt P.length p no ∧ nxt P.length p ye ∧ enc P no n ∧ enc P ye y
/-- where a row goes on to -/
def rfs : List C3 → List Int
  | [] => []
  | (_, no, ye) :: r => (if no = -1 then [] else [no]) ++ (if ye = -1 then [] else [ye]) ++ rfs r
end
section
def PT.size : PT → Nat
  | .stop => 0
  | .ask _ n y => 1 + n.size + y.size
def rot (P : List C3) : Int := if P = [] then -1 else 0
end
section
attribute [-simp] DV.cells
attribute [local simp] sliceD cells_st cells_sl cells_i cells_y cells_b cells_s cells_w
theorem lend_e3 (P : List C3) : lendL (P.map e3) = P.map e3 := by rw [lendL_map, List.map_map]; rfl
theorem adopt_e3 (o : Bool) (P : List C3) : adoptL o (P.map e3) = P.map e3 := by rw [adoptL_map, List.map_map]; rfl
theorem new_e3 (P : List C3) : allNewL (P.map e3) = true := by rw [allNewL_all, List.all_map, List.all_eq_true]; intro x _; rfl
theorem al_e3 (P : List C3) : allOldL (P.map e3) = true := by rw [allOldL_all, List.all_map, List.all_eq_true]; intro x _; rfl
theorem lt_e3 (n : Nat) (P : List C3) : lendL (List.take n (P.map e3)) = List.take n (P.map e3) := by rw [← List.map_take, lend_e3]
attribute [local simp] lend_e3 adopt_e3 new_e3 al_e3 lt_e3
def C3.nx (c : C3) (b : Bool) : Int := if b then c.2.2 else c.2.1
end
section
def aN : List Int → Nat
  | [] => 0
  | k :: r => (if k = -1 then 0 else 1) + 2 * aN r
def kn : List Int → Nat
  | [] => 0
  | k :: r => (if k = -1 then 0 else 1) + kn r
/-- what agrees, as a number -/
def lfW (ks : List Int) : BitVec 32 := agW ks 0 (4294967295#32)
end
section
abbrev Pts := List (Option (List Int))
/-- one goes on to where it is noted -/
def go3 (m : Nat) (t : List T) (N : Nat) (pts : Pts) (p : Int) (a : Int) (ks : List Int) : Prop :=
  (a = -1 ∧ fcd m t ks = true) ∨ (p + 1 ≤ a ∧ a ≤ (N : Int) - 1 ∧ pts[a.toNat]? = some (some ks))
structure Inv (m : Nat) (t : List T) (P : List C3) (p : Nat) (pts : Pts) : Prop where
  len : pts.length = P.length
  nd : (rfs (P.take p)).Nodup
  rng : ∀ a ∈ rfs (P.take p), 1 ≤ a ∧ a < P.length
  iff_ : ∀ a : Nat, a < P.length → (pts[a]? ≠ some none ↔ (a = 0 ∨ (a : Int) ∈ rfs (P.take p)))
  ok : ∀ (a : Nat) (ks : List Int), pts[a]? = some (some ks) → ks.length = m ∧ ks.all kOk = true ∧ fcd m t ks = false
  loc : ∀ q : Nat, q < p → ∃ (ks : List Int) (k no ye : Int), P[q]? = some (k, no, ye) ∧ pts[q]? = some (some ks) ∧ (0 ≤ k ∧ k < m) ∧ ks[k.toNat]? = some (-1) ∧ go3 m t P.length pts q no (ks.set k.toNat 0) ∧ go3 m t P.length pts q ye (ks.set k.toNat 1)
theorem none_of {pts : Pts} {a : Nat} (h : a < pts.length) (hn : ¬ pts[a]? ≠ some none) : pts[a]? = some none := Classical.not_not.1 hn
end
section
attribute [-simp] DV.cells
attribute [local simp] sliceD cells_st cells_sl cells_i cells_y cells_b cells_s cells_w
attribute [local simp] lend_e3 adopt_e3 new_e3 al_e3 lt_e3
def pv (m a : Int) (w v : BitVec 32) : DV := .st [.i m, .i a, .w w, .w v]
/-- the point at which so much is known -/
def pD (m : Nat) (t : List T) (ks : List Int) : DV := pv m (aN ks) (lfW ks) (tsW t)
end
section
attribute [-simp] DV.cells
attribute [local simp] sliceD cells_st cells_sl cells_i cells_y cells_b cells_s cells_w
attribute [local simp] lend_e3 adopt_e3 new_e3 al_e3 lt_e3
def e4 (m : Nat) (t : List T) : Option (List Int) → DV
  | some ks => pD m t ks
  | none => pv 0 0 (0#32) (0#32)
end
section
attribute [-simp] DV.cells
attribute [local simp] sliceD cells_st cells_sl cells_i cells_y cells_b cells_s cells_w
attribute [local simp] lend_e3 adopt_e3 new_e3 al_e3 lt_e3
structure Fin (m : Nat) (t : List T) (P : List C3) (L : LT) (pts : Pts) : Prop where
  inv : Inv m t P P.length pts
  start : go3 m t P.length pts (-1) (rot P) (non m)
end
section
attribute [-simp] DV.cells
attribute [local simp] sliceD cells_st cells_sl cells_i cells_y cells_b cells_s cells_w
theorem c_impl_rowOk (row : Int) : call lf n_impl_rowOk [.i row] = some (.b (rwOk row), []) := by
  rw [call_k lf n_impl_rowOk _ (F := F_impl_rowOk) rfl rfl]
  have e : rwOk row = (row == 0 || row == 1) := by
    unfold rwOk
    by_cases h0 : row = 0
    · subst h0; rfl
    · by_cases h1 : row = 1
      · subst h1; rfl
      · have n0 : (row == 0) = false := beq_eq_false_iff_ne.2 h0
        have n1 : (row == 1) = false := beq_eq_false_iff_ne.2 h1
        rw [n0, n1]
        exact decide_eq_false (by omega)
  rw [e]
  cases h0 : (row == 0) with
  | true => simp [F_impl_rowOk, h0]
  | false => simp [F_impl_rowOk, h0]
theorem c_impl_endChance (c q row : Int) (hq : 1 ≤ q ∧ q ≤ 5) : call lf n_impl_endChance [.st [.i c, .i q], .i row] = some (.i (if row = 0 then 6 - q else q), []) := by
  have w1 : wr (6 - q) = 6 - q := wr_id (by omega) (by omega)
  rw [call_k lf n_impl_endChance _ (F := F_impl_endChance) rfl rfl]
  by_cases h : row = 0
  · simp [F_impl_endChance, h, w1]
  · have h' : (row == 0) = false := by simp [h]
    simp [F_impl_endChance, h, h']
theorem c_impl_wholeOf {n : Nat} (hn : n ≤ 5) : call lf n_impl_wholeOf [.i n] = some (.i (6 ^ n), []) := by
  rw [call_k lf n_impl_wholeOf _ (F := F_impl_wholeOf) rfl rfl]
  have L := loop_count (lf := lf) (L := F_impl_wholeOf_L0) n (fun i => ⟨[(3, .i (6 ^ i)), (4, .i n), (5, .i i)], []⟩) (x := .exit 0) (R := ⟨[(3, .i (6 ^ n)), (4, .i n), (5, .i n)], []⟩) (fun i hi => by
    have p := p6 (n := i) (by omega)
    have w1 : wr ((i : Int) + 1) = i + 1 := wr_id (by omega) (by omega)
    have w2 : wr ((6 : Int) ^ i * 6) = 6 ^ i * 6 := wr_id (by omega) (by omega)
    simp [F_impl_wholeOf_L0, hi, w1, w2, Int.pow_succ]) (by simp [F_impl_wholeOf_L0]) (by simp)
  have L' : ex lf F_impl_wholeOf_W0 ⟨[(3, .i 1), (4, .i n), (5, .i 0)], []⟩ = some (.exit 0, ⟨[(3, .i (6 ^ n)), (4, .i n), (5, .i n)], []⟩) := L
  simp [F_impl_wholeOf, L']
set_option maxHeartbeats 4000000 in
theorem eA_calli {us : List T} (h : us.all tOk = true) {row a : Int} (h0 : 0 ≤ a) (h1 : a < us.length) : ∃ c q : Int, atI (us.map e2) a = some (.st [.i c, .i q]) ∧ c = cA us a.toNat ∧ call lf n_impl_endChance [.st [.i c, .i q], .i row] = some (.i (eA us row a.toNat), []) := by
  obtain ⟨c, q, c1, c2, c3⟩ := cA_at (us := us) h0 h1
  refine ⟨c, q, c1, c2, ?_⟩
  have e : us.getD a.toNat (0, 0) = us[a.toNat] := by simp [List.getD, show a.toNat < us.length by omega]
  have tq := tOk_iff.1 (List.all_eq_true.1 h us[a.toNat] (List.getElem_mem (by omega)))
  rw [← e, c3] at tq
  rw [c_impl_endChance c q row tq.2]
  unfold eA
  rw [c3]
set_option maxHeartbeats 4000000 in
theorem l_impl_RowAverage {us : List T} (h : tsOk us = true) (row : Int) (os : List Int) (ho5 : os.length ≤ 5) (rest : List Int) : ∀ (k : Nat) (on sum : Int) (so : Nat), orS us.length so rest = true → 0 ≤ on → on ≤ 6 ^ k → 0 ≤ sum → sum ≤ 70000 * k → k + rest.length = os.length → (os.map DV.i).drop k = rest.map .i →
    ∃ on' : Int, ex lf F_impl_RowAverage_W0 ⟨[(0, .sl 0 (us.map e2)), (2, .i row), (8, .i sum), (9, .i (on * 6 ^ rest.length)), (30, .sl 0 (os.map .i)), (31, .i os.length), (32, .i k)], []⟩ =
      some (.exit 0, ⟨[(0, .sl 0 (us.map e2)), (2, .i row), (8, .i (sum + rA us row on rest)), (9, .i on'), (30, .sl 0 (os.map .i)), (31, .i os.length), (32, .i os.length)], []⟩) := by
  have h' := tsOk_iff.1 h
  induction rest with
  | nil =>
    intro k on sum so ho n0 n1 s0 s1 hn hd
    have hk : k = os.length := by simpa using hn
    refine ⟨on * 6 ^ ([] : List Int).length, ?_⟩
    rw [w_impl_RowAverage_0]
    simp [F_impl_RowAverage_L0, hk, rA]
  | cons a rest ih =>
    intro k on sum so ho n0 n1 s0 s1 hn hd
    obtain ⟨o1, o2, o3⟩ := orS_cons.1 ho
    have hn2 : (k : Int) + ((DV.i a :: rest.map DV.i).length : Nat) = os.length := by simp at hn ⊢; omega
    obtain ⟨q1, q2, q3, q4, q5, q6⟩ := stp (es := os.map DV.i) (by omega) hn2 (by omega) (by simpa using hd)
    have kl : k < os.length := by omega
    obtain ⟨c, q, x1, x2, x3⟩ := eA_calli h'.2 (row := row) o1.1 o1.2
    have cn := cA_nn h'.2 a.toNat
    have ea := eA_bd h'.2 (row := row) (a := a.toNat) (by omega)
    have hl : rest.length + 1 = os.length - k := by simp at hn; omega
    have pb := p6le (i := k) (j := rest.length + 1) (by omega) n0 n1
    have pk := p6 (n := k) (by omega)
    have pr := p6 (n := rest.length) (by omega)
    have m2 : 0 ≤ c * (on * 6 ^ (rest.length + 1)) ∧ c * (on * 6 ^ (rest.length + 1)) ≤ 9 * 7776 := by
      exact ⟨Int.mul_nonneg (by omega) pb.1, Int.mul_le_mul (by omega) pb.2 pb.1 (by omega)⟩
    have w3 : wr (c * (on * 6 ^ (rest.length + 1))) = c * (on * 6 ^ (rest.length + 1)) := wr_id (by omega) (by omega)
    have w4 : wr (sum + c * (on * 6 ^ (rest.length + 1))) = sum + c * (on * 6 ^ (rest.length + 1)) := wr_id (by omega) (by omega)
    have w5 : wr (6 - eA us row a.toNat) = 6 - eA us row a.toNat := wr_id (by omega) (by omega)
    have dv : (on * 6 ^ (rest.length + 1)).tdiv 6 = on * 6 ^ rest.length := by
      rw [Int.pow_succ, ← Int.mul_assoc]
      exact Int.mul_tdiv_cancel _ (by omega)
    have pb0 : 0 ≤ on * 6 ^ rest.length ∧ on * 6 ^ rest.length ≤ 7776 := p6le (i := k) (j := rest.length) (by omega) n0 n1
    have w7 : wr (on * 6 ^ rest.length) = on * 6 ^ rest.length := wr_id (by omega) (by omega)
    have m3 : 0 ≤ on * (6 - eA us row a.toNat) ∧ on * (6 - eA us row a.toNat) ≤ 6 ^ (k + 1) := by
      refine ⟨Int.mul_nonneg n0 (by omega), ?_⟩
      rw [Int.pow_succ]
      exact Int.mul_le_mul n1 (by omega) (by omega) (by omega)
    have m4 : 0 ≤ on * 6 ^ rest.length * (6 - eA us row a.toNat) ∧ on * 6 ^ rest.length * (6 - eA us row a.toNat) ≤ 7776 * 6 :=
      ⟨Int.mul_nonneg pb0.1 (by omega), Int.mul_le_mul pb0.2 (by omega) (by omega) (by omega)⟩
    have w8 : wr (on * 6 ^ rest.length * (6 - eA us row a.toNat)) = on * (6 - eA us row a.toNat) * 6 ^ rest.length := by
      rw [wr_id (by omega) (by omega), Int.mul_assoc, Int.mul_assoc, Int.mul_comm (6 ^ rest.length)]
    have e : sum + rA us row on (a :: rest) = sum + c * (on * 6 ^ (rest.length + 1)) + rA us row (on * (6 - eA us row a.toNat)) rest := by simp only [rA, x2, Int.mul_assoc]; omega
    obtain ⟨on', I⟩ := ih (k + 1) (on * (6 - eA us row a.toNat)) (sum + c * (on * 6 ^ (rest.length + 1))) _ o3 m3.1 m3.2 (by omega) (by omega) (by simp at hn; omega) (by simpa using q6)
    refine ⟨on', ?_⟩
    have q3' : wr ((k : Int) + 1) = ((k + 1 : Nat) : Int) := by rw [q3]; omega
    have o11 := o1.1
    have o12 := o1.2
    rw [w_impl_RowAverage_0, e]
    simp only [List.length_cons] at *
    generalize on * (6 - eA us row a.toNat) * 6 ^ rest.length = G at *
    generalize on * 6 ^ (rest.length + 1) = P at *
    generalize on * 6 ^ rest.length = Q at *
    generalize rA us row _ rest = Z at *
    generalize eA us row a.toNat = E at *
    simp [F_impl_RowAverage_L0, kl, q1, q2, q3', o11, o12, x1, x3, w3, w4, w5, dv, w7, w8, I, -Int.natCast_add]
theorem c_impl_RowAverage (us : List T) (os : List Int) (row : Int) (ha : (us.length : Int) < 1099511627776) (hc : (os.length : Int) < 1099511627776) :
    call lf n_impl_RowAverage [.sl 0 (us.map e2), .sl 0 (os.map .i), .i row] = some (.i (raOf us os row), []) := by
  rw [call_k lf n_impl_RowAverage _ (F := F_impl_RowAverage) rfl rfl]
  have C1 := c_impl_TestsOk us ha
  have C3 := c_impl_OrderOk us.length os hc
  have C4 := c_impl_rowOk row
  unfold raOf raOk
  cases h1 : tsOk us with
  | false => rw [h1] at C1; simp [F_impl_RowAverage, C1]
  | true =>
    rw [h1] at C1
    cases h3 : orOk us.length os with
    | false => rw [h3] at C3; simp [F_impl_RowAverage, C1, C3]
    | true =>
      rw [h3] at C3
      cases h4 : rwOk row with
      | false =>
        rw [h4] at C4
        simp [F_impl_RowAverage, C1, C3, C4]
      | true =>
        rw [h4] at C4
        obtain ⟨g1, g2, g3⟩ := orOk_iff.1 h3
        have W := c_impl_wholeOf (n := us.length) (by omega)
        obtain ⟨on', L⟩ := l_impl_RowAverage h1 row os (by omega) os 0 1 0 0 g3 (by omega) (by omega) (by omega) (by omega) (by omega) (by simp)
        have el : os.length = us.length := by omega
        simp only [Int.natCast_zero, Int.zero_add, Int.one_mul, el] at L
        simp [F_impl_RowAverage, C1, C3, C4, W, el, L]
end
section
attribute [-simp] DV.cells
attribute [local simp] sliceD cells_st cells_sl cells_i cells_y cells_b cells_s cells_w
attribute [local simp] lend_e3 adopt_e3 new_e3 al_e3 lt_e3
theorem c_averageAsking {c q no yes : Int} {n : Nat} (hn : n ≤ 5) (hc : 1 ≤ c ∧ c ≤ 9) (hq : 1 ≤ q ∧ q ≤ 5) (h0 : 0 ≤ no ∧ no ≤ 400000) (h1 : 0 ≤ yes ∧ yes ≤ 400000) :
    call lf n_impl_averageAsking [.st [.i c, .i q], .i n, .i no, .i yes] = some (.i (c * 6 ^ n + (6 - q) * no + q * yes), []) := by
  have W := c_impl_wholeOf hn
  have p := p6 hn
  have b1 : c * 6 ^ n ≤ 9 * 7776 := Int.mul_le_mul hc.2 p.2 (by omega) (by omega)
  have b1' : 0 ≤ c * 6 ^ n := Int.mul_nonneg (by omega) (by omega)
  have b2 : (6 - q) * no ≤ 5 * 400000 := Int.mul_le_mul (by omega) h0.2 h0.1 (by omega)
  have b2' : 0 ≤ (6 - q) * no := Int.mul_nonneg (by omega) h0.1
  have b3 : q * yes ≤ 5 * 400000 := Int.mul_le_mul (by omega) h1.2 h1.1 (by omega)
  have b3' : 0 ≤ q * yes := Int.mul_nonneg (by omega) h1.1
  have w2 : wr (c * 6 ^ n) = c * 6 ^ n := wr_id (by omega) (by omega)
  have w3 : wr (6 - q) = 6 - q := wr_id (by omega) (by omega)
  have w4 : wr ((6 - q) * no) = (6 - q) * no := wr_id (by omega) (by omega)
  have w5 : wr (c * 6 ^ n + (6 - q) * no) = c * 6 ^ n + (6 - q) * no := wr_id (by omega) (by omega)
  have w6 : wr (q * yes) = q * yes := wr_id (by omega) (by omega)
  have w7 : wr (c * 6 ^ n + (6 - q) * no + q * yes) = c * 6 ^ n + (6 - q) * no + q * yes := wr_id (by omega) (by omega)
  rw [call_k lf n_impl_averageAsking _ (F := F_impl_averageAsking) rfl rfl]
  generalize (6 : Int) ^ n = z at *
  simp [F_impl_averageAsking, W, w2, w3, w4, w5, w6, w7]
end
section
/-- what it costs, the parts in which it ends all, and its whole -/
abbrev I3 := Int × Int × Int
def gM : List I3 → Int
  | [] => 1
  | x :: r => x.2.2 * gM r
def gD : List I3 → Int
  | [] => 0
  | x :: r => x.1 * gM r + (x.2.2 - x.2.1) * gD r
def iOk (x : I3) : Prop := 0 ≤ x.1 ∧ 0 < x.2.1 ∧ x.2.1 ≤ x.2.2
theorem gM_pos : ∀ {l : List I3}, (∀ x ∈ l, iOk x) → 0 < gM l
  | [], _ => by simp [gM]
  | x :: r, h => by
    have hx := h x List.mem_cons_self
    have := gM_pos (l := r) (fun y hy => h y (List.mem_cons_of_mem _ hy))
    exact Int.mul_pos (by unfold iOk at hx; omega) this
theorem gM_app : ∀ p q : List I3, gM (p ++ q) = gM p * gM q
  | [], q => by simp [gM]
  | x :: p, q => by simp only [List.cons_append, gM]; rw [gM_app p q, Int.mul_assoc]
theorem gM_perm {p q : List I3} (h : p.Perm q) : gM p = gM q := by
  induction h with
  | nil => rfl
  | cons x _ ih => simp only [gM]; rw [ih]
  | swap x y l => simp only [gM]; rw [Int.mul_left_comm]
  | trans _ _ a b => exact a.trans b
theorem gD_nn : ∀ {l : List I3}, (∀ x ∈ l, iOk x) → 0 ≤ gD l
  | [], _ => by simp [gD]
  | x :: r, h => by
    obtain ⟨h1, h2, h3⟩ := h x List.mem_cons_self
    have hr : ∀ y ∈ r, iOk y := fun y hy => h y (List.mem_cons_of_mem _ hy)
    have a := Int.mul_nonneg h1 (Int.le_of_lt (gM_pos hr))
    have b := Int.mul_nonneg (show 0 ≤ x.2.2 - x.2.1 by omega) (gD_nn hr)
    simp only [gD]
    omega
end
section
def pA (us : List T) (k : Nat) : Int := (us.getD k (0, 0)).2
theorem pA_bd {us : List T} (h : us.all tOk = true) {k : Nat} (hk : k < us.length) : 1 ≤ pA us k ∧ pA us k ≤ 5 := by
  unfold pA
  have e : us.getD k (0, 0) = us[k] := by simp [List.getD, hk]
  rw [e]
  have := tOk_iff.1 (List.all_eq_true.1 h us[k] (List.getElem_mem hk))
  omega
/-- groups: all tests, each once -/
structure Gok (m : Nat) (L : List (List Nat)) : Prop where
  lt : ∀ g ∈ L, ∀ k ∈ g, k < m
  nd : L.flatten.Nodup
  all : ∀ k, k < m → k ∈ L.flatten
  ne : ∀ g ∈ L, g ≠ []
end
section
theorem gok_len {m : Nat} {L : List (List Nat)} (G : Gok m L) : L.flatten.length = m := by
  have : L.flatten.Perm (List.range m) := (List.perm_ext_iff_of_nodup G.nd List.nodup_range).2 fun k => by
    rw [List.mem_range]
    refine ⟨fun hk => ?_, G.all k⟩
    obtain ⟨g, h1, h2⟩ := List.mem_flatten.1 hk
    exact G.lt g h1 k h2
  rw [this.length_eq, List.length_range]
end
section
attribute [-simp] DV.cells
attribute [local simp] sliceD cells_st cells_sl cells_i cells_y cells_b cells_s cells_w
theorem lend_eR (L : List (List Int)) : lendL (L.map eR) = L.map eR := by
  rw [lendL_map, List.map_map]
  apply List.map_congr_left
  intro r _
  simp [eR, DV.lend]
theorem al_eR (L : List (List Int)) : allOldL (L.map eR) = true := by
  rw [allOldL_all, List.all_map, List.all_eq_true]
  intro r _
  simp [eR, DV.allOld]
attribute [local simp] lend_eR al_eR
def gokB (m : Int) (L : List (List Int)) : Bool := L.all (fun r => !r.isEmpty) && orOk m L.flatten
def gAl (m : Int) : Nat → List (List Int) → Bool
  | _, [] => true
  | n, r :: L => decide (1 ≤ (r.length : Int) ∧ (r.length : Int) ≤ m - n) && gAl m (n + r.length) L
theorem gAl_iff {m : Int} : ∀ {L : List (List Int)} {n : Nat}, (n : Int) ≤ m → (gAl m n L = true ↔ L.all (fun r => !r.isEmpty) = true ∧ ((n + L.flatten.length : Nat) : Int) ≤ m)
  | [], n, h => by simp [gAl, h]
  | r :: L, n, h => by
    simp only [gAl, Bool.and_eq_true, decide_eq_true_eq, List.all_cons, List.flatten_cons, List.length_append]
    by_cases hr : (r.length : Int) ≤ m - n
    · rw [gAl_iff (L := L) (n := n + r.length) (by omega)]
      cases r with
      | nil => simp
      | cons a r =>
        simp only [List.isEmpty_cons, Bool.not_false, true_and, List.length_cons] at *
        constructor
        · rintro ⟨_, h1, h2⟩; exact ⟨h1, by omega⟩
        · rintro ⟨h1, h2⟩; exact ⟨⟨by omega, by omega⟩, h1, by omega⟩
    · constructor
      · rintro ⟨⟨_, h2⟩, _⟩; exact absurd h2 hr
      · rintro ⟨_, h2⟩; omega
theorem gokB_al {m : Int} (hm : 1 ≤ m ∧ m ≤ 5) (L : List (List Int)) : gokB m L = (gAl m 0 L && orOk m L.flatten) := by
  unfold gokB
  cases h : orOk m L.flatten with
  | false => simp
  | true =>
    have := orOk_len h
    rw [Bool.and_true, Bool.and_true, Bool.eq_iff_iff, gAl_iff (by omega)]
    exact ⟨fun h => ⟨h, by omega⟩, fun h => h.1⟩
def stGk (m : Int) (L : List (List Int)) (acc : List Int) (k : Nat) : LS := ⟨[(0, .i m), (5, .own 2568 acc.length 0 acc.length), (11, .sl 0 (L.map eR)), (12, .i L.length), (13, .i k)], [(2568, acc.map .i)]⟩
theorem l_impl_GroupsOk {m : Int} (hm : 1 ≤ m ∧ m ≤ 5) (A : List (List Int)) (hb : (A.length : Int) < 1099511627776) : ∀ (L : List (List Int)) (k : Nat) (acc : List Int), (acc.length : Int) ≤ m → k + L.length = A.length → A.drop k = L →
    ex lf F_impl_GroupsOk_W0 (stGk m A acc k) = if gAl m acc.length L = true then some (.exit 0, stGk m A (acc ++ L.flatten) A.length) else some (.ret, ⟨[(4, .b false)], []⟩)
  | [], k, acc, ha, hk, hd => by
    have e : k = A.length := by simpa using hk
    subst e
    rw [w_impl_GroupsOk_0]
    simp [stGk, F_impl_GroupsOk_L0, gAl]
  | r :: L, k, acc, ha, hk, hd => by
    simp only [List.length_cons] at hk
    have hlt : (k : Int) < A.length := by omega
    have hd2 : A.drop (k + 1) = L := by rw [← List.drop_drop, hd]; rfl
    have hat : A[k]? = some r := by
      have := congrArg (fun l => l[0]?) hd
      simpa using this
    have at1 : atI (A.map eR) (k : Int) = some (.sl 0 (r.map .i)) := by
      simp only [atI, if_pos (Int.natCast_nonneg k)]
      show (A.map eR)[(k : Int).toNat]? = _
      rw [Int.toNat_natCast, List.getElem?_map, hat]; rfl
    have w1 : wr ((k : Int) + 1) = ((k + 1 : Nat) : Int) := by rw [wr_id (by omega) (by omega)]; omega
    have w2 : wr (m - acc.length) = m - acc.length := wr_id (by omega) (by omega)
    have W := c_impl_isWithin (r.length : Int) 1 (m - acc.length)
    rw [w_impl_GroupsOk_0]
    by_cases hr : 1 ≤ (r.length : Int) ∧ (r.length : Int) ≤ m - acc.length
    · rw [decide_eq_true hr] at W
      have ih := l_impl_GroupsOk hm A hb L (k + 1) (acc ++ r) (by simp; omega) (by omega) hd2
      have e : gAl m acc.length (r :: L) = gAl m (acc ++ r).length L := by simp only [gAl]; rw [decide_eq_true hr]; simp
      rw [e, List.flatten_cons, ← List.append_assoc, ← ih]
      have c1 : acc.length + r.length ≤ bound := by unfold bound; omega
      unfold stGk
      simp [F_impl_GroupsOk_L0, hlt, at1, w1, w2, W, c1, -Int.natCast_add]
    · rw [decide_eq_false hr] at W
      have e : gAl m acc.length (r :: L) = false := by simp only [gAl]; rw [decide_eq_false hr]; rfl
      rw [e]
      unfold stGk
      simp [F_impl_GroupsOk_L0, hlt, at1, w1, w2, W, -Int.natCast_add]
theorem c_impl_GroupsOk (m : Int) (L : List (List Int)) (hb : (L.length : Int) < 1099511627776) : call lf n_impl_GroupsOk [.i m, .sl 0 (L.map eR)] = some (.b (gokB m L), []) := by
  rw [call_k lf n_impl_GroupsOk _ (F := F_impl_GroupsOk) rfl rfl]
  cases h1 : nOk m with
  | false =>
    have e : gokB m L = false := by unfold gokB orOk; simp [h1]
    simp [F_impl_GroupsOk, c_impl_manyOk, h1, e]
  | true =>
    have hm := nOk_iff.1 h1
    rw [gokB_al hm]
    have I := l_impl_GroupsOk hm L hb L 0 [] (by simp; omega) (by simp) rfl
    unfold stGk at I
    simp only [List.length_nil, List.map_nil, Int.natCast_zero, List.nil_append] at I
    cases h2 : gAl m 0 L with
    | false =>
      rw [h2] at I
      simp at I
      simp [F_impl_GroupsOk, c_impl_manyOk, h1, I]
    | true =>
      rw [h2, if_pos rfl] at I
      have l5 := ((gAl_iff (n := 0) (by omega)).1 h2).2
      have C := c_impl_OrderOk m L.flatten (by omega)
      generalize L.flatten = M at *
      have tk : List.take M.length (M.map DV.i) = M.map .i := List.take_of_length_le (by simp)
      simp [F_impl_GroupsOk, c_impl_manyOk, h1, I, C, tk]
end
section
attribute [-simp] DV.cells
attribute [local simp] sliceD cells_st cells_sl cells_i cells_y cells_b cells_s cells_w
attribute [local simp] lend_eR al_eR
theorem at_eR {A : List (List Int)} {k : Nat} {r : List Int} (h : A[k]? = some r) : atI (A.map eR) (k : Int) = some (.sl 0 (r.map .i)) := by
  simp only [atI, if_pos (Int.natCast_nonneg k)]
  show (A.map eR)[(k : Int).toNat]? = _
  rw [Int.toNat_natCast, List.getElem?_map, h]; rfl
theorem atI_int {r : List Int} {j : Nat} {a : Int} (h : r[j]? = some a) : atI (r.map DV.i) (j : Int) = some (.i a) := by
  simp only [atI, if_pos (Int.natCast_nonneg j)]
  show (r.map DV.i)[(j : Int).toNat]? = _
  rw [Int.toNat_natCast, List.getElem?_map, h]; rfl
theorem drop_cons {α : Type} {A : List α} {k : Nat} {r : α} {L : List α} (h : A.drop k = r :: L) : k < A.length ∧ A[k]? = some r ∧ A.drop (k + 1) = L := by
  have hk : k < A.length := by
    rcases Nat.lt_or_ge k A.length with h1 | h1
    · exact h1
    · rw [List.drop_eq_nil_of_le h1] at h; cases h
  refine ⟨hk, ?_, by rw [← List.drop_drop, h]; rfl⟩
  have := congrArg (fun l => l[0]?) h
  simpa using this
theorem wr_succ {k : Nat} (h : (k : Int) < 1099511627776) : wr ((k : Int) + 1) = ((k + 1 : Nat) : Int) := by rw [wr_id (by omega) (by omega)]; omega
def stGi (m : Int) (A : List (List Int)) (so n k j : Nat) : LS := ⟨[(0, .i m), (1, .sl 0 (A.map eR)), (5, .i so), (6, .i n), (7, .i k), (8, .i j)], []⟩
theorem gs_inner (m : Int) (A : List (List Int)) {k : Nat} {R : List Int} (hk : A[k]? = some R) (hkl : (k : Int) < A.length) : ∀ (r : List Int) (j so n : Nat), so < 32 → ((n + r.length : Nat) : Int) < 1099511627776 → (R.length : Int) < 1099511627776 → R.drop j = r → j + r.length = R.length →
    ex lf F_spec_GroupsOk_W1 (stGi m A so n k j) = if orS (min m 5) so r = true then some (.exit 2, stGi m A (setO so r) (n + r.length) k R.length) else some (.ret, ⟨[(4, .b false)], []⟩) := by
  intro r
  induction r with
  | nil =>
    intro j so n hs hn hR hd hj
    have at1 := at_eR hk
    have e : j = R.length := by simpa using hj
    subst e
    rw [w_spec_GroupsOk_1]
    simp [stGi, F_spec_GroupsOk_L1, orS, setO, at1, hkl]
  | cons a r ih0 =>
    intro j so n hs hn hR hd hj
    have at1 := at_eR hk
    obtain ⟨j1, j2, j3⟩ := drop_cons hd
    have j1' : (j : Int) < R.length := by omega
    have at2 := atI_int j2
    simp only [List.length_cons] at hn hj
    have w1 := wr_succ (k := j) (by omega)
    have w2 := wr_succ (k := n) (by omega)
    rw [w_spec_GroupsOk_1]
    by_cases a0 : a < 0
    · have e2 : decide (0 ≤ a ∧ a < min m 5) = false := decide_eq_false (by omega)
      simp only [orS, e2, Bool.false_and]
      simp [stGi, F_spec_GroupsOk_L1, at1, at2, hkl, j1, j1', a0]
    · by_cases a1 : m ≤ a
      · have e2 : decide (0 ≤ a ∧ a < min m 5) = false := decide_eq_false (by omega)
        simp only [orS, e2, Bool.false_and]
        simp [stGi, F_spec_GroupsOk_L1, at1, at2, hkl, j1, j1', a0, a1]
      · by_cases a5 : 5 ≤ a
        · have e2 : decide (0 ≤ a ∧ a < min m 5) = false := decide_eq_false (by omega)
          simp only [orS, e2, Bool.false_and]
          simp [stGi, F_spec_GroupsOk_L1, at1, at2, hkl, j1, j1', a0, a1, a5]
        · have e2 : decide (0 ≤ a ∧ a < min m 5) = true := decide_eq_true (by omega)
          have o := or_i (so := so) (by omega) (by omega : 0 ≤ a) (by omega : a < 5)
          have bb := bit_bI (a := so) (s := a.toNat) (by omega)
          rw [Int.toNat_of_nonneg (by omega)] at bb
          have ih := ih0 (j + 1) (so ||| 2 ^ a.toNat) (n + 1) (or_lt2 (m := 5) hs (by omega)) (by omega) hR j3 (by omega)
          rw [show n + 1 + r.length = n + (r.length + 1) by omega] at ih
          simp only [orS, e2, Bool.true_and, setO, List.length_cons]
          unfold stGi at *
          cases hb : so.testBit a.toNat with
          | true =>
            rw [hb] at bb
            have q : (bI true == 1) = true := rfl
            simp [F_spec_GroupsOk_L1, at1, at2, hkl, j1, j1', a0, a1, a5, bb, q]
          | false =>
            rw [hb] at bb
            have q : (bI false == 1) = false := rfl
            simp [F_spec_GroupsOk_L1, at1, at2, hkl, j1, j1', a0, a1, a5, bb, q, o, w1, w2, ih, -Int.natCast_add]
def gSp (m : Int) : Nat → List (List Int) → Bool
  | _, [] => true
  | so, r :: L => !r.isEmpty && (orS m so r && gSp m (setO so r) L)
theorem gSp_eq (m : Int) : ∀ (L : List (List Int)) (so : Nat), gSp m so L = (L.all (fun r => !r.isEmpty) && orS m so L.flatten)
  | [], so => by simp [gSp, orS]
  | r :: L, so => by
    simp only [gSp, List.all_cons, List.flatten_cons, orS_app, gSp_eq m L]
    cases r.isEmpty <;> cases orS m so r <;> simp
theorem setO32 {m : Int} : ∀ {os : List Int} {so : Nat}, so < 32 → orS (min m 5) so os = true → setO so os < 32
  | [], _, h, _ => h
  | a :: r, so, h, ho => by
    obtain ⟨h1, h2, h3⟩ := orS_cons.1 ho
    exact setO32 (os := r) (or_lt2 (m := 5) h (by omega)) h3
def stGo (m : Int) (A : List (List Int)) (so n k : Nat) : LS := ⟨[(0, .i m), (1, .sl 0 (A.map eR)), (5, .i so), (6, .i n), (7, .i k)], []⟩
theorem gs_outer (m : Int) (A : List (List Int)) (hb : (A.length : Int) < 1099511627776) : ∀ (L : List (List Int)) (k so n : Nat), so < 32 → ((n + L.flatten.length : Nat) : Int) < 1099511627776 → A.drop k = L → k + L.length = A.length →
    ex lf F_spec_GroupsOk_W0 (stGo m A so n k) = if gSp (min m 5) so L = true then some (.exit 0, stGo m A (setO so L.flatten) (n + L.flatten.length) A.length) else some (.ret, ⟨[(4, .b false)], []⟩) := by
  intro L
  induction L with
  | nil =>
    intro k so n hs hn hd hk
    have e : k = A.length := by simpa using hk
    subst e
    rw [w_spec_GroupsOk_0]
    simp [stGo, F_spec_GroupsOk_L0, gSp, setO]
  | cons R L ih0 =>
    intro k so n hs hn hd hk
    obtain ⟨k1, k2, k3⟩ := drop_cons hd
    have k1' : (k : Int) < A.length := by omega
    have at1 := at_eR k2
    simp only [List.flatten_cons, List.length_append] at hn
    simp only [List.length_cons] at hk
    have w1 := wr_succ (k := k) (by omega)
    rw [w_spec_GroupsOk_0]
    by_cases h0 : R = []
    · subst h0
      simp only [gSp]
      simp [stGo, F_spec_GroupsOk_L0, k1, k1', at1]
    · have I := gs_inner m A k2 k1' R 0 so n hs (by omega) (by omega) rfl (by simp)
      have e0 : R.isEmpty = false := by simpa using h0
      have r0 : ((R.length : Int) == 0) = false := by have := List.length_pos_iff.2 h0; exact beq_false_of_ne (by omega)
      simp only [gSp, e0, Bool.not_false, Bool.true_and]
      unfold stGi at I
      unfold stGo at *
      simp only [Int.natCast_zero] at I
      cases h1 : orS (min m 5) so R with
      | false =>
        rw [h1] at I
        simp at I
        simp [F_spec_GroupsOk_L0, k1, k1', at1, r0, I]
      | true =>
        rw [h1, if_pos rfl] at I
        have ih := ih0 (k + 1) (setO so R) (n + R.length) (setO32 hs h1) (by omega) k3 (by omega)
        rw [← Nat.add_assoc, List.flatten_cons, setO_app, List.length_append, ← Nat.add_assoc] at *
        simp only [Bool.true_and]
        simp [F_spec_GroupsOk_L0, k1, k1', at1, r0, I, w1, ih, -Int.natCast_add, -List.length_flatten]
theorem c_spec_GroupsOk (m : Int) (L : List (List Int)) (hb : (L.length : Int) < 1099511627776) (hf : (L.flatten.length : Int) < 1099511627776) : call lf n_spec_GroupsOk [.i m, .sl 0 (L.map eR)] = some (.b (gokB m L), []) := by
  rw [call_k lf n_spec_GroupsOk _ (F := F_spec_GroupsOk) rfl rfl]
  have I := gs_outer m L hb L 0 0 0 (by omega) (by omega) rfl (by simp)
  unfold stGo at I
  simp only [Int.natCast_zero, Nat.zero_add] at I
  have e1 : nOk m = decide (1 ≤ m ∧ m ≤ 5) := rfl
  rw [gSp_eq] at I
  unfold gokB orOk
  rw [e1]
  by_cases hm : 1 ≤ m ∧ m ≤ 5
  · have h1 : decide (1 ≤ m ∧ m ≤ 5) = true := decide_eq_true hm
    have e5 : min m 5 = m := by omega
    rw [e5] at I
    rw [h1]
    cases h3 : (L.all (fun r => !r.isEmpty) && orS m 0 L.flatten) with
    | false =>
      rw [h3] at I
      simp at I
      have e : (L.all (fun r => !r.isEmpty) && (true && decide ((L.flatten.length : Int) = m) && orS m 0 L.flatten)) = false := by
        rw [Bool.true_and, ← Bool.and_assoc, Bool.and_right_comm, h3]; rfl
      rw [e]
      simp [F_spec_GroupsOk, I]
    | true =>
      rw [h3, if_pos rfl] at I
      rw [Bool.and_eq_true] at h3
      rw [h3.1, h3.2]
      generalize L.flatten.length = z at *
      simp [F_spec_GroupsOk, I, c_spec_l1In, h1, Bool.beq_eq_decide_eq]
  · have h1 : decide (1 ≤ m ∧ m ≤ 5) = false := decide_eq_false hm
    rw [h1]
    cases h3 : (L.all (fun r => !r.isEmpty) && orS (min m 5) 0 L.flatten) with
    | false =>
      rw [h3] at I
      simp at I
      simp [F_spec_GroupsOk, I]
    | true =>
      rw [h3, if_pos rfl] at I
      generalize L.flatten.length = z at *
      simp [F_spec_GroupsOk, I, c_spec_l1In, h1]
end
section
attribute [-simp] DV.cells
attribute [local simp] sliceD cells_st cells_sl cells_i cells_y cells_b cells_s cells_w
attribute [local simp] lend_eR al_eR
def ni (l : List Nat) : List Int := l.map fun k : Nat => (k : Int)
theorem ni_len (l : List Nat) : (ni l).length = l.length := by simp [ni]
theorem ni_toNat (l : List Nat) : (ni l).map Int.toNat = l := by
  unfold ni
  rw [List.map_map]
  conv => rhs; rw [← List.map_id l]
  apply List.map_congr_left
  intro k _
  simp
theorem ni_app (p q : List Nat) : ni (p ++ q) = ni p ++ ni q := by simp [ni]
theorem atT {us : List T} {k : Nat} (hk : k < us.length) : atI (us.map e2) (k : Int) = some (.st [.i (cA us k), .i (pA us k)]) := by
  simp only [atI, if_pos (Int.natCast_nonneg k)]
  show (us.map e2)[(k : Int).toNat]? = _
  rw [Int.toNat_natCast, List.getElem?_map, List.getElem?_eq_getElem hk]
  unfold cA pA
  simp [List.getD, hk, e2]
theorem cA_bd {us : List T} (h : us.all tOk = true) {k : Nat} (hk : k < us.length) : 1 ≤ cA us k ∧ cA us k ≤ 9 := by
  have := tOk_iff.1 (List.all_eq_true.1 h us[k] (List.getElem_mem hk))
  unfold cA
  simp only [List.getD, List.getElem?_eq_getElem hk, Option.getD_some]
  exact this.1
theorem at_ni {L : List Nat} {j k : Nat} (h : L[j]? = some k) : atI ((ni L).map DV.i) (j : Int) = some (.i k) ∧ atN ((ni L).map DV.i) j = some (.i k) := by
  have h' : (ni L)[j]? = some (k : Int) := by unfold ni; rw [List.getElem?_map, h]; rfl
  refine ⟨atI_int h', ?_⟩
  show ((ni L).map DV.i)[j]? = _
  rw [List.getElem?_map, h']; rfl
end
section
attribute [-simp] DV.cells
attribute [local simp] sliceD cells_st cells_sl cells_i cells_y cells_b cells_s cells_w
attribute [local simp] lend_eR al_eR
theorem gok_of {m : Nat} (hm : 1 ≤ m ∧ m ≤ 5) {L : List (List Int)} (h : gokB m L = true) : ∃ N : List (List Nat), L = N.map ni ∧ Gok m N := by
  unfold gokB at h
  rw [Bool.and_eq_true] at h
  obtain ⟨h1, h2⟩ := h
  obtain ⟨o1, o2, o3⟩ := orOk_iff.1 h2
  obtain ⟨o4, o5⟩ := orS_nodup.1 o3
  have e : L = (L.map (List.map Int.toNat)).map ni := by
    rw [List.map_map]
    conv => lhs; rw [← List.map_id L]
    apply List.map_congr_left
    intro r hr
    show r = ni (r.map Int.toNat)
    unfold ni
    rw [List.map_map]
    conv => lhs; rw [← List.map_id r]
    apply List.map_congr_left
    intro a ha
    have := (o4 a (List.mem_flatten.2 ⟨r, hr, ha⟩)).1
    show a = ((a.toNat : Nat) : Int)
    omega
  have ef : (L.map (List.map Int.toNat)).flatten = L.flatten.map Int.toNat := by rw [List.map_flatten]
  have lt : ∀ g ∈ L.map (List.map Int.toNat), ∀ k ∈ g, k < m := by
    intro g hg k hk
    obtain ⟨r, hr, rfl⟩ := List.mem_map.1 hg
    obtain ⟨a, ha, rfl⟩ := List.mem_map.1 hk
    have := (o4 a (List.mem_flatten.2 ⟨r, hr, ha⟩)).1
    omega
  have nd : (L.map (List.map Int.toNat)).flatten.Nodup := by
    rw [ef, List.nodup_iff_pairwise_ne, List.pairwise_map]
    refine List.Pairwise.imp_of_mem (fun {a b} ha hb hab h => hab ?_) (List.nodup_iff_pairwise_ne.1 o5)
    have := (o4 a ha).1
    have := (o4 b hb).1
    omega
  refine ⟨_, e, lt, nd, fun k hk => ?_, ?_⟩
  · rw [ef, List.mem_map]
    have p := (or_perm h2).mem_iff.2 (mem_rng.2 (show 0 ≤ (k : Int) ∧ (k : Int) < ((m : Int).toNat : Nat) by omega))
    exact ⟨(k : Int), p, by simp⟩
  · intro g hg
    obtain ⟨r, hr, rfl⟩ := List.mem_map.1 hg
    have := List.all_eq_true.1 h1 r hr
    simpa using this
theorem gok_to {m : Nat} (hm : 1 ≤ m ∧ m ≤ 5) {N : List (List Nat)} (G : Gok m N) : gokB m (N.map ni) = true := by
  unfold gokB
  rw [Bool.and_eq_true]
  have ef : (N.map ni).flatten = ni N.flatten := by unfold ni; rw [List.map_flatten]
  refine ⟨?_, ?_⟩
  · rw [List.all_map, List.all_eq_true]
    intro g hg
    have := G.ne g hg
    cases g with
    | nil => exact absurd rfl this
    | cons a g => rfl
  · rw [ef, orOk_iff, orS_nodup]
    refine ⟨by omega, by rw [ni_len, gok_len G], fun o ho => ?_, ?_⟩
    · obtain ⟨k, hk, rfl⟩ := List.mem_map.1 ho
      obtain ⟨g, h1, h2⟩ := List.mem_flatten.1 hk
      have := G.lt g h1 k h2
      exact ⟨by omega, by simp⟩
    · unfold ni
      rw [List.nodup_iff_pairwise_ne, List.pairwise_map]
      exact List.Pairwise.imp (fun {a b} (hab : a ≠ b) h => hab (Int.ofNat_inj.1 h)) (List.nodup_iff_pairwise_ne.1 G.nd)
end
section
attribute [-simp] DV.cells
attribute [local simp] sliceD cells_st cells_sl cells_i cells_y cells_b cells_s cells_w
theorem c_impl_ratioOf (c q row : Int) (hq : 1 ≤ q ∧ q ≤ 5) : call lf n_impl_ratioOf [.st [.i c, .i q], .i row] = some (.st [.i c, .i (if row = 0 then 6 - q else q)], []) := by
  rw [call_k lf n_impl_ratioOf _ (F := F_impl_ratioOf) rfl rfl]
  have C := c_impl_endChance c q row hq
  generalize (if row = 0 then 6 - q else q) = z at *
  simp [F_impl_ratioOf, C]
theorem c_impl_isLess (a b x y : Int) (h1 : 0 ≤ a * y ∧ a * y ≤ 1000) (h2 : 0 ≤ x * b ∧ x * b ≤ 1000) : call lf n_impl_ratio_isLess [.st [.i a, .i b], .st [.i x, .i y]] = some (.b (decide (a * y < x * b)), []) := by
  rw [call_k lf n_impl_ratio_isLess _ (F := F_impl_ratio_isLess) rfl rfl]
  have w1 : wr (a * y) = a * y := wr_id (by omega) (by omega)
  have w2 : wr (x * b) = x * b := wr_id (by omega) (by omega)
  simp [F_impl_ratio_isLess, w1, w2]
theorem c_impl_less {us : List T} (h : tsOk us = true) (row : Int) {a b : Int} (ha : 0 ≤ a ∧ a < us.length) (hb : 0 ≤ b ∧ b < us.length) :
    call lf n_impl_RatioOrder_1 [.i a, .i b, .adr (.sl 0 (us.map e2)), .adr (.i row)] = some (.b (!(rLe us row b a)), []) := by
  have h' := tsOk_iff.1 h
  obtain ⟨c1, q1, x1, x2, x3⟩ := cA_at (us := us) ha.1 ha.2
  obtain ⟨c2, q2, y1, y2, y3⟩ := cA_at (us := us) hb.1 hb.2
  have tq1 := tOk_iff.1 (List.all_eq_true.1 h'.2 us[a.toNat] (List.getElem_mem (by omega)))
  have tq2 := tOk_iff.1 (List.all_eq_true.1 h'.2 us[b.toNat] (List.getElem_mem (by omega)))
  rw [← show us.getD a.toNat (0, 0) = us[a.toNat] by simp [List.getD, show a.toNat < us.length by omega], x3] at tq1
  rw [← show us.getD b.toNat (0, 0) = us[b.toNat] by simp [List.getD, show b.toNat < us.length by omega], y3] at tq2
  have R1 := c_impl_ratioOf c1 q1 row tq1.2
  have R2 := c_impl_ratioOf c2 q2 row tq2.2
  have e1 : (if row = 0 then 6 - q1 else q1) = eA us row a.toNat := by unfold eA; rw [x3]
  have e2' : (if row = 0 then 6 - q2 else q2) = eA us row b.toNat := by unfold eA; rw [y3]
  rw [e1] at R1
  rw [e2'] at R2
  have b1 := eA_bd h'.2 (row := row) (a := a.toNat) (by omega)
  have b2 := eA_bd h'.2 (row := row) (a := b.toNat) (by omega)
  have t1 := tq1.1
  have t2 := tq2.1
  simp only at t1 t2
  have I := c_impl_isLess c1 (eA us row a.toNat) c2 (eA us row b.toNat) ⟨Int.mul_nonneg (by omega) (by omega), Int.le_trans (Int.mul_le_mul (show c1 ≤ 9 by omega) (show eA us row b.toNat ≤ 5 by omega) (by omega) (by omega)) (by omega)⟩ ⟨Int.mul_nonneg (by omega) (by omega), Int.le_trans (Int.mul_le_mul (show c2 ≤ 9 by omega) (show eA us row a.toNat ≤ 5 by omega) (by omega) (by omega)) (by omega)⟩
  have e : (!(rLe us row b a)) = decide (c1 * eA us row b.toNat < c2 * eA us row a.toNat) := by
    unfold rLe
    rw [← x2, ← y2]
    by_cases hc : c2 * eA us row a.toNat ≤ c1 * eA us row b.toNat
    · rw [decide_eq_true hc, decide_eq_false (by omega)]; rfl
    · rw [decide_eq_false hc, decide_eq_true (by omega)]; rfl
  rw [e]
  have ha1 := ha.1
  have ha2 := ha.2
  have hb1 := hb.1
  have hb2 := hb.2
  rw [call_k lf n_impl_RatioOrder_1 _ (F := F_impl_RatioOrder_1) rfl rfl]
  simp [F_impl_RatioOrder_1, x1, y1, R1, R2, I]
theorem c_Insert (es : List DV) (x : DV) {n : Nat} (hn : n ≤ es.length) (hb : es.length ≤ 1000) : call lf n_slices_Insert_int_int [.gv 1 es, .i n, .gv 1 [x]] = some (.fr 1 (es.take n ++ x :: es.drop n), []) := by
  rw [call_prim lf n_slices_Insert_int_int _ (F := F_slices_Insert_int_int) rfl rfl, ins_k, if_pos ⟨by omega, by omega, by simp [bound]; omega, by simp⟩]
  simp
def stIs (us : List T) (row k : Int) (L : List Int) (a : Nat) : LS := ⟨[(0, .own 14 L.length 0 L.length), (1, .i k), (2, .fn n_impl_RatioOrder_1 [.adr (.sl 0 (us.map e2)), .adr (.i row)]), (7, .i a)], [(14, L.map .i)]⟩
set_option maxHeartbeats 4000000 in
theorem ins_loop {us : List T} (h : tsOk us = true) (row : Int) {k : Int} (hk : 0 ≤ k ∧ k < us.length) {L : List Int} (hL : L.length ≤ 5) {p : Nat} (H : ∀ j (hj : j < L.length), (0 ≤ L[j] ∧ L[j] < us.length) ∧ rLe us row L[j] k = decide (j < p)) : ∀ d : Nat, p + d ≤ L.length →
    ex lf F_impl_inserted_int_W0 (stIs us row k L (p + d)) = some (.exit 0, stIs us row k L p) := by
  have tk : List.take L.length (L.map DV.i) = L.map .i := List.take_of_length_le (by simp)
  have one : ∀ (j : Nat) (hj : j < L.length), atI (L.map DV.i) ((j : Nat) : Int) = some (.i L[j]) ∧ atN (L.map DV.i) j = some (.i L[j]) ∧ wr (((j + 1 : Nat) : Int) - 1) = (j : Nat) ∧ (0 : Int) < ((j + 1 : Nat) : Int) ∧ call lf n_impl_RatioOrder_1 [.i k, .i L[j], .adr (.sl 0 (us.map e2)), .adr (.i row)] = some (.b (!(decide (j < p))), []) := by
    intro j hj
    obtain ⟨h1, h2⟩ := H j hj
    refine ⟨?_, ?_, ?_, by omega, ?_⟩
    · simp only [atI, if_pos (Int.natCast_nonneg _)]
      show (L.map DV.i)[((j : Nat) : Int).toNat]? = _
      rw [Int.toNat_natCast]; simp [hj]
    · show (L.map DV.i)[j]? = _
      simp [hj]
    · rw [wr_id (by omega) (by omega)]; omega
    · rw [c_impl_less h row hk h1, h2]
  intro d
  induction d with
  | zero =>
    intro hd
    cases p with
    | zero =>
      rw [w_impl_inserted_int_0]
      simp [stIs, F_impl_inserted_int_L0]
    | succ p =>
      obtain ⟨q1, q2, q3, q4, q5⟩ := one p (by omega)
      rw [decide_eq_true (show p < p + 1 by omega)] at q5
      have hp : p < L.length := by omega
      rw [w_impl_inserted_int_0]
      simp [stIs, F_impl_inserted_int_L0, tk, q1, q2, q3, q4, q5, hp, -Int.natCast_add]
  | succ d ih =>
    intro hd
    obtain ⟨q1, q2, q3, q4, q5⟩ := one (p + d) (by omega)
    rw [decide_eq_false (show ¬ p + d < p by omega)] at q5
    have hp : p + d < L.length := by omega
    have I := ih (by omega)
    rw [w_impl_inserted_int_0, show p + (d + 1) = p + d + 1 by omega]
    unfold stIs at *
    simp [F_impl_inserted_int_L0, tk, q1, q2, q3, q4, q5, hp, I, -Int.natCast_add]
theorem c_impl_inserted {us : List T} (h : tsOk us = true) (row : Int) {k : Int} (hk : 0 ≤ k ∧ k < us.length) {L : List Int} (hL : L.length ≤ 5) {p : Nat} (hp : p ≤ L.length) (H : ∀ j (hj : j < L.length), (0 ≤ L[j] ∧ L[j] < us.length) ∧ rLe us row L[j] k = decide (j < p)) :
    call lf n_impl_inserted_int [.gv 1 (L.map .i), .i k, .fn n_impl_RatioOrder_1 [.adr (.sl 0 (us.map e2)), .adr (.i row)]] = some (.fr 1 ((L.take p ++ k :: L.drop p).map .i), []) := by
  have W := ins_loop h row hk hL H (L.length - p) (by omega)
  rw [show p + (L.length - p) = L.length by omega] at W
  unfold stIs at W
  have I := c_Insert (L.map .i) (.i k) (n := p) (by simpa using hp) (by simp; omega)
  have e : (L.map DV.i).take p ++ DV.i k :: (L.map DV.i).drop p = (L.take p ++ k :: L.drop p).map .i := by simp
  rw [e] at I
  have le : (L.take p ++ k :: L.drop p).length = L.length + 1 := by simp; omega
  rw [call_k lf n_impl_inserted_int _ (F := F_impl_inserted_int) rfl rfl]
  generalize L.take p ++ k :: L.drop p = M at *
  simp [F_impl_inserted_int, W, I]
theorem rO_split {us : List T} (h : tsOk us = true) (row : Int) {i : Nat} (hi : i < us.length) : ∀ j (hj : j < (rO us row i).length), (0 ≤ (rO us row i)[j] ∧ (rO us row i)[j] < us.length) ∧ rLe us row (rO us row i)[j] i = decide (j < insPos us row i (rO us row i)) := by
  have h' := tsOk_iff.1 h
  have S := rO_sorted h'.2 row i (by omega)
  have M : ∀ o ∈ rO us row i, 0 ≤ o ∧ o < us.length := fun o ho => by have := rO_mem ho; omega
  generalize rO us row i = L at *
  intro j hj
  refine ⟨M _ (List.getElem_mem hj), ?_⟩
  induction L generalizing j with
  | nil => simp at hj
  | cons o r ih =>
    obtain ⟨p1, p2⟩ := List.pairwise_cons.1 S
    have ih := ih p2 (fun o ho => M o (List.mem_cons_of_mem _ ho))
    by_cases hc : rLe us row o i = true
    · have e : insPos us row i (o :: r) = insPos us row i r + 1 := by simp only [insPos]; rw [if_pos hc]
      rw [e]
      cases j with
      | zero => simp [hc]
      | succ j =>
        have := ih j (by simpa using hj)
        rw [List.getElem_cons_succ, this]
        simp
    · have e : insPos us row i (o :: r) = 0 := by simp only [insPos]; rw [if_neg hc]
      rw [e]
      have hf : rLe us row o i = false := by simpa using hc
      cases j with
      | zero => simp [hf]
      | succ j =>
        rw [List.getElem_cons_succ]
        have hj' : j < r.length := by simpa using hj
        have hm := M _ (List.mem_cons_self ..)
        have hr := M _ (List.mem_cons_of_mem _ (List.getElem_mem hj'))
        cases hq : rLe us row r[j] i with
        | false => simp
        | true =>
          have := rLe_trans h'.2 (row := row) (a := o) (b := r[j]) (c := (i : Int)) (by omega) (by omega) (by omega) (p1 _ (List.getElem_mem hj')) hq
          rw [hf] at this; cases this
def stOi (us : List T) (row : Int) (K : Nat) (L : List Int) (i : Nat) : LS := ⟨[(5, .fn n_impl_RatioOrder_1 [.adr (.sl 0 (us.map e2)), .adr (.i row)]), (6, .own K L.length 0 L.length), (18, .i us.length), (19, .i i)], [(K, L.map .i)]⟩
set_option maxHeartbeats 4000000 in
theorem ratio_outerI {us : List T} (h : tsOk us = true) (row : Int) (j : Nat) : ∀ (i K : Nat), (K = 3080 ∨ K = 12808) → i + j = us.length →
    ex lf F_impl_RatioOrder_W0 (stOi us row K (rO us row i) i) = some (.exit 0, stOi us row 3080 (rO us row us.length) us.length) := by
  have h' := tsOk_iff.1 h
  induction j with
  | zero =>
    intro i K hK hi
    have e : i = us.length := by omega
    subst e
    rw [w_impl_RatioOrder_0]
    rcases hK with rfl | rfl <;> simp [stOi, F_impl_RatioOrder_L0]
  | succ j ih =>
    intro i K hK hi
    have k2 := ih (i + 1) 12808 (.inr rfl) (by omega)
    have hlt : i < us.length := by omega
    have ll := rO_len us row i
    have pl := insPos_le us row i (rO us row i)
    have I := c_impl_inserted h row (k := (i : Nat)) ⟨by omega, by omega⟩ (L := rO us row i) (by omega) pl (rO_split h row hlt)
    rw [← insR_pos us row i (rO us row i), show insR us row i (rO us row i) = rO us row (i + 1) from rfl] at I
    have l2 := rO_len us row (i + 1)
    have w1 : wr ((i : Int) + 1) = ((i + 1 : Nat) : Int) := by rw [wr_id (by omega) (by omega)]; omega
    have lt' : (i : Int) < us.length := by omega
    unfold stOi at *
    rw [l2] at k2
    rw [ll]
    have m1 : ((rO us row i).map DV.i).length = i := by simp [ll]
    have m2 : ((rO us row (i + 1)).map DV.i).length = i + 1 := by simp [l2]
    have lm : lendL ((rO us row i).map DV.i) = (rO us row i).map .i := by simp
    have am : ∀ b, adoptL b ((rO us row (i + 1)).map DV.i) = (rO us row (i + 1)).map .i := fun b => by simp
    rw [w_impl_RatioOrder_0]
    generalize (rO us row i).map DV.i = M at *
    generalize (rO us row (i + 1)).map DV.i = M2 at *
    rcases hK with rfl | rfl <;> simp [F_impl_RatioOrder_L0, hlt, lt', I, w1, k2, m1, m2, lm, am, -Int.natCast_add]
theorem c_impl_RatioOrder (us : List T) (row : Int) (ha : (us.length : Int) < 1099511627776) : call lf n_impl_RatioOrder [.sl 0 (us.map e2), .i row] = some (.fr 1 ((roL us row).map .i), []) := by
  rw [call_k lf n_impl_RatioOrder _ (F := F_impl_RatioOrder) rfl rfl]
  have C1 := c_impl_TestsOk us ha
  have C2 := c_impl_rowOk row
  unfold roL
  cases h1 : tsOk us with
  | false => rw [h1] at C1; simp [F_impl_RatioOrder, C1]
  | true =>
    rw [h1] at C1
    cases h2 : rwOk row with
    | false => rw [h2] at C2; simp [F_impl_RatioOrder, C1, C2]
    | true =>
      rw [h2] at C2
      have L := ratio_outerI h1 row us.length 0 3080 (.inl rfl) (by omega)
      unfold stOi at L
      have z : (rO us row 0).map DV.i = [] := rfl
      have z' : (rO us row 0).length = 0 := rfl
      rw [z, z'] at L
      simp only [Int.natCast_zero] at L
      have ll := rO_len us row us.length
      rw [ll] at L
      simp [F_impl_RatioOrder, C1, C2, L, ll]
end
section
def ci (ts : List Int) (i : Nat) : List DV := (ts.take i).map .i ++ List.replicate (ts.length - i) (.i 0)
end
section
attribute [-simp] DV.cells
attribute [local simp] sliceD cells_st cells_sl cells_i cells_y cells_b cells_s cells_w
attribute [local simp] lend_eR al_eR
def eN (r : List Int) : DV := .sl 1 (r.map .i)
theorem lend_eN (L : List (List Int)) : lendL (L.map eN) = L.map eR := by
  rw [lendL_map, List.map_map]
  apply List.map_congr_left
  intro r _
  simp [eN, eR, DV.lend]
theorem adopt_eN (o : Bool) (L : List (List Int)) : adoptL o (L.map eN) = L.map eN := by
  rw [adoptL_map, List.map_map]
  apply List.map_congr_left
  intro r _
  simp [eN, DV.adopt, adoptP]
theorem new_eN (L : List (List Int)) : allNewL (L.map eN) = true := by
  rw [allNewL_all, List.all_map, List.all_eq_true]
  intro r _
  simp [eN, DV.allNew, newP]
attribute [local simp] lend_eN adopt_eN new_eN
end
section
attribute [-simp] DV.cells
attribute [local simp] sliceD cells_st cells_sl cells_i cells_y cells_b cells_s cells_w
attribute [local simp] lend_eR al_eR lend_eN adopt_eN new_eN
theorem cells_cel (k n : Nat) : (DV.cel k n).cells = [.cel k n] := rfl
theorem noc_i (xs : List Int) : noCelL (xs.map DV.i) = true := by rw [noCelL_all, List.all_map, List.all_eq_true]; intro x _; rfl
theorem noc_y (xs : List Nat) : noCelL (xs.map DV.y) = true := by rw [noCelL_all, List.all_map, List.all_eq_true]; intro x _; rfl
theorem noc_eN (L : List (List Int)) : noCelL (L.map eN) = true := by
  rw [noCelL_all, List.all_map, List.all_eq_true]
  intro x _
  show noCelL (x.map DV.i) = true
  exact noc_i x
theorem c_odd0 (bs : List Nat) (p : Int) : call lf n_spec_l20Rd_odd [.ref (.st [.sl 0 (bs.map .y), .i p]), .i 0] = some (.b false, [.st [.sl 0 (bs.map .y), .i p]]) := by
  rw [call_k lf n_spec_l20Rd_odd _ (F := F_spec_l20Rd_odd) rfl rfl]
  simp [F_spec_l20Rd_odd]
theorem c_l20OrderG {bs : List Nat} (hb : ∀ y ∈ bs, y < 256) (hl : bs.length ≤ 2000) {p : Int} {m : Nat} (h0 : 0 ≤ p) (h1 : p < 700000) (hm : m ≤ 5) :
    ∃ us : List Int, us.length = m ∧ call lf n_spec_l20Order [.ref (.st [.sl 0 (bs.map .y), .i p]), .i m, .i 0] = some (.fr 1 (us.map .i), [.st [.sl 0 (bs.map .y), .i (p + m)]]) := by
  obtain ⟨us, u1, L⟩ := l_l20Order hb hl m hm 0 m 0 p 5640 [] (.inl rfl) h0 (by omega) (by omega) (by rfl)
  have lu := perm_len u1
  simp only [Int.natCast_zero, List.map_nil] at L
  have k2 := c_odd0 bs (p + m)
  refine ⟨us, lu, ?_⟩
  rw [call_k lf n_spec_l20Order _ (F := F_spec_l20Order) rfl rfl]
  generalize hq : p + (m : Int) = q at *
  simp [F_spec_l20Order, L, k2, lu]
attribute [local simp] cells_cel noc_i noc_y noc_eN noCelE noCelO noCelL DV.noCel
/-- the rows that are done, the row that grows -/
def stG2 (bs : List Nat) (n : Int) (os : List Int) (init : List (List Int)) (last : List Int) (i : Nat) (p : Int) : LS :=
  ⟨[(0, .oad 23 1 0 0), (2, .i n), (7, .own 6664 os.length 0 os.length), (8, .own 7176 (init.length + 1) 0 (init.length + 1)), (9, .i i)],
    [(23, [.st [.sl 0 (bs.map .y), .i p]]), (6664, os.map .i), (7176, init.map eN ++ [.cel 15373 last.length]), (15373, last.map .i)]⟩
set_option maxHeartbeats 8000000 in
theorem g2_step {bs : List Nat} (n : Int) (os : List Int) (hos : os.length ≤ 5) (init : List (List Int)) (last : List Int) {i : Nat} {a : Int} (hi : os[i]? = some a) (hil : init.length ≤ 5) (hl : last.length ≤ 5) {p : Int} {b : Bool}
    (k : call lf n_spec_l20Rd_pick [.ref (.st [.sl 0 (bs.map .y), .i p]), .i 2] = some (.i (if b then 0 else 1), [.st [.sl 0 (bs.map .y), .i (p + 1)]])) :
    ex lf F_spec_l20Groups_L0 (stG2 bs n os init last i p) = some (.normal, if b then stG2 bs n os (init ++ [last]) [a] (i + 1) (p + 1) else stG2 bs n os init (last ++ [a]) (i + 1) (p + 1)) := by
  have hlt : i < os.length := (List.getElem?_eq_some_iff.1 hi).1
  have hlt' : (i : Int) < os.length := by omega
  have w1 := wr_succ (k := i) (by omega)
  have a1 := atI_int hi
  have a2 : atN (os.map DV.i) i = some (.i a) := by
    show (os.map DV.i)[i]? = _
    rw [List.getElem?_map, hi]; rfl
  have tk : List.take os.length (os.map DV.i) = os.map .i := List.take_of_length_le (by simp)
  have r3 : ∀ (I : List (List Int)) (x : DV), atN (I.map eN ++ [x]) I.length = some x := fun I x => by
    show (I.map eN ++ [x])[I.length]? = _
    rw [List.getElem?_append_right (by simp)]
    simp
  have s3 : ∀ (I : List (List Int)) (x y : DV), (I.map eN ++ [x]).set I.length y = I.map eN ++ [y] := fun I x y => by
    rw [List.set_append_right _ _ (by simp)]
    simp
  cases b with
  | true =>
    have c1 : init.length + 1 + 1 ≤ bound := by unfold bound; omega
    have w2 : wr (((init.length + 1 + 1 : Nat) : Int) - 1) = ((init.length + 1 : Nat) : Int) := by rw [wr_id (by omega) (by omega)]; omega
    have e0 : (((init.length + 1 : Nat) : Int) == 0) = false := beq_false_of_ne (by omega)
    have r4 := r3 (init ++ [last]) (.cel 15373 0)
    have s4 := s3 (init ++ [last]) (.cel 15373 0) (.cel 15373 1)
    have sh : init.map eN ++ [DV.sl 1 (last.map .i)] = (init ++ [last]).map eN := by rw [List.map_append]; rfl
    have ln : (init ++ [last]).length = init.length + 1 := by simp
    have lM : ((init ++ [last]).map eN).length = init.length + 1 := by simp
    rw [ln] at r4 s4
    have cb : 1 ≤ bound := by unfold bound; omega
    have nM := noc_eN (init ++ [last])
    rw [if_pos rfl] at k
    simp only [if_true]
    unfold stG2
    rw [ln]
    generalize hM : (init ++ [last]).map eN = M at *
    have tkM : List.take (init.length + 1) M = M := List.take_of_length_le (by omega)
    simp [F_spec_l20Groups_L0, hlt, hlt', w1, w2, e0, k, a1, a2, tk, sh, lM, c1, r4, s4, cb, tkM, nM, -Int.natCast_add]
  | false =>
    have w2 : wr (((init.length + 1 : Nat) : Int) - 1) = (init.length : Nat) := by rw [wr_id (by omega) (by omega)]; omega
    have e0 : (((init.length + 1 : Nat) : Int) == 0) = false := beq_false_of_ne (by omega)
    have cb : last.length + 1 ≤ bound := by unfold bound; omega
    unfold stG2
    simp at k
    simp [F_spec_l20Groups_L0, hlt, hlt', w1, w2, e0, k, a1, a2, tk, r3, s3, cb, -Int.natCast_add]
set_option maxHeartbeats 8000000 in
theorem g2_first {bs : List Nat} (n : Int) {os : List Int} (hos : os.length ≤ 5) {a : Int} (hi : os[0]? = some a) (p : Int) :
    ex lf F_spec_l20Groups_L0 ⟨[(0, .oad 23 1 0 0), (2, .i n), (7, .own 6664 os.length 0 os.length), (8, .own 7176 0 0 0), (9, .i 0)], [(23, [.st [.sl 0 (bs.map .y), .i p]]), (6664, os.map .i), (7176, [])]⟩ = some (.normal, stG2 bs n os [] [a] 1 p) := by
  have hlt : 0 < os.length := (List.getElem?_eq_some_iff.1 hi).1
  have a1 := atI_int hi
  simp only [Int.natCast_zero] at a1
  have a2 : atN (os.map DV.i) 0 = some (.i a) := by
    show (os.map DV.i)[0]? = _
    rw [List.getElem?_map, hi]; rfl
  have tk : List.take os.length (os.map DV.i) = os.map .i := List.take_of_length_le (by simp)
  have cb : 1 ≤ bound := by unfold bound; omega
  have w1 : wr (1 : Int) = 1 := wr_id (by omega) (by omega)
  have w0 : wr (0 : Int) = 0 := wr_id (by omega) (by omega)
  unfold stG2
  simp [F_spec_l20Groups_L0, hlt, a1, a2, tk, cb, w0, w1]
theorem g2_loop {bs : List Nat} (hb : ∀ y ∈ bs, y < 256) (hl : bs.length ≤ 2000) (n : Int) (os : List Int) (hos : os.length ≤ 5) : ∀ (d i : Nat) (init : List (List Int)) (last : List Int) (p : Int), i + d = os.length → 1 ≤ i → init.length + 1 ≤ i → init.flatten.length + last.length = i → 0 ≤ p → p + d < 900000 →
    ∃ (init' : List (List Int)) (last' : List Int) (p' : Int), p ≤ p' ∧ p' ≤ p + d ∧ init'.length + 1 ≤ os.length ∧ init'.flatten.length + last'.length = os.length ∧
      ex lf F_spec_l20Groups_W0 (stG2 bs n os init last i p) = some (.exit 0, stG2 bs n os init' last' os.length p') := by
  intro d
  induction d with
  | zero =>
    intro i init last p hi h1 h2 h3 h4 h5
    have e : i = os.length := by omega
    subst e
    refine ⟨init, last, p, by omega, by omega, h2, h3, ?_⟩
    rw [w_spec_l20Groups_0]
    simp [stG2, F_spec_l20Groups_L0]
  | succ d ih =>
    intro i init last p hi h1 h2 h3 h4 h5
    have hk : os[i]? = some os[i] := List.getElem?_eq_getElem (by omega)
    have k := c_pick hb hl (p := p) (n := 2) h4 (by omega) (by omega)
    have bd := pk_bound hb (p := p) (n := 2) h4 (by omega) (by omega)
    by_cases z : pk bs p 2 = 0
    · rw [z] at k
      have S := g2_step n os hos init last hk (by omega) (by omega) (b := true) (p := p) (by simpa using k)
      obtain ⟨i', l', p', q1, q2, q3, q4, q5⟩ := ih (i + 1) (init ++ [last]) [os[i]] (p + 1) (by omega) (by omega) (by simp; omega) (by simp only [List.flatten_append, List.length_append, List.flatten_cons, List.flatten_nil, List.length_nil, List.length_singleton]; omega) (by omega) (by omega)
      refine ⟨i', l', p', by omega, by omega, q3, q4, ?_⟩
      rw [w_spec_l20Groups_0, S]
      simpa using q5
    · have z1 : pk bs p 2 = 1 := by omega
      rw [z1] at k
      have S := g2_step n os hos init last hk (by omega) (by omega) (b := false) (p := p) (by simpa using k)
      obtain ⟨i', l', p', q1, q2, q3, q4, q5⟩ := ih (i + 1) init (last ++ [os[i]]) (p + 1) (by omega) (by omega) (by omega) (by simp only [List.length_append, List.length_singleton]; omega) (by omega) (by omega)
      refine ⟨i', l', p', by omega, by omega, q3, q4, ?_⟩
      rw [w_spec_l20Groups_0, S]
      simpa using q5
set_option maxHeartbeats 8000000 in
theorem c_l20Groups {bs : List Nat} (hb : ∀ y ∈ bs, y < 256) (hl : bs.length ≤ 2000) {p n : Int} {m : Nat} (h0 : 0 ≤ p) (h1 : p < 600000) (hm : m ≤ 5) (hn : 1 ≤ n) (hn2 : n ≤ 1000000) :
    ∃ (R : List (List Int)) (p' : Int), R.length ≤ 6 ∧ R.flatten.length ≤ 6 ∧ p ≤ p' ∧ p' ≤ p + 30 ∧ call lf n_spec_l20Groups [.ref (.st [.sl 0 (bs.map .y), .i p]), .i m, .i n] = some (.fr 1 (R.map eN), [.st [.sl 0 (bs.map .y), .i p']]) := by
  obtain ⟨os, lo, CO⟩ := c_l20OrderG hb hl (p := p) (m := m) h0 (by omega) hm
  obtain ⟨Q, q, S1, b1, b2, b3, b4, W, H⟩ : ∃ (Q : List (List Int)) (q : Int) (S1 : LS), Q.length ≤ 5 ∧ Q.flatten.length ≤ 5 ∧ p ≤ q ∧ q ≤ p + 15 ∧
      ex lf F_spec_l20Groups_W0 ⟨[(0, .oad 23 1 0 0), (2, .i n), (7, .own 6664 os.length 0 os.length), (8, .own 7176 0 0 0), (9, .i 0)], [(23, [.st [.sl 0 (bs.map .y), .i (p + m)]]), (6664, os.map .i), (7176, [])]⟩ = some (.exit 0, S1) ∧
      ∀ X : LC, ex lf (.ghost (.shut 8) X) S1 = ex lf X ⟨[(0, .oad 23 1 0 0), (2, .i n), (7, .own 6664 os.length 0 os.length), (8, .own 7176 Q.length 0 Q.length), (9, .i os.length)], [(23, [.st [.sl 0 (bs.map .y), .i q]]), (6664, os.map .i), (7176, Q.map eN)]⟩ := by
    cases os with
    | nil =>
      refine ⟨[], p + m, ⟨[(0, .oad 23 1 0 0), (2, .i n), (7, .own 6664 0 0 0), (8, .own 7176 0 0 0), (9, .i 0)], [(23, [.st [.sl 0 (bs.map .y), .i (p + m)]]), (6664, []), (7176, [])]⟩, by simp, by simp, by omega, by omega, ?_, fun X => ?_⟩
      · rw [w_spec_l20Groups_0]
        simp [F_spec_l20Groups_L0]
      · simp
    | cons a os =>
      have S := g2_first (bs := bs) n (os := a :: os) (by omega) (a := a) rfl (p + m)
      have lo' : os.length + 1 = m := by simpa using lo
      obtain ⟨I, l, q, q1, q2, q3, q4, q5⟩ := g2_loop hb hl n (a :: os) (by omega) os.length 1 [] [a] (p + m) (by simp; omega) (by omega) (by simp) (by simp) (by omega) (by omega)
      refine ⟨I ++ [l], q, stG2 bs n (a :: os) I l (a :: os).length q, by simp only [List.length_append, List.length_singleton]; omega, by simp only [List.flatten_append, List.length_append, List.flatten_cons, List.flatten_nil, List.length_nil]; omega, by omega, by simp only [List.length_cons] at lo; omega, ?_, fun X => ?_⟩
      · rw [w_spec_l20Groups_0, S]
        exact q5
      · have sh : I.map eN ++ [DV.sl 1 (l.map .i)] = (I ++ [l]).map eN := by rw [List.map_append]; rfl
        have ln : (I ++ [l]).length = I.length + 1 := by simp
        unfold stG2
        rw [ln]
        generalize (I ++ [l]).map eN = M at *
        simp [sh]
  have k2 := c_odd hb hl (p := q) (n := n) (by omega) (by omega) hn hn2
  have tk : List.take Q.length (Q.map eN) = Q.map eN := List.take_of_length_le (by simp)
  have cb : Q.length + 1 ≤ bound := by unfold bound; omega
  cases ho : (pk bs q n == n - 1) with
  | false =>
    rw [ho] at k2
    refine ⟨Q, q + 1, by omega, by omega, by omega, by omega, ?_⟩
    rw [call_k lf n_spec_l20Groups _ (F := F_spec_l20Groups) rfl rfl]
    generalize hpm : p + (m : Int) = pm at *
    simp [F_spec_l20Groups, CO, W, H, k2, tk, -ks_shut]
  | true =>
    rw [ho] at k2
    have k3 := c_pick hb hl (p := q + 1) (n := 2) (by omega) (by omega) (by omega)
    have a3 := pk_bound hb (p := q + 1) (n := 2) (by omega) (by omega) (by omega)
    by_cases z : pk bs (q + 1) 2 = 0
    · rw [z] at k3
      refine ⟨Q ++ [[]], q + 1 + 1, by simp; omega, by simp only [List.flatten_append, List.length_append, List.flatten_cons, List.flatten_nil, List.length_nil]; omega, by omega, by omega, ?_⟩
      rw [call_k lf n_spec_l20Groups _ (F := F_spec_l20Groups) rfl rfl]
      generalize hpm : p + (m : Int) = pm at *
      simp [F_spec_l20Groups, CO, W, H, k2, k3, tk, cb, -ks_shut, eN]
    · have z1 : pk bs (q + 1) 2 = 1 := by omega
      rw [z1] at k3
      refine ⟨Q ++ [[0]], q + 1 + 1, by simp; omega, by simp only [List.flatten_append, List.length_append, List.flatten_cons, List.flatten_nil, List.length_nil, List.length_singleton]; omega, by omega, by omega, ?_⟩
      rw [call_k lf n_spec_l20Groups _ (F := F_spec_l20Groups) rfl rfl]
      generalize hpm : p + (m : Int) = pm at *
      simp [F_spec_l20Groups, CO, W, H, k2, k3, tk, cb, -ks_shut, eN]
end
section
attribute [-simp] DV.cells
attribute [local simp] sliceD cells_st cells_sl cells_i cells_y cells_b cells_s cells_w
attribute [local simp] lend_eR al_eR lend_eN adopt_eN new_eN
theorem c_l20Grouped {bs : List Nat} (hb : ∀ y ∈ bs, y < 256) (hl : bs.length ≤ 2000) {p : Int} (h0 : 0 ≤ p) (h1 : p < 500000) :
    ∃ (us : List T) (R : List (List Int)) (p' : Int), us.length ≤ 5 ∧ R.length ≤ 6 ∧ R.flatten.length ≤ 6 ∧ p ≤ p' ∧ p' ≤ p + 60 ∧
      call lf n_spec_l20Grouped [.ref (.st [.sl 0 (bs.map .y), .i p])] = some (.tup [.fr 2 (us.map e2), .fr 1 (R.map eN)], [.st [.sl 0 (bs.map .y), .i p']]) := by
  obtain ⟨us, p1, u1, u2, u3, U⟩ := c_l20Tests hb hl (p := p) (n := 14) h0 (by omega) (by omega) (by omega)
  obtain ⟨R, p', q1, q2, q3, q4, G⟩ := c_l20Groups hb hl (p := p1) (n := 14) (m := us.length) (by omega) (by omega) u1 (by omega) (by omega)
  refine ⟨us, R, p', u1, q1, q2, by omega, by omega, ?_⟩
  rw [call_k lf n_spec_l20Grouped _ (F := F_spec_l20Grouped) rfl rfl]
  have tk : List.take R.length (R.map eN) = R.map eN := List.take_of_length_le (by simp)
  have tk2 : List.take us.length (us.map e2) = us.map e2 := List.take_of_length_le (by simp)
  simp [F_spec_l20Grouped, U, G, tk, tk2]
end
section
structure CS where
  c : Nat → Int
  p : Nat → Int
  q : Nat → Int
  lA : Nat → Nat → Bool
  lB : Nat → Nat → Bool
  ch : List Nat → Nat → Nat
def rk (l : Nat → Nat → Bool) (S : List Nat) (i : Nat) : Nat := S.countP fun x => l x i
/-- what the rule costs -/
def vR (C : CS) : Nat → List Nat → Nat → Int
  | 0, _, _ => 0
  | f + 1, S, k => if k = 0 ∨ S.length < k then 0 else 6 ^ S.length * C.c (C.ch S k) + C.p (C.ch S k) * vR C f (S.erase (C.ch S k)) (k - 1) + C.q (C.ch S k) * vR C f (S.erase (C.ch S k)) k
def CS.V (C : CS) (S : List Nat) (k : Nat) : Int := vR C S.length S k
def CS.W (C : CS) (S : List Nat) (k i : Nat) : Int := 6 ^ S.length * C.c i + C.p i * C.V (S.erase i) (k - 1) + C.q i * C.V (S.erase i) k
end
section
/-- tests, the two orders by ratios, and the least test of both -/
def tltA (us : List T) (a b : Nat) : Bool := decide (cA us a * pA us b < cA us b * pA us a ∨ cA us b * pA us a = cA us a * pA us b ∧ a < b)
def tltB (us : List T) (a b : Nat) : Bool := decide (cA us a * (6 - pA us b) < cA us b * (6 - pA us a) ∨ cA us b * (6 - pA us a) = cA us a * (6 - pA us b) ∧ a < b)
def bothL (us : List T) (S : List Nat) (k : Nat) : List Nat := S.filter fun i => decide (rk (tltA us) S i < k) && decide (rk (tltB us) S i + k ≤ S.length)
def cs (us : List T) : CS := ⟨cA us, pA us, fun i => 6 - pA us i, tltA us, tltB us, fun S k => (bothL us S k).headD 0⟩
end
section
/-- what is not known, and how many yes -/
def unk (m : Nat) (ks : List Int) : List Nat := (List.range m).filter fun k => ks[k]? == some (-1)
end
section
def gS : List I3 → Int
  | [] => 1
  | x :: r => (x.2.2 - x.2.1) * gS r
theorem gD_app : ∀ p q : List I3, gD (p ++ q) = gD p * gM q + gS p * gD q
  | [], q => by simp [gD, gS]
  | x :: p, q => by
    simp only [List.cons_append, gD, gS]
    rw [gD_app p q, gM_app]
    grind
theorem gS_app : ∀ p q : List I3, gS (p ++ q) = gS p * gS q
  | [], q => by simp [gS]
  | x :: p, q => by simp only [List.cons_append, gS]; rw [gS_app p q, Int.mul_assoc]
theorem gS_perm {p q : List I3} (h : p.Perm q) : gS p = gS q := by
  induction h with
  | nil => rfl
  | cons x _ ih => simp only [gS]; rw [ih]
  | swap x y l => simp only [gS]; rw [Int.mul_left_comm]
  | trans _ _ a b => exact a.trans b
theorem gS_bd : ∀ {l : List I3}, (∀ x ∈ l, iOk x) → 0 ≤ gS l ∧ gS l ≤ gM l
  | [], _ => by simp [gS, gM]
  | x :: r, h => by
    obtain ⟨h1, h2, h3⟩ := h x List.mem_cons_self
    have hr : ∀ y ∈ r, iOk y := fun y hy => h y (List.mem_cons_of_mem _ hy)
    obtain ⟨a, b⟩ := gS_bd hr
    have c := gM_pos hr
    simp only [gS, gM]
    refine ⟨Int.mul_nonneg (by omega) a, ?_⟩
    have k1 := Int.mul_le_mul_of_nonneg_right (show x.2.2 - x.2.1 ≤ x.2.2 by omega) a
    have k2 := Int.mul_le_mul_of_nonneg_left b (show 0 ≤ x.2.2 by omega)
    omega
/-- the parts in which a row ends -/
def gE (l : List I3) : Int := gM l - gS l
theorem gE_pos {l : List I3} (h : ∀ x ∈ l, iOk x) (hne : l ≠ []) : 0 < gE l := by
  cases l with
  | nil => exact absurd rfl hne
  | cons x r =>
    obtain ⟨h1, h2, h3⟩ := h x List.mem_cons_self
    have hr : ∀ y ∈ r, iOk y := fun y hy => h y (List.mem_cons_of_mem _ hy)
    obtain ⟨a, b⟩ := gS_bd hr
    have c := gM_pos hr
    unfold gE
    simp only [gS, gM]
    have k1 := Int.mul_le_mul_of_nonneg_left b (show 0 ≤ x.2.2 - x.2.1 by omega)
    have k2 := Int.mul_pos h2 c
    rw [Int.sub_mul] at k1 ⊢
    rw [Int.sub_mul] at k1
    omega
/-- cost less a ratio (x by y) times the parts that end -/
def gf (x y : Int) (l : List I3) : Int := y * gD l - x * gE l
theorem gf_nil (x y : Int) : gf x y [] = 0 := by simp [gf, gD, gE, gM, gS]
theorem gf_cons (x y : Int) (a : I3) (l : List I3) : gf x y (a :: l) = (y * a.1 - x * a.2.1) * gM l + (a.2.2 - a.2.1) * gf x y l := by
  unfold gf gE
  simp only [gD, gM, gS]
  grind
/-- two rows gone through in turn -/
inductive Sh : List I3 → List I3 → List I3 → Prop
  | nil : Sh [] [] []
  | lft (a b r : List I3) (x : I3) (h : Sh a b r) : Sh (x :: a) b (x :: r)
  | rgt (a b r : List I3) (x : I3) (h : Sh a b r) : Sh a (x :: b) (x :: r)
theorem Sh.perm {a b r : List I3} (h : Sh a b r) : r.Perm (a ++ b) := by
  induction h with
  | nil => exact List.Perm.refl _
  | lft a b r x _ ih => exact ih.cons x
  | rgt a b r x _ ih => exact (ih.cons x).trans List.perm_middle.symm
/-- what is carried along never falls below nothing -/
def Car (x y A s : Int) (l : List I3) : Prop := ∀ P Q, l = P ++ Q → 0 ≤ A * gM P + s * gf x y P
theorem Car.next {x y A s : Int} {a : I3} {l : List I3} (h : Car x y A s (a :: l)) : Car x y (A * a.2.2 + s * (y * a.1 - x * a.2.1)) (s * (a.2.2 - a.2.1)) l := fun P Q e => by
  have := h (a :: P) Q (by rw [e]; rfl)
  rw [gf_cons] at this
  simp only [gM] at this
  grind
theorem Car.head {x y A s : Int} {a : I3} {l : List I3} (h : Car x y A s (a :: l)) : 0 ≤ A * a.2.2 + s * (y * a.1 - x * a.2.1) := by
  have := h [a] l rfl
  rw [gf_cons, gf_nil] at this
  simp only [gM] at this
  grind
theorem sh_algL {A B s t u m v fz fy Mz Mx My sx : Int} (hB : 0 ≤ B) (hs : 0 ≤ s) (hMx : 0 ≤ Mx) (hMy : 0 ≤ My) (hv : v ≤ m)
    (ih : s * v * t * sx * fy - (A * m + s * u) * t * Mz - B * (s * v) * (Mx - sx) * My ≤ s * v * t * fz) :
    s * t * (v * sx) * fy - A * t * (m * Mz) - B * s * (m * Mx - v * sx) * My ≤ s * t * (u * Mz + v * fz) := by
  have k : 0 ≤ B * s * ((m - v) * Mx) * My := Int.mul_nonneg (Int.mul_nonneg (Int.mul_nonneg hB hs) (Int.mul_nonneg (by omega) hMx)) hMy
  grind
theorem sh_algR {A B s t u m v fz fy Mx My sx : Int} (hA : 0 ≤ A) (ht : 0 ≤ t) (hMx : 0 ≤ Mx) (hMy : 0 ≤ My) (hv : v ≤ m)
    (ih : s * (t * v) * sx * fy - A * (t * v) * (Mx * My) - (B * m + t * u) * s * (Mx - sx) * My ≤ s * (t * v) * fz) :
    s * t * sx * (u * My + v * fy) - A * t * (m * (Mx * My)) - B * s * (Mx - sx) * (m * My) ≤ s * t * (u * (Mx * My) + v * fz) := by
  have k : 0 ≤ A * t * ((m - v) * (Mx * My)) := Int.mul_nonneg (Int.mul_nonneg hA ht) (Int.mul_nonneg (by omega) (Int.mul_nonneg hMx hMy))
  grind
theorem sh_car {x y : Int} {X Y Z : List I3} (h : Sh X Y Z) : ∀ {A s B t : Int}, (∀ i ∈ X, iOk i) → (∀ i ∈ Y, iOk i) → 0 ≤ A → 0 ≤ s → 0 ≤ B → 0 ≤ t → Car x y A s X → Car x y B t Y →
    s * t * gS X * gf x y Y - A * t * gM Z - B * s * (gM X - gS X) * gM Y ≤ s * t * gf x y Z := by
  induction h with
  | nil =>
    intro A s B t _ _ hA _ _ ht _ _
    rw [gf_nil]
    simp only [gM, gS]
    have := Int.mul_nonneg hA ht
    grind
  | lft a b r i h ih =>
    intro A s B t hX hY hA hs hB ht cX cY
    obtain ⟨i1, i2, i3⟩ := hX i List.mem_cons_self
    have hX' : ∀ j ∈ a, iOk j := fun j hj => hX j (List.mem_cons_of_mem _ hj)
    have I := ih hX' hY cX.head (Int.mul_nonneg hs (show 0 ≤ i.2.2 - i.2.1 by omega)) hB ht cX.next cY
    rw [gf_cons]
    simp only [gS, gM]
    exact sh_algL hB hs (Int.le_of_lt (gM_pos hX')) (Int.le_of_lt (gM_pos hY)) (by omega) I
  | rgt a b r i h ih =>
    intro A s B t hX hY hA hs hB ht cX cY
    obtain ⟨i1, i2, i3⟩ := hY i List.mem_cons_self
    have hY' : ∀ j ∈ b, iOk j := fun j hj => hY j (List.mem_cons_of_mem _ hj)
    have I := ih hX hY' hA hs cY.head (Int.mul_nonneg ht (show 0 ≤ i.2.2 - i.2.1 by omega)) cX cY.next
    have e : gM r = gM a * gM b := by rw [gM_perm h.perm, gM_app]
    rw [gf_cons, gf_cons]
    simp only [gM]
    rw [e] at I ⊢
    exact sh_algR hA ht (Int.le_of_lt (gM_pos hX)) (Int.le_of_lt (gM_pos hY')) (by omega) I
/-- gone through in turn, a row keeps at least what the second one has left -/
theorem sh_f {x y : Int} {X Y Z : List I3} (h : Sh X Y Z) (hX : ∀ i ∈ X, iOk i) (hY : ∀ i ∈ Y, iOk i) (cX : Car x y 0 1 X) (cY : Car x y 0 1 Y) : gS X * gf x y Y ≤ gf x y Z := by
  have := sh_car h hX hY (Int.le_refl 0) (show (0 : Int) ≤ 1 by omega) (Int.le_refl 0) (show (0 : Int) ≤ 1 by omega) cX cY
  simpa using this
end
section
theorem gf_app (x y : Int) (p q : List I3) : gf x y (p ++ q) = gf x y p * gM q + gS p * gf x y q := by
  unfold gf gE
  rw [gD_app, gM_app, gS_app]
  grind
theorem sh_skip {W R V : List I3} (h : Sh W R V) : ∀ Y : List I3, Sh W (Y ++ R) (Y ++ V)
  | [] => h
  | a :: r => .rgt _ _ _ a (sh_skip h r)
/-- the beginning of a row is of beginnings -/
theorem sh_split : ∀ {P Q X Y : List I3}, Sh X Y (P ++ Q) → ∃ X1 X2 Y1 Y2, X = X1 ++ X2 ∧ Y = Y1 ++ Y2 ∧ Sh X1 Y1 P
  | [], Q, X, Y, h => ⟨[], X, [], Y, rfl, rfl, .nil⟩
  | a :: P, Q, X, Y, h => by
    cases h with
    | lft x b r i h =>
      obtain ⟨X1, X2, Y1, Y2, e1, e2, s⟩ := sh_split h
      exact ⟨a :: X1, X2, Y1, Y2, by rw [e1]; rfl, e2, .lft _ _ _ a s⟩
    | rgt x b r i h =>
      obtain ⟨X1, X2, Y1, Y2, e1, e2, s⟩ := sh_split h
      exact ⟨X1, X2, a :: Y1, Y2, e1, by rw [e2]; rfl, .rgt _ _ _ a s⟩
/-- .. cut where the first part of the first one is through -/
theorem sh_cut {c r row : List I3} (h : Sh c r row) : ∀ X W : List I3, c = X ++ W → ∃ Y R Z V, r = Y ++ R ∧ row = Z ++ V ∧ Sh X Y Z ∧ Sh W R V := by
  induction h with
  | nil =>
    intro X W e
    obtain ⟨rfl, rfl⟩ := List.append_eq_nil_iff.1 e.symm
    exact ⟨[], [], [], [], rfl, rfl, .nil, .nil⟩
  | lft a b r i h ih =>
    intro X W e
    cases X with
    | nil =>
      have e' : i :: a = W := e
      subst e'
      exact ⟨[], b, [], i :: r, rfl, rfl, .nil, .lft _ _ _ i h⟩
    | cons z X =>
      rw [List.cons_append] at e
      injection e with e1 e2
      subst e1
      obtain ⟨Y, R, Z, V, q1, q2, q3, q4⟩ := ih X W e2
      exact ⟨Y, R, i :: Z, V, q1, by rw [q2]; rfl, .lft _ _ _ i q3, q4⟩
  | rgt a b r i h ih =>
    intro X W e
    obtain ⟨Y, R, Z, V, q1, q2, q3, q4⟩ := ih X W e
    exact ⟨i :: Y, R, i :: Z, V, by rw [q1]; rfl, by rw [q2]; rfl, .rgt _ _ _ i q3, q4⟩
theorem car_sh {x y : Int} {X Y Z : List I3} (h : Sh X Y Z) (hX : ∀ i ∈ X, iOk i) (hY : ∀ i ∈ Y, iOk i) (cX : Car x y 0 1 X) (cY : Car x y 0 1 Y) : Car x y 0 1 Z := fun P Q e => by
  subst e
  obtain ⟨X1, X2, Y1, Y2, e1, e2, s⟩ := sh_split h
  have okX : ∀ i ∈ X1, iOk i := fun i hi => hX i (by rw [e1]; exact List.mem_append_left _ hi)
  have f := sh_f s okX (fun i hi => hY i (by rw [e2]; exact List.mem_append_left _ hi))
    (fun P' Q' e' => cX P' (Q' ++ X2) (by rw [e1, e', List.append_assoc])) (fun P' Q' e' => cY P' (Q' ++ Y2) (by rw [e2, e', List.append_assoc]))
  have g := cY Y1 Y2 e2
  have k := Int.mul_nonneg (gS_bd okX).1 (show 0 ≤ gf x y Y1 by simpa using g)
  simp
  omega
/-- chains gone through in turn -/
def Il : List (List I3) → List I3 → Prop
  | [], row => row = []
  | c :: L, row => ∃ r, Il L r ∧ Sh c r row
theorem il_perm : ∀ {L : List (List I3)} {row : List I3}, Il L row → row.Perm L.flatten
  | [], row, h => by rw [show row = [] from h]; exact List.Perm.refl _
  | c :: L, row, ⟨r, h1, h2⟩ => by
    rw [List.flatten_cons]
    exact h2.perm.trans ((il_perm h1).append_left c)
theorem car_il {x y : Int} : ∀ {L : List (List I3)} {row : List I3}, Il L row → (∀ c ∈ L, ∀ i ∈ c, iOk i) → (∀ c ∈ L, Car x y 0 1 c) → Car x y 0 1 row
  | [], row, h, _, _ => by
    rw [show row = [] from h]
    intro P Q e
    obtain ⟨rfl, rfl⟩ := List.append_eq_nil_iff.1 e.symm
    rw [gf_nil]
    simp
  | c :: L, row, ⟨r, h1, h2⟩, ho, hc => by
    have hL : ∀ c ∈ L, ∀ i ∈ c, iOk i := fun d hd => ho d (List.mem_cons_of_mem _ hd)
    refine car_sh h2 (ho c List.mem_cons_self) (fun i hi => ?_) (hc c List.mem_cons_self) (car_il h1 hL fun d hd => hc d (List.mem_cons_of_mem _ hd))
    obtain ⟨d, d1, d2⟩ := List.mem_flatten.1 ((il_perm h1).mem_iff.1 hi)
    exact hL d d1 i d2
theorem sh_swap {a r row : List I3} (h : Sh a r row) : ∀ {c r' : List I3}, Sh c r' r → ∃ q, Sh a r' q ∧ Sh c q row := by
  induction h with
  | nil =>
    intro c r' k
    cases k
    exact ⟨[], .nil, .nil⟩
  | lft a b r i h ih =>
    intro c r' k
    obtain ⟨q, q1, q2⟩ := ih k
    exact ⟨i :: q, .lft _ _ _ i q1, .rgt _ _ _ i q2⟩
  | rgt a b r i h ih =>
    intro c r' k
    cases k with
    | lft c' b' x i' k =>
      obtain ⟨q, q1, q2⟩ := ih k
      exact ⟨q, q1, .lft _ _ _ i q2⟩
    | rgt c' b' x i' k =>
      obtain ⟨q, q1, q2⟩ := ih k
      exact ⟨i :: q, .rgt _ _ _ i q1, .rgt _ _ _ i q2⟩
theorem il_mid {c : List I3} {B : List (List I3)} : ∀ {A : List (List I3)} {row : List I3}, Il (A ++ c :: B) row ↔ Il (c :: (A ++ B)) row
  | [], _ => Iff.rfl
  | a :: A, row => by
    constructor
    · rintro ⟨r, h1, h2⟩
      obtain ⟨r', k1, k2⟩ := il_mid.1 h1
      obtain ⟨q, q1, q2⟩ := sh_swap h2 k2
      exact ⟨q, ⟨r', k1, q1⟩, q2⟩
    · rintro ⟨q, ⟨r', k1, q1⟩, q2⟩
      obtain ⟨r, s1, s2⟩ := sh_swap q2 q1
      exact ⟨r, il_mid.2 ⟨r', k1, s1⟩, s2⟩
/-- the first part with the least ratio moved to the front -/
theorem chain_move {X W r row : List I3} (h : Sh (X ++ W) r row) (hX : ∀ i ∈ X, iOk i) (hW : ∀ i ∈ W, iOk i) (hr : ∀ i ∈ r, iOk i) (hne : X ≠ []) (cX : Car (gD X) (gE X) 0 1 X) (cr : Car (gD X) (gE X) 0 1 r) :
    ∃ V, Sh W r V ∧ gD (X ++ V) ≤ gD row ∧ gM (X ++ V) = gM row := by
  obtain ⟨Y, R, Z, V, rfl, rfl, s1, s2⟩ := sh_cut h X W rfl
  refine ⟨Y ++ V, sh_skip s2 Y, ?_, ?_⟩
  · have f := sh_f s1 hX (fun i hi => hr i (List.mem_append_left _ hi)) cX (fun P Q e => cr P (Q ++ R) (by rw [e, List.append_assoc]))
    have ya := gE_pos hX hne
    have e0 : gf (gD X) (gE X) X = 0 := by unfold gf; rw [Int.mul_comm]; omega
    have e1 : gf (gD X) (gE X) (X ++ Y) = gS X * gf (gD X) (gE X) Y := by rw [gf_app, e0]; simp
    rw [← e1] at f
    have pm := s1.perm
    have eE : gE Z = gE (X ++ Y) := by unfold gE; rw [gM_perm pm, gS_perm pm]
    unfold gf at f
    rw [eE] at f
    have le : gD (X ++ Y) ≤ gD Z := Int.le_of_mul_le_mul_left (a := gE X) (by omega) ya
    rw [← List.append_assoc, gD_app (X ++ Y) V, gD_app Z V, gS_perm pm]
    have okV : ∀ i ∈ V, iOk i := fun i hi => (List.mem_append.1 (s2.perm.mem_iff.1 hi)).elim (hW i) fun q => hr i (List.mem_append_right _ q)
    have := Int.mul_le_mul_of_nonneg_right le (Int.le_of_lt (gM_pos okV))
    omega
  · rw [← List.append_assoc, gM_app (X ++ Y) V, gM_app Z V, gM_perm s1.perm]
/-- again and again the first part with the least ratio -/
inductive Gr : List (List I3) → List I3 → Prop
  | nil (L : List (List I3)) (h : ∀ c ∈ L, c = []) : Gr L []
  | step (A B : List (List I3)) (X W row : List I3) (hne : X ≠ []) (hl : ∀ c ∈ A ++ (X ++ W) :: B, ∀ P Q, c = P ++ Q → gD X * gE P ≤ gD P * gE X) (h : Gr (A ++ W :: B) row) : Gr (A ++ (X ++ W) :: B) (X ++ row)
theorem gr_perm {L : List (List I3)} {g : List I3} (h : Gr L g) : g.Perm L.flatten := by
  induction h with
  | nil L h =>
    have : L.flatten = [] := by rw [List.flatten_eq_nil_iff]; exact h
    rw [this]
  | step A B X W row hne hl h ih =>
    rw [List.flatten_append, List.flatten_cons] at ih ⊢
    refine (ih.append_left X).trans ?_
    rw [← List.append_assoc, ← List.append_assoc A.flatten, ← List.append_assoc A.flatten]
    have p : (X ++ A.flatten ++ (W ++ B.flatten)).Perm (A.flatten ++ X ++ (W ++ B.flatten)) := List.perm_append_comm.append_right _
    simpa [List.append_assoc] using p
/-- no order that keeps the chains costs less -/
theorem gr_best {L : List (List I3)} {g : List I3} (h : Gr L g) : (∀ c ∈ L, ∀ i ∈ c, iOk i) → ∀ row, Il L row → gD g ≤ gD row := by
  induction h with
  | nil L h =>
    intro _ row hr
    have p := il_perm hr
    have : L.flatten = [] := by rw [List.flatten_eq_nil_iff]; exact h
    rw [this] at p
    rw [p.eq_nil]
    exact Int.le_refl _
  | step A B X W g hne hl h ih =>
    intro ok row hr
    have okc := ok (X ++ W) (by simp)
    have hX : ∀ i ∈ X, iOk i := fun i hi => okc i (List.mem_append_left _ hi)
    have hW : ∀ i ∈ W, iOk i := fun i hi => okc i (List.mem_append_right _ hi)
    have car : ∀ c ∈ A ++ (X ++ W) :: B, Car (gD X) (gE X) 0 1 c := fun c hc P Q e => by
      have := hl c hc P Q e
      unfold gf
      rw [Int.mul_comm (gE X) (gD P)]
      omega
    obtain ⟨r, r1, r2⟩ := il_mid.1 hr
    have sub : ∀ c ∈ A ++ B, c ∈ A ++ (X ++ W) :: B := fun c hc => by
      rcases List.mem_append.1 hc with q | q
      · exact List.mem_append_left _ q
      · exact List.mem_append_right _ (List.mem_cons_of_mem _ q)
    have okr : ∀ i ∈ r, iOk i := fun i hi => by
      obtain ⟨d, d1, d2⟩ := List.mem_flatten.1 ((il_perm r1).mem_iff.1 hi)
      exact ok d (sub d d1) i d2
    have cr := car_il r1 (fun c hc => ok c (sub c hc)) fun c hc => car c (sub c hc)
    have cX : Car (gD X) (gE X) 0 1 X := fun P Q e => car (X ++ W) (by simp) P (Q ++ W) (by rw [← List.append_assoc, ← e])
    obtain ⟨V, v1, v2, v3⟩ := chain_move r2 hX hW okr hne cX cr
    have hV : Il (A ++ W :: B) V := il_mid.2 ⟨r, r1, v1⟩
    have I := ih (fun c hc i hi => by
      rcases List.mem_append.1 hc with q | q
      · exact ok c (List.mem_append_left _ q) i hi
      · rcases List.mem_cons.1 q with q | q
        · exact hW i (q ▸ hi)
        · exact ok c (List.mem_append_right _ (List.mem_cons_of_mem _ q)) i hi) V hV
    have pm : g.Perm V := (gr_perm h).trans (il_perm hV).symm
    rw [gD_app] at v2 ⊢
    rw [gM_perm pm]
    have := Int.mul_le_mul_of_nonneg_left I (gS_bd hX).1
    omega
end
section
/-- rows that keep chains, one by one -/
inductive Wk : List (List Nat) → List Nat → Prop
  | nil (L : List (List Nat)) (h : ∀ c ∈ L, c = []) : Wk L []
  | step (A B : List (List Nat)) (k : Nat) (c row : List Nat) (h : Wk (A ++ c :: B) row) : Wk (A ++ (k :: c) :: B) (k :: row)
theorem wk_perm {L : List (List Nat)} {row : List Nat} (h : Wk L row) : row.Perm L.flatten := by
  induction h with
  | nil L h =>
    have : L.flatten = [] := by rw [List.flatten_eq_nil_iff]; exact h
    rw [this]
  | step A B k c row h ih =>
    rw [List.flatten_append, List.flatten_cons] at ih ⊢
    exact (ih.cons k).trans (by
      have p := (List.perm_middle (a := k) (l₁ := A.flatten) (l₂ := c ++ B.flatten)).symm
      simpa using p)
theorem sh_lefts {L : List (List I3)} : ∀ {row : List I3} {A B : List (List I3)} {x : I3} {c : List I3}, Il (A ++ c :: B) row → Il (A ++ (x :: c) :: B) (x :: row) := by
  intro row A B x c h
  obtain ⟨r, h1, h2⟩ := il_mid.1 h
  exact il_mid.2 ⟨r, h1, .lft _ _ _ x h2⟩
theorem wk_il (f : Nat → I3) {L : List (List Nat)} {row : List Nat} (h : Wk L row) : Il (L.map (List.map f)) (row.map f) := by
  induction h with
  | nil L h =>
    have key : ∀ L : List (List Nat), (∀ c ∈ L, c = []) → Il (L.map (List.map f)) [] := fun L => by
      induction L with
      | nil => intro _; exact rfl
      | cons c L ih =>
        intro h
        have e := h c List.mem_cons_self
        subst e
        exact ⟨[], ih fun d hd => h d (List.mem_cons_of_mem _ hd), .nil⟩
    exact key L h
  | step A B k c row h ih =>
    rw [List.map_append, List.map_cons] at ih ⊢
    exact sh_lefts (L := []) ih
theorem wk_sub {L : List (List Nat)} {row : List Nat} (h : Wk L row) : ∀ c ∈ L, c.Sublist row := by
  induction h with
  | nil L h => intro c hc; rw [h c hc]; exact List.Sublist.refl _
  | step A B k c row h ih =>
    intro d hd
    rcases List.mem_append.1 hd with q | q
    · exact (ih d (List.mem_append_left _ q)).cons k
    · rcases List.mem_cons.1 q with q | q
      · subst q; exact (ih c (List.mem_append_right _ List.mem_cons_self)).cons_cons k
      · exact (ih d (List.mem_append_right _ (List.mem_cons_of_mem _ q))).cons k
theorem wk_one {c row : List Nat} (h : Wk [c] row) : row = c := by
  have s := wk_sub h c List.mem_cons_self
  have p := (wk_perm h).length_eq
  simp at p
  exact (s.eq_of_length p.symm).symm
/-- a chain cut in two is kept as well -/
theorem wk_split {L : List (List Nat)} {row : List Nat} (h : Wk L row) : ∀ (A : List (List Nat)) (x y : List Nat) (B : List (List Nat)), L = A ++ (x ++ y) :: B → Wk (A ++ x :: y :: B) row := by
  induction h with
  | nil L h =>
    intro A x y B e
    subst e
    have e := h (x ++ y) (by simp)
    obtain ⟨rfl, rfl⟩ := List.append_eq_nil_iff.1 e
    refine .nil _ fun c hc => ?_
    rcases List.mem_append.1 hc with q | q
    · exact h c (List.mem_append_left _ q)
    · rcases List.mem_cons.1 q with q | q
      · exact q
      · rcases List.mem_cons.1 q with q | q
        · exact q
        · exact h c (List.mem_append_right _ (List.mem_cons_of_mem _ q))
  | step A' B' k c row h ih =>
    intro A x y B e
    rcases List.append_eq_append_iff.1 e with ⟨D, e1, e2⟩ | ⟨D, e1, e2⟩
    · cases D with
      | nil =>
        simp only [List.append_nil, List.nil_append] at e1 e2
        injection e2 with e2 e3
        subst e1; subst e3
        cases x with
        | nil =>
          simp only [List.nil_append] at e2
          subst e2
          have := ih A [] c B' rfl
          have e4 : A ++ [] :: (k :: c) :: B' = (A ++ [[]]) ++ (k :: c) :: B' := by simp
          have e5 : A ++ [] :: c :: B' = (A ++ [[]]) ++ c :: B' := by simp
          rw [e4]; rw [e5] at this
          exact .step _ _ _ _ _ this
        | cons k' x =>
          rw [List.cons_append] at e2
          injection e2 with e2 e4
          subst e2; subst e4
          exact .step _ _ _ _ _ (ih A x y B' rfl)
      | cons d D =>
        rw [List.cons_append] at e2
        injection e2 with e2 e3
        subst e2; subst e1; subst e3
        have := ih (A' ++ c :: D) x y B (by simp)
        have e4 : A' ++ (k :: c) :: D ++ x :: y :: B = A' ++ (k :: c) :: (D ++ x :: y :: B) := by simp
        have e5 : A' ++ c :: D ++ x :: y :: B = A' ++ c :: (D ++ x :: y :: B) := by simp
        rw [e4]; rw [e5] at this
        exact .step _ _ _ _ _ this
    · cases D with
      | nil =>
        simp only [List.append_nil, List.nil_append] at e1 e2
        injection e2 with e2 e3
        subst e1; subst e3
        cases x with
        | nil =>
          simp only [List.nil_append] at e2
          subst e2
          have := ih A' [] c B rfl
          have e4 : A' ++ [] :: (k :: c) :: B = (A' ++ [[]]) ++ (k :: c) :: B := by simp
          have e5 : A' ++ [] :: c :: B = (A' ++ [[]]) ++ c :: B := by simp
          rw [e4]; rw [e5] at this
          exact .step _ _ _ _ _ this
        | cons k' x =>
          rw [List.cons_append] at e2
          injection e2 with e2 e4
          subst e2; subst e4
          exact .step _ _ _ _ _ (ih A' x y B rfl)
      | cons d D =>
        rw [List.cons_append] at e2
        injection e2 with e2 e3
        subst e2; subst e1; subst e3
        have := ih A x y (D ++ c :: B') (by simp)
        have e4 : A ++ x :: y :: (D ++ (k :: c) :: B') = (A ++ x :: y :: D) ++ (k :: c) :: B' := by simp
        have e5 : A ++ x :: y :: (D ++ c :: B') = (A ++ x :: y :: D) ++ c :: B' := by simp
        rw [e4]; rw [e5] at this
        exact .step _ _ _ _ _ this
/-- a test in the row of all -/
def itC (us : List T) (k : Nat) : I3 := (6 * cA us k, 6 - pA us k, 6)
theorem itC_M (us : List T) (l : List Nat) : gM (l.map (itC us)) = 6 ^ l.length := by
  induction l with
  | nil => rfl
  | cons a r ih => simp only [List.map_cons, gM, List.length_cons]; rw [ih, Int.pow_succ, Int.mul_comm]; rfl
theorem itC_ok {us : List T} (h : us.all tOk = true) {l : List Nat} (hl : ∀ x ∈ l, x < us.length) : ∀ x ∈ l.map (itC us), iOk x := fun x hx => by
  obtain ⟨k, hk, rfl⟩ := List.mem_map.1 hx
  have := pA_bd h (hl k hk)
  have := cA_nn h k
  unfold itC iOk
  simp only
  omega
theorem rA_gC (us : List T) : ∀ (l : List Int) (on : Int), rA us 0 on l = on * gD ((l.map Int.toNat).map (itC us))
  | [], on => by simp [rA, gD]
  | a :: r, on => by
    simp only [rA, List.map_cons, gD]
    rw [rA_gC us r, itC_M, List.length_map, Int.pow_succ]
    have e1 : (itC us a.toNat).1 = 6 * cA us a.toNat := rfl
    have e2 : (itC us a.toNat).2.2 - (itC us a.toNat).2.1 = 6 - (6 - pA us a.toNat) := rfl
    have e3 : eA us 0 a.toNat = 6 - pA us a.toNat := by unfold eA pA; rfl
    rw [e1, e2, e3]
    grind
theorem rA_row (us : List T) (l : List Nat) : rA us 0 1 (ni l) = gD (l.map (itC us)) := by
  rw [rA_gC, ni_toNat, Int.one_mul]
def mnO (f : Nat → Option Int) : Nat → Int
  | 0 => -1
  | i + 1 => match f i with
    | none => mnO f i
    | some n => if mnO f i < 0 ∨ n < mnO f i then n else mnO f i
theorem mnO_spec {f : Nat → Option Int} (h0 : ∀ i n, f i = some n → 0 ≤ n) : ∀ m, (mnO f m = -1 ∧ ∀ i, i < m → f i = none) ∨ (0 ≤ mnO f m ∧ (∃ i, i < m ∧ f i = some (mnO f m)) ∧ ∀ i n, i < m → f i = some n → mnO f m ≤ n)
  | 0 => .inl ⟨rfl, fun i hi => absurd hi (by omega)⟩
  | m + 1 => by
    have ih := mnO_spec h0 m
    simp only [mnO]
    cases hf : f m with
    | none =>
      simp only
      rcases ih with ⟨a, b⟩ | ⟨a, ⟨i, i1, i2⟩, c⟩
      · refine .inl ⟨a, fun i hi => ?_⟩
        by_cases e : i = m
        · rw [e, hf]
        · exact b i (by omega)
      · refine .inr ⟨a, ⟨i, by omega, i2⟩, fun j n hj hn => ?_⟩
        by_cases e : j = m
        · rw [e, hf] at hn; cases hn
        · exact c j n (by omega) hn
    | some n =>
      simp only
      have n0 := h0 m n hf
      rcases ih with ⟨a, b⟩ | ⟨a, ⟨i, i1, i2⟩, c⟩
      · rw [if_pos (.inl (by omega))]
        refine .inr ⟨n0, ⟨m, by omega, hf⟩, fun j n' hj hn => ?_⟩
        by_cases e : j = m
        · rw [e, hf] at hn; injection hn with hn; omega
        · rw [b j (by omega)] at hn; cases hn
      · by_cases d : n < mnO f m
        · rw [if_pos (.inr d)]
          refine .inr ⟨n0, ⟨m, by omega, hf⟩, fun j n' hj hn => ?_⟩
          by_cases e : j = m
          · rw [e, hf] at hn; injection hn with hn; omega
          · have := c j n' (by omega) hn; omega
        · rw [if_neg (fun q => q.elim (fun q => by omega) d)]
          refine .inr ⟨a, ⟨i, by omega, i2⟩, fun j n' hj hn => ?_⟩
          by_cases e : j = m
          · rw [e, hf] at hn; injection hn with hn; omega
          · exact c j n' (by omega) hn
def sC (us : List T) : Nat → List (List Nat) → List Nat → Int
  | 0, _, p => rA us 0 1 (ni p)
  | f + 1, L, p => mnO (fun i => match L.getD i [] with
    | [] => none
    | k :: c => some (sC us f (L.set i c) (p ++ [k]))) L.length
theorem rA_nn {us : List T} (h : us.all tOk = true) {l : List Nat} (hl : ∀ x ∈ l, x < us.length) : 0 ≤ rA us 0 1 (ni l) := by
  rw [rA_row]
  have ok := itC_ok h hl
  revert ok
  generalize l.map (itC us) = L
  intro ok
  induction L with
  | nil => simp [gD]
  | cons x r ih =>
    obtain ⟨h1, h2, h3⟩ := ok x List.mem_cons_self
    have hr : ∀ y ∈ r, iOk y := fun y hy => ok y (List.mem_cons_of_mem _ hy)
    have := gM_pos hr
    simp only [gD]
    have a := Int.mul_nonneg h1 (Int.le_of_lt this)
    have b := Int.mul_nonneg (show 0 ≤ x.2.2 - x.2.1 by omega) (ih hr)
    omega
theorem set_mid {L : List (List Nat)} {i k : Nat} {c : List Nat} (h : L.getD i [] = k :: c) : ∃ A B, L = A ++ (k :: c) :: B ∧ L.set i c = A ++ c :: B ∧ i < L.length := by
  have hi : i < L.length := by
    by_cases q : i < L.length
    · exact q
    · rw [List.getD_eq_getElem?_getD, List.getElem?_eq_none (by omega)] at h
      cases h
  have e : L[i] = k :: c := by
    rw [List.getD_eq_getElem?_getD, List.getElem?_eq_getElem hi] at h
    exact h
  refine ⟨L.take i, L.drop (i + 1), ?_, ?_, hi⟩
  · rw [← e, List.getElem_cons_drop, List.take_append_drop]
  · rw [List.set_eq_take_append_cons_drop, if_pos hi]
theorem midS_set {A B : List (List Nat)} {k : Nat} {c : List Nat} : (A ++ (k :: c) :: B).getD A.length [] = k :: c ∧ (A ++ (k :: c) :: B).set A.length c = A ++ c :: B := by
  constructor
  · rw [List.getD_eq_getElem?_getD]; simp
  · simp
theorem sC_nn {us : List T} (h : us.all tOk = true) : ∀ (f : Nat) (L : List (List Nat)) (p : List Nat), (∀ x ∈ p, x < us.length) → (∀ c ∈ L, ∀ x ∈ c, x < us.length) → L.flatten.length = f → (0 ≤ sC us f L p ∧ ∃ row, Wk L row ∧ sC us f L p = rA us 0 1 (ni (p ++ row))) ∧ ∀ row, Wk L row → sC us f L p ≤ rA us 0 1 (ni (p ++ row))
  | 0, L, p, hp, hL, hf => by
    have e : L.flatten = [] := List.length_eq_zero_iff.1 hf
    have hn := List.flatten_eq_nil_iff.1 e
    refine ⟨⟨rA_nn h hp, [], .nil L hn, by rw [List.append_nil]; rfl⟩, fun row hr => ?_⟩
    have := wk_perm hr
    rw [e] at this
    rw [this.eq_nil, List.append_nil]
    exact Int.le_refl _
  | f + 1, L, p, hp, hL, hf => by
    have step : ∀ i k c, L.getD i [] = k :: c → (∀ x ∈ p ++ [k], x < us.length) ∧ (∀ d ∈ L.set i c, ∀ x ∈ d, x < us.length) ∧ (L.set i c).flatten.length = f := fun i k c hc => by
      obtain ⟨A, B, e1, e2, hi⟩ := set_mid hc
      have hk : k < us.length := hL (k :: c) (by rw [e1]; simp) k List.mem_cons_self
      refine ⟨fun x hx => ?_, fun d hd x hx => ?_, ?_⟩
      · rcases List.mem_append.1 hx with q | q
        · exact hp x q
        · rw [List.mem_singleton.1 q]; exact hk
      · rw [e2] at hd
        rcases List.mem_append.1 hd with q | q
        · exact hL d (by rw [e1]; exact List.mem_append_left _ q) x hx
        · rcases List.mem_cons.1 q with q | q
          · exact hL (k :: c) (by rw [e1]; simp) x (List.mem_cons_of_mem _ (q ▸ hx))
          · exact hL d (by rw [e1]; exact List.mem_append_right _ (List.mem_cons_of_mem _ q)) x hx
      · rw [e2]
        rw [e1] at hf
        simp at hf ⊢
        omega
    have val : ∀ i n, (match L.getD i [] with | [] => none | k :: c => some (sC us f (L.set i c) (p ++ [k]))) = some n → ∃ k c, L.getD i [] = k :: c ∧ n = sC us f (L.set i c) (p ++ [k]) := fun i n hn => by
      cases hc : L.getD i [] with
      | nil => rw [hc] at hn; cases hn
      | cons k c => rw [hc] at hn; injection hn with hn; exact ⟨k, c, rfl, hn.symm⟩
    have M := mnO_spec (f := fun i => match L.getD i [] with | [] => none | k :: c => some (sC us f (L.set i c) (p ++ [k]))) (fun i n hn => by
      obtain ⟨k, c, hc, rfl⟩ := val i n hn
      obtain ⟨s1, s2, s3⟩ := step i k c hc
      exact (sC_nn h f _ _ s1 s2 s3).1.1) L.length
    simp only [sC]
    rcases M with ⟨_, b⟩ | ⟨a, ⟨i, i1, i2⟩, c⟩
    · exfalso
      have : L.flatten = [] := by
        rw [List.flatten_eq_nil_iff]
        intro d hd
        obtain ⟨i, hi, rfl⟩ := List.getElem_of_mem hd
        have := b i hi
        have e : L.getD i [] = L[i] := by rw [List.getD_eq_getElem?_getD, List.getElem?_eq_getElem hi]; rfl
        rw [e] at this
        cases hc : L[i] with
        | nil => rfl
        | cons k c => rw [hc] at this; cases this
      rw [this] at hf
      cases hf
    · refine ⟨⟨a, ?_⟩, fun row hr => ?_⟩
      · obtain ⟨k, d, hc, e⟩ := val i _ i2
        obtain ⟨s1, s2, s3⟩ := step i k d hc
        obtain ⟨_, row, r1, r2⟩ := (sC_nn h f _ _ s1 s2 s3).1
        obtain ⟨A, B, e1, e2, hi⟩ := set_mid hc
        refine ⟨k :: row, ?_, ?_⟩
        · rw [e1]
          rw [e2] at r1
          exact .step _ _ _ _ _ r1
        · rw [e, r2, List.append_assoc]; rfl
      · cases hr with
        | nil L h =>
          have : L.flatten = [] := by rw [List.flatten_eq_nil_iff]; exact h
          rw [this] at hf; cases hf
        | step A B k d row hr =>
          obtain ⟨g1, g2⟩ := midS_set (A := A) (B := B) (k := k) (c := d)
          have lt : A.length < (A ++ (k :: d) :: B).length := by simp
          obtain ⟨s1, s2, s3⟩ := step A.length k d g1
          have := c A.length (sC us f ((A ++ (k :: d) :: B).set A.length d) (p ++ [k])) lt (by simp only [g1])
          have q := (sC_nn h f _ _ s1 s2 s3).2 row (by rw [g2]; exact hr)
          rw [List.append_assoc] at q
          exact Int.le_trans this q
end
section
def c9 (us : List T) (l : List Nat) : Int := gD (l.map (itC us))
def e9 (us : List T) (l : List Nat) : Int := gE (l.map (itC us))
abbrev LN := List (List Nat)
def fp (L : LN) (i n : Nat) : List Nat := (L.getD i []).take n
/-- one more first part: the one so far stays unless this one's ratio is less -/
def cnd (us : List T) (L : LN) (st : Option (Nat × Nat)) (i n : Nat) : Option (Nat × Nat) := match st with
  | none => some (i, n)
  | some (a, b) => if c9 us (fp L i n) * e9 us (fp L a b) < c9 us (fp L a b) * e9 us (fp L i n) then some (i, n) else some (a, b)
def cndN (us : List T) (L : LN) (i : Nat) (st : Option (Nat × Nat)) : Nat → Option (Nat × Nat)
  | 0 => st
  | n + 1 => cnd us L (cndN us L i st n) i (n + 1)
def cndI (us : List T) (L : LN) : Nat → Option (Nat × Nat)
  | 0 => none
  | i + 1 => cndN us L i (cndI us L i) (L.getD i []).length
/-- the least of those that were seen -/
def lstOf (us : List T) (L : LN) (seen : Nat → Nat → Prop) (st : Option (Nat × Nat)) : Prop := match st with
  | none => ∀ i n, ¬ seen i n
  | some (a, b) => seen a b ∧ ∀ i n, seen i n → c9 us (fp L a b) * e9 us (fp L i n) ≤ c9 us (fp L i n) * e9 us (fp L a b)
theorem ratio_trans {x1 y1 x2 y2 x3 y3 : Int} (h1 : 0 ≤ x1) (h3 : 0 ≤ x3) (p2 : 0 < y2) (q1 : 0 < y1) (q3 : 0 < y3) (a : x1 * y2 ≤ x2 * y1) (b : x2 * y3 ≤ x3 * y2) : x1 * y3 ≤ x3 * y1 := by
  have m1 := Int.mul_le_mul_of_nonneg_right a (Int.le_of_lt q3)
  have m2 := Int.mul_le_mul_of_nonneg_right b (Int.le_of_lt q1)
  refine Int.le_of_mul_le_mul_right (a := y2) ?_ p2
  have e1 : x1 * y2 * y3 = x1 * y3 * y2 := by grind
  have e2 : x2 * y1 * y3 = x2 * y3 * y1 := by grind
  have e3 : x3 * y2 * y1 = x3 * y1 * y2 := by grind
  omega
/-- chains of tests that are there -/
def LOk (us : List T) (L : LN) : Prop := ∀ c ∈ L, ∀ x ∈ c, x < us.length
theorem fp_mem {L : LN} {i n x : Nat} (h : x ∈ fp L i n) : ∃ c ∈ L, x ∈ c := by
  unfold fp at h
  have h := List.mem_of_mem_take h
  by_cases hi : i < L.length
  · refine ⟨L[i], List.getElem_mem hi, ?_⟩
    rw [List.getD_eq_getElem?_getD, List.getElem?_eq_getElem hi] at h
    exact h
  · rw [List.getD_eq_getElem?_getD, List.getElem?_eq_none (by omega)] at h
    cases h
theorem fp_ok {us : List T} (h : us.all tOk = true) {L : LN} (hL : LOk us L) (i n : Nat) : ∀ x ∈ (fp L i n).map (itC us), iOk x := itC_ok h fun x hx => by
  obtain ⟨c, hc, hxc⟩ := fp_mem hx
  exact hL c hc x hxc
theorem fp_pos {us : List T} (h : us.all tOk = true) {L : LN} (hL : LOk us L) {i n : Nat} (h1 : 1 ≤ n) (hn : n ≤ (L.getD i []).length) : 0 < e9 us (fp L i n) := by
  refine gE_pos (fp_ok h hL i n) fun e => ?_
  have : (fp L i n).length = 0 := by have := congrArg List.length e; simpa using this
  unfold fp at this
  rw [List.length_take] at this
  omega
theorem cnd_lst {us : List T} (h : us.all tOk = true) {L : LN} (hL : LOk us L) {seen : Nat → Nat → Prop} (hs : ∀ i n, seen i n → 1 ≤ n ∧ n ≤ (L.getD i []).length) {st : Option (Nat × Nat)} (H : lstOf us L seen st) {i n : Nat} (h1 : 1 ≤ n) (hn : n ≤ (L.getD i []).length) :
    lstOf us L (fun j k => seen j k ∨ (j = i ∧ k = n)) (cnd us L st i n) := by
  cases st with
  | none =>
    show (seen i n ∨ (i = i ∧ n = n)) ∧ _
    refine ⟨.inr ⟨rfl, rfl⟩, fun j k hk => ?_⟩
    rcases hk with hk | ⟨rfl, rfl⟩
    · exact absurd hk (H j k)
    · exact Int.le_refl _
  | some p =>
    obtain ⟨a, b⟩ := p
    obtain ⟨H1, H2⟩ := H
    obtain ⟨b1, b2⟩ := hs a b H1
    have ea := fp_pos h hL b1 b2
    have en := fp_pos h hL h1 hn
    simp only [cnd]
    by_cases c : c9 us (fp L i n) * e9 us (fp L a b) < c9 us (fp L a b) * e9 us (fp L i n)
    · rw [if_pos c]
      refine ⟨.inr ⟨rfl, rfl⟩, fun j k hk => ?_⟩
      rcases hk with hk | ⟨rfl, rfl⟩
      · obtain ⟨k1, k2⟩ := hs j k hk
        exact ratio_trans (gD_nn (fp_ok h hL i n)) (gD_nn (fp_ok h hL j k)) ea en (fp_pos h hL k1 k2) (Int.le_of_lt c) (H2 j k hk)
      · exact Int.le_refl _
    · rw [if_neg c]
      refine ⟨.inl H1, fun j k hk => ?_⟩
      rcases hk with hk | ⟨rfl, rfl⟩
      · exact H2 j k hk
      · omega
theorem lst_congr {us : List T} {L : LN} {s s' : Nat → Nat → Prop} {st : Option (Nat × Nat)} (h : ∀ i n, s i n ↔ s' i n) (H : lstOf us L s st) : lstOf us L s' st := by
  cases st with
  | none => exact fun i n q => H i n ((h i n).2 q)
  | some p => exact ⟨(h _ _).1 H.1, fun i n q => H.2 i n ((h i n).2 q)⟩
theorem cndN_lst {us : List T} (h : us.all tOk = true) {L : LN} (hL : LOk us L) {seen : Nat → Nat → Prop} (hs : ∀ i n, seen i n → 1 ≤ n ∧ n ≤ (L.getD i []).length) {st : Option (Nat × Nat)} (H : lstOf us L seen st) (i : Nat) : ∀ N, N ≤ (L.getD i []).length →
    lstOf us L (fun j k => seen j k ∨ (j = i ∧ 1 ≤ k ∧ k ≤ N)) (cndN us L i st N)
  | 0, _ => lst_congr (fun j k => ⟨.inl, fun q => q.elim id fun q => by omega⟩) H
  | N + 1, hN => by
    have ih := cndN_lst h hL hs H i N (by omega)
    refine lst_congr (fun j k => ?_) (cnd_lst h hL (fun j k q => q.elim (hs j k) fun q => by obtain ⟨rfl, q1, q2⟩ := q; exact ⟨q1, by omega⟩) ih (show 1 ≤ N + 1 by omega) hN)
    constructor
    · rintro ((q | q) | q)
      · exact .inl q
      · exact .inr ⟨q.1, q.2.1, by omega⟩
      · exact .inr ⟨q.1, by omega, by omega⟩
    · rintro (q | q)
      · exact .inl (.inl q)
      · by_cases e : k = N + 1
        · exact .inr ⟨q.1, e⟩
        · exact .inl (.inr ⟨q.1, q.2.1, by omega⟩)
theorem cndI_lst {us : List T} (h : us.all tOk = true) {L : LN} (hL : LOk us L) : ∀ m, lstOf us L (fun j k => j < m ∧ 1 ≤ k ∧ k ≤ (L.getD j []).length) (cndI us L m)
  | 0 => fun i n q => by omega
  | m + 1 => by
    have ih := cndI_lst h hL m
    refine lst_congr (fun j k => ?_) (cndN_lst h hL (fun j k q => q.2) ih m (L.getD m []).length (Nat.le_refl _))
    constructor
    · rintro (q | ⟨rfl, q⟩)
      · exact ⟨by omega, q.2⟩
      · exact ⟨by omega, q⟩
    · rintro ⟨q1, q2⟩
      by_cases e : j = m
      · subst e; exact .inr ⟨rfl, q2⟩
      · exact .inl ⟨by omega, q2⟩
/-- the order of first parts -/
def chF (us : List T) : Nat → LN → List Nat
  | 0, _ => []
  | f + 1, L => match cndI us L L.length with
    | none => []
    | some (a, b) => fp L a b ++ chF us f (L.set a ((L.getD a []).drop b))
theorem wk_pre {A B : LN} {W row : List Nat} (h : Wk (A ++ W :: B) row) : ∀ X : List Nat, Wk (A ++ (X ++ W) :: B) (X ++ row)
  | [] => h
  | k :: X => .step _ _ _ _ _ (wk_pre h X)
theorem splitN_at {L : LN} {a : Nat} (ha : a < L.length) (b : Nat) : ∃ A B, A.length = a ∧ L = A ++ ((L.getD a []).take b ++ (L.getD a []).drop b) :: B ∧ L.set a ((L.getD a []).drop b) = A ++ (L.getD a []).drop b :: B := by
  have e : L.getD a [] = L[a] := by rw [List.getD_eq_getElem?_getD, List.getElem?_eq_getElem ha]; rfl
  refine ⟨L.take a, L.drop (a + 1), by rw [List.length_take]; omega, ?_, ?_⟩
  · rw [List.take_append_drop, e, List.getElem_cons_drop, List.take_append_drop]
  · rw [List.set_eq_take_append_cons_drop, if_pos ha]
theorem chF_ok {us : List T} (h : us.all tOk = true) : ∀ (f : Nat) (L : LN), LOk us L → L.flatten.length ≤ f → Wk L (chF us f L) ∧ Gr (L.map (List.map (itC us))) ((chF us f L).map (itC us))
  | f, L, hL, hf => by
    have none_of : (∀ i n, ¬ (i < L.length ∧ 1 ≤ n ∧ n ≤ (L.getD i []).length)) → ∀ c ∈ L, c = [] := fun H c hc => by
      obtain ⟨i, hi, rfl⟩ := List.getElem_of_mem hc
      have e : L.getD i [] = L[i] := by rw [List.getD_eq_getElem?_getD, List.getElem?_eq_getElem hi]; rfl
      cases hl : L[i] with
      | nil => rfl
      | cons x r => exact absurd ⟨hi, Nat.le_refl 1, by rw [e, hl]; simp⟩ (H i 1)
    have nil_ok : (∀ c ∈ L, c = []) → Wk L [] ∧ Gr (L.map (List.map (itC us))) (([] : List Nat).map (itC us)) := fun H => ⟨.nil L H, .nil _ fun c hc => by
      obtain ⟨d, hd, rfl⟩ := List.mem_map.1 hc
      rw [H d hd]; rfl⟩
    cases f with
    | zero =>
      refine nil_ok fun c hc => ?_
      have e : L.flatten = [] := List.length_eq_zero_iff.1 (by omega)
      exact List.flatten_eq_nil_iff.1 e c hc
    | succ f =>
      have I := cndI_lst h hL L.length
      simp only [chF]
      cases hc : cndI us L L.length with
      | none =>
        rw [hc] at I
        exact nil_ok (none_of I)
      | some p =>
        obtain ⟨a, b⟩ := p
        rw [hc] at I
        obtain ⟨⟨a1, b1, b2⟩, I2⟩ := I
        obtain ⟨A, B, hA, e1, e2⟩ := splitN_at a1 b
        simp only
        have lt : (L.set a ((L.getD a []).drop b)).flatten.length ≤ f := by
          rw [e2]
          have := hf
          rw [e1] at this
          simp only [List.flatten_append, List.flatten_cons, List.length_append, List.length_take, List.length_drop] at this ⊢
          omega
        have hL2 : LOk us (L.set a ((L.getD a []).drop b)) := by
          rw [e2]
          intro c hc x hx
          rcases List.mem_append.1 hc with q | q
          · refine hL c ?_ x hx
            rw [e1]
            exact List.mem_append_left _ q
          · rcases List.mem_cons.1 q with q | q
            · have hm : L.getD a [] ∈ L := by rw [List.getD_eq_getElem?_getD, List.getElem?_eq_getElem a1]; exact List.getElem_mem a1
              rw [q] at hx
              exact hL _ hm x (List.mem_of_mem_drop hx)
            · refine hL c ?_ x hx
              rw [e1]
              exact List.mem_append_right _ (List.mem_cons_of_mem _ q)
        obtain ⟨w, g⟩ := chF_ok h f _ hL2 lt
        constructor
        · have w' : Wk (A ++ (L.getD a []).drop b :: B) (chF us f (L.set a ((L.getD a []).drop b))) := by rw [← e2]; exact w
          have := wk_pre w' ((L.getD a []).take b)
          rw [← e1] at this
          exact this
        · have g' : Gr (A.map (List.map (itC us)) ++ ((L.getD a []).drop b).map (itC us) :: B.map (List.map (itC us))) ((chF us f (L.set a ((L.getD a []).drop b))).map (itC us)) := by
            rw [show A.map (List.map (itC us)) ++ ((L.getD a []).drop b).map (itC us) :: B.map (List.map (itC us)) = (L.set a ((L.getD a []).drop b)).map (List.map (itC us)) by rw [e2]; simp]
            exact g
          have e1' : L.map (List.map (itC us)) = A.map (List.map (itC us)) ++ (((L.getD a []).take b).map (itC us) ++ ((L.getD a []).drop b).map (itC us)) :: B.map (List.map (itC us)) := by
            have := congrArg (List.map (List.map (itC us))) e1
            rw [this]
            simp
          rw [List.map_append, e1']
          refine .step _ _ _ _ _ (fun q => ?_) (fun c hc P Q e => ?_) g'
          · have := congrArg List.length q
            simp at this
            rcases this with q | q
            · omega
            · rw [List.getD_eq_getElem?_getD] at b2; rw [q] at b2; simp at b2; omega
          · rw [← e1'] at hc
            obtain ⟨d, hd, rfl⟩ := List.mem_map.1 hc
            obtain ⟨i, hi, rfl⟩ := List.getElem_of_mem hd
            have ed : L.getD i [] = L[i] := by rw [List.getD_eq_getElem?_getD, List.getElem?_eq_getElem hi]; rfl
            by_cases z : P = []
            · subst z
              simp [gE, gM, gS, gD]
            · have lP : P.length ≤ L[i].length := by have := congrArg List.length e; simp at this; omega
              have eP : P = (fp L i P.length).map (itC us) := by
                unfold fp
                rw [ed, List.map_take, e]
                simp
              have := I2 i P.length ⟨hi, by have := List.length_pos_iff.2 z; omega, by rw [ed]; exact lP⟩
              unfold c9 e9 at this
              rw [← eP] at this
              exact this
end
section
/-- the least of all orders that keep the chains is the order of first parts -/
theorem sC_chF {us : List T} (h : us.all tOk = true) {L : LN} (hL : LOk us L) : sC us L.flatten.length L [] = gD ((chF us L.flatten.length L).map (itC us)) := by
  obtain ⟨w, g⟩ := chF_ok h L.flatten.length L hL (Nat.le_refl _)
  obtain ⟨⟨_, row, r1, r2⟩, le⟩ := sC_nn h L.flatten.length L [] (fun x hx => by cases hx) hL rfl
  have a := le _ w
  rw [List.nil_append, rA_row] at a
  rw [List.nil_append, rA_row] at r2
  have ok : ∀ c ∈ L.map (List.map (itC us)), ∀ i ∈ c, iOk i := fun c hc i hi => by
    obtain ⟨d, hd, rfl⟩ := List.mem_map.1 hc
    exact itC_ok h (hL d hd) i hi
  have b := gr_best g ok _ (wk_il (itC us) r1)
  omega
end
section
attribute [-simp] DV.cells
attribute [local simp] sliceD cells_st cells_sl cells_i cells_y cells_b cells_s cells_w
attribute [local simp] lend_eR al_eR
/-- how many of a chain are asked -/
def inP (p c : List Nat) : Nat := (p.map fun o => c.count o).sum
def left (C : LN) (p : List Nat) : LN := C.map fun c => c.drop (inP p c)
theorem inP_snoc (p c : List Nat) (k : Nat) : inP (p ++ [k]) c = inP p c + c.count k := by simp [inP]
/-- what was asked is of each chain its beginning -/
structure Beg (m : Nat) (C : LN) (p : List Nat) : Prop where
  le : ∀ c ∈ C, inP p c ≤ c.length
  mem : ∀ c ∈ C, ∀ x ∈ c, x ∈ p → x ∈ c.take (inP p c)
  lt : ∀ x ∈ p, x < m
  nd : p.Nodup
theorem beg_nil (m : Nat) (C : LN) : Beg m C [] := ⟨fun c _ => by simp [inP], fun c _ x _ h => (by cases h), fun x h => (by cases h), List.nodup_nil⟩
theorem left_nil (C : LN) : left C [] = C := by
  unfold left inP
  simp
theorem flat_ge9 : ∀ {C : LN}, (∀ c ∈ C, c ≠ []) → C.length ≤ C.flatten.length
  | [], _ => by simp
  | c :: C, h => by
    have := flat_ge9 (C := C) fun d hd => h d (List.mem_cons_of_mem _ hd)
    have c0 : 0 < c.length := List.length_pos_iff.2 (h c List.mem_cons_self)
    simp only [List.length_cons, List.flatten_cons, List.length_append]
    omega
theorem gok_apart {m : Nat} {C : LN} (G : Gok m C) {i j k : Nat} (hi : i < C.length) (hj : j < C.length) (e : i ≠ j) (h1 : k ∈ C[i]) : k ∉ C[j] := by
  intro h2
  have P := (List.pairwise_flatten.1 G.nd).2
  have P := List.pairwise_iff_getElem.1 P
  rcases Nat.lt_or_gt_of_ne e with q | q
  · exact P i j hi hj q k h1 k h2 rfl
  · exact P j i hj hi q k h2 k h1 rfl
theorem gok_nd {m : Nat} {C : LN} (G : Gok m C) {c : List Nat} (hc : c ∈ C) : c.Nodup := (List.pairwise_flatten.1 G.nd).1 c hc
theorem left_at {C : LN} {p : List Nat} {i : Nat} (hi : i < C.length) : (left C p).getD i [] = C[i].drop (inP p C[i]) := by
  unfold left
  rw [List.getD_eq_getElem?_getD, List.getElem?_map, List.getElem?_eq_getElem hi]
  rfl
theorem beg_step {m : Nat} {C : LN} (G : Gok m C) {p : List Nat} (B : Beg m C p) {i k : Nat} (hi : i < C.length) (hk : C[i][inP p C[i]]? = some k) : Beg m C (p ++ [k]) ∧ left C (p ++ [k]) = (left C p).set i (C[i].drop (inP p C[i] + 1)) := by
  have nd := gok_nd G (List.getElem_mem hi)
  have hkm : k ∈ C[i] := List.mem_of_getElem? hk
  have c1 : C[i].count k = 1 := nd.count.trans (if_pos hkm)
  have c0 : ∀ j (hj : j < C.length), j ≠ i → C[j].count k = 0 := fun j hj e => List.count_eq_zero.2 (gok_apart G hi hj (Ne.symm e) hkm)
  have al := (List.getElem?_eq_some_iff.1 hk).1
  have ak := (List.getElem?_eq_some_iff.1 hk).2
  have hkp : k ∉ p := fun q => by
    have := B.mem _ (List.getElem_mem hi) k hkm q
    obtain ⟨j, hj, e⟩ := List.mem_take_iff_getElem.1 this
    exact List.pairwise_iff_getElem.1 nd j (inP p C[i]) (by omega) al (by omega) (e.trans ak.symm)
  refine ⟨⟨fun c hc => ?_, fun c hc x hx hp => ?_, fun x hx => ?_, ?_⟩, ?_⟩
  · obtain ⟨j, hj, rfl⟩ := List.getElem_of_mem hc
    rw [inP_snoc]
    by_cases e : j = i
    · subst e; rw [c1]; omega
    · rw [c0 j hj e]; exact B.le _ hc
  · obtain ⟨j, hj, rfl⟩ := List.getElem_of_mem hc
    rw [inP_snoc]
    by_cases e : j = i
    · subst e
      rw [c1, List.take_add_one, hk]
      rcases List.mem_append.1 hp with q | q
      · exact List.mem_append_left _ (B.mem _ hc x hx q)
      · rw [List.mem_singleton.1 q]; exact List.mem_append_right _ (by simp)
    · rw [c0 j hj e]
      rcases List.mem_append.1 hp with q | q
      · exact B.mem _ hc x hx q
      · rw [List.mem_singleton.1 q] at hx
        exact absurd hx (gok_apart G hi hj (Ne.symm e) hkm)
  · rcases List.mem_append.1 hx with q | q
    · exact B.lt x q
    · rw [List.mem_singleton.1 q]; exact G.lt _ (List.getElem_mem hi) k hkm
  · rw [List.nodup_append]
    refine ⟨B.nd, by simp, fun a ha b hb => ?_⟩
    rw [List.mem_singleton.1 hb]
    exact fun q => hkp (q ▸ ha)
  · apply List.ext_getElem (by simp [left])
    intro j h1 h2
    have hj : j < C.length := by simpa [left] using h1
    rw [List.getElem_set]
    simp only [left, List.getElem_map]
    rw [inP_snoc]
    by_cases e : i = j
    · subst e; rw [if_pos rfl, c1]
    · rw [if_neg e, c0 j hj (Ne.symm e), Nat.add_zero]
def stS1 (us : List T) (C : LN) (p : List Nat) (b : Int) (k a j : Nat) : LS := ⟨[(0, .sl 0 (us.map e2)), (1, .sl 0 ((C.map ni).map eR)), (2, .sl 0 ((ni p).map .i)), (7, .i b), (8, .i k), (9, .i a), (10, .i j)], []⟩
def stS2 (us : List T) (C : LN) (p : List Nat) (b : Int) (k a j i : Nat) : LS := ⟨[(0, .sl 0 (us.map e2)), (1, .sl 0 ((C.map ni).map eR)), (2, .sl 0 ((ni p).map .i)), (7, .i b), (8, .i k), (9, .i a), (10, .i j), (11, .i i)], []⟩
theorem at_C {C : LN} {i : Nat} (hi : i < C.length) : atI ((C.map ni).map eR) (i : Int) = some (.sl 0 ((ni C[i]).map .i)) := at_eR (by rw [List.getElem?_map, List.getElem?_eq_getElem hi]; rfl)
set_option maxHeartbeats 1000000 in
theorem s9_inner {us : List T} {C : LN} {p : List Nat} {b : Int} {k j o : Nat} (hk : k < C.length) (hj : p[j]? = some o) : ∀ (r : List Nat) (i a : Nat), a + r.length ≤ 1000 → i + r.length = C[k].length → C[k].length ≤ 1000 → C[k].drop i = r →
    ex lf F_spec_l9Search_W2 (stS2 us C p b k a j i) = some (.exit 4, stS2 us C p b k (a + r.count o) j C[k].length) := by
  have A := at_C hk
  have hk' : (k : Int) < (C.map ni).length := by simp; omega
  have nl := ni_len C[k]
  have np := ni_len p
  obtain ⟨bo, bn⟩ := at_ni hj
  have hjp : (j : Int) < p.length := by have := (List.getElem?_eq_some_iff.1 hj).1; omega
  intro r
  induction r with
  | nil =>
    intro i a ha hi hc hd
    have e : i = C[k].length := by simpa using hi
    subst e
    rw [w_spec_l9Search_2]
    unfold stS2
    generalize C.map ni = L at *
    simp [F_spec_l9Search_L2, A, hk', nl]
  | cons x r ih =>
    intro i a ha hi hc hd
    obtain ⟨k1, k2, k3⟩ := drop_cons hd
    obtain ⟨xo, xn⟩ := at_ni k2
    have k1' : (i : Int) < C[k].length := by omega
    have w1 := wr_succ (k := i) (by omega)
    have w2 := wr_succ (k := a) (by simp at ha; omega)
    rw [w_spec_l9Search_2]
    by_cases e : x = o
    · subst e
      have I := ih (i + 1) (a + 1) (by simp at ha; omega) (by simp at hi; omega) hc k3
      rw [List.count_cons_self, show a + (r.count x + 1) = a + 1 + r.count x by omega]
      unfold stS2 at *
      generalize C.map ni = L at *
      generalize C[k].length = cl at *
      simp [F_spec_l9Search_L2, A, hk', nl, bo, bn, hjp, np, xo, xn, k1, k1', w1, w2, I, -Int.natCast_add]
    · have I := ih (i + 1) a (by simp at ha; omega) (by simp at hi; omega) hc k3
      have e' : ((x : Int) == (o : Int)) = false := beq_eq_false_iff_ne.2 (by omega)
      rw [List.count_cons_of_ne e]
      unfold stS2 at *
      generalize C.map ni = L at *
      generalize C[k].length = cl at *
      simp [F_spec_l9Search_L2, A, hk', nl, bo, bn, hjp, np, xo, xn, k1, k1', w1, e', e, I, -Int.natCast_add]
set_option maxHeartbeats 1000000 in
theorem s9_outer {us : List T} {C : LN} {p : List Nat} {b : Int} {k : Nat} (hk : k < C.length) (hc : C[k].length ≤ 5) (hp : p.length ≤ 5) :
    ex lf F_spec_l9Search_W1 (stS1 us C p b k 0 0) = some (.exit 2, stS1 us C p b k (inP p C[k]) p.length) := by
  have np := ni_len p
  have e0 : stS1 us C p b k 0 0 = (fun j => stS1 us C p b k (inP (p.take j) C[k]) j) 0 := by simp [inP]
  rw [e0]
  refine loop_count (lf := lf) (L := F_spec_l9Search_L1) p.length (fun j => stS1 us C p b k (inP (p.take j) C[k]) j) (fun j hj => ?_) ?_ (by simp)
  · have hj' : (j : Int) < p.length := by omega
    have hjo : p[j]? = some p[j] := List.getElem?_eq_getElem hj
    have bd : ∀ l : List Nat, l.length ≤ 5 → inP l C[k] ≤ 5 * l.length := fun l => by
      induction l with
      | nil => intro _; simp [inP]
      | cons x r ih =>
        intro h
        have := ih (by simp at h; omega)
        have := List.count_le_length (a := x) (l := C[k])
        simp only [inP, List.map_cons, List.sum_cons, List.length_cons] at *
        omega
    have bj := bd (p.take j) (by rw [List.length_take]; omega)
    rw [List.length_take] at bj
    have I := s9_inner (us := us) (b := b) hk hjo C[k] 0 (inP (p.take j) C[k]) (by omega) (by omega) (by omega) rfl
    have e1 : inP (p.take (j + 1)) C[k] = inP (p.take j) C[k] + C[k].count p[j] := by
      rw [List.take_add_one, hjo]
      exact inP_snoc _ _ _
    have w1 := wr_succ (k := j) (by omega)
    show ex lf F_spec_l9Search_L1 (stS1 us C p b k (inP (p.take j) C[k]) j) = some (.normal, stS1 us C p b k (inP (p.take (j + 1)) C[k]) (j + 1))
    rw [e1]
    unfold stS1
    unfold stS2 at I
    simp only [Int.natCast_zero] at I
    generalize inP (p.take j) C[k] = a at *
    generalize C[k].count p[j] = a2 at *
    generalize C.map ni = L at *
    simp [F_spec_l9Search_L1, hj, hj', np, w1, I, -Int.natCast_add]
  · show ex lf F_spec_l9Search_L1 (stS1 us C p b k (inP (p.take p.length) C[k]) p.length) = _
    rw [List.take_length]
    unfold stS1
    generalize C.map ni = L at *
    simp [F_spec_l9Search_L1, np]
def stS0 (us : List T) (C : LN) (p : List Nat) (b : Int) (k : Nat) : LS := ⟨[(0, .sl 0 (us.map e2)), (1, .sl 0 ((C.map ni).map eR)), (2, .sl 0 ((ni p).map .i)), (7, .i b), (8, .i k)], []⟩
theorem os_ok {m : Nat} (h5 : 1 ≤ m ∧ m ≤ 5) {p : List Nat} (nd : p.Nodup) (lt : ∀ x ∈ p, x < m) (hl : p.length = m) : orOk m (ni p) = true := by
  refine orOk_iff.2 ⟨by omega, by rw [ni_len, hl], orS_nodup.2 ⟨fun o ho => ?_, ?_⟩⟩
  · obtain ⟨x, hx, rfl⟩ := List.mem_map.1 ho
    have := lt x hx
    exact ⟨by omega, by simp⟩
  · unfold ni
    exact List.pairwise_map.2 (nd.imp fun h q => h (Int.ofNat_inj.1 q))
set_option maxHeartbeats 4000000 in
theorem c_spec_l9Search {us : List T} (h : tsOk us = true) {C : LN} (G : Gok us.length C) : ∀ (f : Nat) (p : List Nat), Beg us.length C p → f + p.length = us.length →
    call lf n_spec_l9Search [.sl 0 (us.map e2), .sl 0 ((C.map ni).map eR), .sl 0 ((ni p).map .i)] = some (.i (sC us f (left C p) p), []) := by
  have h' := tsOk_iff.1 h
  have h5 : 1 ≤ us.length ∧ us.length ≤ 5 := by omega
  have gl := gok_len G
  have cl5 : ∀ c ∈ C, c.length ≤ 5 := fun c hc => by
    obtain ⟨A, B, e⟩ := List.append_of_mem hc
    have e2 : C.flatten.length = (A ++ c :: B).flatten.length := by rw [← e]
    rw [List.flatten_append, List.flatten_cons, List.length_append, List.length_append] at e2
    omega
  have cn : C.length ≤ 5 := by
    have := flat_ge9 G.ne
    omega
  intro f
  induction f with
  | zero =>
    intro p B hf
    rw [call_k lf n_spec_l9Search _ (F := F_spec_l9Search) rfl rfl]
    have np := ni_len p
    have hl : p.length = us.length := by omega
    have R := c_spec_RowAverage us (ni p) 0 (by omega) (by omega)
    have e : raOf us (ni p) 0 = rA us 0 1 (ni p) := by
      unfold raOf raOk
      rw [os_ok h5 B.nd B.lt hl, h]
      rfl
    rw [e] at R
    show _ = some (DV.i (rA us 0 1 (ni p)), [])
    generalize C.map ni = L at *
    generalize rA us 0 1 (ni p) = Z at *
    simp [F_spec_l9Search, np, hl, R]
  | succ f ih =>
    intro p B hf
    have np := ni_len p
    have hlp : ¬ p.length = us.length := by omega
    have hlp' : ((p.length : Int) == (us.length : Int)) = false := beq_eq_false_iff_ne.2 (by omega)
    have LP := loop_count (lf := lf) (L := F_spec_l9Search_L0) C.length (fun i => stS0 us C p (mnO (fun i => match (left C p).getD i [] with
      | [] => none
      | k :: c => some (sC us f ((left C p).set i c) (p ++ [k]))) i) i) (x := .exit 0) (R := stS0 us C p (sC us (f + 1) (left C p) p) C.length) (fun i hi => by
        have I := s9_outer (us := us) (p := p) (b := mnO (fun i => match (left C p).getD i [] with
          | [] => none
          | k :: c => some (sC us f ((left C p).set i c) (p ++ [k]))) i) hi (cl5 _ (List.getElem_mem hi)) (by omega)
        have A := at_C hi
        have hi' : (i : Int) < (C.map ni).length := by simp; omega
        have nl := ni_len C[i]
        have w1 := wr_succ (k := i) (by omega)
        have le := B.le _ (List.getElem_mem hi)
        have la := left_at (C := C) (p := p) hi
        show ex lf F_spec_l9Search_L0 (stS0 us C p (mnO (fun i => match (left C p).getD i [] with
          | [] => none
          | k :: c => some (sC us f ((left C p).set i c) (p ++ [k]))) i) i) = some (.normal, stS0 us C p (mnO (fun i => match (left C p).getD i [] with
          | [] => none
          | k :: c => some (sC us f ((left C p).set i c) (p ++ [k]))) (i + 1)) (i + 1))
        simp only [mnO]
        by_cases q : inP p C[i] = C[i].length
        · rw [la, q, List.drop_length]
          simp only
          rw [q] at I
          unfold stS0
          unfold stS1 at I
          simp only [Int.natCast_zero] at I
          generalize mnO _ i = b at *
          generalize C.map ni = L at *
          simp [F_spec_l9Search_L0, hi, hi', A, nl, w1, I, -Int.natCast_add]
        · have lt : inP p C[i] < C[i].length := by omega
          have hk : C[i][inP p C[i]]? = some C[i][inP p C[i]] := List.getElem?_eq_getElem lt
          obtain ⟨B2, e2⟩ := beg_step G B hi hk
          have S := ih (p ++ [C[i][inP p C[i]]]) B2 (by simp; omega)
          rw [e2] at S
          obtain ⟨xo, xn⟩ := at_ni hk
          rw [la, ← List.getElem_cons_drop lt]
          simp only
          have q' : ((inP p C[i] : Int) == (C[i].length : Int)) = false := beq_eq_false_iff_ne.2 (by omega)
          have lt' : (inP p C[i] : Int) < C[i].length := by omega
          rw [ni_app, List.map_append] at S
          have e3 : (ni [C[i][inP p C[i]]]).map DV.i = [.i (C[i][inP p C[i]] : Nat)] := rfl
          rw [e3] at S
          generalize C[i][inP p C[i]] = k at *
          generalize sC us f _ (p ++ [k]) = Z at *
          unfold stS0
          unfold stS1 at I
          simp only [Int.natCast_zero] at I
          generalize mnO _ i = b at *
          generalize C.map ni = L at *
          generalize inP p C[i] = a at *
          have tk : List.take (p.length + 1) ((ni p).map DV.i ++ [.i (k : Int)]) = (ni p).map .i ++ [.i (k : Int)] := List.take_of_length_le (by simp [np])
          have bd : p.length + 1 ≤ bound := by unfold bound; omega
          have bd2 : p.length ≤ bound := by unfold bound; omega
          by_cases c1 : b < 0
          · simp [F_spec_l9Search_L0, hi, hi', A, nl, np, w1, I, q, q', xo, xn, lt, lt', S, bd, bd2, tk, c1, -Int.natCast_add]
          · by_cases c2 : Z < b
            · simp [F_spec_l9Search_L0, hi, hi', A, nl, np, w1, I, q, q', xo, xn, lt, lt', S, bd, bd2, tk, c1, c2, -Int.natCast_add]
            · simp [F_spec_l9Search_L0, hi, hi', A, nl, np, w1, I, q, q', xo, xn, lt, lt', S, bd, bd2, tk, c1, c2, -Int.natCast_add]) (by
        have e : (left C p).length = C.length := by simp [left]
        show ex lf F_spec_l9Search_L0 (stS0 us C p (mnO (fun i => match (left C p).getD i [] with
          | [] => none
          | k :: c => some (sC us f ((left C p).set i c) (p ++ [k]))) C.length) C.length) = _
        have e2 : sC us (f + 1) (left C p) p = mnO (fun i => match (left C p).getD i [] with
          | [] => none
          | k :: c => some (sC us f ((left C p).set i c) (p ++ [k]))) C.length := by rw [← e]; rfl
        rw [e2]
        generalize mnO _ C.length = b at *
        have ll : (C.map ni).length = C.length := by simp
        unfold stS0
        generalize C.map ni = L at *
        simp [F_spec_l9Search_L0, ll]) (by simp)
    rw [call_k lf n_spec_l9Search _ (F := F_spec_l9Search) rfl rfl]
    simp only [mnO, Int.natCast_zero] at LP
    unfold stS0 at LP
    simp only [Int.natCast_zero] at LP
    have wf : F_spec_l9Search_W0 = .loop F_spec_l9Search_L0 := rfl
    rw [← wf] at LP
    generalize sC us (f + 1) (left C p) p = Z at *
    generalize C.map ni = L at *
    simp [F_spec_l9Search, np, hlp, hlp', LP]
end
section
attribute [-simp] DV.cells
attribute [local simp] sliceD cells_st cells_sl cells_i cells_y cells_b cells_s cells_w
attribute [local simp] lend_eR al_eR
def natL (L : List (List Int)) : LN := L.map fun r => r.map Int.toNat
theorem natL_ni (N : LN) : natL (N.map ni) = N := by
  unfold natL
  rw [List.map_map]
  conv => rhs; rw [← List.map_id N]
  apply List.map_congr_left
  intro r _
  exact ni_toNat r
def cbO (us : List T) (L : List (List Int)) : Bool := tsOk us && gokB us.length L
def cbV (us : List T) (L : List (List Int)) : Int := if cbO us L then gD ((chF us us.length (natL L)).map (itC us)) else -1
set_option maxHeartbeats 1000000 in
theorem c_spec_ChainBest (us : List T) (L : List (List Int)) (ha : (us.length : Int) < 1099511627776) (hb : (L.length : Int) < 1099511627776) (hf : (L.flatten.length : Int) < 1099511627776) :
    call lf n_spec_ChainBest [.sl 0 (us.map e2), .sl 0 (L.map eR)] = some (.i (cbV us L), []) := by
  rw [call_k lf n_spec_ChainBest _ (F := F_spec_ChainBest) rfl rfl]
  have C1 := c_spec_TestsOk us ha
  have C2 := c_spec_GroupsOk us.length L hb hf
  unfold cbV cbO
  cases h1 : tsOk us with
  | false => rw [h1] at C1; simp [F_spec_ChainBest, C1]
  | true =>
    rw [h1] at C1
    cases h2 : gokB us.length L with
    | false => rw [h2] at C2; simp [F_spec_ChainBest, C1, C2]
    | true =>
      rw [h2] at C2
      have h' := tsOk_iff.1 h1
      obtain ⟨N, rfl, G⟩ := gok_of (m := us.length) (by omega) h2
      have S := c_spec_l9Search h1 G us.length [] (beg_nil _ _) (by simp)
      rw [left_nil, ← gok_len G, sC_chF h'.2 G.lt, gok_len G] at S
      rw [natL_ni]
      have e0 : (ni []).map DV.i = [] := rfl
      rw [e0] at S
      generalize gD _ = Z at *
      generalize N.map ni = L at *
      simp [F_spec_ChainBest, C1, C2, S]
end
section
attribute [-simp] DV.cells
attribute [local simp] sliceD cells_st cells_sl cells_i cells_y cells_b cells_s cells_w
attribute [local simp] lend_eR al_eR
def coV (us : List T) (L : List (List Int)) : List Nat := if cbO us L then chF us us.length (natL L) else []
end
section
attribute [-simp] DV.cells
attribute [local simp] sliceD cells_st cells_sl cells_i cells_y cells_b cells_s cells_w
attribute [local simp] lend_eR al_eR lend_eN adopt_eN new_eN
theorem c_DrawChainBest {bs : List Nat} (hb : ∀ y ∈ bs, y < 256) (hl : bs.length ≤ 1048576) :
    ∃ (us : List T) (R : List (List Int)), us.length ≤ 5 ∧ R.length ≤ 6 ∧ R.flatten.length ≤ 6 ∧ call lf n_spec_DrawChainBest [.sl 0 (bs.map .y)] = some (.tup [.fr 2 (us.map e2), .fr 1 (R.map eN)], []) := by
  obtain ⟨c1, c2⟩ := take_b hb
  have o := c_open hl
  generalize bs.take 2000 = cs at *
  obtain ⟨us, R, p', u1, q1, q2, q3, q4, G⟩ := c_l20Grouped c1 c2 (p := 0) (by omega) (by omega)
  refine ⟨us, R, u1, q1, q2, ?_⟩
  rw [call_k lf n_spec_DrawChainBest _ (F := F_spec_DrawChainBest) rfl rfl]
  have tk : List.take R.length (R.map eN) = R.map eN := List.take_of_length_le (by simp)
  have tk2 : List.take us.length (us.map e2) = us.map e2 := List.take_of_length_le (by simp)
  simp [F_spec_DrawChainBest, o, G, tk, tk2]
end
section
def gLA (us : List T) (L : LN) (f : Nat) (v : LN → Int) (i : Nat) : Option Int := match L.getD i [] with
  | [] => none
  | k :: c => some (cA us k * 6 ^ (f + 1) + pA us k * v (L.set i c))
def m0 (g : Nat → Option Int) (i : Nat) : Int := if mnO g i < 0 then 0 else mnO g i
def lA (us : List T) : Nat → LN → Int
  | 0, _ => 0
  | f + 1, L => m0 (gLA us L f (lA us f)) L.length
theorem m0_zero (g : Nat → Option Int) : m0 g 0 = 0 := rfl
theorem m0_none {g : Nat → Option Int} {i : Nat} (h : g i = none) : m0 g (i + 1) = m0 g i := by
  unfold m0; simp only [mnO, h]
theorem m0_some {g : Nat → Option Int} (h0 : ∀ i n, g i = some n → 0 < n) {i : Nat} {n : Int} (h : g i = some n) : m0 g (i + 1) = if m0 g i = 0 ∨ n < m0 g i then n else m0 g i := by
  have hn := h0 i n h
  have M := mnO_spec (f := g) (fun j k hk => Int.le_of_lt (h0 j k hk)) i
  unfold m0
  simp only [mnO, h]
  rcases M with ⟨a, _⟩ | ⟨a, ⟨j, _, j2⟩, _⟩
  · rw [a]
    simp
    omega
  · have := h0 j _ j2
    generalize mnO g i = z at *
    by_cases q : n < z
    · rw [show (if z < 0 ∨ n < z then n else z) = n from if_pos (Or.inr q), if_neg (show ¬ n < 0 by omega), if_neg (show ¬ z < 0 by omega), show (if z = 0 ∨ n < z then n else z) = n from if_pos (Or.inr q)]
    · rw [show (if z < 0 ∨ n < z then n else z) = z from if_neg (by omega), if_neg (show ¬ z < 0 by omega), show (if z = 0 ∨ n < z then n else z) = z from if_neg (by omega)]
theorem gD_cons (us : List T) (k : Nat) (row : List Nat) : gD ((k :: row).map (itC us)) = cA us k * 6 ^ (row.length + 1) + pA us k * gD (row.map (itC us)) := by
  simp only [List.map_cons, gD]
  rw [itC_M]
  have e1 : (itC us k).1 = 6 * cA us k := rfl
  have e2 : (itC us k).2.2 - (itC us k).2.1 = 6 - (6 - pA us k) := rfl
  rw [e1, e2, Int.pow_succ]
  grind
theorem lok_set {us : List T} {L : LN} (hL : LOk us L) {i k : Nat} {c : List Nat} (hc : L.getD i [] = k :: c) : k < us.length ∧ LOk us (L.set i c) ∧ (L.set i c).flatten.length + 1 = L.flatten.length := by
  obtain ⟨A, B, e1, e2, hi⟩ := set_mid hc
  have hk : k < us.length := hL (k :: c) (by rw [e1]; simp) k List.mem_cons_self
  refine ⟨hk, fun d hd x hx => ?_, ?_⟩
  · rw [e2] at hd
    rcases List.mem_append.1 hd with q | q
    · exact hL d (by rw [e1]; exact List.mem_append_left _ q) x hx
    · rcases List.mem_cons.1 q with q | q
      · exact hL (k :: c) (by rw [e1]; simp) x (List.mem_cons_of_mem _ (q ▸ hx))
      · exact hL d (by rw [e1]; exact List.mem_append_right _ (List.mem_cons_of_mem _ q)) x hx
  · rw [e2, e1]
    simp
    omega
theorem gLA_val {us : List T} {L : LN} {f : Nat} {v : LN → Int} {i : Nat} {n : Int} (h : gLA us L f v i = some n) : ∃ k c, L.getD i [] = k :: c ∧ n = cA us k * 6 ^ (f + 1) + pA us k * v (L.set i c) := by
  unfold gLA at h
  cases hc : L.getD i [] with
  | nil => rw [hc] at h; cases h
  | cons k c => rw [hc] at h; injection h with h; exact ⟨k, c, rfl, h.symm⟩
theorem p6_pos (n : Nat) : (0 : Int) < 6 ^ n := Int.pow_pos (by decide)
theorem lA_bd {us : List T} (h : us.all tOk = true) : ∀ (f : Nat) (L : LN), LOk us L → L.flatten.length = f → (0 ≤ lA us f L ∧ lA us f L ≤ 9 * f * 6 ^ f) ∧ ∀ i n, (f ≠ 0) → gLA us L (f - 1) (lA us (f - 1)) i = some n → 0 < n
  | 0, L, hL, hf => ⟨by simp [lA], fun i n q => absurd rfl q⟩
  | f + 1, L, hL, hf => by
    have val : ∀ i n, gLA us L f (lA us f) i = some n → 0 < n ∧ n ≤ 9 * (f + 1 : Nat) * 6 ^ (f + 1) := fun i n hn => by
      obtain ⟨k, c, hc, rfl⟩ := gLA_val hn
      obtain ⟨s1, s2, s3⟩ := lok_set hL hc
      obtain ⟨b1, b2⟩ := (lA_bd h f _ s2 (by omega)).1
      have c1 := cA_bd h s1
      have p1 := pA_bd h s1
      have p := p6_pos f
      generalize lA us f (L.set i c) = x at *
      generalize cA us k = q at *
      generalize pA us k = r at *
      rw [Int.pow_succ]
      have e : (9 * ((f + 1 : Nat) : Int) * (6 ^ f * 6)) = 6 * (9 * (f : Int) * 6 ^ f) + 9 * (6 ^ f * 6) := by push_cast; grind
      rw [e]
      have m1 : 0 < q * (6 ^ f * 6) := Int.mul_pos (by omega) (by omega)
      have m2 : q * (6 ^ f * 6) ≤ 9 * (6 ^ f * 6) := Int.mul_le_mul_of_nonneg_right (by omega) (by omega)
      have m3 : 0 ≤ r * x := Int.mul_nonneg (by omega) b1
      have m4 : r * x ≤ 6 * x := Int.mul_le_mul_of_nonneg_right (by omega) b1
      generalize (9 * (f : Int) * 6 ^ f) = w at *
      constructor <;> omega
    have M := mnO_spec (f := gLA us L f (lA us f)) (fun i n hn => Int.le_of_lt (val i n hn).1) L.length
    refine ⟨?_, fun i n _ hn => (val i n hn).1⟩
    simp only [lA, m0]
    have w0 : (0 : Int) ≤ 9 * ((f + 1 : Nat) : Int) * 6 ^ (f + 1) := Int.mul_nonneg (by omega) (Int.le_of_lt (p6_pos _))
    rcases M with ⟨a, _⟩ | ⟨a, ⟨i, i1, i2⟩, _⟩
    · rw [a]
      exact ⟨by decide, w0⟩
    · have := val i _ i2
      rw [if_neg (by omega)]
      exact ⟨a, this.2⟩
theorem lA_le {us : List T} (h : us.all tOk = true) : ∀ (f : Nat) (L : LN), LOk us L → L.flatten.length = f → (∃ row, Wk L row ∧ lA us f L = gD (row.map (itC us))) ∧ ∀ row, Wk L row → lA us f L ≤ gD (row.map (itC us))
  | 0, L, hL, hf => by
    have e : L.flatten = [] := List.length_eq_zero_iff.1 hf
    have hn := List.flatten_eq_nil_iff.1 e
    refine ⟨⟨[], .nil L hn, rfl⟩, fun row hr => ?_⟩
    have := wk_perm hr
    rw [e] at this
    rw [this.eq_nil]
    exact Int.le_refl _
  | f + 1, L, hL, hf => by
    have pos := (lA_bd h (f + 1) L hL hf).2
    have pos' : ∀ i n, gLA us L f (lA us f) i = some n → 0 < n := fun i n hn => pos i n (by omega) hn
    have M := mnO_spec (f := gLA us L f (lA us f)) (fun i n hn => Int.le_of_lt (pos' i n hn)) L.length
    simp only [lA, m0]
    rcases M with ⟨_, b⟩ | ⟨a, ⟨i, i1, i2⟩, c⟩
    · exfalso
      have : L.flatten = [] := by
        rw [List.flatten_eq_nil_iff]
        intro d hd
        obtain ⟨i, hi, rfl⟩ := List.getElem_of_mem hd
        have := b i hi
        have e : L.getD i [] = L[i] := by rw [List.getD_eq_getElem?_getD, List.getElem?_eq_getElem hi]; rfl
        unfold gLA at this
        rw [e] at this
        cases hc : L[i] with
        | nil => rfl
        | cons k c => rw [hc] at this; cases this
      rw [this] at hf
      cases hf
    · have p := pos' i _ i2
      rw [if_neg (by omega)]
      have wl : ∀ row, Wk L row → row.length = f + 1 := fun row hr => by rw [(wk_perm hr).length_eq]; exact hf
      refine ⟨?_, fun row hr => ?_⟩
      · obtain ⟨k, d, hc, e⟩ := gLA_val i2
        obtain ⟨s1, s2, s3⟩ := lok_set hL hc
        obtain ⟨row, r1, r2⟩ := (lA_le h f _ s2 (by omega)).1
        obtain ⟨A, B, e1, e2, hi⟩ := set_mid hc
        have rl : row.length = f := by rw [(wk_perm r1).length_eq]; omega
        refine ⟨k :: row, ?_, ?_⟩
        · rw [e1]
          rw [e2] at r1
          exact .step _ _ _ _ _ r1
        · rw [e, r2, gD_cons, rl]
      · cases hr with
        | nil L h =>
          have : L.flatten = [] := by rw [List.flatten_eq_nil_iff]; exact h
          rw [this] at hf; cases hf
        | step A B k d row hr =>
          obtain ⟨g1, g2⟩ := midS_set (A := A) (B := B) (k := k) (c := d)
          have lt : A.length < (A ++ (k :: d) :: B).length := by simp
          obtain ⟨s1, s2, s3⟩ := lok_set hL g1
          have := c A.length _ lt (by unfold gLA; rw [g1])
          have q := (lA_le h f _ s2 (by omega)).2 row (by rw [g2]; exact hr)
          have rl : row.length = f := by rw [(wk_perm hr).length_eq, ← g2]; omega
          rw [gD_cons, rl]
          have pp := pA_bd h s1
          have m := Int.mul_le_mul_of_nonneg_left q (show 0 ≤ pA us k by omega)
          omega
theorem lA_chF {us : List T} (h : us.all tOk = true) {L : LN} (hL : LOk us L) : lA us L.flatten.length L = gD ((chF us L.flatten.length L).map (itC us)) := by
  obtain ⟨⟨row, r1, r2⟩, le⟩ := lA_le h L.flatten.length L hL rfl
  obtain ⟨⟨_, row2, q1, q2⟩, le2⟩ := sC_nn h L.flatten.length L [] (fun x hx => by cases hx) hL rfl
  have e := sC_chF h hL
  rw [List.nil_append, rA_row] at q2
  have a := le _ q1
  have b := le2 _ r1
  rw [List.nil_append, rA_row] at b
  omega
end
section
attribute [-simp] DV.cells
attribute [local simp] sliceD cells_st cells_sl cells_i cells_y cells_b cells_s cells_w
attribute [local simp] lend_eR al_eR
def eP (p : Nat) (row : List Int) : DV := .sl p (row.map .i)
theorem eP_zero : eP 0 = eR := rfl
theorem adopt_eRP (o : Bool) (L : List (List Int)) : adoptL o (L.map eR) = L.map (eP (adoptP o 0)) := by
  rw [adoptL_map, List.map_map]
  apply List.map_congr_left
  intro r _
  simp [eP, eR, DV.adopt]
theorem cells_eR {L : List (List Int)} : ∀ e ∈ L.map eR, e.cells.length = 1 := fun e he => by
  obtain ⟨r, _, rfl⟩ := List.mem_map.1 he
  rfl
theorem c_cloneR {L : List (List Int)} (hb : L.length ≤ 1000) (hn : L ≠ []) : call lf n_slices_Clone_int_int [.sl 0 (L.map eR)] = some (.fr 1 (L.map eR), []) := by
  rw [call_k lf n_slices_Clone_int_int _ (F := F_slices_Clone_int_int) rfl rfl]
  have bd : L.length ≤ bound := by unfold bound; omega
  have w := cells_eR (L := L)
  have e : (L.map eR).length = L.length := by simp
  have hn' : L.map eR ≠ [] := by simpa using hn
  generalize L.map eR = M at *
  rw [← e] at bd
  simp [F_slices_Clone_int_int, bd, if_pos w, hn']

theorem set_eR (L : LN) (a b : Nat) (ha : a < L.length) : ((L.map ni).map eR).set a (.sl 0 (List.drop b ((ni L[a]).map .i))) = ((L.set a ((L.getD a []).drop b)).map ni).map eR := by
  have e : L.getD a [] = L[a] := by rw [List.getD_eq_getElem?_getD, List.getElem?_eq_getElem ha]; rfl
  rw [e, List.map_set, List.map_set]
  congr 1
  simp [eR, ni, List.map_drop]
set_option maxHeartbeats 1000000 in
theorem c_behindPart {L : LN} (hL : L.length ≤ 5) {a b : Nat} (ha : a < L.length) (hb : b ≤ (L.getD a []).length) (h5 : (L.getD a []).length ≤ 5) :
    call lf n_impl_behindPart [.sl 0 ((L.map ni).map eR), .st [.i a, .i b]] = some (.sl 1 (((L.set a ((L.getD a []).drop b)).map ni).map eR), []) := by
  rw [call_k lf n_impl_behindPart _ (F := F_impl_behindPart) rfl rfl]
  have e : L.getD a [] = L[a] := by rw [List.getD_eq_getElem?_getD, List.getElem?_eq_getElem ha]; rfl
  have C := c_cloneR (L := L.map ni) (by simp; omega) (fun q => by rw [List.map_eq_nil_iff] at q; subst q; simp at ha)
  have A := at_C ha
  have An : atN ((L.map ni).map eR) a = some (.sl 0 ((ni L[a]).map .i)) := by
    simp only [atI, if_pos (Int.natCast_nonneg a), Int.toNat_natCast] at A
    exact A
  have S := set_eR L a b ha
  have ll : ((L.map ni).map eR).length = L.length := by simp
  have ha' : (a : Int) < L.length := by omega
  have nl := ni_len L[a]
  rw [e] at hb h5 S ⊢
  have ao := adopt_eRP true (L.map ni)
  have ap : adoptP true 0 = 0 := rfl
  rw [ap, eP_zero] at ao
  have w := cells_eR (L := L.map ni)
  generalize L[a] = c at *
  have lM : (((L.set a (c.drop b)).map ni).map eR).length = L.length := by simp
  have tk : List.take c.length ((ni c).map DV.i) = (ni c).map .i := List.take_of_length_le (by simp [nl])
  generalize (((L.set a (c.drop b)).map ni).map eR) = M' at *
  have tM : List.take L.length M' = M' := List.take_of_length_le (by omega)
  have aL := al_eR (L.map ni)
  have le := lend_eR (L.map ni)
  generalize (L.map ni).map eR = M at *
  simp [F_impl_behindPart, C, A, An, S, tk, tM, lM, ll, ha, ha', nl, hb, ao, w, aL, le]
def s1 (st : Option (Nat × Nat)) : Prop := ∀ a b, st = some (a, b) → 1 ≤ b
end
end Zz
