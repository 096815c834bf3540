/- What the functions answer, as equations: EB. No conditions. -/
import Derived.Test.YtkeooaonbgablaaDoorEA
set_option linter.unusedSectionVars false
set_option linter.unusedVariables false
set_option linter.unusedSimpArgs false
namespace Zz
open Go.Lg Md

/-! ### terms as trees -/
inductive Tm where
  | tst (a : Nat)
  | neg (x : Tm)
  | and (x y : Tm)
  | or (x y : Tm)
def flt : Tm → List T
  | .tst a => [(0, (a : Int))]
  | .neg x => flt x ++ [(1, 0)]
  | .and x y => flt x ++ flt y ++ [(2, 0)]
  | .or x y => flt x ++ flt y ++ [(3, 0)]
def tb (m : Int) : Tm → Prop
  | .tst a => (a : Int) < m
  | .neg x => tb m x
  | .and x y => tb m x ∧ tb m y
  | .or x y => tb m x ∧ tb m y
def ev (s : Nat) : Tm → Bool
  | .tst a => s.testBit a
  | .neg x => !ev s x
  | .and x y => ev s x && ev s y
  | .or x y => ev s x || ev s y
theorem flt_pos : ∀ x : Tm, 0 < (flt x).length
  | .tst a => by simp [flt]
  | .neg x => by simp [flt]
  | .and x y => by simp [flt]; omega
  | .or x y => by simp [flt]; omega
/-- how many parts a mark takes -/
def taken (k : Int) : Nat := if k = 0 then 0 else if k = 1 then 1 else 2
def stepG {P : Type} (mk : T → List P → P) (st : List P) (t : T) : List P := st.take (st.length - taken t.1) ++ [mk t (st.drop (st.length - taken t.1))]
def valG {P : Type} (mk : T → List P → P) : Tm → P
  | .tst a => mk (0, (a : Int)) []
  | .neg x => mk (1, 0) [valG mk x]
  | .and x y => mk (2, 0) [valG mk x, valG mk y]
  | .or x y => mk (3, 0) [valG mk x, valG mk y]
theorem stepG_0 {P : Type} (mk : T → List P → P) (st : List P) (a : Int) : stepG mk st (0, a) = st ++ [mk (0, a) []] := by
  simp [stepG, taken]
theorem stepG_1 {P : Type} (mk : T → List P → P) (st : List P) (x : P) (a : Int) : stepG mk (st ++ [x]) (1, a) = st ++ [mk (1, a) [x]] := by
  simp [stepG, taken]
theorem stepG_2 {P : Type} (mk : T → List P → P) (st : List P) (x y : P) (k a : Int) (h : k = 2 ∨ k = 3) : stepG mk (st ++ [x, y]) (k, a) = st ++ [mk (k, a) [x, y]] := by
  have e : taken k = 2 := by unfold taken; rw [if_neg (by omega), if_neg (by omega)]
  simp [stepG, e]
theorem last1 {α : Type} {l : List α} (h : 1 ≤ l.length) : ∃ r x, l = r ++ [x] := by
  have := List.dropLast_concat_getLast (l := l) (by intro e; rw [e] at h; simp at h)
  exact ⟨_, _, this.symm⟩
theorem last2 {α : Type} {l : List α} (h : 2 ≤ l.length) : ∃ r x y, l = r ++ [x, y] := by
  obtain ⟨r, y, rfl⟩ := last1 (by omega : 1 ≤ l.length)
  obtain ⟨r', x, rfl⟩ := last1 (by simp at h; omega : 1 ≤ r.length)
  exact ⟨r', x, y, by simp⟩
theorem forest {m : Int} : ∀ {ts : List T} {p q : Int}, runM m p ts = some q → ∀ F : List Tm, (F.length : Int) = p → (∀ x ∈ F, tb m x) →
    ∃ F' : List Tm, (F'.length : Int) = q ∧ (∀ x ∈ F', tb m x) ∧ F'.flatMap flt = F.flatMap flt ++ ts ∧ ∀ (P : Type) (mk : T → List P → P), ts.foldl (stepG mk) (F.map (valG mk)) = F'.map (valG mk)
  | [], p, q, h, F, hl, hb => by
    simp only [runM, Option.some.injEq] at h
    exact ⟨F, by omega, hb, by simp, fun P mk => rfl⟩
  | t :: ts, p, q, h, F, hl, hb => by
    simp only [runM] at h
    have go : ∀ (G : List Tm), runM m (G.length : Int) ts = some q → (∀ x ∈ G, tb m x) → G.flatMap flt = F.flatMap flt ++ [t] → (∀ (P : Type) (mk : T → List P → P), stepG mk (F.map (valG mk)) t = G.map (valG mk)) →
        ∃ F' : List Tm, (F'.length : Int) = q ∧ (∀ x ∈ F', tb m x) ∧ F'.flatMap flt = F.flatMap flt ++ (t :: ts) ∧ ∀ (P : Type) (mk : T → List P → P), (t :: ts).foldl (stepG mk) (F.map (valG mk)) = F'.map (valG mk) := by
      intro G h1 h2 h3 h4
      obtain ⟨F', q1, q2, q3, q4⟩ := forest h1 G rfl h2
      refine ⟨F', q1, q2, by rw [q3, h3]; simp, fun P mk => ?_⟩
      rw [List.foldl_cons, h4, q4]
    obtain ⟨k, a⟩ := t
    cases hm : mkS m p (k, a) with
    | none => rw [hm] at h; cases h
    | some p1 =>
      rw [hm] at h
      simp only at h
      unfold mkS at hm
      simp only at hm
      split at hm
      · rename_i hk
        subst hk
        split at hm
        · rename_i ha
          injection hm with hm
          obtain ⟨n, rfl⟩ := Int.eq_ofNat_of_zero_le ha.1
          refine go (F ++ [.tst n]) (by rw [show (((F ++ [Tm.tst n]).length : Nat) : Int) = p1 by simp; omega]; exact h) (fun x hx => ?_) (by simp [flt]) (fun P mk => by rw [stepG_0]; simp [valG])
          rcases List.mem_append.1 hx with h1 | h1
          · exact hb x h1
          · simp only [List.mem_singleton] at h1; subst h1; exact ha.2
        · cases hm
      · split at hm
        · rename_i _ hk
          subst hk
          split at hm
          · rename_i ha
            injection hm with hm
            obtain ⟨r, x, rfl⟩ := last1 (l := F) (by omega)
            have ha0 := ha.1
            subst ha0
            refine go (r ++ [.neg x]) (by rw [show (((r ++ [Tm.neg x]).length : Nat) : Int) = p1 by simp at hl ⊢; omega]; exact h) (fun y hy => ?_) (by simp [flt]) (fun P mk => by rw [List.map_append]; simp only [List.map_cons, List.map_nil]; rw [stepG_1]; simp [valG])
            rcases List.mem_append.1 hy with h1 | h1
            · exact hb y (List.mem_append_left _ h1)
            · simp only [List.mem_singleton] at h1; subst h1; exact hb x (by simp)
          · cases hm
        · split at hm
          · rename_i _ _ hk
            split at hm
            · rename_i ha
              injection hm with hm
              obtain ⟨r, x, y, rfl⟩ := last2 (l := F) (by omega)
              have ha0 := ha.1
              subst ha0
              have hx := hb x (by simp)
              have hy := hb y (by simp)
              rcases hk with rfl | rfl
              · refine go (r ++ [.and x y]) (by rw [show (((r ++ [Tm.and x y]).length : Nat) : Int) = p1 by simp at hl ⊢; omega]; exact h) (fun z hz => ?_) (by simp [flt]) (fun P mk => by rw [List.map_append]; simp only [List.map_cons, List.map_nil]; rw [stepG_2 _ _ _ _ _ _ (.inl rfl)]; simp [valG])
                rcases List.mem_append.1 hz with h1 | h1
                · exact hb z (List.mem_append_left _ h1)
                · simp only [List.mem_singleton] at h1; subst h1; exact ⟨hx, hy⟩
              · refine go (r ++ [.or x y]) (by rw [show (((r ++ [Tm.or x y]).length : Nat) : Int) = p1 by simp at hl ⊢; omega]; exact h) (fun z hz => ?_) (by simp [flt]) (fun P mk => by rw [List.map_append]; simp only [List.map_cons, List.map_nil]; rw [stepG_2 _ _ _ _ _ _ (.inr rfl)]; simp [valG])
                rcases List.mem_append.1 hz with h1 | h1
                · exact hb z (List.mem_append_left _ h1)
                · simp only [List.mem_singleton] at h1; subst h1; exact ⟨hx, hy⟩
            · cases hm
          · cases hm
theorem tm_tree {m : Int} {ts : List T} (h : tmOk m ts = true) : ∃ x, tb m x ∧ flt x = ts ∧ ∀ (P : Type) (mk : T → List P → P), ts.foldl (stepG mk) [] = [valG mk x] := by
  obtain ⟨_, _, h3⟩ := tmOk_iff.1 h
  obtain ⟨F, q1, q2, q3, q4⟩ := forest h3 [] rfl (by simp)
  match F, q1 with
  | [x], _ => exact ⟨x, q2 x (by simp), by simpa using q3, fun P mk => by simpa using q4 P mk⟩

/-! ### values in all states, as bits -/
def yesW (a : Nat) : BitVec 32 := match a with
  | 0 => 2863311530#32
  | 1 => 3435973836#32
  | 2 => 4042322160#32
  | 3 => 4278255360#32
  | _ => 4294901760#32
def mkW (t : T) (ps : List (BitVec 32)) : BitVec 32 :=
  if t.1 = 0 then yesW t.2.toNat else if t.1 = 1 then ~~~(ps.getD 0 0) else if t.1 = 2 then ps.getD 0 0 &&& ps.getD 1 0 else ps.getD 0 0 ||| ps.getD 1 0
theorem yes_bit : ∀ (a : Fin 5) (s : Fin 32), (yesW a.val).getLsbD s.val = s.val.testBit a.val := by decide +kernel
theorem val_bit {m : Int} (hm : m ≤ 5) : ∀ {x : Tm}, tb m x → ∀ {s : Nat}, s < 32 → (valG mkW x).getLsbD s = ev s x
  | .tst a, h, s, hs => by
    have ha : a < 5 := by have : (a : Int) < m := h; omega
    have := yes_bit ⟨a, ha⟩ ⟨s, hs⟩
    simpa [valG, mkW, ev] using this
  | .neg x, h, s, hs => by
    have ih := val_bit hm (x := x) h hs
    have e : valG mkW (.neg x) = ~~~(valG mkW x) := by simp [valG, mkW]
    rw [e, BitVec.getLsbD_not, ih]
    simp [hs, ev]
  | .and x y, h, s, hs => by
    have i1 := val_bit hm (x := x) h.1 hs
    have i2 := val_bit hm (x := y) h.2 hs
    simp [valG, mkW, ev, i1, i2]
  | .or x y, h, s, hs => by
    have i1 := val_bit hm (x := x) h.1 hs
    have i2 := val_bit hm (x := y) h.2 hs
    simp [valG, mkW, ev, i1, i2]
def tsW (ts : List T) : BitVec 32 := (ts.foldl (stepG mkW) []).headD 0
/-- the value of a term in a state -/
def tv (ts : List T) (s : Nat) : Bool := (tsW ts).getLsbD s
theorem tv_tree {m : Int} {ts : List T} (h : tmOk m ts = true) : ∃ x, tb m x ∧ flt x = ts ∧ ts.foldl (stepG mkW) [] = [tsW ts] ∧ ∀ s, s < 32 → tv ts s = ev s x := by
  obtain ⟨h1, _, _⟩ := tmOk_iff.1 h
  obtain ⟨x, b, f, g⟩ := tm_tree h
  have e : tsW ts = valG mkW x := by unfold tsW; rw [g]; rfl
  exact ⟨x, b, f, by rw [g, e], fun s hs => by unfold tv; rw [e]; exact val_bit h1.2 b hs⟩
/-- A term reads no tests but its own. -/
theorem ev_congr {m : Int} {s s' : Nat} (h : ∀ a : Nat, (a : Int) < m → s.testBit a = s'.testBit a) : ∀ {x : Tm}, tb m x → ev s x = ev s' x
  | .tst a, hb => h a hb
  | .neg x, hb => by simp only [ev, ev_congr h (x := x) hb]
  | .and x y, hb => by simp only [ev, ev_congr h (x := x) hb.1, ev_congr h (x := y) hb.2]
  | .or x y, hb => by simp only [ev, ev_congr h (x := x) hb.1, ev_congr h (x := y) hb.2]
end Zz

namespace Zz
open Go.Lg Md
set_option linter.unusedSimpArgs false
set_option linter.unusedVariables false
attribute [local simp] ia_mv ia_newnil ia_pick ia_bin ia_eqb ia_eqs ia_un ia_len ia_lens ia_chk ia_fld ia_fldv ia_idxa ia_idx ia_load ia_store ia_slice ia_slices ia_make ia_alloc ia_box ia_build ia_bslice ia_app ia_b2i ia_i2b ia_i2i ia_same ia_b2s ia_s2b ia_ext ia_mm ia_idxp ia_calld ia_mkfn ia_i2r ia_r2s ia_call pt_nil pt_cons mi_nil mi_cons md_bslice md_mv md_newnil md_pick md_bin md_eqb md_un md_len md_lens md_fld md_fldv md_idxa md_idx md_load md_store md_slice md_slices md_make md_alloc md_box md_build md_app md_conv md_ext md_call md_calld md_callg md_mkfn md_mm md_idxp md_eqn md_eqs md_chk tg_bslice tg_mv tg_newnil tg_pick tg_bin tg_eqb tg_un tg_len tg_lens tg_fld tg_fldv tg_idxa tg_idx tg_load tg_store tg_slice tg_slices tg_make tg_alloc tg_box tg_build tg_app tg_conv tg_ext tg_call tg_calld tg_callg tg_mkfn tg_mm tg_idxp tg_eqn tg_eqs tg_chk rp_eq ro_eq ifP_t ifP_f np_def ng1_nil ng2_nil ng_gate ng_gen tgA_t tgA_0 tgA_1 tgA_2 aC_nil aC_c aC_t nxP_some nxP_none rq_nil rq_gen rq_gate nxR_some nxR_none ru_nil ru_gen ru_gate pl_none pl_some gt_nil gt_t gt_c di_some di_none an_nil an_cons nxG_some nxG_none rg_nil rg_gen rg_gate oldO_some oa_nil oa_i oa_y oa_b oa_s oa_st oa_sl oa_own oa_oad oa_nl al_nil al_cons al_i al_y al_b al_s al_st al_sl nxF_some nxF_none rf_nil rf_gen rf_gate hk_newnil hk_make hk_alloc hk_box hk_build hk_bslice hk_call hk_store hk_app cl_nil cl_cons ai_nil ai_cons il_i il_y il_b il_s il_st il_sl il_own il_adr il_oad il_ref il_fr il_tup il_nil il_np il_und il_dead ol_adr ol_b ol_dead ol_e ol_fn ol_fr ol_i ol_nil ol_np ol_oad ol_own ol_q ol_r ol_ref ol_s ol_sl ol_st ol_tup ol_und ol_w ol_y oj_e oj_i oj_y oj_b oj_s oj_st oj_sl oj_own oj_adr oj_oad oj_ref oj_fr oj_tup oj_nil oj_np oj_und oj_dead oj_w oj_q oj_r oj_fn oi_e oi_i oi_y oi_b oi_s oi_st oi_sl oi_own oi_adr oi_oad oi_ref oi_fr oi_tup oi_nil oi_np oi_und oi_dead as_nil as_cons ao_nil ao_cons av_i av_y av_b av_s av_st av_sl av_own av_adr av_oad av_ref av_fr av_tup av_nil av_np av_und av_dead pro_cons ghK_some ks_promote ks_freeze frz_own ks_rename ren_own dropO adoptP newP wholeP cutP allOldL ex_skip ex_ret ex_exit ks_region ks_seq ks_cond ks_block seqK_n seqK_e seqK_r regK_some condK_t condK_f blkK_n blkK_r blkK_e endK_n endK_r rr_false rr_true rd_free mo_nil mo_cons drK_some drK_none nxW_some nxW_none rw_nil rw_gen rw_gate ak_newnil ak_make ak_alloc ak_box ak_build ak_bslice ak_call ak_store ak_app iw_mm iw_eqn iw_idxp ef_callg cgK_some gv_e gv_own gv_i gv_sl gv_st gv_b gv_nil gvK_some gvO_some iw_callg ia_callg ak_callg hk_callg is_mv is_newnil is_pick is_bin is_eqb is_eqs is_un is_len is_lens is_chk is_fld is_fldv is_idxa is_idx is_load is_slice is_slices is_make is_alloc is_box is_build is_bslice is_app is_conv is_ext is_call is_calld is_callg is_mkfn is_mm is_idxp is_eqn is_store rt_nil rt_gen rt_gate nxT_some nxT_none ef_eqn_nil ef_eqn_sl ef_eqn_own ia_eqn ef_mmx ef_mmn ef_idxp nxD_some nxD_none ov_i ov_y ov_b ov_s ov_st ov_sl ov_own ov_oad ov_adr ov_nil ov_np ov_und ov_dead ov_tup oldN_some oldN_nil oldN_none so_none so_i so_y so_b so_s so_st so_sl so_adr so_nil so_np so_und so_dead anyM_nil anyM_t anyM_c so_own so_oad rd_nil rd_gen rd_mv rd_gate iw_mv iw_newnil iw_pick iw_bin iw_eqb iw_eqs iw_un iw_len iw_lens iw_chk iw_fld iw_fldv iw_idxa iw_idx iw_load iw_store iw_slice iw_slices iw_make iw_alloc iw_box iw_build iw_bslice iw_app iw_b2i iw_i2b iw_i2i iw_same iw_b2s iw_s2b iw_ext iw_call nm_i nm_y nm_b nm_s nm_st nm_sl nm_own nm_oad nm_adr nm_nil nm_np nm_und nm_dead nm_tup rl_nil rl_gate rl_mv rl_gen opv_t opv_c nx_some nx_none gate_tt gate_tf gate_ft gate_ff gate_u fr_ap em_nil em_i em_y em_b em_s em_st em_sl em_own em_adr em_oad em_ref em_nl em_np em_und em_dead em_tup0 em_tup_i em_tup_b em_tup_s em_tup_sl em_tup_st em_tup_np em_tup_own em_tup_oad mm_i mm_y mm_b mm_s mm_st mm_sl mm_own mm_oad mm_adr mm_nil mm_np mm_und mm_dead ef_mv ef_newnil ef_pickt ef_pickf ef_bin ef_eqb ef_eqs ef_un ef_lens ef_len_sl ef_len_own ef_len_nil ef_chk_adr ef_chk_oad ef_fld_adr ef_fld_oad ef_fldv idxR_some ef_idxa_sl ef_idxa_own ef_idx ef_load_adr_st ef_load_adr_i ef_load_adr_y ef_load_adr_b ef_load_adr_s ef_load_adr_sl atN_nil atN_zero atN_succ ef_load_oad ef_store ef_slice ef_slices ef_make ef_alloc ef_box ef_build ef_bslice ef_app_own ef_app_nil ef_b2i ef_i2b ef_i2i ef_same ef_ext ret1 ret2_some calL_some ef_call retC_i retC_y retC_b retC_s retC_st retC_sl retC_np retC_fr retC_ref retC_tup rk_nil rk_i rk_y rk_b rk_s rk_st rk_sl rk_own rk_oad rk_nl ok_nil ok_i ok_y ok_b ok_s ok_st ok_sl ok_own ok_oad ok_nl lo_nil lo_i lo_y lo_b lo_s lo_st lo_sl lo_own lo_oad lo_nl pr_nil pr_i pr_y pr_b pr_s pr_st pr_sl pr_own pr_nl pr_oad nr_i nr_y nr_b nr_s nr_st nr_sl nr_fr nr_np nr_tup ng_i ng_b ng_s ng_fr ng_nil resV effP_eff binD bi_add bi_sub bi_mul bi_quo bi_rem bi_eql bi_neq bi_lss bi_leq bi_gtr bi_geq bi_shl bi_shr bi_and bi_or bi_xor bi_andNot binY binS unD look put putD LS.get LS.drop killE sweep lookO putO dropO enter leave giveBackL giveBack outs lendArgs lendArg newOuts takeIn takeInL lendL DV.lend adoptL DV.adopt elems apartKs part DV.cells unpart settle settleL over mkId szId fillP fillE tk_e2 tk_i tk_y lt_e2 lt_i lt_y lend_rep al_e2 al_is al_ys al_rep al_app lend_app adopt_app new_app lend_e2 lend_i lend_y adopt_e2 adopt_i adopt_y new_e2 new_i allNewL DV.allNew bounds sliceD sliceS em_w em_q em_r em_fn em_tup_w em_tup_q em_tup_r mm_w mm_q mm_r mm_fn ef_load_adr_w ef_load_adr_q ef_load_adr_r retC_w retC_q retC_r rk_w rk_q rk_r rk_fn ok_w ok_q ok_r ok_fn lo_w lo_q lo_r lo_fn pr_w pr_q pr_r pr_fn nr_w nr_q nr_r ng_w ng_q ng_r oa_w oa_q oa_r oa_fn al_w al_q al_r al_fn ov_w ov_q ov_r ov_fn so_w so_q so_r so_fn il_w il_q il_r il_fn oi_w oi_q oi_r oi_fn av_w av_q av_r av_fn nm_w nm_q nm_r nm_fn ef_i2r ef_r2s ef_mkfn ef_idxp_adr ef_calld capsOk DV.cell List.all_cons List.all_nil rk_own_t lo_own_t lk_f lk_t pr_own_t mutB ak_calld hk_calld iw_calld iw_mkfn iw_i2r iw_r2s bw_and bw_or bw_xor bw_andNot bw_eql bw_neq sw_shl sw_shr sq_shl gEnv_nil rk_adr ok_adr lo_adr pr_adr oa_adr capL capArg DV.cap ak_mkfn hk_mkfn ef_callm gf_ap ga_nil ga_cons tgv_own gk_e gk_giv gk_i gk_y gk_b gk_s gk_w gk_q gk_r gk_fn gk_st gk_sl gk_own gk_oad gk_adr gk_nl gk_np rk_giv ok_giv lo_giv pr_giv oa_giv iw_callm hk_callm ak_callm is_callm ia_callm tg_callm md_callm ks_close cls_oad
attribute [local congr] ifP_congr nxP_congr nxR_congr nxT_congr nxG_congr nxF_congr ghK_congr gate_congr nx_congr nxD_congr runL_congr runD_congr eff_congr calL_congr ret2_congr seqK_congr regK_congr condK_congr endK_congr drK_congr nxW_congr
attribute [local simp ↓] nxT_some rt_nil rt_gen rt_gate nxP_some rq_nil rq_gen rq_gate nxR_some ru_nil ru_gen ru_gate nxG_some rg_nil rg_gen rg_gate nxF_some rf_nil rf_gen rf_gate ks_promote ks_freeze frz_own ks_rename ghK_some gate_tt gate_tf gate_ft gate_ff gate_u nx_some nxD_some rl_nil rl_mv rl_gen rl_gate rd_nil rd_mv rd_gen rd_gate rd_free rr_false rr_true drK_some drK_none nxW_some rw_nil rw_gen rw_gate ks_region ks_seq ks_cond ks_block seqK_n seqK_e seqK_r regK_some condK_t condK_f blkK_n blkK_r endK_n endK_r calL_some ret2_some opv_t opv_c
section
attribute [-simp] DV.cells
attribute [local simp] cells_st cells_sl cells_i cells_y cells_b cells_s
theorem cells_w (x : BitVec 32) : (DV.w x).cells = [DV.w x] := rfl
attribute [local simp] cells_w
theorem c_impl_statesOfPart (k a : Int) (ps : List (BitVec 32)) (h : (k = 0 ∧ 0 ≤ a ∧ a < 5) ∨ (k = 1 ∧ 1 ≤ ps.length) ∨ ((k = 2 ∨ k = 3) ∧ 2 ≤ ps.length)) :
    call lf n_impl_statesOfPart [.st [.i k, .i a], .sl 0 (ps.map .w)] = some (.w (mkW (k, a) ps), []) := by
  rw [call_k lf n_impl_statesOfPart _ (F := F_impl_statesOfPart) rfl rfl]
  rcases h with ⟨rfl, h0, h5⟩ | ⟨rfl, h1⟩ | ⟨hk, h2⟩
  · have c5 : a = 0 ∨ a = 1 ∨ a = 2 ∨ a = 3 ∨ a = 4 := by omega
    rcases c5 with rfl | rfl | rfl | rfl | rfl <;> simp [F_impl_statesOfPart, gEnv_0, mkW, yesW]
  · obtain ⟨x, xs, rfl⟩ : ∃ x xs, ps = x :: xs := by cases ps with | nil => simp at h1 | cons x xs => exact ⟨x, xs, rfl⟩
    simp [F_impl_statesOfPart, gEnv_0, mkW, atI]
  · obtain ⟨x, y, xs, rfl⟩ : ∃ x y xs, ps = x :: y :: xs := by
      match ps, h2 with
      | x :: y :: xs, _ => exact ⟨x, y, xs, rfl⟩
    rcases hk with rfl | rfl <;> simp [F_impl_statesOfPart, gEnv_0, mkW, atI]
end
section
attribute [-simp] DV.cells
attribute [local simp] cells_st cells_sl cells_i cells_y cells_b cells_s cells_w
theorem lend_w (l : List (BitVec 32)) : lendL (l.map .w) = l.map .w := by
  rw [lendL_map, List.map_map]; rfl
theorem w_wid (l : List (BitVec 32)) : ∀ e ∈ l.map DV.w, e.cells.length = 1 := by
  intro e he; obtain ⟨x, _, rfl⟩ := List.mem_map.1 he; rfl
/-- the stack lies in front of what was there -/
def stF (n k : Int) (es : List DV) (N : Nat) (g : List DV) (st : List (BitVec 32)) : LS :=
  ⟨[(1, .fn n_impl_statesOfPart []), (5, .own 2568 N 0 st.length), (10, .sl 0 es), (11, .i n), (12, .i k)], [(2568, st.map .w ++ g)]⟩
set_option maxHeartbeats 4000000 in
theorem l_fold0 (n k : Int) (es : List DV) (N : Nat) (g : List DV) (st : List (BitVec 32)) (hN : N = st.length + g.length) (hl : st.length ≤ 1000) (a : Int) (h0 : 0 ≤ a) (h5 : a < 5) (hk : k < n) (hat : atI es k = some (.st [.i 0, .i a])) (hw : wr (k + 1) = k + 1) :
    ∃ N' g', N' = (stepG mkW st (0, a)).length + g'.length ∧ ex lf F_impl_foldTerm_uint32_L0 (stF n k es N g st) = some (.normal, stF n (k + 1) es N' g' (stepG mkW st (0, a))) := by
  have C := c_impl_statesOfPart 0 a [] (.inl ⟨rfl, h0, h5⟩)
  have P := c_impl_partsTaken 0
  have w1 : wr (st.length : Int) = st.length := wr_id (by omega) (by omega)
  have b1 : st.length + 1 ≤ bound := by unfold bound; omega
  rw [stepG_0]
  simp at C P
  cases g with
  | nil =>
    refine ⟨st.length + 1, [], by simp, ?_⟩
    have hN' : N = st.length := by simpa using hN
    subst hN'
    unfold stF
    simp [F_impl_foldTerm_uint32_L0, hk, hat, hw, C, P, w1, b1]
  | cons y g =>
    refine ⟨N, g, by simp at hN ⊢; omega, ?_⟩
    have hL : (st.map DV.w ++ y :: g).length = N := by rw [hN]; simp
    have t1 : List.take st.length (st.map DV.w ++ y :: g) = st.map .w := by rw [List.take_append_of_le_length (by simp), List.take_of_length_le (by simp)]
    have t2 : List.drop (st.length + 1) (st.map DV.w ++ y :: g) = g := by rw [List.drop_append]; simp
    have n1 : st.length < N := by rw [hN]; simp
    have n2 : st.length + 1 ≤ N := by omega
    have n3 : ¬ st.length = N := by omega
    have n4 : st.length ≤ N := by omega
    have t4 : List.drop st.length (st.map DV.w) = [] := List.drop_of_length_le (by simp)
    unfold stF
    generalize st.map DV.w ++ y :: g = L at *
    simp [F_impl_foldTerm_uint32_L0, hk, hat, hw, C, P, w1, b1, hL, t1, t2, t4, n1, n2, n3, n4]
set_option maxHeartbeats 4000000 in
theorem l_fold1 (n k : Int) (es : List DV) (N : Nat) (g : List DV) (st : List (BitVec 32)) (x : BitVec 32) (hN : N = (st ++ [x]).length + g.length) (hl : st.length ≤ 1000) (a : Int) (hk : k < n) (hat : atI es k = some (.st [.i 1, .i a])) (hw : wr (k + 1) = k + 1) :
    ∃ N' g', N' = (stepG mkW (st ++ [x]) (1, a)).length + g'.length ∧ ex lf F_impl_foldTerm_uint32_L0 (stF n k es N g (st ++ [x])) = some (.normal, stF n (k + 1) es N' g' (stepG mkW (st ++ [x]) (1, a))) := by
  have C := c_impl_statesOfPart 1 a [x] (.inr (.inl ⟨rfl, by simp⟩))
  have P := c_impl_partsTaken 1
  have w1 : wr (st.length : Int) = st.length := wr_id (by omega) (by omega)
  have b1 : st.length + 1 ≤ bound := by unfold bound; omega
  rw [stepG_1]
  simp at C P hN
  refine ⟨N, g, by simp; omega, ?_⟩
  have hL : ((st ++ [x]).map DV.w ++ g).length = N := by rw [hN]; simp; omega
  have t1 : List.take st.length ((st ++ [x]).map DV.w ++ g) = st.map .w := by rw [List.map_append, List.append_assoc, List.take_append_of_le_length (by simp), List.take_of_length_le (by simp)]
  have t2 : List.drop (st.length + 1) ((st ++ [x]).map DV.w ++ g) = g := by rw [List.drop_append]; simp
  have t3 : List.drop st.length (List.take (st.length + 1) ((st ++ [x]).map DV.w ++ g)) = [.w x] := by
    rw [List.take_append_of_le_length (by simp), List.take_of_length_le (by simp), List.map_append, List.drop_append]; simp
  have n1 : st.length < N := by omega
  have n2 : st.length + 1 ≤ N := by omega
  have n3 : ¬ st.length = N := by omega
  have n4 : st.length ≤ N := by omega
  have l1 : (st.length : Int) ≤ st.length + 1 := by omega
  unfold stF
  generalize (st ++ [x]).map DV.w ++ g = L at *
  simp [F_impl_foldTerm_uint32_L0, hk, hat, hw, C, P, w1, b1, hL, t1, t2, t3, n1, n2, n3, n4, l1]
set_option maxHeartbeats 4000000 in
theorem l_fold2 (n k : Int) (es : List DV) (N : Nat) (g : List DV) (st : List (BitVec 32)) (x y : BitVec 32) (hN : N = (st ++ [x, y]).length + g.length) (hl : st.length ≤ 1000) (c a : Int) (hc : c = 2 ∨ c = 3) (hk : k < n) (hat : atI es k = some (.st [.i c, .i a])) (hw : wr (k + 1) = k + 1) :
    ∃ N' g', N' = (stepG mkW (st ++ [x, y]) (c, a)).length + g'.length ∧ ex lf F_impl_foldTerm_uint32_L0 (stF n k es N g (st ++ [x, y])) = some (.normal, stF n (k + 1) es N' g' (stepG mkW (st ++ [x, y]) (c, a))) := by
  have C := c_impl_statesOfPart c a [x, y] (.inr (.inr ⟨hc, by simp⟩))
  have P := c_impl_partsTaken c
  rw [if_neg (by omega), if_neg (by omega)] at P
  have w1 : wr (st.length : Int) = st.length := wr_id (by omega) (by omega)
  have b1 : st.length + 1 ≤ bound := by unfold bound; omega
  rw [stepG_2 _ _ _ _ _ _ hc]
  simp at C hN
  refine ⟨N, .w y :: g, by simp; omega, ?_⟩
  have hL : ((st ++ [x, y]).map DV.w ++ g).length = N := by rw [hN]; simp; omega
  have t1 : List.take st.length ((st ++ [x, y]).map DV.w ++ g) = st.map .w := by rw [List.map_append, List.append_assoc, List.take_append_of_le_length (by simp), List.take_of_length_le (by simp)]
  have t2 : List.drop (st.length + 1) ((st ++ [x, y]).map DV.w ++ g) = .w y :: g := by
    rw [List.map_append, List.append_assoc, List.drop_append]; simp
  have t3 : List.drop st.length (List.take (st.length + 2) ((st ++ [x, y]).map DV.w ++ g)) = [.w x, .w y] := by
    rw [List.take_append_of_le_length (by simp), List.take_of_length_le (by simp), List.map_append, List.drop_append]; simp
  have n1 : st.length < N := by omega
  have n2 : st.length + 1 ≤ N := by omega
  have n3 : ¬ st.length = N := by omega
  have n4 : st.length ≤ N := by omega
  have n5 : st.length + 2 ≤ N := by omega
  have l1 : (st.length : Int) ≤ st.length + 2 := by omega
  have tn : ((st.length : Int) + 2).toNat = st.length + 2 := by omega
  unfold stF
  generalize (st ++ [x, y]).map DV.w ++ g = L at *
  simp [F_impl_foldTerm_uint32_L0, hk, hat, hw, C, P, w1, b1, hL, t1, t2, t3, n1, n2, n3, n4, n5, l1, tn]
theorem l_fold (m n : Int) (hm : m ≤ 5) (hb : n < 1000000) (es : List DV) : ∀ (rest : List T) (k p q : Int) (st : List (BitVec 32)) (N : Nat) (g : List DV), N = st.length + g.length → 0 ≤ k → k + rest.length = n → es.drop k.toNat = rest.map e2 → (st.length : Int) = p → runM m p rest = some q → st.length + rest.length ≤ 1000 →
    ∃ N' g', N' = (rest.foldl (stepG mkW) st).length + g'.length ∧ ex lf F_impl_foldTerm_uint32_W0 (stF n k es N g st) = some (.exit 0, stF n n es N' g' (rest.foldl (stepG mkW) st))
  | [], k, p, q, st, N, g, hN, h0, hn, hd, hp, hr, hl => by
    refine ⟨N, g, hN, ?_⟩
    rw [w_impl_foldTerm_uint32_0]
    have hk : k = n := by simpa using hn
    subst hk
    unfold stF
    simp [F_impl_foldTerm_uint32_L0]
  | t :: rest, k, p, q, st, N, g, hN, h0, hn, hd, hp, hr, hl => by
    obtain ⟨s1, s2, s3, s4, s5, s6⟩ := stp (es := es) (xs := rest.map e2) (x := e2 t) (k := k) (n := n) h0 (by simpa using hn) (by omega) (by simpa using hd)
    simp only [List.length_cons] at hl
    have hmk := hr
    simp only [runM] at hr
    cases hm' : mkS m p t with
    | none => rw [hm'] at hr; cases hr
    | some p1 =>
      rw [hm'] at hr
      simp only at hr
      obtain ⟨c, a⟩ := t
      simp only [e2] at s2
      have go : (∃ N1 g1, N1 = (stepG mkW st (c, a)).length + g1.length ∧ ex lf F_impl_foldTerm_uint32_L0 (stF n k es N g st) = some (.normal, stF n (k + 1) es N1 g1 (stepG mkW st (c, a)))) → ((stepG mkW st (c, a)).length : Int) = p1 → (stepG mkW st (c, a)).length ≤ st.length + 1 →
          ∃ N' g', N' = (((c, a) :: rest).foldl (stepG mkW) st).length + g'.length ∧ ex lf F_impl_foldTerm_uint32_W0 (stF n k es N g st) = some (.exit 0, stF n n es N' g' (((c, a) :: rest).foldl (stepG mkW) st)) := by
        rintro ⟨N1, g1, hN1, h1⟩ h2 h3
        obtain ⟨N', g', q1, q2⟩ := l_fold m n hm hb es rest (k + 1) p1 q (stepG mkW st (c, a)) N1 g1 hN1 s4 (by simpa using s5) s6 h2 hr (by omega)
        refine ⟨N', g', q1, ?_⟩
        rw [w_impl_foldTerm_uint32_0, h1]
        exact q2
      unfold mkS at hm'
      simp only at hm'
      split at hm'
      · rename_i hc
        subst hc
        split at hm'
        · rename_i ha
          injection hm' with hm'
          exact go (l_fold0 n k es N g st hN (by omega) a ha.1 (by omega) s1 s2 s3) (by rw [stepG_0]; simp; omega) (by rw [stepG_0]; simp)
        · cases hm'
      · split at hm'
        · rename_i _ hc
          subst hc
          split at hm'
          · rename_i ha
            injection hm' with hm'
            obtain ⟨r, x, rfl⟩ := last1 (l := st) (by omega)
            have hl' := hl
            simp only [List.length_append, List.length_singleton] at hl hp
            exact go (l_fold1 n k es N g r x hN (by omega) a s1 s2 s3) (by rw [stepG_1]; simp; omega) (by rw [stepG_1]; simp)
          · cases hm'
        · split at hm'
          · rename_i _ _ hc
            split at hm'
            · rename_i ha
              injection hm' with hm'
              obtain ⟨r, x, y, rfl⟩ := last2 (l := st) (by omega)
              simp only [List.length_append, List.length_cons, List.length_nil] at hl hp
              exact go (l_fold2 n k es N g r x y hN (by omega) c a hc s1 s2 s3) (by rw [stepG_2 _ _ _ _ _ _ hc]; simp; omega) (by rw [stepG_2 _ _ _ _ _ _ hc]; simp)
            · cases hm'
          · cases hm'
theorem c_impl_trueStates {m : Int} {ts : List T} (h : tmOk m ts = true) : call lf n_impl_trueStates [.sl 0 (ts.map e2)] = some (.w (tsW ts), []) := by
  obtain ⟨h1, h2, h3⟩ := tmOk_iff.1 h
  obtain ⟨x, _, _, hf, _⟩ := tv_tree h
  obtain ⟨N', g', hN', L⟩ := l_fold m ts.length h1.2 (by omega) (ts.map e2) ts 0 0 1 [] 0 [] rfl (Int.le_refl _) (by simp) (by simp) rfl h3 (by simp; omega)
  rw [hf] at L hN'
  have C : call lf n_impl_foldTerm_uint32 [.sl 0 (ts.map e2), .fn n_impl_statesOfPart []] = some (.w (tsW ts), []) := by
    rw [call_k lf n_impl_foldTerm_uint32 _ (F := F_impl_foldTerm_uint32) rfl rfl]
    unfold stF at L
    simp at L hN'
    have hL : g'.length + 1 = N' := by omega
    have n1 : 1 ≤ N' := by omega
    simp [F_impl_foldTerm_uint32, L, hL, n1]
  rw [call_k lf n_impl_trueStates _ (F := F_impl_trueStates) rfl rfl]
  simp [F_impl_trueStates, C]
end
section
attribute [-simp] DV.cells
attribute [local simp] cells_st cells_sl cells_i cells_y cells_b cells_s cells_w
theorem bitW (v : BitVec 32) (s : Nat) : (shrW v s &&& 1#32 == 1#32) = v.getLsbD s := by
  unfold shrW
  rw [BitVec.and_one_eq_setWidth_ofBool_getLsbD, BitVec.getLsbD_ushiftRight, Nat.add_zero]
  cases v.getLsbD s <;> rfl
theorem c_impl_hasState (v : BitVec 32) (s : Int) (h0 : 0 ≤ s) (h1 : s < 32) : call lf n_impl_hasState [.w v, .i s] = some (.b (v.getLsbD s.toNat), []) := by
  rw [call_k lf n_impl_hasState _ (F := F_impl_hasState) rfl rfl]
  have e : min s.toNat 32 = s.toNat := by omega
  have n0 : ¬ s < 0 := by omega
  simp [F_impl_hasState, n0, e, bitW]
def vOf (m : Int) (ts : List T) (s : Int) : Bool := tmOk m ts && stOk m s && tv ts s.toNat
theorem st32 {m s : Int} (h : stOk m s = true) : 0 ≤ s ∧ s < 32 := by
  obtain ⟨h1, h2, h3⟩ := stOk_iff.1 h
  have : (2 : Int) ^ m.toNat ≤ 2 ^ 5 := Md.pow_le (n := m.toNat) (m := 5) (by omega) 2 (by omega)
  simp at this; omega
/-! ### the given reading -/
theorem at_mid {pre post : List T} {t : T} {k : Int} (hk : k = pre.length) : atI ((pre ++ t :: post).map e2) k = some (e2 t) := by
  subst hk
  simp [atI]
def stL (es : List DV) (need at_ : Int) : LS := ⟨[(0, .sl 0 es), (5, .i need), (6, .i at_)], []⟩
set_option maxHeartbeats 4000000 in
theorem cut_hi (ob : OB) (sz : Nat) {es : List DV} (wid : ∀ e ∈ es, e.cells.length = sz) {h : Nat} (hh : h ≤ es.length) : sliceD ob (.sl 0 es) sz none (some (h : Int)) = some (.sl 0 (es.take h)) := by
  unfold sliceD
  simp only [Option.getD_some, Option.getD_none]
  rw [if_pos ⟨Int.le_refl _, by omega, by omega, wid⟩]
  simp [cutP]
theorem cut_lohi (ob : OB) (sz : Nat) {es : List DV} (wid : ∀ e ∈ es, e.cells.length = sz) {l h : Nat} (hl : l ≤ h) (hh : h ≤ es.length) : sliceD ob (.sl 0 es) sz (some (l : Int)) (some (h : Int)) = some (.sl 0 ((es.take h).drop l)) := by
  unfold sliceD
  simp only [Option.getD_some]
  rw [if_pos ⟨by omega, by omega, by omega, wid⟩]
  simp [cutP]
attribute [-simp] sliceD
def bI (b : Bool) : Int := if b then 1 else 0
end
section
attribute [-simp] DV.cells sliceD
attribute [local simp] cells_st cells_sl cells_i cells_y cells_b cells_s cells_w
/-! ### tables as numbers -/
def tabN (f : Nat → Bool) : Nat → Nat
  | 0 => 0
  | k + 1 => tabN f k ||| (if f k then 2 ^ k else 0)
theorem tabN_lt (f : Nat → Bool) : ∀ k, tabN f k < 2 ^ k
  | 0 => by simp [tabN]
  | k + 1 => by
    simp only [tabN]
    have h := tabN_lt f k
    refine Nat.or_lt_two_pow ?_ ?_
    · rw [Nat.pow_succ]; omega
    · split
      · rw [Nat.pow_succ]; have := Nat.pow_pos (n := k) (show 0 < 2 by omega); omega
      · exact Nat.pow_pos (by omega)
theorem tabN_bit (f : Nat → Bool) (s : Nat) : ∀ k, (tabN f k).testBit s = (decide (s < k) && f s)
  | 0 => by simp [tabN]
  | k + 1 => by
    simp only [tabN, Nat.testBit_or, tabN_bit f s k]
    by_cases h : s = k
    · subst h
      cases f s <;> simp
    · have e : (if f k then 2 ^ k else 0).testBit s = false := by
        split
        · rw [Nat.testBit_two_pow]; simp; omega
        · simp
      rw [e]
      by_cases h1 : s < k
      · simp [h1, show s < k + 1 by omega]
      · simp [h1, show ¬ s < k + 1 by omega]
theorem orI_nat {a b : Nat} (ha : a < 2 ^ 62) (hb : b < 2 ^ 62) : orI (a : Int) (b : Int) = ((a ||| b : Nat) : Int) := by
  have hab : a ||| b < 2 ^ 62 := Nat.or_lt_two_pow ha hb
  unfold orI
  have e : (BitVec.ofInt 64 (a : Int) ||| BitVec.ofInt 64 (b : Int)).toNat = a ||| b := by
    rw [BitVec.toNat_or, BitVec.ofInt_natCast, BitVec.ofInt_natCast, BitVec.toNat_ofNat, BitVec.toNat_ofNat, Nat.mod_eq_of_lt (by omega), Nat.mod_eq_of_lt (by omega)]
  rw [e]
  exact wr_id (by omega) (by omega)
theorem shl_bI (b : Bool) {s : Nat} (hs : s ≤ 40) : shlI (bI b) s = ((if b then 2 ^ s else 0 : Nat) : Int) := by
  cases b with
  | true =>
    have := shl1 (k := (s : Int)) (by omega) (by omega)
    simp [bI, this]
  | false =>
    unfold shlI bI
    simp
    exact wr_id (by omega) (by omega)
theorem bit_bI {a s : Nat} (hs : s ≤ 60) : (shrI (a : Int) (s : Int)).tmod 2 = bI (a.testBit s) := by
  rw [shr1 (by omega) (by omega), tmod2 (Int.ediv_nonneg (by omega) (Int.le_of_lt (Int.pow_pos (by omega))))]
  unfold bI
  rw [Nat.testBit_eq_decide_div_mod_eq, Int.toNat_natCast]
  have : (a : Int) / 2 ^ s % 2 = ((a / 2 ^ s % 2 : Nat) : Int) := by simp
  rw [this]
  by_cases h : a / 2 ^ s % 2 = 1
  · simp [h]
  · have : a / 2 ^ s % 2 = 0 := by omega
    simp [this]
theorem tabN_congr {f g : Nat → Bool} : ∀ {k}, (∀ s, s < k → f s = g s) → tabN f k = tabN g k
  | 0, _ => rfl
  | k + 1, h => by simp only [tabN]; rw [tabN_congr (fun s hs => h s (by omega)), h k (by omega)]
theorem pow5 {m : Int} (h1 : 1 ≤ m) (h5 : m ≤ 5) : 2 ≤ 2 ^ m.toNat ∧ 2 ^ m.toNat ≤ 32 ∧ ((2 ^ m.toNat : Nat) : Int) = 2 ^ m.toNat := by
  have c : m = 1 ∨ m = 2 ∨ m = 3 ∨ m = 4 ∨ m = 5 := by omega
  rcases c with rfl | rfl | rfl | rfl | rfl <;> decide
/-- a term's table -/
def tabT (m : Int) (ts : List T) : Nat := tabN (tv ts) (2 ^ m.toNat)
end
section
attribute [-simp] DV.cells sliceD
attribute [local simp] cells_st cells_sl cells_i cells_y cells_b cells_s cells_w
/-! ### what is forced -/
/-- 1 if f holds wherever g does below N, 0 if nowhere, else -1 -/
def fo (f g : Nat → Bool) (N : Nat) : Int := if allTo (fun s => !g s || f s) N then 1 else if allTo (fun s => !g s || !f s) N then 0 else -1
theorem fo_1 {f g : Nat → Bool} {N : Nat} : fo f g N = 1 ↔ ∀ s, s < N → g s = true → f s = true := by
  unfold fo
  constructor
  · intro h
    split at h
    · rename_i ha
      intro s hs hg
      have := allTo_iff.1 ha s hs
      simpa [hg] using this
    · split at h <;> cases h
  · intro h
    rw [if_pos (allTo_iff.2 fun s hs => by
      cases hg : g s with
      | false => rfl
      | true => simp [h s hs hg])]
theorem fo_0 {f g : Nat → Bool} {N : Nat} (hne : ∃ s, s < N ∧ g s = true) : fo f g N = 0 ↔ ∀ s, s < N → g s = true → f s = false := by
  obtain ⟨s0, h0, g0⟩ := hne
  unfold fo
  constructor
  · intro h
    split at h
    · cases h
    · split at h
      · rename_i ha
        intro s hs hg
        have := allTo_iff.1 ha s hs
        simpa [hg] using this
      · cases h
  · intro h
    rw [if_neg, if_pos (allTo_iff.2 fun s hs => by
      cases hg : g s with
      | false => rfl
      | true => simp [h s hs hg])]
    intro ha
    have := allTo_iff.1 ha s0 h0
    simp [g0, h s0 h0 g0] at this
theorem fo_or (f g : Nat → Bool) (N : Nat) : fo f g N = 1 ∨ fo f g N = 0 ∨ fo f g N = -1 := by
  unfold fo
  split
  · simp
  · split <;> simp
theorem fo_b {f g : Nat → Bool} {N : Nat} (hne : ∃ s, s < N ∧ g s = true) (b : Bool) : fo f g N = bI b ↔ ∀ s, s < N → g s = true → f s = b := by
  cases b with
  | true => exact fo_1
  | false => exact fo_0 hne
theorem fo_n {f g : Nat → Bool} {N : Nat} (hne : ∃ s, s < N ∧ g s = true) : fo f g N = -1 ↔ (∃ s, s < N ∧ g s = true ∧ f s = true) ∧ ∃ s, s < N ∧ g s = true ∧ f s = false := by
  obtain ⟨s0, h0, g0⟩ := id hne
  constructor
  · intro h
    constructor
    · apply Classical.byContradiction
      intro hn
      have : fo f g N = 0 := (fo_0 hne).2 fun s hs hg => by
        cases hf : f s with
        | false => rfl
        | true => exact absurd ⟨s, hs, hg, hf⟩ hn
      omega
    · apply Classical.byContradiction
      intro hn
      have : fo f g N = 1 := fo_1.2 fun s hs hg => by
        cases hf : f s with
        | true => rfl
        | false => exact absurd ⟨s, hs, hg, hf⟩ hn
      omega
  · rintro ⟨⟨s1, h1, g1, f1⟩, ⟨s2, h2, g2, f2⟩⟩
    rcases fo_or f g N with h | h | h
    · have := fo_1.1 h s2 h2 g2; rw [f2] at this; cases this
    · have := (fo_0 hne).1 h s1 h1 g1; rw [f1] at this; cases this
    · exact h
theorem fo_congr {f g f' g' : Nat → Bool} {N : Nat} (h : ∀ s, s < N → g s = g' s ∧ (g s = true → f s = f' s)) : fo f g N = fo f' g' N := by
  have e1 : allTo (fun s => !g s || f s) N = allTo (fun s => !g' s || f' s) N := by
    rw [Bool.eq_iff_iff, allTo_iff, allTo_iff]
    refine forall_congr' fun s => ⟨fun k hs => ?_, fun k hs => ?_⟩ <;> (obtain ⟨h1, h2⟩ := h s hs; have := k hs; cases hg : g s <;> simp_all)
  have e2 : allTo (fun s => !g s || !f s) N = allTo (fun s => !g' s || !f' s) N := by
    rw [Bool.eq_iff_iff, allTo_iff, allTo_iff]
    refine forall_congr' fun s => ⟨fun k hs => ?_, fun k hs => ?_⟩ <;> (obtain ⟨h1, h2⟩ := h s hs; have := k hs; cases hg : g s <;> simp_all)
  unfold fo
  rw [e1, e2]
/-- What the states say that agree. -/
def agB (ks : List Int) (s : Nat) : Bool := ag ks (s : Int)
theorem agB_cons (k : Int) (r : List Int) (s : Nat) : agB (k :: r) s = ((k == -1 || k == bI (s.testBit 0)) && agB r (s / 2)) := by
  unfold agB
  simp only [ag]
  have e1 : (s : Int) % 2 = bI (s.testBit 0) := by
    unfold bI
    rw [Nat.testBit_zero]
    by_cases h : s % 2 = 1
    · simp [h]; omega
    · simp [h]; omega
  have e2 : (s : Int) / 2 = ((s / 2 : Nat) : Int) := by omega
  rw [e1, e2]
theorem agB_some : ∀ {ks : List Int}, ks.all kOk = true → ∃ s, s < 2 ^ ks.length ∧ agB ks s = true
  | [], _ => ⟨0, by simp, rfl⟩
  | k :: r, h => by
    simp only [List.all_cons, Bool.and_eq_true] at h
    obtain ⟨s, h1, h2⟩ := agB_some h.2
    have hk : -1 ≤ k ∧ k ≤ 1 := by simpa [kOk] using h.1
    have c : k = -1 ∨ k = 0 ∨ k = 1 := by omega
    have key : ∀ b : Bool, k = -1 ∨ k = bI b → ∃ s, s < 2 ^ (k :: r).length ∧ agB (k :: r) s = true := by
      intro b hb
      refine ⟨2 * s + (if b then 1 else 0), ?_, ?_⟩
      · rw [List.length_cons, Nat.pow_succ]; cases b <;> simp <;> omega
      · rw [agB_cons]
        have e1 : (2 * s + (if b then 1 else 0)) / 2 = s := by cases b <;> simp <;> omega
        have e2 : (2 * s + (if b then 1 else 0)).testBit 0 = b := by rw [Nat.testBit_zero]; cases b <;> simp <;> omega
        rw [e1, e2, h2]
        rcases hb with rfl | rfl <;> simp
    rcases c with rfl | rfl | rfl
    · exact key true (.inl rfl)
    · exact key false (.inr rfl)
    · exact key true (.inr rfl)
def stFo (m tab : Int) (ks : List Int) (out : Int) (first : Bool) (s : Int) : LS := ⟨[(0, .i m), (1, .i tab), (2, .sl 0 (ks.map .i)), (7, .i out), (8, .b first), (9, .i s)], []⟩
def invF (f g : Nat → Bool) (i : Nat) (out : Int) (first : Bool) : Prop :=
  (first = true ∧ out = -1 ∧ ∀ s, s < i → g s = false) ∨ (first = false ∧ ∃ b, out = bI b ∧ (∃ s, s < i ∧ g s = true) ∧ ∀ s, s < i → g s = true → f s = b)
end
section
attribute [-simp] DV.cells sliceD
attribute [local simp] cells_st cells_sl cells_i cells_y cells_b cells_s cells_w
/-! ### the given functions -/
theorem tab_bit {m : Int} (h1 : 1 ≤ m) (h5 : m ≤ 5) (ts : List T) {s : Nat} (hs : s < 2 ^ m.toNat) : (tabT m ts).testBit s = tv ts s := by
  unfold tabT
  rw [tabN_bit]; simp [hs]
/-- what is known of a term by what is known of its tests -/
def foT (m : Int) (ts : List T) (ks : List Int) : Int := fo (tv ts) (agB ks) (2 ^ m.toNat)
theorem foT_tab {m : Int} (h1 : 1 ≤ m) (h5 : m ≤ 5) (ts : List T) (ks : List Int) : fo (tabT m ts).testBit (agB ks) (2 ^ m.toNat) = foT m ts ks :=
  fo_congr fun s hs => ⟨rfl, fun _ => tab_bit h1 h5 ts hs⟩
theorem ks_some {m : Int} {ks : List Int} (h : ksOk m ks = true) : ∃ s, s < 2 ^ m.toNat ∧ agB ks s = true := by
  obtain ⟨h1, h2, h3⟩ := ksOk_iff.1 h
  obtain ⟨s, q1, q2⟩ := agB_some h3
  exact ⟨s, by rw [show m.toNat = ks.length by omega]; exact q1, q2⟩
def fbOf (m : Int) (ts : List T) (ks : List Int) : Int := if tmOk m ts && ksOk m ks then foT m ts ks else -1
def told (m : Nat) (st so : Nat) : List Int := (List.range m).map fun k => if so.testBit k then bI (st.testBit k) else -1
theorem told_succ (k st so : Nat) : told (k + 1) st so = told k st so ++ [if so.testBit k then bI (st.testBit k) else -1] := by
  simp [told, List.range_succ]
theorem told_len (m st so : Nat) : (told m st so).length = m := by simp [told]
theorem bI_eq1 (b : Bool) : (bI b == 1) = b := by cases b <;> rfl
set_option maxHeartbeats 4000000 in
theorem told_ok {m : Int} (h1 : 1 ≤ m) (h5 : m ≤ 5) (st so : Nat) : ksOk m (told m.toNat st so) = true := by
  refine ksOk_iff.2 ⟨⟨h1, h5⟩, by rw [told_len]; omega, List.all_eq_true.2 fun k hk => ?_⟩
  obtain ⟨i, _, rfl⟩ := List.mem_map.1 hk
  split
  · cases st.testBit i <;> rfl
  · rfl
/-- proof: the value is forced by what is told -/
def prf (m : Int) (ts : List T) (st so : Nat) : Bool := foT m ts (told m.toNat st so) != -1
def pfOf (m : Int) (ts : List T) (s o : Int) : Bool := tmOk m ts && stOk m s && stOk m o && prf m ts s.toNat o.toNat
end
section
attribute [-simp] DV.cells sliceD
attribute [local simp] cells_st cells_sl cells_i cells_y cells_b cells_s cells_w
/-! ### what agrees, as bits -/
def agW : List Int → Nat → BitVec 32 → BitVec 32
  | [], _, w => w
  | k :: r, i, w => agW r (i + 1) (if k = 0 then w &&& ~~~(yesW i) else if k = 1 then w &&& yesW i else w)
theorem agW_bit : ∀ {ks : List Int} {i : Nat} {w : BitVec 32} {s : Nat}, ks.all kOk = true → i + ks.length ≤ 5 → s < 32 → (agW ks i w).getLsbD s = (w.getLsbD s && agB ks (s / 2 ^ i))
  | [], i, w, s, _, _, _ => by simp [agW, agB, ag]
  | k :: r, i, w, s, h, hi, hs => by
    simp only [List.all_cons, Bool.and_eq_true] at h
    simp only [List.length_cons] at hi
    have hk : -1 ≤ k ∧ k ≤ 1 := by simpa [kOk] using h.1
    simp only [agW]
    rw [agW_bit h.2 (by omega) hs, agB_cons]
    have e1 : s / 2 ^ (i + 1) = s / 2 ^ i / 2 := by rw [Nat.pow_succ, Nat.div_div_eq_div_mul]
    have e2 : (s / 2 ^ i).testBit 0 = s.testBit i := by rw [Nat.testBit_div_two_pow]; simp
    have y := yes_bit ⟨i, by omega⟩ ⟨s, hs⟩
    simp only at y
    rw [e1, e2]
    have c : k = -1 ∨ k = 0 ∨ k = 1 := by omega
    rcases c with rfl | rfl | rfl
    · simp
    · rw [if_pos rfl, BitVec.getLsbD_and, BitVec.getLsbD_not, y]
      cases w.getLsbD s <;> cases s.testBit i <;> simp [bI, hs]
    · rw [if_neg (by omega), if_pos rfl, BitVec.getLsbD_and, y]
      cases w.getLsbD s <;> cases s.testBit i <;> simp [bI]
theorem yes_at {i : Nat} (h : i < 5) : ([DV.w 2863311530#32, DV.w 3435973836#32, DV.w 4042322160#32, DV.w 4278255360#32, DV.w 4294901760#32])[i]? = some (.w (yesW i)) := by
  have c : i = 0 ∨ i = 1 ∨ i = 2 ∨ i = 3 ∨ i = 4 := by omega
  rcases c with rfl | rfl | rfl | rfl | rfl <;> rfl
def stAg (es : List DV) (w : BitVec 32) (n k : Int) : LS := ⟨[(3, .w w), (6, .sl 0 es), (7, .i n), (8, .i k), (1048576, .adr (.st [.w (2863311530#32), .w (3435973836#32), .w (4042322160#32), .w (4278255360#32), .w (4294901760#32)]))], []⟩
set_option maxHeartbeats 4000000 in
theorem ones_bit {s : Nat} (hs : s < 32) : (4294967295#32).getLsbD s = true := by
  have : ∀ s : Fin 32, (4294967295#32).getLsbD s.val = true := by decide +kernel
  exact this ⟨s, hs⟩
/-! ### all states are those of the tests, and what is behind them -/
theorem agB_mod : ∀ {ks : List Int} (s : Nat), agB ks (s % 2 ^ ks.length) = agB ks s
  | [], s => rfl
  | k :: r, s => by
    rw [agB_cons, agB_cons, List.length_cons]
    have e1 : (s % 2 ^ (r.length + 1)).testBit 0 = s.testBit 0 := by rw [Nat.testBit_mod_two_pow]; simp
    have e2 : s % 2 ^ (r.length + 1) / 2 = (s / 2) % 2 ^ r.length := by rw [Nat.pow_succ, Nat.mul_comm, Nat.mod_mul_right_div_self]
    rw [e1, e2, agB_mod (ks := r) (s / 2)]
theorem tv_mod {m : Int} {ts : List T} (h : tmOk m ts = true) {s : Nat} (hs : s < 32) : tv ts (s % 2 ^ m.toNat) = tv ts s := by
  obtain ⟨h1, _, _⟩ := tmOk_iff.1 h
  obtain ⟨x, hb, _, _, htv⟩ := tv_tree h
  have hle : s % 2 ^ m.toNat < 32 := Nat.lt_of_le_of_lt (Nat.mod_le _ _) hs
  rw [htv _ hs, htv _ hle]
  refine ev_congr (m := m) (fun a ha => ?_) hb
  rw [Nat.testBit_mod_two_pow]
  have : a < m.toNat := by omega
  simp [this]
theorem and_eq_iff (A W : BitVec 32) : (W &&& A = A) ↔ ∀ s, s < 32 → A.getLsbD s = true → W.getLsbD s = true := by
  constructor
  · intro h s hs ha
    have := congrArg (fun v => BitVec.getLsbD v s) h
    simp only [BitVec.getLsbD_and, ha, Bool.and_true] at this
    exact this
  · intro h
    apply BitVec.eq_of_getLsbD_eq
    intro s hs
    rw [BitVec.getLsbD_and]
    cases ha : A.getLsbD s with
    | false => simp
    | true => simp [h s hs ha]
theorem and_zero_iff (A W : BitVec 32) : (W &&& A = 0#32) ↔ ∀ s, s < 32 → A.getLsbD s = true → W.getLsbD s = false := by
  constructor
  · intro h s hs ha
    have := congrArg (fun v => BitVec.getLsbD v s) h
    simp only [BitVec.getLsbD_and, ha, Bool.and_true, BitVec.getLsbD_zero] at this
    exact this
  · intro h
    apply BitVec.eq_of_getLsbD_eq
    intro s hs
    rw [BitVec.getLsbD_and, BitVec.getLsbD_zero]
    cases ha : A.getLsbD s with
    | false => simp
    | true => simp [h s hs ha]
theorem ag_bits {m : Int} {ts : List T} {ks : List Int} (h1 : tmOk m ts = true) (h2 : ksOk m ks = true) (b : Bool) :
    (∀ s, s < 32 → (agW ks 0 (4294967295#32)).getLsbD s = true → (tsW ts).getLsbD s = b) ↔ foT m ts ks = bI b := by
  obtain ⟨h3, _, _⟩ := tmOk_iff.1 h1
  obtain ⟨_, k2, k3⟩ := ksOk_iff.1 h2
  obtain ⟨p1, p2, p3⟩ := pow5 h3.1 h3.2
  have hl : m.toNat = ks.length := by omega
  have key : ∀ s, s < 32 → (agW ks 0 (4294967295#32)).getLsbD s = agB ks s := fun s hs => by
    rw [agW_bit k3 (by omega) hs, ones_bit hs]; simp
  unfold foT
  rw [fo_b (ks_some h2)]
  constructor
  · intro h s hs hg
    exact h s (by omega) (by rw [key s (by omega)]; exact hg)
  · intro h s hs hg
    rw [key s hs, ← agB_mod, ← hl] at hg
    have := h (s % 2 ^ m.toNat) (Nat.mod_lt _ (by omega)) hg
    rw [tv_mod h1 hs] at this
    exact this
end
section
attribute [-simp] DV.cells sliceD
attribute [local simp] cells_st cells_sl cells_i cells_y cells_b cells_s cells_w
theorem div_bI (a s : Nat) : (a : Int) / 2 ^ s % 2 = bI (a.testBit s) := by
  unfold bI
  rw [Nat.testBit_eq_decide_div_mod_eq]
  have : (a : Int) / 2 ^ s % 2 = ((a / 2 ^ s % 2 : Nat) : Int) := by simp
  rw [this]
  by_cases h : a / 2 ^ s % 2 = 1
  · simp [h]
  · have : a / 2 ^ s % 2 = 0 := by omega
    simp [this]
theorem c_impl_hasTest (so k : Nat) (hk : k ≤ 40) : call lf n_impl_hasTest [.i so, .i k] = some (.b (so.testBit k), []) := by
  rw [call_k lf n_impl_hasTest _ (F := F_impl_hasTest) rfl rfl]
  have ni : ¬ (k : Int) < 0 := by omega
  have e : andI (shrI (so : Int) (k : Int)) 1 = bI (so.testBit k) := by
    rw [bit_and, shr1 (by omega) (by omega), Int.toNat_natCast, div_bI]
  simp [F_impl_hasTest, ni, e, bI_eq1]
def tc (n i st so : Nat) : List DV := (told i st so).map .i ++ List.replicate (n - i) (.i 0)
theorem tc_len {n i : Nat} (st so : Nat) (h : i ≤ n) : (tc n i st so).length = n := by simp [tc, told_len]; omega
theorem tc_at {n i : Nat} (st so : Nat) (h : i < n) : ∃ r, (∀ v, (tc n i st so).set i v = (told i st so).map .i ++ v :: r) ∧ atN (tc n i st so) i = some (.i 0) ∧ (∀ v, ((told i st so).map DV.i ++ v :: r).length = n) ∧ (∀ v, atN ((told i st so).map DV.i ++ v :: r) i = some v) ∧ (∀ v u, ((told i st so).map DV.i ++ v :: r).set i u = (told i st so).map .i ++ u :: r) ∧ (told i st so).map DV.i ++ (.i (if so.testBit i then bI (st.testBit i) else -1)) :: r = tc n (i + 1) st so := by
  have tl := told_len i st so
  have hl : ((told i st so).map DV.i).length = i := by simp [tl]
  obtain ⟨j, rfl⟩ : ∃ j, n = i + 1 + j := ⟨n - (i + 1), by omega⟩
  have e1 : i + 1 + j - i = j + 1 := by omega
  have e2 : i + 1 + j - (i + 1) = j := by omega
  have sets : ∀ (v u : DV) (r : List DV), ((told i st so).map DV.i ++ v :: r).set i u = (told i st so).map .i ++ u :: r := fun v u r => by
    rw [List.set_append_right _ _ (by omega), hl]; simp
  refine ⟨List.replicate j (.i 0), fun v => ?_, ?_, fun v => ?_, fun v => ?_, fun v u => sets v u _, ?_⟩
  · unfold tc; rw [e1, List.replicate_succ]; exact sets _ v _
  · unfold tc; rw [e1, List.replicate_succ]
    show (_ ++ _)[i]? = _
    rw [List.getElem?_append_right (by omega), hl]; simp
  · simp [tl]; omega
  · show (_ ++ _)[i]? = _
    rw [List.getElem?_append_right (by omega), hl]; simp
  · unfold tc; rw [e2, told_succ]; simp
end
section
attribute [-simp] DV.cells
attribute [local simp] cells_st cells_sl cells_i cells_y cells_b cells_s
/-! ### draws of chapter 3 -/
theorem or_lt {a b m : Int} (h1 : 1 ≤ m) (h5 : m ≤ 5) (a0 : 0 ≤ a) (a1 : a < 2 ^ m.toNat) (b0 : 0 ≤ b) (b1 : b < 2 ^ m.toNat) : 0 ≤ orI a b ∧ orI a b < 2 ^ m.toNat ∧ (orI a b).toNat = a.toNat ||| b.toNat := by
  obtain ⟨x, rfl⟩ := Int.eq_ofNat_of_zero_le a0
  obtain ⟨y, rfl⟩ := Int.eq_ofNat_of_zero_le b0
  obtain ⟨p1, p2, p3⟩ := pow5 h1 h5
  have hx : x < 2 ^ m.toNat := by omega
  have hy : y < 2 ^ m.toNat := by omega
  have := Nat.or_lt_two_pow hx hy
  rw [orI_nat (by omega) (by omega)]
  exact ⟨by omega, by omega, rfl⟩
end
section
attribute [-simp] DV.cells
attribute [local simp] cells_st cells_sl cells_i cells_y cells_b cells_s
theorem quo59 {x : Int} (h0 : 0 ≤ x) (h1 : x < 60) : x.tdiv 59 = 0 ∨ x.tdiv 59 = 1 := by
  rw [Int.tdiv_eq_ediv_of_nonneg h0]; omega
theorem runM_app (m : Int) : ∀ (ts us : List T) (p : Int), runM m p (ts ++ us) = match runM m p ts with | some q => runM m q us | none => none
  | [], us, p => rfl
  | t :: ts, us, p => by
    simp only [List.cons_append, runM]
    cases mkS m p t with
    | none => rfl
    | some q => exact runM_app m ts us q
theorem tm_one {a : Int} (h1 : 1 ≤ a) (h5 : a ≤ 5) : tmOk a [(0, a - 1)] = true := by
  rw [tmOk_iff]
  refine ⟨⟨h1, h5⟩, by simp, ?_⟩
  have e : mkS a 0 (0, a - 1) = some 1 := by
    unfold mkS
    rw [if_pos rfl, if_pos ⟨show 0 ≤ a - 1 by omega, show a - 1 < a by omega⟩]; rfl
  simp only [runM, e]
theorem tm_none {a : Int} : tmOk a [(0, a)] = false := by
  cases h : tmOk a [(0, a)] with
  | false => rfl
  | true =>
    have h3 := (tmOk_iff.1 h).2.2
    have e : mkS a 0 (0, a) = none := by
      unfold mkS
      rw [if_pos rfl, if_neg (fun h => by have := h.2; simp at this)]
    simp only [runM, e] at h3
    cases h3
theorem tm_two {a : Int} {t : List T} {k : Int} (hk : k = 2 ∨ k = 3) (h : tmOk a t = true) (hl : t.length ≤ 11) : tmOk a (t ++ [(0, 0), (k, 0)]) = true := by
  rw [tmOk_iff] at *
  obtain ⟨h1, h2, h3⟩ := h
  refine ⟨h1, by simp only [List.length_append, List.length_cons, List.length_nil]; omega, ?_⟩
  rw [runM_app, h3]
  have e : mkS a 1 (0, 0) = some 2 := by
    unfold mkS
    rw [if_pos rfl, if_pos ⟨show (0 : Int) ≤ 0 by omega, show 0 < a by omega⟩]; rfl
  have f : mkS a 2 (k, 0) = some 1 := by
    unfold mkS
    rw [if_neg (show ¬ k = 0 by omega), if_neg (show ¬ k = 1 by omega), if_pos (show k = 2 ∨ k = 3 by omega), if_pos ⟨rfl, by omega⟩]; rfl
  simp only [runM, e, f]
theorem tm_not {a : Int} {t : List T} (h : tmOk a t = true) (hl : t.length ≤ 11) : tmOk a (t ++ [(1, 0)]) = true := by
  rw [tmOk_iff] at *
  obtain ⟨h1, h2, h3⟩ := h
  refine ⟨h1, by simp only [List.length_append, List.length_cons, List.length_nil]; omega, ?_⟩
  rw [runM_app, h3]
  have e : mkS a 1 (1, 0) = some 1 := by
    unfold mkS
    rw [if_neg (show ¬ (1 : Int) = 0 by omega), if_pos rfl, if_pos ⟨rfl, by omega⟩]
  simp only [runM, e]
end
section
attribute [-simp] DV.cells
attribute [local simp] cells_st cells_sl cells_i cells_y cells_b cells_s
theorem runM_dual (m : Int) : ∀ {ts : List T} {p q : Int}, runM m p ts = some q → runM m p (ts.map dT) = some q ∧ (ts.map dT).map dT = ts
  | [], p, q, h => ⟨h, rfl⟩
  | t :: ts, p, q, h => by
    simp only [runM] at h
    cases hm : mkS m p t with
    | none => rw [hm] at h; cases h
    | some p1 =>
      rw [hm] at h
      obtain ⟨h1, h2⟩ := runM_dual m h
      have key : mkS m p (dT t) = some p1 ∧ dT (dT t) = t := by
        by_cases k2 : t.1 = 2
        · have hd : dT t = (3, 0) := by unfold dT; rw [if_pos k2]
          rw [hd]
          unfold mkS at hm
          rw [if_neg (by omega), if_neg (by omega), if_pos (.inl k2)] at hm
          split at hm
          · rename_i hc
            injection hm with hm
            refine ⟨?_, ?_⟩
            · unfold mkS
              rw [if_neg (show ¬ (3 : Int) = 0 by omega), if_neg (show ¬ (3 : Int) = 1 by omega), if_pos (.inr rfl), if_pos ⟨rfl, hc.2⟩, hm]
            · unfold dT
              rw [if_neg (show ¬ (3 : Int) = 2 by omega), if_pos rfl]
              exact Prod.ext k2.symm hc.1.symm
          · cases hm
        · by_cases k3 : t.1 = 3
          · have hd : dT t = (2, 0) := by unfold dT; rw [if_neg k2, if_pos k3]
            rw [hd]
            unfold mkS at hm
            rw [if_neg (by omega), if_neg (by omega), if_pos (.inr k3)] at hm
            split at hm
            · rename_i hc
              injection hm with hm
              refine ⟨?_, ?_⟩
              · unfold mkS
                rw [if_neg (show ¬ (2 : Int) = 0 by omega), if_neg (show ¬ (2 : Int) = 1 by omega), if_pos (.inl rfl), if_pos ⟨rfl, hc.2⟩, hm]
              · unfold dT
                rw [if_pos rfl]
                exact Prod.ext k3.symm hc.1.symm
            · cases hm
          · have hd : dT t = t := by unfold dT; rw [if_neg k2, if_neg k3]
            rw [hd]; exact ⟨hm, hd⟩
      simp only [List.map_cons, runM, key.1, key.2, h1, h2, and_self]
theorem tm_dual {m : Int} {ts : List T} (h : tmOk m ts = true) : tmOk m (ts.map dT) = true ∧ (ts.map dT).map dT = ts ∧ ts ≠ [] := by
  obtain ⟨h1, h2, h3⟩ := tmOk_iff.1 h
  obtain ⟨d1, d2⟩ := runM_dual m h3
  refine ⟨tmOk_iff.2 ⟨h1, by rw [List.length_map]; exact h2, d1⟩, d2, fun e => ?_⟩
  rw [e] at h3; simp only [runM] at h3; cases h3
end
end Zz
