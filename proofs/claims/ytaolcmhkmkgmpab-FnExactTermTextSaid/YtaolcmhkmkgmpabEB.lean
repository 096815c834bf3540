/- What the functions answer, as equations: EB. No conditions. -/
import Derived.Test.YtaolcmhkmkgmpabEA
set_option linter.unusedSectionVars false
set_option linter.unusedVariables false
set_option linter.unusedSimpArgs false
namespace Zz
open Go.Lg Md

/-! ### terms as trees -/
inductive Tm where
  | tst (a : Nat)
  | neg (x : Tm)
  | and (x y : Tm)
  | or (x y : Tm)
def flt : Tm → List T
  | .tst a => [(0, (a : Int))]
  | .neg x => flt x ++ [(1, 0)]
  | .and x y => flt x ++ flt y ++ [(2, 0)]
  | .or x y => flt x ++ flt y ++ [(3, 0)]
def tb (m : Int) : Tm → Prop
  | .tst a => (a : Int) < m
  | .neg x => tb m x
  | .and x y => tb m x ∧ tb m y
  | .or x y => tb m x ∧ tb m y
def ev (s : Nat) : Tm → Bool
  | .tst a => s.testBit a
  | .neg x => !ev s x
  | .and x y => ev s x && ev s y
  | .or x y => ev s x || ev s y
theorem flt_pos : ∀ x : Tm, 0 < (flt x).length
  | .tst a => by simp [flt]
  | .neg x => by simp [flt]
  | .and x y => by simp [flt]; omega
  | .or x y => by simp [flt]; omega
/-- how many parts a mark takes -/
def taken (k : Int) : Nat := if k = 0 then 0 else if k = 1 then 1 else 2
def stepG {P : Type} (mk : T → List P → P) (st : List P) (t : T) : List P := st.take (st.length - taken t.1) ++ [mk t (st.drop (st.length - taken t.1))]
def valG {P : Type} (mk : T → List P → P) : Tm → P
  | .tst a => mk (0, (a : Int)) []
  | .neg x => mk (1, 0) [valG mk x]
  | .and x y => mk (2, 0) [valG mk x, valG mk y]
  | .or x y => mk (3, 0) [valG mk x, valG mk y]
theorem stepG_0 {P : Type} (mk : T → List P → P) (st : List P) (a : Int) : stepG mk st (0, a) = st ++ [mk (0, a) []] := by
  simp [stepG, taken]
theorem stepG_1 {P : Type} (mk : T → List P → P) (st : List P) (x : P) (a : Int) : stepG mk (st ++ [x]) (1, a) = st ++ [mk (1, a) [x]] := by
  simp [stepG, taken]
theorem stepG_2 {P : Type} (mk : T → List P → P) (st : List P) (x y : P) (k a : Int) (h : k = 2 ∨ k = 3) : stepG mk (st ++ [x, y]) (k, a) = st ++ [mk (k, a) [x, y]] := by
  have e : taken k = 2 := by unfold taken; rw [if_neg (by omega), if_neg (by omega)]
  simp [stepG, e]
theorem last1 {α : Type} {l : List α} (h : 1 ≤ l.length) : ∃ r x, l = r ++ [x] := by
  have := List.dropLast_concat_getLast (l := l) (by intro e; rw [e] at h; simp at h)
  exact ⟨_, _, this.symm⟩
theorem last2 {α : Type} {l : List α} (h : 2 ≤ l.length) : ∃ r x y, l = r ++ [x, y] := by
  obtain ⟨r, y, rfl⟩ := last1 (by omega : 1 ≤ l.length)
  obtain ⟨r', x, rfl⟩ := last1 (by simp at h; omega : 1 ≤ r.length)
  exact ⟨r', x, y, by simp⟩
theorem forest {m : Int} : ∀ {ts : List T} {p q : Int}, runM m p ts = some q → ∀ F : List Tm, (F.length : Int) = p → (∀ x ∈ F, tb m x) →
    ∃ F' : List Tm, (F'.length : Int) = q ∧ (∀ x ∈ F', tb m x) ∧ F'.flatMap flt = F.flatMap flt ++ ts ∧ ∀ (P : Type) (mk : T → List P → P), ts.foldl (stepG mk) (F.map (valG mk)) = F'.map (valG mk)
  | [], p, q, h, F, hl, hb => by
    simp only [runM, Option.some.injEq] at h
    exact ⟨F, by omega, hb, by simp, fun P mk => rfl⟩
  | t :: ts, p, q, h, F, hl, hb => by
    simp only [runM] at h
    have go : ∀ (G : List Tm), runM m (G.length : Int) ts = some q → (∀ x ∈ G, tb m x) → G.flatMap flt = F.flatMap flt ++ [t] → (∀ (P : Type) (mk : T → List P → P), stepG mk (F.map (valG mk)) t = G.map (valG mk)) →
        ∃ F' : List Tm, (F'.length : Int) = q ∧ (∀ x ∈ F', tb m x) ∧ F'.flatMap flt = F.flatMap flt ++ (t :: ts) ∧ ∀ (P : Type) (mk : T → List P → P), (t :: ts).foldl (stepG mk) (F.map (valG mk)) = F'.map (valG mk) := by
      intro G h1 h2 h3 h4
      obtain ⟨F', q1, q2, q3, q4⟩ := forest h1 G rfl h2
      refine ⟨F', q1, q2, by rw [q3, h3]; simp, fun P mk => ?_⟩
      rw [List.foldl_cons, h4, q4]
    obtain ⟨k, a⟩ := t
    cases hm : mkS m p (k, a) with
    | none => rw [hm] at h; cases h
    | some p1 =>
      rw [hm] at h
      simp only at h
      unfold mkS at hm
      simp only at hm
      split at hm
      · rename_i hk
        subst hk
        split at hm
        · rename_i ha
          injection hm with hm
          obtain ⟨n, rfl⟩ := Int.eq_ofNat_of_zero_le ha.1
          refine go (F ++ [.tst n]) (by rw [show (((F ++ [Tm.tst n]).length : Nat) : Int) = p1 by simp; omega]; exact h) (fun x hx => ?_) (by simp [flt]) (fun P mk => by rw [stepG_0]; simp [valG])
          rcases List.mem_append.1 hx with h1 | h1
          · exact hb x h1
          · simp only [List.mem_singleton] at h1; subst h1; exact ha.2
        · cases hm
      · split at hm
        · rename_i _ hk
          subst hk
          split at hm
          · rename_i ha
            injection hm with hm
            obtain ⟨r, x, rfl⟩ := last1 (l := F) (by omega)
            have ha0 := ha.1
            subst ha0
            refine go (r ++ [.neg x]) (by rw [show (((r ++ [Tm.neg x]).length : Nat) : Int) = p1 by simp at hl ⊢; omega]; exact h) (fun y hy => ?_) (by simp [flt]) (fun P mk => by rw [List.map_append]; simp only [List.map_cons, List.map_nil]; rw [stepG_1]; simp [valG])
            rcases List.mem_append.1 hy with h1 | h1
            · exact hb y (List.mem_append_left _ h1)
            · simp only [List.mem_singleton] at h1; subst h1; exact hb x (by simp)
          · cases hm
        · split at hm
          · rename_i _ _ hk
            split at hm
            · rename_i ha
              injection hm with hm
              obtain ⟨r, x, y, rfl⟩ := last2 (l := F) (by omega)
              have ha0 := ha.1
              subst ha0
              have hx := hb x (by simp)
              have hy := hb y (by simp)
              rcases hk with rfl | rfl
              · refine go (r ++ [.and x y]) (by rw [show (((r ++ [Tm.and x y]).length : Nat) : Int) = p1 by simp at hl ⊢; omega]; exact h) (fun z hz => ?_) (by simp [flt]) (fun P mk => by rw [List.map_append]; simp only [List.map_cons, List.map_nil]; rw [stepG_2 _ _ _ _ _ _ (.inl rfl)]; simp [valG])
                rcases List.mem_append.1 hz with h1 | h1
                · exact hb z (List.mem_append_left _ h1)
                · simp only [List.mem_singleton] at h1; subst h1; exact ⟨hx, hy⟩
              · refine go (r ++ [.or x y]) (by rw [show (((r ++ [Tm.or x y]).length : Nat) : Int) = p1 by simp at hl ⊢; omega]; exact h) (fun z hz => ?_) (by simp [flt]) (fun P mk => by rw [List.map_append]; simp only [List.map_cons, List.map_nil]; rw [stepG_2 _ _ _ _ _ _ (.inr rfl)]; simp [valG])
                rcases List.mem_append.1 hz with h1 | h1
                · exact hb z (List.mem_append_left _ h1)
                · simp only [List.mem_singleton] at h1; subst h1; exact ⟨hx, hy⟩
            · cases hm
          · cases hm
theorem tm_tree {m : Int} {ts : List T} (h : tmOk m ts = true) : ∃ x, tb m x ∧ flt x = ts ∧ ∀ (P : Type) (mk : T → List P → P), ts.foldl (stepG mk) [] = [valG mk x] := by
  obtain ⟨_, _, h3⟩ := tmOk_iff.1 h
  obtain ⟨F, q1, q2, q3, q4⟩ := forest h3 [] rfl (by simp)
  match F, q1 with
  | [x], _ => exact ⟨x, q2 x (by simp), by simpa using q3, fun P mk => by simpa using q4 P mk⟩

/-! ### values in all states, as bits -/
def yesW (a : Nat) : BitVec 32 := match a with
  | 0 => 2863311530#32
  | 1 => 3435973836#32
  | 2 => 4042322160#32
  | 3 => 4278255360#32
  | _ => 4294901760#32
def mkW (t : T) (ps : List (BitVec 32)) : BitVec 32 :=
  if t.1 = 0 then yesW t.2.toNat else if t.1 = 1 then ~~~(ps.getD 0 0) else if t.1 = 2 then ps.getD 0 0 &&& ps.getD 1 0 else ps.getD 0 0 ||| ps.getD 1 0
theorem yes_bit : ∀ (a : Fin 5) (s : Fin 32), (yesW a.val).getLsbD s.val = s.val.testBit a.val := by decide +kernel
theorem val_bit {m : Int} (hm : m ≤ 5) : ∀ {x : Tm}, tb m x → ∀ {s : Nat}, s < 32 → (valG mkW x).getLsbD s = ev s x
  | .tst a, h, s, hs => by
    have ha : a < 5 := by have : (a : Int) < m := h; omega
    have := yes_bit ⟨a, ha⟩ ⟨s, hs⟩
    simpa [valG, mkW, ev] using this
  | .neg x, h, s, hs => by
    have ih := val_bit hm (x := x) h hs
    have e : valG mkW (.neg x) = ~~~(valG mkW x) := by simp [valG, mkW]
    rw [e, BitVec.getLsbD_not, ih]
    simp [hs, ev]
  | .and x y, h, s, hs => by
    have i1 := val_bit hm (x := x) h.1 hs
    have i2 := val_bit hm (x := y) h.2 hs
    simp [valG, mkW, ev, i1, i2]
  | .or x y, h, s, hs => by
    have i1 := val_bit hm (x := x) h.1 hs
    have i2 := val_bit hm (x := y) h.2 hs
    simp [valG, mkW, ev, i1, i2]
def tsW (ts : List T) : BitVec 32 := (ts.foldl (stepG mkW) []).headD 0
/-- the value of a term in a state -/
def tv (ts : List T) (s : Nat) : Bool := (tsW ts).getLsbD s
theorem tv_tree {m : Int} {ts : List T} (h : tmOk m ts = true) : ∃ x, tb m x ∧ flt x = ts ∧ ts.foldl (stepG mkW) [] = [tsW ts] ∧ ∀ s, s < 32 → tv ts s = ev s x := by
  obtain ⟨h1, _, _⟩ := tmOk_iff.1 h
  obtain ⟨x, b, f, g⟩ := tm_tree h
  have e : tsW ts = valG mkW x := by unfold tsW; rw [g]; rfl
  exact ⟨x, b, f, by rw [g, e], fun s hs => by unfold tv; rw [e]; exact val_bit h1.2 b hs⟩
/-- A term reads no tests but its own. -/
theorem ev_congr {m : Int} {s s' : Nat} (h : ∀ a : Nat, (a : Int) < m → s.testBit a = s'.testBit a) : ∀ {x : Tm}, tb m x → ev s x = ev s' x
  | .tst a, hb => h a hb
  | .neg x, hb => by simp only [ev, ev_congr h (x := x) hb]
  | .and x y, hb => by simp only [ev, ev_congr h (x := x) hb.1, ev_congr h (x := y) hb.2]
  | .or x y, hb => by simp only [ev, ev_congr h (x := x) hb.1, ev_congr h (x := y) hb.2]
end Zz

namespace Zz
open Go.Lg Md
set_option linter.unusedSimpArgs false
set_option linter.unusedVariables false
attribute [local simp] ia_mv ia_newnil ia_pick ia_bin ia_eqb ia_eqs ia_un ia_len ia_lens ia_chk ia_fld ia_fldv ia_idxa ia_idx ia_load ia_store ia_slice ia_slices ia_make ia_alloc ia_box ia_build ia_bslice ia_app ia_b2i ia_i2b ia_i2i ia_same ia_b2s ia_s2b ia_ext ia_mm ia_idxp ia_calld ia_mkfn ia_i2r ia_r2s ia_call pt_nil pt_cons mi_nil mi_cons md_bslice md_mv md_newnil md_pick md_bin md_eqb md_un md_len md_lens md_fld md_fldv md_idxa md_idx md_load md_store md_slice md_slices md_make md_alloc md_box md_build md_app md_conv md_ext md_call md_calld md_callg md_mkfn md_mm md_idxp md_eqn md_eqs md_chk tg_bslice tg_mv tg_newnil tg_pick tg_bin tg_eqb tg_un tg_len tg_lens tg_fld tg_fldv tg_idxa tg_idx tg_load tg_store tg_slice tg_slices tg_make tg_alloc tg_box tg_build tg_app tg_conv tg_ext tg_call tg_calld tg_callg tg_mkfn tg_mm tg_idxp tg_eqn tg_eqs tg_chk rp_eq ro_eq ifP_t ifP_f np_def ng1_nil ng2_nil ng_gate ng_gen tgA_t tgA_0 tgA_1 tgA_2 aC_nil aC_c aC_t nxP_some nxP_none rq_nil rq_gen rq_gate nxR_some nxR_none ru_nil ru_gen ru_gate pl_none pl_some gt_nil gt_t gt_c di_some di_none an_nil an_cons nxG_some nxG_none rg_nil rg_gen rg_gate oldO_some oa_nil oa_i oa_y oa_b oa_s oa_st oa_sl oa_own oa_oad oa_nl al_nil al_cons al_i al_y al_b al_s al_st al_sl nxF_some nxF_none rf_nil rf_gen rf_gate hk_newnil hk_make hk_alloc hk_box hk_build hk_bslice hk_call hk_store hk_app cl_nil cl_cons ai_nil ai_cons il_i il_y il_b il_s il_st il_sl il_own il_adr il_oad il_ref il_fr il_tup il_nil il_np il_und il_dead ol_adr ol_b ol_dead ol_e ol_fn ol_fr ol_i ol_nil ol_np ol_oad ol_own ol_q ol_r ol_ref ol_s ol_sl ol_st ol_tup ol_und ol_w ol_y oj_e oj_i oj_y oj_b oj_s oj_st oj_sl oj_own oj_adr oj_oad oj_ref oj_fr oj_tup oj_nil oj_np oj_und oj_dead oj_w oj_q oj_r oj_fn oi_e oi_i oi_y oi_b oi_s oi_st oi_sl oi_own oi_adr oi_oad oi_ref oi_fr oi_tup oi_nil oi_np oi_und oi_dead as_nil as_cons ao_nil ao_cons av_i av_y av_b av_s av_st av_sl av_own av_adr av_oad av_ref av_fr av_tup av_nil av_np av_und av_dead pro_cons ghK_some ks_promote ks_freeze frz_own ks_rename ren_own dropO adoptP newP wholeP cutP allOldL ex_skip ex_ret ex_exit ks_region ks_seq ks_cond ks_block seqK_n seqK_e seqK_r regK_some condK_t condK_f blkK_n blkK_r blkK_e endK_n endK_r rr_false rr_true rd_free mo_nil mo_cons drK_some drK_none nxW_some nxW_none rw_nil rw_gen rw_gate ak_newnil ak_make ak_alloc ak_box ak_build ak_bslice ak_call ak_store ak_app iw_mm iw_eqn iw_idxp ef_callg cgK_some gv_e gv_own gv_i gv_sl gv_st gv_b gv_nil gvK_some gvO_some iw_callg ia_callg ak_callg hk_callg is_mv is_newnil is_pick is_bin is_eqb is_eqs is_un is_len is_lens is_chk is_fld is_fldv is_idxa is_idx is_load is_slice is_slices is_make is_alloc is_box is_build is_bslice is_app is_conv is_ext is_call is_calld is_callg is_mkfn is_mm is_idxp is_eqn is_store rt_nil rt_gen rt_gate nxT_some nxT_none ef_eqn_nil ef_eqn_sl ef_eqn_own ia_eqn ef_mmx ef_mmn ef_idxp nxD_some nxD_none ov_i ov_y ov_b ov_s ov_st ov_sl ov_own ov_oad ov_adr ov_nil ov_np ov_und ov_dead ov_tup oldN_some oldN_nil oldN_none so_none so_i so_y so_b so_s so_st so_sl so_adr so_nil so_np so_und so_dead anyM_nil anyM_t anyM_c so_own so_oad rd_nil rd_gen rd_mv rd_gate iw_mv iw_newnil iw_pick iw_bin iw_eqb iw_eqs iw_un iw_len iw_lens iw_chk iw_fld iw_fldv iw_idxa iw_idx iw_load iw_store iw_slice iw_slices iw_make iw_alloc iw_box iw_build iw_bslice iw_app iw_b2i iw_i2b iw_i2i iw_same iw_b2s iw_s2b iw_ext iw_call nm_i nm_y nm_b nm_s nm_st nm_sl nm_own nm_oad nm_adr nm_nil nm_np nm_und nm_dead nm_tup rl_nil rl_gate rl_mv rl_gen opv_t opv_c nx_some nx_none gate_tt gate_tf gate_ft gate_ff gate_u fr_ap em_nil em_i em_y em_b em_s em_st em_sl em_own em_adr em_oad em_ref em_nl em_np em_und em_dead em_tup0 em_tup_i em_tup_b em_tup_s em_tup_sl em_tup_st em_tup_np em_tup_own em_tup_oad mm_i mm_y mm_b mm_s mm_st mm_sl mm_own mm_oad mm_adr mm_nil mm_np mm_und mm_dead ef_mv ef_newnil ef_pickt ef_pickf ef_bin ef_eqb ef_eqs ef_un ef_lens ef_len_sl ef_len_own ef_len_nil ef_chk_adr ef_chk_oad ef_fld_adr ef_fld_oad ef_fldv idxR_some ef_idxa_sl ef_idxa_own ef_idx ef_load_adr_st ef_load_adr_i ef_load_adr_y ef_load_adr_b ef_load_adr_s ef_load_adr_sl atN_nil atN_zero atN_succ ef_load_oad ef_store ef_slice ef_slices ef_make ef_alloc ef_box ef_build ef_bslice ef_app_own ef_app_nil ef_b2i ef_i2b ef_i2i ef_same ef_ext ret1 ret2_some calL_some ef_call retC_i retC_y retC_b retC_s retC_st retC_sl retC_np retC_fr retC_ref retC_tup rk_nil rk_i rk_y rk_b rk_s rk_st rk_sl rk_own rk_oad rk_nl ok_nil ok_i ok_y ok_b ok_s ok_st ok_sl ok_own ok_oad ok_nl lo_nil lo_i lo_y lo_b lo_s lo_st lo_sl lo_own lo_oad lo_nl pr_nil pr_i pr_y pr_b pr_s pr_st pr_sl pr_own pr_nl pr_oad nr_i nr_y nr_b nr_s nr_st nr_sl nr_fr nr_np nr_tup ng_i ng_b ng_s ng_fr ng_nil resV effP_eff binD bi_add bi_sub bi_mul bi_quo bi_rem bi_eql bi_neq bi_lss bi_leq bi_gtr bi_geq bi_shl bi_shr bi_and bi_or bi_xor bi_andNot binY binS unD look put putD LS.get LS.drop killE sweep lookO putO dropO enter leave giveBackL giveBack outs lendArgs lendArg newOuts takeIn takeInL lendL DV.lend adoptL DV.adopt elems apartKs part DV.cells unpart settle settleL over mkId szId fillP fillE tk_e2 tk_i tk_y lt_e2 lt_i lt_y lend_rep al_e2 al_is al_ys al_rep al_app lend_app adopt_app new_app lend_e2 lend_i lend_y adopt_e2 adopt_i adopt_y new_e2 new_i allNewL DV.allNew bounds sliceD sliceS em_w em_q em_r em_fn em_tup_w em_tup_q em_tup_r mm_w mm_q mm_r mm_fn ef_load_adr_w ef_load_adr_q ef_load_adr_r retC_w retC_q retC_r rk_w rk_q rk_r rk_fn ok_w ok_q ok_r ok_fn lo_w lo_q lo_r lo_fn pr_w pr_q pr_r pr_fn nr_w nr_q nr_r ng_w ng_q ng_r oa_w oa_q oa_r oa_fn al_w al_q al_r al_fn ov_w ov_q ov_r ov_fn so_w so_q so_r so_fn il_w il_q il_r il_fn oi_w oi_q oi_r oi_fn av_w av_q av_r av_fn nm_w nm_q nm_r nm_fn ef_i2r ef_r2s ef_mkfn ef_idxp_adr ef_calld capsOk DV.cell List.all_cons List.all_nil rk_own_t lo_own_t lk_f lk_t pr_own_t mutB ak_calld hk_calld iw_calld iw_mkfn iw_i2r iw_r2s bw_and bw_or bw_xor bw_andNot bw_eql bw_neq sw_shl sw_shr sq_shl gEnv_nil rk_adr ok_adr lo_adr pr_adr oa_adr capL capArg DV.cap ak_mkfn hk_mkfn
attribute [local congr] ifP_congr nxP_congr nxR_congr nxT_congr nxG_congr nxF_congr ghK_congr gate_congr nx_congr nxD_congr runL_congr runD_congr eff_congr calL_congr ret2_congr seqK_congr regK_congr condK_congr endK_congr drK_congr nxW_congr
attribute [local simp ↓] nxT_some rt_nil rt_gen rt_gate nxP_some rq_nil rq_gen rq_gate nxR_some ru_nil ru_gen ru_gate nxG_some rg_nil rg_gen rg_gate nxF_some rf_nil rf_gen rf_gate ks_promote ks_freeze frz_own ks_rename ghK_some gate_tt gate_tf gate_ft gate_ff gate_u nx_some nxD_some rl_nil rl_mv rl_gen rl_gate rd_nil rd_mv rd_gen rd_gate rd_free rr_false rr_true drK_some drK_none nxW_some rw_nil rw_gen rw_gate ks_region ks_seq ks_cond ks_block seqK_n seqK_e seqK_r regK_some condK_t condK_f blkK_n blkK_r endK_n endK_r calL_some ret2_some opv_t opv_c
section
attribute [-simp] DV.cells
attribute [local simp] cells_st cells_sl cells_i cells_y cells_b cells_s
theorem cells_w (x : BitVec 32) : (DV.w x).cells = [DV.w x] := rfl
attribute [local simp] cells_w
end
section
attribute [-simp] DV.cells
attribute [local simp] cells_st cells_sl cells_i cells_y cells_b cells_s cells_w
theorem lend_w (l : List (BitVec 32)) : lendL (l.map .w) = l.map .w := by
  rw [lendL_map, List.map_map]; rfl
theorem w_wid (l : List (BitVec 32)) : ∀ e ∈ l.map DV.w, e.cells.length = 1 := by
  intro e he; obtain ⟨x, _, rfl⟩ := List.mem_map.1 he; rfl
end
section
attribute [-simp] DV.cells
attribute [local simp] cells_st cells_sl cells_i cells_y cells_b cells_s cells_w
theorem bitW (v : BitVec 32) (s : Nat) : (shrW v s &&& 1#32 == 1#32) = v.getLsbD s := by
  unfold shrW
  rw [BitVec.and_one_eq_setWidth_ofBool_getLsbD, BitVec.getLsbD_ushiftRight, Nat.add_zero]
  cases v.getLsbD s <;> rfl
def vOf (m : Int) (ts : List T) (s : Int) : Bool := tmOk m ts && stOk m s && tv ts s.toNat
theorem st32 {m s : Int} (h : stOk m s = true) : 0 ≤ s ∧ s < 32 := by
  obtain ⟨h1, h2, h3⟩ := stOk_iff.1 h
  have : (2 : Int) ^ m.toNat ≤ 2 ^ 5 := Md.pow_le (n := m.toNat) (m := 5) (by omega) 2 (by omega)
  simp at this; omega
/-! ### the given reading -/
theorem at_mid {pre post : List T} {t : T} {k : Int} (hk : k = pre.length) : atI ((pre ++ t :: post).map e2) k = some (e2 t) := by
  subst hk
  simp [atI]
def stL (es : List DV) (need at_ : Int) : LS := ⟨[(0, .sl 0 es), (5, .i need), (6, .i at_)], []⟩
set_option maxHeartbeats 4000000 in
theorem l_starts (es : List DV) (hl : es.length ≤ 100000) : ∀ (x : Tm) (pre post : List T) (need : Int), es = (pre ++ flt x ++ post).map e2 → 0 ≤ need → need + (flt x).length ≤ 1000000 →
    ex lf F_spec_l2Starts_W0 (stL es (need + 1) ((pre.length : Int) + (flt x).length - 1)) = ex lf F_spec_l2Starts_W0 (stL es need ((pre.length : Int) - 1)) := by
  intro x
  induction x with
  | tst a =>
    intro pre post need he hn hn2
    have hat := at_mid (pre := pre) (t := (0, (a : Int))) (post := post) (k := (pre.length : Int)) rfl
    have he' : es = (pre ++ (0, (a : Int)) :: post).map e2 := by rw [he]; simp [flt]
    rw [← he'] at hat
    simp only [e2] at hat
    have hn2 : need ≤ 1000000 := by omega
    have w1 : wr need = need := wr_id (by omega) (by omega)
    have hle : pre.length ≤ 100000 := by rw [he'] at hl; simp at hl; omega
    have w2 : wr ((pre.length : Int) - 1) = (pre.length : Int) - 1 := wr_id (by omega) (by omega)
    have c1 : 0 < need + 1 := by omega
    have e1 : (pre.length : Int) + ((flt (.tst a)).length : Nat) - 1 = pre.length := by simp [flt]
    rw [e1, w_spec_l2Starts_0]
    unfold stL
    simp [F_spec_l2Starts_L0, c1, hat, w1, w2]
  | neg x ih =>
    intro pre post need he hn hn2
    have he' : es = ((pre ++ flt x) ++ (1, 0) :: post).map e2 := by rw [he]; simp [flt]
    have hat := at_mid (pre := pre ++ flt x) (t := (1, 0)) (post := post) (k := (pre.length : Int) + (flt x).length) (by simp)
    rw [← he'] at hat
    simp only [e2] at hat
    have ih := ih pre ((1, 0) :: post) need (by rw [he]; simp [flt]) hn (by simp [flt] at hn2; omega)
    have hle : pre.length + (flt x).length ≤ 100000 := by rw [he'] at hl; simp at hl; omega
    have w2 : wr ((pre.length : Int) + (flt x).length - 1) = (pre.length : Int) + (flt x).length - 1 := wr_id (by omega) (by omega)
    have c1 : 0 < need + 1 := by omega
    have e1 : (pre.length : Int) + ((flt (.neg x)).length : Nat) - 1 = pre.length + (flt x).length := by simp [flt]; omega
    rw [← ih, e1]
    conv => lhs; rw [w_spec_l2Starts_0]
    unfold stL
    simp [F_spec_l2Starts_L0, c1, hat, w2]
  | and x y ihx ihy =>
    intro pre post need he hn hn2
    have he' : es = ((pre ++ flt x ++ flt y) ++ (2, 0) :: post).map e2 := by rw [he]; simp [flt]
    have hat := at_mid (pre := pre ++ flt x ++ flt y) (t := (2, 0)) (post := post) (k := (pre.length : Int) + (flt x).length + (flt y).length) (by simp; omega)
    rw [← he'] at hat
    simp only [e2] at hat
    have hle : pre.length + (flt x).length + (flt y).length ≤ 100000 := by rw [he'] at hl; simp at hl; omega
    have px := flt_pos x
    have hn3 : need + (flt x).length + (flt y).length + 1 ≤ 1000000 := by simp [flt] at hn2; omega
    have i1 := ihx pre (flt y ++ (2, 0) :: post) need (by rw [he]; simp [flt]) hn (by omega)
    have w1 : wr (need + 1 + 1) = need + 1 + 1 := wr_id (by omega) (by omega)
    have w2 : wr ((pre.length : Int) + (flt x).length + (flt y).length - 1) = (pre.length : Int) + (flt x).length + (flt y).length - 1 := wr_id (by omega) (by omega)
    have c1 : 0 < need + 1 := by omega
    have e1 : (pre.length : Int) + ((flt (.and x y)).length : Nat) - 1 = pre.length + (flt x).length + (flt y).length := by simp [flt]; omega
    have i2 := ihy (pre ++ flt x) ((2, 0) :: post) (need + 1) (by rw [he]; simp [flt]) (by omega) (by omega)
    have e3 : (((pre ++ flt x).length : Nat) : Int) = pre.length + (flt x).length := by simp
    rw [e3] at i2
    rw [← i1, ← i2, e1]
    conv => lhs; rw [w_spec_l2Starts_0]
    unfold stL
    simp [F_spec_l2Starts_L0, c1, hat, w1, w2]
  | or x y ihx ihy =>
    intro pre post need he hn hn2
    have he' : es = ((pre ++ flt x ++ flt y) ++ (3, 0) :: post).map e2 := by rw [he]; simp [flt]
    have hat := at_mid (pre := pre ++ flt x ++ flt y) (t := (3, 0)) (post := post) (k := (pre.length : Int) + (flt x).length + (flt y).length) (by simp; omega)
    rw [← he'] at hat
    simp only [e2] at hat
    have hle : pre.length + (flt x).length + (flt y).length ≤ 100000 := by rw [he'] at hl; simp at hl; omega
    have px := flt_pos x
    have hn3 : need + (flt x).length + (flt y).length + 1 ≤ 1000000 := by simp [flt] at hn2; omega
    have i1 := ihx pre (flt y ++ (3, 0) :: post) need (by rw [he]; simp [flt]) hn (by omega)
    have w1 : wr (need + 1 + 1) = need + 1 + 1 := wr_id (by omega) (by omega)
    have w2 : wr ((pre.length : Int) + (flt x).length + (flt y).length - 1) = (pre.length : Int) + (flt x).length + (flt y).length - 1 := wr_id (by omega) (by omega)
    have c1 : 0 < need + 1 := by omega
    have e1 : (pre.length : Int) + ((flt (.or x y)).length : Nat) - 1 = pre.length + (flt x).length + (flt y).length := by simp [flt]; omega
    have i2 := ihy (pre ++ flt x) ((3, 0) :: post) (need + 1) (by rw [he]; simp [flt]) (by omega) (by omega)
    have e3 : (((pre ++ flt x).length : Nat) : Int) = pre.length + (flt x).length := by simp
    rw [e3] at i2
    rw [← i1, ← i2, e1]
    conv => lhs; rw [w_spec_l2Starts_0]
    unfold stL
    simp [F_spec_l2Starts_L0, c1, hat, w1, w2]
theorem c_spec_l2Starts (x : Tm) (pre post : List T) (hl : pre.length + (flt x).length + post.length ≤ 100000) :
    call lf n_spec_l2Starts [.sl 0 ((pre ++ flt x ++ post).map e2), .i ((pre.length : Int) + (flt x).length - 1)] = some (.i pre.length, []) := by
  have L := l_starts ((pre ++ flt x ++ post).map e2) (by simp; omega) x pre post 0 rfl (by omega) (by omega)
  have L0 : ex lf F_spec_l2Starts_W0 (stL ((pre ++ flt x ++ post).map e2) 0 ((pre.length : Int) - 1)) = some (.exit 0, stL ((pre ++ flt x ++ post).map e2) 0 ((pre.length : Int) - 1)) := by
    rw [w_spec_l2Starts_0]
    unfold stL
    simp [F_spec_l2Starts_L0]
  rw [L0] at L
  have w : wr ((pre.length : Int)) = pre.length := wr_id (by omega) (by omega)
  rw [call_k lf n_spec_l2Starts _ (F := F_spec_l2Starts) rfl rfl]
  unfold stL at L
  simp at L
  simp [F_spec_l2Starts, L, w]
theorem cut_hi (ob : OB) (sz : Nat) {es : List DV} (wid : ∀ e ∈ es, e.cells.length = sz) {h : Nat} (hh : h ≤ es.length) : sliceD ob (.sl 0 es) sz none (some (h : Int)) = some (.sl 0 (es.take h)) := by
  unfold sliceD
  simp only [Option.getD_some, Option.getD_none]
  rw [if_pos ⟨Int.le_refl _, by omega, by omega, wid⟩]
  simp [cutP]
theorem cut_lohi (ob : OB) (sz : Nat) {es : List DV} (wid : ∀ e ∈ es, e.cells.length = sz) {l h : Nat} (hl : l ≤ h) (hh : h ≤ es.length) : sliceD ob (.sl 0 es) sz (some (l : Int)) (some (h : Int)) = some (.sl 0 ((es.take h).drop l)) := by
  unfold sliceD
  simp only [Option.getD_some]
  rw [if_pos ⟨by omega, by omega, by omega, wid⟩]
  simp [cutP]
attribute [-simp] sliceD
def bI (b : Bool) : Int := if b then 1 else 0
end
section
attribute [-simp] DV.cells
attribute [local simp] cells_st cells_sl cells_i cells_y cells_b cells_s
theorem quo59 {x : Int} (h0 : 0 ≤ x) (h1 : x < 60) : x.tdiv 59 = 0 ∨ x.tdiv 59 = 1 := by
  rw [Int.tdiv_eq_ediv_of_nonneg h0]; omega
theorem c_l20Asked {bs : List Nat} (hb : ∀ y ∈ bs, y < 256) (hl : bs.length ≤ 2000) {p n : Int} (h0 : 0 ≤ p) (h1 : p < 600000) (hn : 1 ≤ n) (hn2 : n ≤ 1000000) :
    ∃ (a : Int) (t : List T) (p' : Int), 1 ≤ a ∧ a ≤ 10 ∧ t.length ≤ 12 ∧ p ≤ p' ∧ p' ≤ p + 70 ∧ call lf n_spec_l20Asked [.ref (.st [.sl 0 (bs.map .y), .i p]), .i n] = some (.tup [.i a, .fr 2 (t.map e2)], [.st [.sl 0 (bs.map .y), .i p']]) := by
  have k1 := c_pick hb hl h0 (by omega : p < 1000000) (by omega : (1 : Int) ≤ 5)
  have a1 := pk_bound hb h0 (by omega : p ≤ 1000000) (by omega : (1 : Int) ≤ 5)
  have k2 := c_pick hb hl (by omega : 0 ≤ p + 1) (by omega : p + 1 < 1000000) (by omega : (1 : Int) ≤ 60)
  have a2 := pk_bound hb (by omega : 0 ≤ p + 1) (by omega : p + 1 ≤ 1000000) (by omega : (1 : Int) ≤ 60)
  generalize pk bs p 5 = x1 at *
  generalize pk bs (p + 1) 60 = x2 at *
  have w1 : wr (1 + x1) = 1 + x1 := wr_id (by omega) (by omega)
  obtain ⟨t, p', t1, t2, t3, t4⟩ := c_l20Term hb hl (by omega : 0 ≤ p + 1 + 1) (by omega) (by omega : 1 ≤ 1 + x1) (by omega : 1 + x1 ≤ 5) hn hn2
  rcases quo59 a2.1 a2.2 with q | q
  · have w2 : wr 0 = 0 := wr_id (by omega) (by omega)
    refine ⟨1 + x1, t, p', by omega, by omega, t1, by omega, by omega, ?_⟩
    rw [call_k lf n_spec_l20Asked _ (F := F_spec_l20Asked) rfl rfl]
    simp [F_spec_l20Asked, k1, k2, w1, q, w2, t4]
  · have w2 : wr 1 = 1 := wr_id (by omega) (by omega)
    have w3 : wr 5 = 5 := wr_id (by omega) (by omega)
    have w4 : wr (1 + x1 + 5) = 1 + x1 + 5 := wr_id (by omega) (by omega)
    refine ⟨1 + x1 + 5, t, p', by omega, by omega, t1, by omega, by omega, ?_⟩
    rw [call_k lf n_spec_l20Asked _ (F := F_spec_l20Asked) rfl rfl]
    simp [F_spec_l20Asked, k1, k2, w1, q, w2, w3, w4, t4]
theorem runM_app (m : Int) : ∀ (ts us : List T) (p : Int), runM m p (ts ++ us) = match runM m p ts with | some q => runM m q us | none => none
  | [], us, p => rfl
  | t :: ts, us, p => by
    simp only [List.cons_append, runM]
    cases mkS m p t with
    | none => rfl
    | some q => exact runM_app m ts us q
theorem tm_one {a : Int} (h1 : 1 ≤ a) (h5 : a ≤ 5) : tmOk a [(0, a - 1)] = true := by
  rw [tmOk_iff]
  refine ⟨⟨h1, h5⟩, by simp, ?_⟩
  have e : mkS a 0 (0, a - 1) = some 1 := by
    unfold mkS
    rw [if_pos rfl, if_pos ⟨show 0 ≤ a - 1 by omega, show a - 1 < a by omega⟩]; rfl
  simp only [runM, e]
theorem tm_none {a : Int} : tmOk a [(0, a)] = false := by
  cases h : tmOk a [(0, a)] with
  | false => rfl
  | true =>
    have h3 := (tmOk_iff.1 h).2.2
    have e : mkS a 0 (0, a) = none := by
      unfold mkS
      rw [if_pos rfl, if_neg (fun h => by have := h.2; simp at this)]
    simp only [runM, e] at h3
    cases h3
theorem tm_two {a : Int} {t : List T} {k : Int} (hk : k = 2 ∨ k = 3) (h : tmOk a t = true) (hl : t.length ≤ 11) : tmOk a (t ++ [(0, 0), (k, 0)]) = true := by
  rw [tmOk_iff] at *
  obtain ⟨h1, h2, h3⟩ := h
  refine ⟨h1, by simp only [List.length_append, List.length_cons, List.length_nil]; omega, ?_⟩
  rw [runM_app, h3]
  have e : mkS a 1 (0, 0) = some 2 := by
    unfold mkS
    rw [if_pos rfl, if_pos ⟨show (0 : Int) ≤ 0 by omega, show 0 < a by omega⟩]; rfl
  have f : mkS a 2 (k, 0) = some 1 := by
    unfold mkS
    rw [if_neg (show ¬ k = 0 by omega), if_neg (show ¬ k = 1 by omega), if_pos (show k = 2 ∨ k = 3 by omega), if_pos ⟨rfl, by omega⟩]; rfl
  simp only [runM, e, f]
theorem tm_not {a : Int} {t : List T} (h : tmOk a t = true) (hl : t.length ≤ 11) : tmOk a (t ++ [(1, 0)]) = true := by
  rw [tmOk_iff] at *
  obtain ⟨h1, h2, h3⟩ := h
  refine ⟨h1, by simp only [List.length_append, List.length_cons, List.length_nil]; omega, ?_⟩
  rw [runM_app, h3]
  have e : mkS a 1 (1, 0) = some 1 := by
    unfold mkS
    rw [if_neg (show ¬ (1 : Int) = 0 by omega), if_pos rfl, if_pos ⟨rfl, by omega⟩]
  simp only [runM, e]
end
section
attribute [-simp] DV.cells
attribute [local simp] cells_st cells_sl cells_i cells_y cells_b cells_s
theorem c_sameMarks (as bs : List T) (ha : as.length ≤ 1000) : call lf n_laws_sameMarks [.sl 0 (as.map e2), .sl 0 (bs.map e2)] = some (.b (as == bs), []) := by
  rw [call_k lf n_laws_sameMarks _ (F := F_laws_sameMarks) rfl rfl]
  by_cases hl : (as.length : Int) = bs.length
  · have L : ex lf F_laws_sameMarks_W0 ⟨[(0, .sl 0 (as.map e2)), (1, .sl 0 (bs.map e2)), (5, .i 0)], []⟩ = if allTo (eqAt as bs) as.length = true then some (.exit 0, ⟨[(0, .sl 0 (as.map e2)), (1, .sl 0 (bs.map e2)), (5, .i as.length)], []⟩) else some (.ret, ⟨[(4, .b false)], []⟩) := by
      refine loop_all as.length (fun i => ⟨[(0, .sl 0 (as.map e2)), (1, .sl 0 (bs.map e2)), (5, .i i)], []⟩) _ (fun i hi => ?_) ?_ (by simp)
      · obtain ⟨t, q1, q2, q3, q4⟩ := at_e2 hi
        obtain ⟨u, r1, r2, r3, r4⟩ := at_e2 (ts := bs) (i := i) (by omega)
        have w1 : wr ((i : Int) + 1) = (i : Int) + 1 := wr_id (by omega) (by omega)
        by_cases x1 : t.1 = u.1
        · by_cases x2 : t.2 = u.2
          · have e : eqAt as bs i = true := by rw [eqAt, q1, r1]; simp [Prod.ext x1 x2]
            simp [F_laws_sameMarks_L0, hi, q3, r3, w1, eqI, x1, x2, e]
          · have e : eqAt as bs i = false := by
              rw [eqAt, q1, r1, beq_eq_false_iff_ne]; intro h; injection h with h; exact x2 (by rw [h])
            simp [F_laws_sameMarks_L0, hi, q3, r3, w1, eqI, x1, x2, e]
        · have e : eqAt as bs i = false := by
            rw [eqAt, q1, r1, beq_eq_false_iff_ne]; intro h; injection h with h; exact x1 (by rw [h])
          simp [F_laws_sameMarks_L0, hi, q3, r3, w1, eqI, x1, e]
      · simp [F_laws_sameMarks_L0]
    have e : allTo (eqAt as bs) as.length = (as == bs) := by
      rw [Bool.eq_iff_iff, allTo_iff, beq_iff_eq]
      constructor
      · intro h
        apply List.ext_getElem?
        intro i
        by_cases hi : i < as.length
        · have := h i hi
          unfold eqAt at this
          exact beq_iff_eq.1 this
        · rw [List.getElem?_eq_none (by omega), List.getElem?_eq_none (by omega)]
      · rintro rfl i _; simp [eqAt]
    rw [e] at L
    have hl' : as.length = bs.length := by omega
    cases h : (as == bs) <;> simp [F_laws_sameMarks, L, hl', h]
  · have e : (as == bs) = false := by rw [beq_eq_false_iff_ne]; rintro rfl; exact hl rfl
    have y : ((as.length : Int) != bs.length) = true := bne_iff_ne.2 hl
    simp [F_laws_sameMarks, y, e]
theorem runM_dual (m : Int) : ∀ {ts : List T} {p q : Int}, runM m p ts = some q → runM m p (ts.map dT) = some q ∧ (ts.map dT).map dT = ts
  | [], p, q, h => ⟨h, rfl⟩
  | t :: ts, p, q, h => by
    simp only [runM] at h
    cases hm : mkS m p t with
    | none => rw [hm] at h; cases h
    | some p1 =>
      rw [hm] at h
      obtain ⟨h1, h2⟩ := runM_dual m h
      have key : mkS m p (dT t) = some p1 ∧ dT (dT t) = t := by
        by_cases k2 : t.1 = 2
        · have hd : dT t = (3, 0) := by unfold dT; rw [if_pos k2]
          rw [hd]
          unfold mkS at hm
          rw [if_neg (by omega), if_neg (by omega), if_pos (.inl k2)] at hm
          split at hm
          · rename_i hc
            injection hm with hm
            refine ⟨?_, ?_⟩
            · unfold mkS
              rw [if_neg (show ¬ (3 : Int) = 0 by omega), if_neg (show ¬ (3 : Int) = 1 by omega), if_pos (.inr rfl), if_pos ⟨rfl, hc.2⟩, hm]
            · unfold dT
              rw [if_neg (show ¬ (3 : Int) = 2 by omega), if_pos rfl]
              exact Prod.ext k2.symm hc.1.symm
          · cases hm
        · by_cases k3 : t.1 = 3
          · have hd : dT t = (2, 0) := by unfold dT; rw [if_neg k2, if_pos k3]
            rw [hd]
            unfold mkS at hm
            rw [if_neg (by omega), if_neg (by omega), if_pos (.inr k3)] at hm
            split at hm
            · rename_i hc
              injection hm with hm
              refine ⟨?_, ?_⟩
              · unfold mkS
                rw [if_neg (show ¬ (2 : Int) = 0 by omega), if_neg (show ¬ (2 : Int) = 1 by omega), if_pos (.inl rfl), if_pos ⟨rfl, hc.2⟩, hm]
              · unfold dT
                rw [if_pos rfl]
                exact Prod.ext k3.symm hc.1.symm
            · cases hm
          · have hd : dT t = t := by unfold dT; rw [if_neg k2, if_neg k3]
            rw [hd]; exact ⟨hm, hd⟩
      simp only [List.map_cons, runM, key.1, key.2, h1, h2, and_self]
theorem tm_dual {m : Int} {ts : List T} (h : tmOk m ts = true) : tmOk m (ts.map dT) = true ∧ (ts.map dT).map dT = ts ∧ ts ≠ [] := by
  obtain ⟨h1, h2, h3⟩ := tmOk_iff.1 h
  obtain ⟨d1, d2⟩ := runM_dual m h3
  refine ⟨tmOk_iff.2 ⟨h1, by rw [List.length_map]; exact h2, d1⟩, d2, fun e => ?_⟩
  rw [e] at h3; simp only [runM] at h3; cases h3
end
end Zz
