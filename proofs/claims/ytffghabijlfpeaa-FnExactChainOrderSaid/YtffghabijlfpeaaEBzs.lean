/- What the functions answer, as equations: EB. No conditions. -/
import Derived.Test.YtffghabijlfpeaaEAzs
set_option linter.unusedSectionVars false
set_option linter.unusedVariables false
set_option linter.unusedSimpArgs false
namespace Zz
open Go.Lg Md
set_option linter.unusedSimpArgs false
set_option linter.unusedVariables false
attribute [local simp] tm_mv tm_newnil tm_pick tm_bin tm_eqb tm_eqs tm_un tm_len tm_lens tm_chk tm_fld tm_fldv tm_idxa tm_idx tm_load tm_store tm_slice tm_slices tm_make tm_alloc tm_box tm_build tm_app tm_conv tm_ext tm_call tm_calld tm_mkfn tm_mm tm_idxp tm_eqn tm_callg tm_callm tm_bslice0 tm_bslice1 tm_bslice2 tm_bslice cw_nil cw_cons cd_none cd_some ec_nil ec_cons es_nil es_one es_more nn_nil nn_cons ns_nil ns_cons si_nil si_cons sk_t stod_oad stod_own stod_adr stod_dead ml_nil ml_cons nt_nil nt_cons nc_nil' nc_cons sa_mkfn cv_adr cv_i cv_y cv_b cv_w sa_calld nm_def nh_nil nh_cons nxM_some nxM_none sc_st sd_i sd_y sd_b sd_s sd_w sd_q sc_i sc_y sc_b sc_s sc_w sc_q sa_bslice sa_app nc_own nc_nil sa_call sa_alloc sa_build sa_callm rm_nil rm_one rm_gen bq_mul bq_eql ia_mv ia_newnil ia_pick ia_bin ia_eqb ia_eqs ia_un ia_len ia_lens ia_chk ia_fld ia_fldv ia_idxa ia_idx ia_load ia_store ia_slice ia_slices ia_make ia_alloc ia_box ia_build ia_bslice ia_app ia_b2i ia_i2b ia_i2i ia_same ia_b2s ia_s2b ia_ext ia_mm ia_idxp ia_calld ia_mkfn ia_i2r ia_r2s ia_call pt_nil pt_cons mi_nil mi_cons md_bslice md_mv md_newnil md_pick md_bin md_eqb md_un md_len md_lens md_fld md_fldv md_idxa md_idx md_load md_store md_slice md_slices md_make md_alloc md_box md_build md_app md_conv md_ext md_call md_calld md_callg md_mkfn md_mm md_idxp md_eqn md_eqs md_chk tg_bslice tg_mv tg_newnil tg_pick tg_bin tg_eqb tg_un tg_len tg_lens tg_fld tg_fldv tg_idxa tg_idx tg_load tg_store tg_slice tg_slices tg_make tg_alloc tg_box tg_build tg_app tg_conv tg_ext tg_call tg_calld tg_callg tg_mkfn tg_mm tg_idxp tg_eqn tg_eqs tg_chk rp_eq ro_eq ifP_t ifP_f np_def ng1_nil ng2_nil ng_gate ng_gen tgA_t tgA_0 tgA_1 tgA_2 aC_nil aC_c aC_t rS_def nb_def tv_b2i tv_i2b tv_i2i tv_s2b tv_b2s tv_same tv_i2r tv_r2s tv_i2q tv_q2i tv_q2q nxZ_some nxZ_none rz_nil rz_gen nxP_some nxP_none rq_nil rq_gen rq_gate nxR_some nxR_none ru_nil ru_gen ru_gate pl_none pl_some gt_nil gt_t gt_c di_some di_none an_nil an_cons nxG_some nxG_none rg_nil rg_gen rg_gate oldO_some oa_nil oa_i oa_y oa_b oa_s oa_st oa_sl oa_own oa_oad oa_nl al_nil al_cons al_i al_y al_b al_s al_st al_sl nxF_some nxF_none rf_nil rf_gen rf_gate hk_newnil hk_make hk_alloc hk_box hk_build hk_bslice hk_call hk_store hk_app hk_appn em_cel mm_cel ok_cel ov_cel so_cel il_cel oi_cel oj_cel ol_cel nm_cel hk_appc ef_bslice5 ef_app_cel ks_shut shu_own shc_none shc_cel cl_nil cl_cons ai_nil ai_cons il_i il_y il_b il_s il_st il_sl il_own il_adr il_oad il_ref il_fr il_tup il_nil il_np il_und il_dead ol_adr ol_b ol_dead ol_e ol_fn ol_fr ol_i ol_nil ol_np ol_oad ol_own ol_q ol_r ol_ref ol_s ol_sl ol_st ol_tup ol_und ol_w ol_y oj_e oj_i oj_y oj_b oj_s oj_st oj_sl oj_own oj_adr oj_oad oj_ref oj_fr oj_tup oj_nil oj_np oj_und oj_dead oj_w oj_q oj_r oj_fn oi_e oi_i oi_y oi_b oi_s oi_st oi_sl oi_own oi_adr oi_oad oi_ref oi_fr oi_tup oi_nil oi_np oi_und oi_dead as_nil as_cons ao_nil ao_cons av_i av_y av_b av_s av_st av_sl av_own av_adr av_oad av_ref av_fr av_tup av_nil av_np av_und av_dead pro_cons ghK_some ks_promote ks_freeze frz_own ks_rename ren_own ks_cell cel_own dropO adoptP newP wholeP cutP allOldL ex_skip ex_ret ex_exit ks_region ks_seq ks_cut ks_cond ks_block seqK_n seqK_e seqK_r regK_some condK_t condK_f blkK_n blkK_r blkK_e endK_n endK_r rr_false rr_true rd_free mo_nil mo_cons drK_some drK_none nxW_some nxW_none rw_nil rw_gen rw_gate ak_newnil ak_make ak_alloc ak_box ak_build ak_bslice ak_call ak_store ak_app iw_mm iw_eqn iw_idxp ef_callg cgK_some gv_e gv_own gv_i gv_sl gv_st gv_b gv_nil gvK_some gvO_some iw_callg ia_callg ak_callg hk_callg is_mv is_newnil is_pick is_bin is_eqb is_eqs is_un is_len is_lens is_chk is_fld is_fldv is_idxa is_idx is_load is_slice is_slices is_make is_alloc is_box is_build is_bslice is_app is_conv is_ext is_call is_calld is_callg is_mkfn is_mm is_idxp is_eqn is_store rt_nil rt_gen rt_gate nxT_some nxT_none ef_eqn_nil ef_eqn_sl ef_eqn_own ia_eqn ef_mmx ef_mmn ef_idxp nxD_some nxD_none ov_i ov_y ov_b ov_s ov_st ov_sl ov_own ov_oad ov_adr ov_nil ov_np ov_und ov_dead ov_tup oldN_some oldN_nil oldN_none so_none so_tup DV.noM so_i so_y so_b so_s so_st so_sl so_adr so_nil so_np so_und so_dead anyM_nil anyM_t anyM_c so_own so_oad rd_nil rd_gen rd_mv rd_gate iw_mv iw_newnil iw_pick iw_bin iw_eqb iw_eqs iw_un iw_len iw_lens iw_chk iw_fld iw_fldv iw_idxa iw_idx iw_load iw_store iw_slice iw_slices iw_make iw_alloc iw_box iw_build iw_bslice iw_app iw_b2i iw_i2b iw_i2i iw_same iw_b2s iw_s2b iw_ext iw_call nm_i nm_y nm_b nm_s nm_st nm_sl nm_own nm_oad nm_adr nm_nil nm_np nm_und nm_dead nm_tup rl_nil rl_gate rl_mv rl_gen opv_t opv_c nx_some nx_none gate_tt gate_tf gate_ft gate_ff gate_u fr_ap em_nil em_i em_y em_b em_s em_st em_sl em_own em_adr em_oad em_ref em_nl em_np em_und em_dead em_tup0 em_tup_i em_tup_b em_tup_s em_tup_sl em_tup_st em_tup_np em_tup_own em_tup_oad mm_i mm_y mm_b mm_s mm_st mm_sl mm_own mm_oad mm_adr mm_nil mm_np mm_und mm_dead ef_mv ef_newnil ef_pickt ef_pickf ef_bin ef_eqb ef_eqs ef_un ef_lens ef_len_sl ef_len_own ef_len_nil ef_chk_adr ef_chk_oad ef_fld_adr ef_fld_oad ef_fldv idxR_some ef_idxa_sl ef_idxa_own ef_idx ef_load_adr_st ef_load_adr_i ef_load_adr_y ef_load_adr_b ef_load_adr_s ef_load_adr_sl atN_nil atN_zero atN_succ ef_load_oad ef_store ef_slice ef_slices ef_make ef_alloc ef_box ef_build ef_bslice ef_app_own ef_app_nil ef_b2i ef_i2b ef_i2i ef_same ef_ext ret1 ret2_some calL_some ef_call retC_i retC_y retC_b retC_s retC_st retC_sl retC_np retC_fr retC_ref retC_tup rk_nil rk_i rk_y rk_b rk_s rk_st rk_sl rk_own rk_oad rk_nl ok_nil ok_i ok_y ok_b ok_s ok_st ok_sl ok_own ok_oad ok_nl lo_nil lo_i lo_y lo_b lo_s lo_st lo_sl lo_own lo_oad lo_nl pr_nil pr_i pr_y pr_b pr_s pr_st pr_sl pr_own pr_nl pr_oad nr_i nr_y nr_b nr_s nr_st nr_sl nr_fr nr_np nr_tup ng_i ng_b ng_s ng_fr ng_nil resV effP_eff binD bi_add bi_sub bi_mul bi_quo bi_rem bi_eql bi_neq bi_lss bi_leq bi_gtr bi_geq bi_shl bi_shr bi_and bi_or bi_xor bi_andNot binY binS unD look put putD LS.get LS.drop killE sweep lookO putO dropO enter leave giveBackL giveBack outs lendArgs lendArg newOuts takeIn takeInL lendL DV.lend adoptL DV.adopt elems apartKs part DV.cells unpart settle settleL over mkId szId fillP fillE tk_e2 tk_i tk_y lt_e2 lt_i lt_y lend_rep al_e2 al_is al_ys al_rep al_app lend_app adopt_app new_app lend_e2 lend_i lend_y adopt_e2 adopt_i adopt_y new_e2 new_i allNewL DV.allNew bounds sliceD sliceS em_w em_q em_r em_fn em_tup_w em_tup_q em_tup_r mm_w mm_q mm_r mm_fn ef_load_adr_w ef_load_adr_q ef_load_adr_r retC_w retC_q retC_r rk_w rk_q rk_r rk_fn ok_w ok_q ok_r ok_fn lo_w lo_q lo_r lo_fn pr_w pr_q pr_r pr_fn nr_w nr_q nr_r ng_w ng_q ng_r oa_w oa_q oa_r oa_fn al_w al_q al_r al_fn ov_w ov_q ov_r ov_fn so_w so_q so_r so_fn il_w il_q il_r il_fn oi_w oi_q oi_r oi_fn av_w av_q av_r av_fn nm_w nm_q nm_r nm_fn ef_i2r ef_r2s ef_b2s bs_some ys_nil ys_cons ys_map ef_mkfn ef_mkbd ef_idxp_adr ef_idxp_q ef_calld_nil ef_calld_adr ef_calld_bd DV.capB capsOk DV.cell List.all_cons List.all_nil rk_own_t lo_own_t lk_f lk_t pr_own_t mutB ak_calld hk_calld iw_calld iw_mkfn iw_i2r iw_r2s bw_and bw_or bw_xor bw_andNot bw_eql bw_neq sw_shl sw_shr sq_shl gEnv_nil rk_adr ok_adr lo_adr pr_adr oa_adr capL capArg DV.cap ak_mkfn hk_mkfn hk_mkbd ef_callm gf_ap ga_nil ga_cons tgv_own gk_e gk_giv gk_i gk_y gk_b gk_s gk_w gk_q gk_r gk_fn gk_st gk_sl gk_own gk_oad gk_adr gk_nl gk_np rk_giv ok_giv lo_giv pr_giv oa_giv iw_callm hk_callm ak_callm is_callm ia_callm tg_callm md_callm ef_i2q ef_q2i ef_q2q iw_i2q iw_q2i iw_q2q ia_i2q ia_q2i ia_q2q bq_and bq_add bq_shr sq_shr tgv_nil gk_ref rk_ref ok_ref lo_ref pr_ref oa_ref retC_fn nr_fn ef_load_adr_fn ks_close cls_oad
attribute [local congr] nxM_congr ifP_congr nxP_congr nxZ_congr nxR_congr nxT_congr nxG_congr nxF_congr ghK_congr gate_congr nx_congr nxD_congr runL_congr runD_congr eff_congr calL_congr ret2_congr seqK_congr regK_congr condK_congr endK_congr drK_congr nxW_congr
attribute [local simp ↓] nxM_some rm_nil rm_one rm_gen nxT_some rt_nil rt_gen rt_gate nxZ_some rz_nil rz_gen nxP_some rq_nil rq_gen rq_gate nxR_some ru_nil ru_gen ru_gate nxG_some rg_nil rg_gen rg_gate nxF_some rf_nil rf_gen rf_gate ks_promote ks_freeze frz_own ks_rename ks_cell ghK_some gate_tt gate_tf gate_ft gate_ff gate_u nx_some nxD_some rl_nil rl_mv rl_gen rl_gate rd_nil rd_mv rd_gen rd_gate rd_free rr_false rr_true drK_some drK_none nxW_some rw_nil rw_gen rw_gate ks_region ks_seq ks_cut ks_cond ks_block seqK_n seqK_e seqK_r regK_some condK_t condK_f blkK_n blkK_r endK_n endK_r calL_some ret2_some opv_t opv_c
attribute [-simp] DV.cells
attribute [local simp] sliceD cells_st cells_sl cells_i cells_y cells_b cells_s cells_w
attribute [local simp] lend_eR al_eR lend_eN adopt_eN new_eN adopt_e2 new_e2
theorem lend_ints_ (ts : List Int) : lendL (ts.map .i) = ts.map .i := lend_i ts
def IChainOrder_0 : LC := (.region false [⟨some 4,.mv,[.c (.b false)],none⟩] [4])
def IChainOrder_1 : LC := (.region false [⟨some 5,.mv,[.c (.i 1048576)],none⟩] [])
def IChainOrder_2 : LC := (.region false [⟨some 14,.mv,[.t 0],none⟩,
      ⟨some 15,.mv,[.t 5],none⟩,
      ⟨some 16,.call n_laws_szTestS 8192,[.t 14,.t 15],none⟩,
      ⟨some 5,.mv,[.t 16],none⟩] [14,15,16])
def IChainOrder_3 : LC := (.seq
       (.region false [⟨some 17,.mv,[.t 5],none⟩,
        ⟨some 18,.bin .lss,[.t 17,.c (.i 0)],none⟩] [17])
       (.cond (.t 18) [18]
        (.seq
         (.region false [⟨some 4,.mv,[.c (.b true)],none⟩] [0,1,5])
         .ret)
        .skip))
def IChainOrder_4 : LC := (.region false [⟨some 19,.mv,[.t 1],none⟩,
        ⟨some 20,.mv,[.t 5],none⟩,
        ⟨some 21,.call n_laws_szIntSS 10752,[.t 19,.t 20],none⟩,
        ⟨some 5,.mv,[.t 21],none⟩] [19,20,21])
def IChainOrder_5 : LC := (.seq
         (.region false [⟨some 22,.mv,[.t 5],none⟩,
          ⟨some 23,.bin .lss,[.t 22,.c (.i 0)],none⟩] [5,22])
         (.cond (.t 23) [23]
          (.seq
           (.region false [⟨some 4,.mv,[.c (.b true)],none⟩] [0,1])
           .ret)
          .skip))
def IChainOrder_6 : LC := (.region false [⟨some 24,.mv,[.t 0],none⟩,
          ⟨some 25,.call n_laws_toTestS 12800,[.t 24],none⟩,
          ⟨some 26,.mv,[.t 1],none⟩,
          ⟨some 27,.call n_laws_toIntSS 13824,[.t 26],none⟩,
          ⟨some 28,.call n_spec_ChainOrder 14336,[.t 25,.t 27],none⟩,
          ⟨some 6,.mv,[.t 28],none⟩] [24,25,26,27,28])
def IChainOrder_7 : LC := (.region false [⟨some 29,.mv,[.t 0],none⟩,
           ⟨some 30,.call n_laws_toTestS 15360,[.t 29],none⟩,
           ⟨some 7,.mv,[.t 30],none⟩] [29,30])
def IChainOrder_8 : LC := (.region false [⟨some 31,.mv,[.t 1],none⟩,
            ⟨some 32,.call n_laws_toIntSS 16384,[.t 31],none⟩,
            ⟨some 8,.mv,[.t 32],none⟩] [31,32])
def IChainOrder_9 : LC := (.region false [⟨some 33,.mv,[.t 7],none⟩,
             ⟨some 34,.mv,[.t 8],none⟩,
             ⟨some 35,.call n_impl_ChainOrder 17920,[.t 33,.t 34],none⟩,
             ⟨some 9,.mv,[.t 35],none⟩] [33,34,35])
def IChainOrder_10 : LC := (.seq
              (.region false [⟨some 36,.mv,[.t 9],none⟩,
               ⟨some 37,.mv,[.t 6],none⟩,
               ⟨some 38,.call n_laws_eqIntS 19456,[.t 36,.t 37],none⟩,
               ⟨some 39,.un .not,[.t 38],none⟩] [36,37,38])
              (.cond (.t 39) [39]
               (.seq
                (.region false [⟨some 4,.mv,[.c (.b false)],none⟩] [0,1,6,7,8,9])
                .ret)
               .skip))
def IChainOrder_11 : LC := (.seq
               (.region false [⟨some 40,.mv,[.t 7],none⟩,
                ⟨some 41,.mv,[.t 0],none⟩,
                ⟨some 42,.call n_laws_toTestS 21504,[.t 41],none⟩,
                ⟨some 43,.call n_laws_eqTestS 22016,[.t 40,.t 42],none⟩,
                ⟨some 44,.un .not,[.t 43],none⟩] [40,41,42,43])
               (.cond (.t 44) [44]
                (.seq
                 (.region false [⟨some 4,.mv,[.c (.b false)],none⟩] [0,1,6,7,8,9])
                 .ret)
                .skip))
def IChainOrder_12 : LC := (.seq
                (.region false [⟨some 45,.mv,[.t 8],none⟩,
                 ⟨some 46,.mv,[.t 1],none⟩,
                 ⟨some 47,.call n_laws_toIntSS 24064,[.t 46],none⟩,
                 ⟨some 48,.call n_laws_eqIntSS 24576,[.t 45,.t 47],none⟩,
                 ⟨some 49,.un .not,[.t 48],none⟩] [45,46,47,48])
                (.cond (.t 49) [49]
                 (.seq
                  (.region false [⟨some 4,.mv,[.c (.b false)],none⟩] [0,1,6,7,8,9])
                  .ret)
                 .skip))
def IChainOrder_13 : LC := (.region false [⟨some 10,.mv,[.c (.i 1)],none⟩] [])
def IChainOrder_14 : LC := (.region false [⟨some 50,.mv,[.t 7],none⟩,
                  ⟨some 51,.mv,[.t 10],none⟩,
                  ⟨some 52,.call n_laws_markTestS 26628,[.t 50,.t 51],none⟩,
                  ⟨some 10,.mv,[.t 52],none⟩] [7,50,51,52])
def IChainOrder_15 : LC := (.region false [⟨some 53,.mv,[.t 8],none⟩,
                   ⟨some 54,.mv,[.t 10],none⟩,
                   ⟨some 55,.call n_laws_markIntSS 28164,[.t 53,.t 54],none⟩,
                   ⟨some 10,.mv,[.t 55],none⟩] [8,53,54,55])
def IChainOrder_16 : LC := (.seq
                    (.region false [⟨some 56,.mv,[.t 10],none⟩,
                     ⟨some 57,.bin .lss,[.t 56,.c (.i 0)],none⟩,
                     ⟨some 58,.mv,[.t 57],none⟩,
                     ⟨some 59,.mv,[.t 9],some (58,false)⟩,
                     ⟨some 60,.mv,[.t 6],some (58,false)⟩,
                     ⟨some 61,.call n_laws_eqIntS 31232,[.t 59,.t 60],some (58,false)⟩,
                     ⟨some 62,.un .not,[.t 61],some (58,false)⟩,
                     ⟨some 63,.pick,[.t 58,.c (.b true),.t 62],none⟩] [10,56,57,58,59,60,61,62])
                    (.cond (.t 63) [63]
                     (.seq
                      (.region false [⟨some 4,.mv,[.c (.b false)],none⟩] [0,1,6,9])
                      .ret)
                     .skip))
def IChainOrder_17 : LC := (.region false [⟨some 11,.mv,[.c (.i 1)],none⟩] [])
def IChainOrder_18 : LC := (.region false [⟨some 64,.mv,[.t 9],none⟩,
                      ⟨some 65,.mv,[.t 11],none⟩,
                      ⟨some 66,.call n_laws_markIntS 33796,[.t 64,.t 65],none⟩,
                      ⟨some 11,.mv,[.t 66],none⟩] [64,65,66])
def IChainOrder_19 : LC := (.region false [⟨some 12,.mv,[.c (.i 1)],none⟩] [])
def IChainOrder_20 : LC := (.region false [⟨some 67,.mv,[.t 9],none⟩,
                        ⟨some 68,.mv,[.t 12],none⟩,
                        ⟨some 69,.call n_laws_heldIntS 35328,[.t 67,.t 68],none⟩,
                        ⟨some 12,.mv,[.t 69],none⟩] [67,68,69])
def IChainOrder_21 : LC := (.seq
                         (.region false [⟨some 70,.mv,[.t 12],none⟩,
                          ⟨some 71,.bin .lss,[.t 70,.c (.i 0)],none⟩] [70])
                         (.cond (.t 71) [71]
                          (.seq
                           (.region false [⟨some 4,.mv,[.c (.b false)],none⟩] [0,1,6,9,11,12])
                           .ret)
                          .skip))
def IChainOrder_22 : LC := (.seq
                          (.region false [⟨some 72,.mv,[.t 12],none⟩,
                           ⟨some 73,.mv,[.t 11],none⟩,
                           ⟨some 74,.bin .neq,[.t 72,.t 73],none⟩] [12,72,73])
                          (.cond (.t 74) [74]
                           (.seq
                            (.region false [⟨some 4,.mv,[.c (.b false)],none⟩] [0,1,6,9,11])
                            .ret)
                           .skip))
def IChainOrder_23 : LC := (.region false [⟨some 75,.mv,[.t 0],none⟩,
                           ⟨some 76,.call n_laws_toTestS 38912,[.t 75],none⟩,
                           ⟨some 77,.mv,[.t 1],none⟩,
                           ⟨some 78,.call n_laws_toIntSS 39936,[.t 77],none⟩,
                           ⟨some 79,.call n_impl_ChainOrder 40448,[.t 76,.t 78],none⟩,
                           ⟨some 13,.mv,[.t 79],none⟩] [0,1,75,76,77,78,79])
def IChainOrder_24 : LC := (.seq
                            (.region false [⟨some 80,.mv,[.t 13],none⟩,
                             ⟨some 81,.mv,[.t 6],none⟩,
                             ⟨some 82,.call n_laws_eqIntS 41984,[.t 80,.t 81],none⟩,
                             ⟨some 83,.un .not,[.t 82],none⟩] [6,13,80,81,82])
                            (.cond (.t 83) [83]
                             (.seq
                              (.region false [⟨some 4,.mv,[.c (.b false)],none⟩] [9,11])
                              .ret)
                             .skip))
def IChainOrder_25 : LC := (.region false [⟨some 12,.mv,[.c (.i 1)],none⟩] [])
def IChainOrder_26 : LC := (.region false [⟨some 84,.mv,[.t 9],none⟩,
                              ⟨some 85,.mv,[.t 12],none⟩,
                              ⟨some 86,.call n_laws_heldIntS 44032,[.t 84,.t 85],none⟩,
                              ⟨some 12,.mv,[.t 86],none⟩] [9,84,85,86])
def IChainOrder_27 : LC := (.seq
                               (.region false [⟨some 87,.mv,[.t 12],none⟩,
                                ⟨some 88,.bin .lss,[.t 87,.c (.i 0)],none⟩] [87])
                               (.cond (.t 88) [88]
                                (.seq
                                 (.region false [⟨some 4,.mv,[.c (.b false)],none⟩] [11,12])
                                 .ret)
                                .skip))
def IChainOrder_28 : LC := (.seq
                                (.region false [⟨some 89,.mv,[.t 12],none⟩,
                                 ⟨some 90,.mv,[.t 11],none⟩,
                                 ⟨some 91,.bin .neq,[.t 89,.t 90],none⟩] [11,12,89,90])
                                (.cond (.t 91) [91]
                                 (.seq
                                  (.region false [⟨some 4,.mv,[.c (.b false)],none⟩] [])
                                  .ret)
                                 .skip))
def IChainOrder_29 : LC := (.region false [⟨some 4,.mv,[.c (.b true)],none⟩] [])
def RChainOrder_30 : LC := .ret
def RChainOrder_29 : LC := .seq IChainOrder_29 RChainOrder_30
def RChainOrder_28 : LC := .seq IChainOrder_28 RChainOrder_29
def RChainOrder_27 : LC := .seq IChainOrder_27 RChainOrder_28
def RChainOrder_26 : LC := .seq IChainOrder_26 RChainOrder_27
def RChainOrder_25 : LC := .seq IChainOrder_25 RChainOrder_26
def RChainOrder_24 : LC := .seq IChainOrder_24 RChainOrder_25
def RChainOrder_23 : LC := .seq IChainOrder_23 RChainOrder_24
def RChainOrder_22 : LC := .seq IChainOrder_22 RChainOrder_23
def RChainOrder_21 : LC := .seq IChainOrder_21 RChainOrder_22
def RChainOrder_20 : LC := .seq IChainOrder_20 RChainOrder_21
def RChainOrder_19 : LC := .seq IChainOrder_19 RChainOrder_20
def RChainOrder_18 : LC := .seq IChainOrder_18 RChainOrder_19
def RChainOrder_17 : LC := .seq IChainOrder_17 RChainOrder_18
def RChainOrder_16 : LC := .seq IChainOrder_16 RChainOrder_17
def RChainOrder_15 : LC := .seq IChainOrder_15 RChainOrder_16
def RChainOrder_14 : LC := .seq IChainOrder_14 RChainOrder_15
def RChainOrder_13 : LC := .seq IChainOrder_13 RChainOrder_14
def RChainOrder_12 : LC := .seq IChainOrder_12 RChainOrder_13
def RChainOrder_11 : LC := .seq IChainOrder_11 RChainOrder_12
def RChainOrder_10 : LC := .seq IChainOrder_10 RChainOrder_11
def RChainOrder_9 : LC := .seq IChainOrder_9 RChainOrder_10
def RChainOrder_8 : LC := .seq IChainOrder_8 RChainOrder_9
def RChainOrder_7 : LC := .seq IChainOrder_7 RChainOrder_8
def RChainOrder_6 : LC := .seq IChainOrder_6 RChainOrder_7
def RChainOrder_5 : LC := .seq IChainOrder_5 RChainOrder_6
def RChainOrder_4 : LC := .seq IChainOrder_4 RChainOrder_5
def RChainOrder_3 : LC := .seq IChainOrder_3 RChainOrder_4
def RChainOrder_2 : LC := .seq IChainOrder_2 RChainOrder_3
def RChainOrder_1 : LC := .seq IChainOrder_1 RChainOrder_2
def RChainOrder_0 : LC := .seq IChainOrder_0 RChainOrder_1
theorem body_ChainOrder : F_laws_FnExactChainOrder.body = RChainOrder_0 := rfl
set_option maxHeartbeats 4000000 in
theorem sChainOrder_0 {us : List T} {z : Int} {X : List Int} {L : List (List Int)} (hu : us.length ≤ 1048576) (z0 : 0 ≤ z) (hL : L.length ≤ 1048576) (hT : totR L ≤ 1048576) (hR : ∀ r ∈ L,(r.length : Int) ≤ 1048576) (hX : X.length ≤ 1048576) (S : call lf n_laws_szIntSS [.sl 0 (L.map eR),.i (1048576 - (us.length : Int))] = some (.i z,[])) (C1 : call lf n_impl_ChainOrder [.sl 0 (us.map e2),.sl 0 (L.map eR)] = some (.fr 1 (X.map .i),[])) (C2 : call lf n_spec_ChainOrder [.sl 0 (us.map e2),.sl 0 (L.map eR)] = some (.fr 1 (X.map .i),[])) : ∃ S1,ex lf IChainOrder_0 ⟨[(0,.sl 0 (us.map e2)),(1,.sl 0 (L.map eR))],[]⟩ = some (.normal,S1) ∧ ∀ g ∈ ([] : List (Nat × DV)),made S1 g := by
 have S0 := c_szTestS us 1048576 (by omega) (by omega) (by omega)
 have n1 : ¬ (1048576 : Int) < us.length := by omega
 have n2 : ¬ (1048576 : Int) - us.length < 0 := by omega
 have n0 : ¬ z < 0 := by omega
 have A0 := c_toTestS us (by omega)
 have Q0 := c_eqTestS_self us (by omega)
 have A := c_toIntSS L (by omega) hR
 have Q := c_eqIntSS_self L (by omega) hR
 have Q1 := c_eqIntS_self X (by omega)
 have HH := c_heldIntS X.length 1 (by omega) (by omega) (by omega)
 rw [mk1_marks] at HH
 have n3 : ¬ 1 + 2 * (us.length : Int) + (totR L : Int) < 0 := by omega
 have n4 : ¬ 1 + (X.length : Int) < 0 := by omega
 have tk : List.take L.length (L.map eN) = L.map eN := List.take_of_length_le (by simp)
 have tk2 : List.take us.length (us.map e2) = us.map e2 := List.take_of_length_le (by simp)
 have tk3 : List.take X.length (X.map DV.i) = X.map .i := List.take_of_length_le (by simp)
 simp (config := { maxSteps := 2000000 }) [IChainOrder_0,made,settle,elems,wholeP,DV.allNew,DV.adopt,adoptP,newP,S0,n1,n2,n0,A0,Q0,S,A,Q,Q1,HH,n3,n4,tk,tk2,tk3,C1,C2]
set_option maxHeartbeats 4000000 in
theorem sChainOrder_1 {us : List T} {z : Int} {X : List Int} {L : List (List Int)} (hu : us.length ≤ 1048576) (z0 : 0 ≤ z) (hL : L.length ≤ 1048576) (hT : totR L ≤ 1048576) (hR : ∀ r ∈ L,(r.length : Int) ≤ 1048576) (hX : X.length ≤ 1048576) (S : call lf n_laws_szIntSS [.sl 0 (L.map eR),.i (1048576 - (us.length : Int))] = some (.i z,[])) (C1 : call lf n_impl_ChainOrder [.sl 0 (us.map e2),.sl 0 (L.map eR)] = some (.fr 1 (X.map .i),[])) (C2 : call lf n_spec_ChainOrder [.sl 0 (us.map e2),.sl 0 (L.map eR)] = some (.fr 1 (X.map .i),[])) : ∃ S1,ex lf IChainOrder_1 ⟨[(0,.sl 0 (us.map e2)),(1,.sl 0 (L.map eR))],[]⟩ = some (.normal,S1) ∧ ∀ g ∈ ([(5,.i (1048576))] : List (Nat × DV)),made S1 g := by
 have S0 := c_szTestS us 1048576 (by omega) (by omega) (by omega)
 have n1 : ¬ (1048576 : Int) < us.length := by omega
 have n2 : ¬ (1048576 : Int) - us.length < 0 := by omega
 have n0 : ¬ z < 0 := by omega
 have A0 := c_toTestS us (by omega)
 have Q0 := c_eqTestS_self us (by omega)
 have A := c_toIntSS L (by omega) hR
 have Q := c_eqIntSS_self L (by omega) hR
 have Q1 := c_eqIntS_self X (by omega)
 have HH := c_heldIntS X.length 1 (by omega) (by omega) (by omega)
 rw [mk1_marks] at HH
 have n3 : ¬ 1 + 2 * (us.length : Int) + (totR L : Int) < 0 := by omega
 have n4 : ¬ 1 + (X.length : Int) < 0 := by omega
 have tk : List.take L.length (L.map eN) = L.map eN := List.take_of_length_le (by simp)
 have tk2 : List.take us.length (us.map e2) = us.map e2 := List.take_of_length_le (by simp)
 have tk3 : List.take X.length (X.map DV.i) = X.map .i := List.take_of_length_le (by simp)
 simp (config := { maxSteps := 2000000 }) [IChainOrder_1,made,settle,elems,wholeP,DV.allNew,DV.adopt,adoptP,newP,S0,n1,n2,n0,A0,Q0,S,A,Q,Q1,HH,n3,n4,tk,tk2,tk3,C1,C2]
set_option maxHeartbeats 4000000 in
theorem sChainOrder_2 {us : List T} {z : Int} {X : List Int} {L : List (List Int)} (hu : us.length ≤ 1048576) (z0 : 0 ≤ z) (hL : L.length ≤ 1048576) (hT : totR L ≤ 1048576) (hR : ∀ r ∈ L,(r.length : Int) ≤ 1048576) (hX : X.length ≤ 1048576) (S : call lf n_laws_szIntSS [.sl 0 (L.map eR),.i (1048576 - (us.length : Int))] = some (.i z,[])) (C1 : call lf n_impl_ChainOrder [.sl 0 (us.map e2),.sl 0 (L.map eR)] = some (.fr 1 (X.map .i),[])) (C2 : call lf n_spec_ChainOrder [.sl 0 (us.map e2),.sl 0 (L.map eR)] = some (.fr 1 (X.map .i),[])) : ∃ S1,ex lf IChainOrder_2 ⟨[(0,.sl 0 (us.map e2)),(1,.sl 0 (L.map eR)),(5,.i (1048576))],[]⟩ = some (.normal,S1) ∧ ∀ g ∈ ([(5,.i (1048576 - (us.length : Int)))] : List (Nat × DV)),made S1 g := by
 have S0 := c_szTestS us 1048576 (by omega) (by omega) (by omega)
 have n1 : ¬ (1048576 : Int) < us.length := by omega
 have n2 : ¬ (1048576 : Int) - us.length < 0 := by omega
 have n0 : ¬ z < 0 := by omega
 have A0 := c_toTestS us (by omega)
 have Q0 := c_eqTestS_self us (by omega)
 have A := c_toIntSS L (by omega) hR
 have Q := c_eqIntSS_self L (by omega) hR
 have Q1 := c_eqIntS_self X (by omega)
 have HH := c_heldIntS X.length 1 (by omega) (by omega) (by omega)
 rw [mk1_marks] at HH
 have n3 : ¬ 1 + 2 * (us.length : Int) + (totR L : Int) < 0 := by omega
 have n4 : ¬ 1 + (X.length : Int) < 0 := by omega
 have tk : List.take L.length (L.map eN) = L.map eN := List.take_of_length_le (by simp)
 have tk2 : List.take us.length (us.map e2) = us.map e2 := List.take_of_length_le (by simp)
 have tk3 : List.take X.length (X.map DV.i) = X.map .i := List.take_of_length_le (by simp)
 simp (config := { maxSteps := 2000000 }) [IChainOrder_2,made,settle,elems,wholeP,DV.allNew,DV.adopt,adoptP,newP,S0,n1,n2,n0,A0,Q0,S,A,Q,Q1,HH,n3,n4,tk,tk2,tk3,C1,C2]
set_option maxHeartbeats 4000000 in
theorem sChainOrder_3 {us : List T} {z : Int} {X : List Int} {L : List (List Int)} (hu : us.length ≤ 1048576) (z0 : 0 ≤ z) (hL : L.length ≤ 1048576) (hT : totR L ≤ 1048576) (hR : ∀ r ∈ L,(r.length : Int) ≤ 1048576) (hX : X.length ≤ 1048576) (S : call lf n_laws_szIntSS [.sl 0 (L.map eR),.i (1048576 - (us.length : Int))] = some (.i z,[])) (C1 : call lf n_impl_ChainOrder [.sl 0 (us.map e2),.sl 0 (L.map eR)] = some (.fr 1 (X.map .i),[])) (C2 : call lf n_spec_ChainOrder [.sl 0 (us.map e2),.sl 0 (L.map eR)] = some (.fr 1 (X.map .i),[])) : ∃ S1,ex lf IChainOrder_3 ⟨[(0,.sl 0 (us.map e2)),(1,.sl 0 (L.map eR)),(5,.i (1048576 - (us.length : Int)))],[]⟩ = some (.normal,S1) ∧ ∀ g ∈ ([] : List (Nat × DV)),made S1 g := by
 have S0 := c_szTestS us 1048576 (by omega) (by omega) (by omega)
 have n1 : ¬ (1048576 : Int) < us.length := by omega
 have n2 : ¬ (1048576 : Int) - us.length < 0 := by omega
 have n0 : ¬ z < 0 := by omega
 have A0 := c_toTestS us (by omega)
 have Q0 := c_eqTestS_self us (by omega)
 have A := c_toIntSS L (by omega) hR
 have Q := c_eqIntSS_self L (by omega) hR
 have Q1 := c_eqIntS_self X (by omega)
 have HH := c_heldIntS X.length 1 (by omega) (by omega) (by omega)
 rw [mk1_marks] at HH
 have n3 : ¬ 1 + 2 * (us.length : Int) + (totR L : Int) < 0 := by omega
 have n4 : ¬ 1 + (X.length : Int) < 0 := by omega
 have tk : List.take L.length (L.map eN) = L.map eN := List.take_of_length_le (by simp)
 have tk2 : List.take us.length (us.map e2) = us.map e2 := List.take_of_length_le (by simp)
 have tk3 : List.take X.length (X.map DV.i) = X.map .i := List.take_of_length_le (by simp)
 simp (config := { maxSteps := 2000000 }) [IChainOrder_3,made,settle,elems,wholeP,DV.allNew,DV.adopt,adoptP,newP,S0,n1,n2,n0,A0,Q0,S,A,Q,Q1,HH,n3,n4,tk,tk2,tk3,C1,C2]
set_option maxHeartbeats 4000000 in
theorem sChainOrder_4 {us : List T} {z : Int} {X : List Int} {L : List (List Int)} (hu : us.length ≤ 1048576) (z0 : 0 ≤ z) (hL : L.length ≤ 1048576) (hT : totR L ≤ 1048576) (hR : ∀ r ∈ L,(r.length : Int) ≤ 1048576) (hX : X.length ≤ 1048576) (S : call lf n_laws_szIntSS [.sl 0 (L.map eR),.i (1048576 - (us.length : Int))] = some (.i z,[])) (C1 : call lf n_impl_ChainOrder [.sl 0 (us.map e2),.sl 0 (L.map eR)] = some (.fr 1 (X.map .i),[])) (C2 : call lf n_spec_ChainOrder [.sl 0 (us.map e2),.sl 0 (L.map eR)] = some (.fr 1 (X.map .i),[])) : ∃ S1,ex lf IChainOrder_4 ⟨[(0,.sl 0 (us.map e2)),(1,.sl 0 (L.map eR)),(5,.i (1048576 - (us.length : Int)))],[]⟩ = some (.normal,S1) ∧ ∀ g ∈ ([(5,.i (z))] : List (Nat × DV)),made S1 g := by
 have S0 := c_szTestS us 1048576 (by omega) (by omega) (by omega)
 have n1 : ¬ (1048576 : Int) < us.length := by omega
 have n2 : ¬ (1048576 : Int) - us.length < 0 := by omega
 have n0 : ¬ z < 0 := by omega
 have A0 := c_toTestS us (by omega)
 have Q0 := c_eqTestS_self us (by omega)
 have A := c_toIntSS L (by omega) hR
 have Q := c_eqIntSS_self L (by omega) hR
 have Q1 := c_eqIntS_self X (by omega)
 have HH := c_heldIntS X.length 1 (by omega) (by omega) (by omega)
 rw [mk1_marks] at HH
 have n3 : ¬ 1 + 2 * (us.length : Int) + (totR L : Int) < 0 := by omega
 have n4 : ¬ 1 + (X.length : Int) < 0 := by omega
 have tk : List.take L.length (L.map eN) = L.map eN := List.take_of_length_le (by simp)
 have tk2 : List.take us.length (us.map e2) = us.map e2 := List.take_of_length_le (by simp)
 have tk3 : List.take X.length (X.map DV.i) = X.map .i := List.take_of_length_le (by simp)
 simp (config := { maxSteps := 2000000 }) [IChainOrder_4,made,settle,elems,wholeP,DV.allNew,DV.adopt,adoptP,newP,S0,n1,n2,n0,A0,Q0,S,A,Q,Q1,HH,n3,n4,tk,tk2,tk3,C1,C2]
set_option maxHeartbeats 4000000 in
theorem sChainOrder_5 {us : List T} {z : Int} {X : List Int} {L : List (List Int)} (hu : us.length ≤ 1048576) (z0 : 0 ≤ z) (hL : L.length ≤ 1048576) (hT : totR L ≤ 1048576) (hR : ∀ r ∈ L,(r.length : Int) ≤ 1048576) (hX : X.length ≤ 1048576) (S : call lf n_laws_szIntSS [.sl 0 (L.map eR),.i (1048576 - (us.length : Int))] = some (.i z,[])) (C1 : call lf n_impl_ChainOrder [.sl 0 (us.map e2),.sl 0 (L.map eR)] = some (.fr 1 (X.map .i),[])) (C2 : call lf n_spec_ChainOrder [.sl 0 (us.map e2),.sl 0 (L.map eR)] = some (.fr 1 (X.map .i),[])) : ∃ S1,ex lf IChainOrder_5 ⟨[(0,.sl 0 (us.map e2)),(1,.sl 0 (L.map eR)),(5,.i (z))],[]⟩ = some (.normal,S1) ∧ ∀ g ∈ ([] : List (Nat × DV)),made S1 g := by
 have S0 := c_szTestS us 1048576 (by omega) (by omega) (by omega)
 have n1 : ¬ (1048576 : Int) < us.length := by omega
 have n2 : ¬ (1048576 : Int) - us.length < 0 := by omega
 have n0 : ¬ z < 0 := by omega
 have A0 := c_toTestS us (by omega)
 have Q0 := c_eqTestS_self us (by omega)
 have A := c_toIntSS L (by omega) hR
 have Q := c_eqIntSS_self L (by omega) hR
 have Q1 := c_eqIntS_self X (by omega)
 have HH := c_heldIntS X.length 1 (by omega) (by omega) (by omega)
 rw [mk1_marks] at HH
 have n3 : ¬ 1 + 2 * (us.length : Int) + (totR L : Int) < 0 := by omega
 have n4 : ¬ 1 + (X.length : Int) < 0 := by omega
 have tk : List.take L.length (L.map eN) = L.map eN := List.take_of_length_le (by simp)
 have tk2 : List.take us.length (us.map e2) = us.map e2 := List.take_of_length_le (by simp)
 have tk3 : List.take X.length (X.map DV.i) = X.map .i := List.take_of_length_le (by simp)
 simp (config := { maxSteps := 2000000 }) [IChainOrder_5,made,settle,elems,wholeP,DV.allNew,DV.adopt,adoptP,newP,S0,n1,n2,n0,A0,Q0,S,A,Q,Q1,HH,n3,n4,tk,tk2,tk3,C1,C2]
set_option maxHeartbeats 4000000 in
theorem sChainOrder_6 {us : List T} {z : Int} {X : List Int} {L : List (List Int)} (hu : us.length ≤ 1048576) (z0 : 0 ≤ z) (hL : L.length ≤ 1048576) (hT : totR L ≤ 1048576) (hR : ∀ r ∈ L,(r.length : Int) ≤ 1048576) (hX : X.length ≤ 1048576) (S : call lf n_laws_szIntSS [.sl 0 (L.map eR),.i (1048576 - (us.length : Int))] = some (.i z,[])) (C1 : call lf n_impl_ChainOrder [.sl 0 (us.map e2),.sl 0 (L.map eR)] = some (.fr 1 (X.map .i),[])) (C2 : call lf n_spec_ChainOrder [.sl 0 (us.map e2),.sl 0 (L.map eR)] = some (.fr 1 (X.map .i),[])) : ∃ S1,ex lf IChainOrder_6 ⟨[(0,.sl 0 (us.map e2)),(1,.sl 0 (L.map eR))],[]⟩ = some (.normal,S1) ∧ ∀ g ∈ ([(6,.sl 1 (X.map .i))] : List (Nat × DV)),made S1 g := by
 have S0 := c_szTestS us 1048576 (by omega) (by omega) (by omega)
 have n1 : ¬ (1048576 : Int) < us.length := by omega
 have n2 : ¬ (1048576 : Int) - us.length < 0 := by omega
 have n0 : ¬ z < 0 := by omega
 have A0 := c_toTestS us (by omega)
 have Q0 := c_eqTestS_self us (by omega)
 have A := c_toIntSS L (by omega) hR
 have Q := c_eqIntSS_self L (by omega) hR
 have Q1 := c_eqIntS_self X (by omega)
 have HH := c_heldIntS X.length 1 (by omega) (by omega) (by omega)
 rw [mk1_marks] at HH
 have n3 : ¬ 1 + 2 * (us.length : Int) + (totR L : Int) < 0 := by omega
 have n4 : ¬ 1 + (X.length : Int) < 0 := by omega
 have tk : List.take L.length (L.map eN) = L.map eN := List.take_of_length_le (by simp)
 have tk2 : List.take us.length (us.map e2) = us.map e2 := List.take_of_length_le (by simp)
 have tk3 : List.take X.length (X.map DV.i) = X.map .i := List.take_of_length_le (by simp)
 simp (config := { maxSteps := 2000000 }) [IChainOrder_6,made,settle,elems,wholeP,DV.allNew,DV.adopt,adoptP,newP,S0,n1,n2,n0,A0,Q0,S,A,Q,Q1,HH,n3,n4,tk,tk2,tk3,C1,C2]
set_option maxHeartbeats 4000000 in
theorem sChainOrder_7 {us : List T} {z : Int} {X : List Int} {L : List (List Int)} (hu : us.length ≤ 1048576) (z0 : 0 ≤ z) (hL : L.length ≤ 1048576) (hT : totR L ≤ 1048576) (hR : ∀ r ∈ L,(r.length : Int) ≤ 1048576) (hX : X.length ≤ 1048576) (S : call lf n_laws_szIntSS [.sl 0 (L.map eR),.i (1048576 - (us.length : Int))] = some (.i z,[])) (C1 : call lf n_impl_ChainOrder [.sl 0 (us.map e2),.sl 0 (L.map eR)] = some (.fr 1 (X.map .i),[])) (C2 : call lf n_spec_ChainOrder [.sl 0 (us.map e2),.sl 0 (L.map eR)] = some (.fr 1 (X.map .i),[])) : ∃ S1,ex lf IChainOrder_7 ⟨[(0,.sl 0 (us.map e2)),(1,.sl 0 (L.map eR)),(6,.sl 0 (X.map .i))],[]⟩ = some (.normal,S1) ∧ ∀ g ∈ ([(7,.sl 1 (us.map e2))] : List (Nat × DV)),made S1 g := by
 have S0 := c_szTestS us 1048576 (by omega) (by omega) (by omega)
 have n1 : ¬ (1048576 : Int) < us.length := by omega
 have n2 : ¬ (1048576 : Int) - us.length < 0 := by omega
 have n0 : ¬ z < 0 := by omega
 have A0 := c_toTestS us (by omega)
 have Q0 := c_eqTestS_self us (by omega)
 have A := c_toIntSS L (by omega) hR
 have Q := c_eqIntSS_self L (by omega) hR
 have Q1 := c_eqIntS_self X (by omega)
 have HH := c_heldIntS X.length 1 (by omega) (by omega) (by omega)
 rw [mk1_marks] at HH
 have n3 : ¬ 1 + 2 * (us.length : Int) + (totR L : Int) < 0 := by omega
 have n4 : ¬ 1 + (X.length : Int) < 0 := by omega
 have tk : List.take L.length (L.map eN) = L.map eN := List.take_of_length_le (by simp)
 have tk2 : List.take us.length (us.map e2) = us.map e2 := List.take_of_length_le (by simp)
 have tk3 : List.take X.length (X.map DV.i) = X.map .i := List.take_of_length_le (by simp)
 simp (config := { maxSteps := 2000000 }) [IChainOrder_7,made,settle,elems,wholeP,DV.allNew,DV.adopt,adoptP,newP,S0,n1,n2,n0,A0,Q0,S,A,Q,Q1,HH,n3,n4,tk,tk2,tk3,C1,C2]
set_option maxHeartbeats 4000000 in
theorem sChainOrder_8 {us : List T} {z : Int} {X : List Int} {L : List (List Int)} (hu : us.length ≤ 1048576) (z0 : 0 ≤ z) (hL : L.length ≤ 1048576) (hT : totR L ≤ 1048576) (hR : ∀ r ∈ L,(r.length : Int) ≤ 1048576) (hX : X.length ≤ 1048576) (S : call lf n_laws_szIntSS [.sl 0 (L.map eR),.i (1048576 - (us.length : Int))] = some (.i z,[])) (C1 : call lf n_impl_ChainOrder [.sl 0 (us.map e2),.sl 0 (L.map eR)] = some (.fr 1 (X.map .i),[])) (C2 : call lf n_spec_ChainOrder [.sl 0 (us.map e2),.sl 0 (L.map eR)] = some (.fr 1 (X.map .i),[])) : ∃ S1,ex lf IChainOrder_8 ⟨[(0,.sl 0 (us.map e2)),(1,.sl 0 (L.map eR)),(6,.sl 0 (X.map .i)),(7,.sl 0 (us.map e2))],[]⟩ = some (.normal,S1) ∧ ∀ g ∈ ([(8,.sl 1 (L.map eN))] : List (Nat × DV)),made S1 g := by
 have S0 := c_szTestS us 1048576 (by omega) (by omega) (by omega)
 have n1 : ¬ (1048576 : Int) < us.length := by omega
 have n2 : ¬ (1048576 : Int) - us.length < 0 := by omega
 have n0 : ¬ z < 0 := by omega
 have A0 := c_toTestS us (by omega)
 have Q0 := c_eqTestS_self us (by omega)
 have A := c_toIntSS L (by omega) hR
 have Q := c_eqIntSS_self L (by omega) hR
 have Q1 := c_eqIntS_self X (by omega)
 have HH := c_heldIntS X.length 1 (by omega) (by omega) (by omega)
 rw [mk1_marks] at HH
 have n3 : ¬ 1 + 2 * (us.length : Int) + (totR L : Int) < 0 := by omega
 have n4 : ¬ 1 + (X.length : Int) < 0 := by omega
 have tk : List.take L.length (L.map eN) = L.map eN := List.take_of_length_le (by simp)
 have tk2 : List.take us.length (us.map e2) = us.map e2 := List.take_of_length_le (by simp)
 have tk3 : List.take X.length (X.map DV.i) = X.map .i := List.take_of_length_le (by simp)
 simp (config := { maxSteps := 2000000 }) [IChainOrder_8,made,settle,elems,wholeP,DV.allNew,DV.adopt,adoptP,newP,S0,n1,n2,n0,A0,Q0,S,A,Q,Q1,HH,n3,n4,tk,tk2,tk3,C1,C2]
set_option maxHeartbeats 4000000 in
theorem sChainOrder_9 {us : List T} {z : Int} {X : List Int} {L : List (List Int)} (hu : us.length ≤ 1048576) (z0 : 0 ≤ z) (hL : L.length ≤ 1048576) (hT : totR L ≤ 1048576) (hR : ∀ r ∈ L,(r.length : Int) ≤ 1048576) (hX : X.length ≤ 1048576) (S : call lf n_laws_szIntSS [.sl 0 (L.map eR),.i (1048576 - (us.length : Int))] = some (.i z,[])) (C1 : call lf n_impl_ChainOrder [.sl 0 (us.map e2),.sl 0 (L.map eR)] = some (.fr 1 (X.map .i),[])) (C2 : call lf n_spec_ChainOrder [.sl 0 (us.map e2),.sl 0 (L.map eR)] = some (.fr 1 (X.map .i),[])) : ∃ S1,ex lf IChainOrder_9 ⟨[(0,.sl 0 (us.map e2)),(1,.sl 0 (L.map eR)),(6,.sl 0 (X.map .i)),(7,.sl 0 (us.map e2)),(8,.sl 0 (L.map eR))],[]⟩ = some (.normal,S1) ∧ ∀ g ∈ ([(9,.sl 1 (X.map .i))] : List (Nat × DV)),made S1 g := by
 have S0 := c_szTestS us 1048576 (by omega) (by omega) (by omega)
 have n1 : ¬ (1048576 : Int) < us.length := by omega
 have n2 : ¬ (1048576 : Int) - us.length < 0 := by omega
 have n0 : ¬ z < 0 := by omega
 have A0 := c_toTestS us (by omega)
 have Q0 := c_eqTestS_self us (by omega)
 have A := c_toIntSS L (by omega) hR
 have Q := c_eqIntSS_self L (by omega) hR
 have Q1 := c_eqIntS_self X (by omega)
 have HH := c_heldIntS X.length 1 (by omega) (by omega) (by omega)
 rw [mk1_marks] at HH
 have n3 : ¬ 1 + 2 * (us.length : Int) + (totR L : Int) < 0 := by omega
 have n4 : ¬ 1 + (X.length : Int) < 0 := by omega
 have tk : List.take L.length (L.map eN) = L.map eN := List.take_of_length_le (by simp)
 have tk2 : List.take us.length (us.map e2) = us.map e2 := List.take_of_length_le (by simp)
 have tk3 : List.take X.length (X.map DV.i) = X.map .i := List.take_of_length_le (by simp)
 simp (config := { maxSteps := 2000000 }) [IChainOrder_9,made,settle,elems,wholeP,DV.allNew,DV.adopt,adoptP,newP,S0,n1,n2,n0,A0,Q0,S,A,Q,Q1,HH,n3,n4,tk,tk2,tk3,C1,C2]
set_option maxHeartbeats 4000000 in
theorem sChainOrder_10 {us : List T} {z : Int} {X : List Int} {L : List (List Int)} (hu : us.length ≤ 1048576) (z0 : 0 ≤ z) (hL : L.length ≤ 1048576) (hT : totR L ≤ 1048576) (hR : ∀ r ∈ L,(r.length : Int) ≤ 1048576) (hX : X.length ≤ 1048576) (S : call lf n_laws_szIntSS [.sl 0 (L.map eR),.i (1048576 - (us.length : Int))] = some (.i z,[])) (C1 : call lf n_impl_ChainOrder [.sl 0 (us.map e2),.sl 0 (L.map eR)] = some (.fr 1 (X.map .i),[])) (C2 : call lf n_spec_ChainOrder [.sl 0 (us.map e2),.sl 0 (L.map eR)] = some (.fr 1 (X.map .i),[])) : ∃ S1,ex lf IChainOrder_10 ⟨[(0,.sl 0 (us.map e2)),(1,.sl 0 (L.map eR)),(6,.sl 0 (X.map .i)),(7,.sl 0 (us.map e2)),(8,.sl 0 (L.map eR)),(9,.sl 0 (X.map .i))],[]⟩ = some (.normal,S1) ∧ ∀ g ∈ ([] : List (Nat × DV)),made S1 g := by
 have S0 := c_szTestS us 1048576 (by omega) (by omega) (by omega)
 have n1 : ¬ (1048576 : Int) < us.length := by omega
 have n2 : ¬ (1048576 : Int) - us.length < 0 := by omega
 have n0 : ¬ z < 0 := by omega
 have A0 := c_toTestS us (by omega)
 have Q0 := c_eqTestS_self us (by omega)
 have A := c_toIntSS L (by omega) hR
 have Q := c_eqIntSS_self L (by omega) hR
 have Q1 := c_eqIntS_self X (by omega)
 have HH := c_heldIntS X.length 1 (by omega) (by omega) (by omega)
 rw [mk1_marks] at HH
 have n3 : ¬ 1 + 2 * (us.length : Int) + (totR L : Int) < 0 := by omega
 have n4 : ¬ 1 + (X.length : Int) < 0 := by omega
 have tk : List.take L.length (L.map eN) = L.map eN := List.take_of_length_le (by simp)
 have tk2 : List.take us.length (us.map e2) = us.map e2 := List.take_of_length_le (by simp)
 have tk3 : List.take X.length (X.map DV.i) = X.map .i := List.take_of_length_le (by simp)
 simp (config := { maxSteps := 2000000 }) [IChainOrder_10,made,settle,elems,wholeP,DV.allNew,DV.adopt,adoptP,newP,S0,n1,n2,n0,A0,Q0,S,A,Q,Q1,HH,n3,n4,tk,tk2,tk3,C1,C2]
set_option maxHeartbeats 4000000 in
theorem sChainOrder_11 {us : List T} {z : Int} {X : List Int} {L : List (List Int)} (hu : us.length ≤ 1048576) (z0 : 0 ≤ z) (hL : L.length ≤ 1048576) (hT : totR L ≤ 1048576) (hR : ∀ r ∈ L,(r.length : Int) ≤ 1048576) (hX : X.length ≤ 1048576) (S : call lf n_laws_szIntSS [.sl 0 (L.map eR),.i (1048576 - (us.length : Int))] = some (.i z,[])) (C1 : call lf n_impl_ChainOrder [.sl 0 (us.map e2),.sl 0 (L.map eR)] = some (.fr 1 (X.map .i),[])) (C2 : call lf n_spec_ChainOrder [.sl 0 (us.map e2),.sl 0 (L.map eR)] = some (.fr 1 (X.map .i),[])) : ∃ S1,ex lf IChainOrder_11 ⟨[(0,.sl 0 (us.map e2)),(1,.sl 0 (L.map eR)),(6,.sl 0 (X.map .i)),(7,.sl 0 (us.map e2)),(8,.sl 0 (L.map eR)),(9,.sl 0 (X.map .i))],[]⟩ = some (.normal,S1) ∧ ∀ g ∈ ([] : List (Nat × DV)),made S1 g := by
 have S0 := c_szTestS us 1048576 (by omega) (by omega) (by omega)
 have n1 : ¬ (1048576 : Int) < us.length := by omega
 have n2 : ¬ (1048576 : Int) - us.length < 0 := by omega
 have n0 : ¬ z < 0 := by omega
 have A0 := c_toTestS us (by omega)
 have Q0 := c_eqTestS_self us (by omega)
 have A := c_toIntSS L (by omega) hR
 have Q := c_eqIntSS_self L (by omega) hR
 have Q1 := c_eqIntS_self X (by omega)
 have HH := c_heldIntS X.length 1 (by omega) (by omega) (by omega)
 rw [mk1_marks] at HH
 have n3 : ¬ 1 + 2 * (us.length : Int) + (totR L : Int) < 0 := by omega
 have n4 : ¬ 1 + (X.length : Int) < 0 := by omega
 have tk : List.take L.length (L.map eN) = L.map eN := List.take_of_length_le (by simp)
 have tk2 : List.take us.length (us.map e2) = us.map e2 := List.take_of_length_le (by simp)
 have tk3 : List.take X.length (X.map DV.i) = X.map .i := List.take_of_length_le (by simp)
 simp (config := { maxSteps := 2000000 }) [IChainOrder_11,made,settle,elems,wholeP,DV.allNew,DV.adopt,adoptP,newP,S0,n1,n2,n0,A0,Q0,S,A,Q,Q1,HH,n3,n4,tk,tk2,tk3,C1,C2]
set_option maxHeartbeats 4000000 in
theorem sChainOrder_12 {us : List T} {z : Int} {X : List Int} {L : List (List Int)} (hu : us.length ≤ 1048576) (z0 : 0 ≤ z) (hL : L.length ≤ 1048576) (hT : totR L ≤ 1048576) (hR : ∀ r ∈ L,(r.length : Int) ≤ 1048576) (hX : X.length ≤ 1048576) (S : call lf n_laws_szIntSS [.sl 0 (L.map eR),.i (1048576 - (us.length : Int))] = some (.i z,[])) (C1 : call lf n_impl_ChainOrder [.sl 0 (us.map e2),.sl 0 (L.map eR)] = some (.fr 1 (X.map .i),[])) (C2 : call lf n_spec_ChainOrder [.sl 0 (us.map e2),.sl 0 (L.map eR)] = some (.fr 1 (X.map .i),[])) : ∃ S1,ex lf IChainOrder_12 ⟨[(0,.sl 0 (us.map e2)),(1,.sl 0 (L.map eR)),(6,.sl 0 (X.map .i)),(7,.sl 0 (us.map e2)),(8,.sl 0 (L.map eR)),(9,.sl 0 (X.map .i))],[]⟩ = some (.normal,S1) ∧ ∀ g ∈ ([] : List (Nat × DV)),made S1 g := by
 have S0 := c_szTestS us 1048576 (by omega) (by omega) (by omega)
 have n1 : ¬ (1048576 : Int) < us.length := by omega
 have n2 : ¬ (1048576 : Int) - us.length < 0 := by omega
 have n0 : ¬ z < 0 := by omega
 have A0 := c_toTestS us (by omega)
 have Q0 := c_eqTestS_self us (by omega)
 have A := c_toIntSS L (by omega) hR
 have Q := c_eqIntSS_self L (by omega) hR
 have Q1 := c_eqIntS_self X (by omega)
 have HH := c_heldIntS X.length 1 (by omega) (by omega) (by omega)
 rw [mk1_marks] at HH
 have n3 : ¬ 1 + 2 * (us.length : Int) + (totR L : Int) < 0 := by omega
 have n4 : ¬ 1 + (X.length : Int) < 0 := by omega
 have tk : List.take L.length (L.map eN) = L.map eN := List.take_of_length_le (by simp)
 have tk2 : List.take us.length (us.map e2) = us.map e2 := List.take_of_length_le (by simp)
 have tk3 : List.take X.length (X.map DV.i) = X.map .i := List.take_of_length_le (by simp)
 simp (config := { maxSteps := 2000000 }) [IChainOrder_12,made,settle,elems,wholeP,DV.allNew,DV.adopt,adoptP,newP,S0,n1,n2,n0,A0,Q0,S,A,Q,Q1,HH,n3,n4,tk,tk2,tk3,C1,C2]
set_option maxHeartbeats 4000000 in
theorem sChainOrder_13 {us : List T} {z : Int} {X : List Int} {L : List (List Int)} (hu : us.length ≤ 1048576) (z0 : 0 ≤ z) (hL : L.length ≤ 1048576) (hT : totR L ≤ 1048576) (hR : ∀ r ∈ L,(r.length : Int) ≤ 1048576) (hX : X.length ≤ 1048576) (S : call lf n_laws_szIntSS [.sl 0 (L.map eR),.i (1048576 - (us.length : Int))] = some (.i z,[])) (C1 : call lf n_impl_ChainOrder [.sl 0 (us.map e2),.sl 0 (L.map eR)] = some (.fr 1 (X.map .i),[])) (C2 : call lf n_spec_ChainOrder [.sl 0 (us.map e2),.sl 0 (L.map eR)] = some (.fr 1 (X.map .i),[])) : ∃ S1,ex lf IChainOrder_13 ⟨[(0,.sl 0 (us.map e2)),(1,.sl 0 (L.map eR)),(6,.sl 0 (X.map .i)),(7,.sl 0 (us.map e2)),(8,.sl 0 (L.map eR)),(9,.sl 0 (X.map .i))],[]⟩ = some (.normal,S1) ∧ ∀ g ∈ ([(10,.i (1))] : List (Nat × DV)),made S1 g := by
 have S0 := c_szTestS us 1048576 (by omega) (by omega) (by omega)
 have n1 : ¬ (1048576 : Int) < us.length := by omega
 have n2 : ¬ (1048576 : Int) - us.length < 0 := by omega
 have n0 : ¬ z < 0 := by omega
 have A0 := c_toTestS us (by omega)
 have Q0 := c_eqTestS_self us (by omega)
 have A := c_toIntSS L (by omega) hR
 have Q := c_eqIntSS_self L (by omega) hR
 have Q1 := c_eqIntS_self X (by omega)
 have HH := c_heldIntS X.length 1 (by omega) (by omega) (by omega)
 rw [mk1_marks] at HH
 have n3 : ¬ 1 + 2 * (us.length : Int) + (totR L : Int) < 0 := by omega
 have n4 : ¬ 1 + (X.length : Int) < 0 := by omega
 have tk : List.take L.length (L.map eN) = L.map eN := List.take_of_length_le (by simp)
 have tk2 : List.take us.length (us.map e2) = us.map e2 := List.take_of_length_le (by simp)
 have tk3 : List.take X.length (X.map DV.i) = X.map .i := List.take_of_length_le (by simp)
 simp (config := { maxSteps := 2000000 }) [IChainOrder_13,made,settle,elems,wholeP,DV.allNew,DV.adopt,adoptP,newP,S0,n1,n2,n0,A0,Q0,S,A,Q,Q1,HH,n3,n4,tk,tk2,tk3,C1,C2]
set_option maxHeartbeats 4000000 in
theorem sChainOrder_16 {us : List T} {z : Int} {X : List Int} {L : List (List Int)} (hu : us.length ≤ 1048576) (z0 : 0 ≤ z) (hL : L.length ≤ 1048576) (hT : totR L ≤ 1048576) (hR : ∀ r ∈ L,(r.length : Int) ≤ 1048576) (hX : X.length ≤ 1048576) (S : call lf n_laws_szIntSS [.sl 0 (L.map eR),.i (1048576 - (us.length : Int))] = some (.i z,[])) (C1 : call lf n_impl_ChainOrder [.sl 0 (us.map e2),.sl 0 (L.map eR)] = some (.fr 1 (X.map .i),[])) (C2 : call lf n_spec_ChainOrder [.sl 0 (us.map e2),.sl 0 (L.map eR)] = some (.fr 1 (X.map .i),[])) : ∃ S1,ex lf IChainOrder_16 ⟨[(0,.sl 0 (us.map e2)),(1,.sl 0 (L.map eR)),(6,.sl 0 (X.map .i)),(9,.sl 0 (X.map .i)),(10,.i (1 + 2 * (us.length : Int) + (totR L : Int)))],[]⟩ = some (.normal,S1) ∧ ∀ g ∈ ([] : List (Nat × DV)),made S1 g := by
 have S0 := c_szTestS us 1048576 (by omega) (by omega) (by omega)
 have n1 : ¬ (1048576 : Int) < us.length := by omega
 have n2 : ¬ (1048576 : Int) - us.length < 0 := by omega
 have n0 : ¬ z < 0 := by omega
 have A0 := c_toTestS us (by omega)
 have Q0 := c_eqTestS_self us (by omega)
 have A := c_toIntSS L (by omega) hR
 have Q := c_eqIntSS_self L (by omega) hR
 have Q1 := c_eqIntS_self X (by omega)
 have HH := c_heldIntS X.length 1 (by omega) (by omega) (by omega)
 rw [mk1_marks] at HH
 have n3 : ¬ 1 + 2 * (us.length : Int) + (totR L : Int) < 0 := by omega
 have n4 : ¬ 1 + (X.length : Int) < 0 := by omega
 have tk : List.take L.length (L.map eN) = L.map eN := List.take_of_length_le (by simp)
 have tk2 : List.take us.length (us.map e2) = us.map e2 := List.take_of_length_le (by simp)
 have tk3 : List.take X.length (X.map DV.i) = X.map .i := List.take_of_length_le (by simp)
 simp (config := { maxSteps := 2000000 }) [IChainOrder_16,made,settle,elems,wholeP,DV.allNew,DV.adopt,adoptP,newP,S0,n1,n2,n0,A0,Q0,S,A,Q,Q1,HH,n3,n4,tk,tk2,tk3,C1,C2]
set_option maxHeartbeats 4000000 in
theorem sChainOrder_17 {us : List T} {z : Int} {X : List Int} {L : List (List Int)} (hu : us.length ≤ 1048576) (z0 : 0 ≤ z) (hL : L.length ≤ 1048576) (hT : totR L ≤ 1048576) (hR : ∀ r ∈ L,(r.length : Int) ≤ 1048576) (hX : X.length ≤ 1048576) (S : call lf n_laws_szIntSS [.sl 0 (L.map eR),.i (1048576 - (us.length : Int))] = some (.i z,[])) (C1 : call lf n_impl_ChainOrder [.sl 0 (us.map e2),.sl 0 (L.map eR)] = some (.fr 1 (X.map .i),[])) (C2 : call lf n_spec_ChainOrder [.sl 0 (us.map e2),.sl 0 (L.map eR)] = some (.fr 1 (X.map .i),[])) : ∃ S1,ex lf IChainOrder_17 ⟨[(0,.sl 0 (us.map e2)),(1,.sl 0 (L.map eR)),(6,.sl 0 (X.map .i)),(9,.sl 0 (X.map .i))],[]⟩ = some (.normal,S1) ∧ ∀ g ∈ ([(11,.i (1))] : List (Nat × DV)),made S1 g := by
 have S0 := c_szTestS us 1048576 (by omega) (by omega) (by omega)
 have n1 : ¬ (1048576 : Int) < us.length := by omega
 have n2 : ¬ (1048576 : Int) - us.length < 0 := by omega
 have n0 : ¬ z < 0 := by omega
 have A0 := c_toTestS us (by omega)
 have Q0 := c_eqTestS_self us (by omega)
 have A := c_toIntSS L (by omega) hR
 have Q := c_eqIntSS_self L (by omega) hR
 have Q1 := c_eqIntS_self X (by omega)
 have HH := c_heldIntS X.length 1 (by omega) (by omega) (by omega)
 rw [mk1_marks] at HH
 have n3 : ¬ 1 + 2 * (us.length : Int) + (totR L : Int) < 0 := by omega
 have n4 : ¬ 1 + (X.length : Int) < 0 := by omega
 have tk : List.take L.length (L.map eN) = L.map eN := List.take_of_length_le (by simp)
 have tk2 : List.take us.length (us.map e2) = us.map e2 := List.take_of_length_le (by simp)
 have tk3 : List.take X.length (X.map DV.i) = X.map .i := List.take_of_length_le (by simp)
 simp (config := { maxSteps := 2000000 }) [IChainOrder_17,made,settle,elems,wholeP,DV.allNew,DV.adopt,adoptP,newP,S0,n1,n2,n0,A0,Q0,S,A,Q,Q1,HH,n3,n4,tk,tk2,tk3,C1,C2]
set_option maxHeartbeats 4000000 in
theorem sChainOrder_19 {us : List T} {z : Int} {X : List Int} {L : List (List Int)} (hu : us.length ≤ 1048576) (z0 : 0 ≤ z) (hL : L.length ≤ 1048576) (hT : totR L ≤ 1048576) (hR : ∀ r ∈ L,(r.length : Int) ≤ 1048576) (hX : X.length ≤ 1048576) (S : call lf n_laws_szIntSS [.sl 0 (L.map eR),.i (1048576 - (us.length : Int))] = some (.i z,[])) (C1 : call lf n_impl_ChainOrder [.sl 0 (us.map e2),.sl 0 (L.map eR)] = some (.fr 1 (X.map .i),[])) (C2 : call lf n_spec_ChainOrder [.sl 0 (us.map e2),.sl 0 (L.map eR)] = some (.fr 1 (X.map .i),[])) : ∃ S1,ex lf IChainOrder_19 ⟨[(0,.sl 0 (us.map e2)),(1,.sl 0 (L.map eR)),(6,.sl 0 (X.map .i)),(9,.sl 0 ((marksI 1 X.length).map .i)),(11,.i (1 + (X.length : Int)))],[]⟩ = some (.normal,S1) ∧ ∀ g ∈ ([(12,.i (1))] : List (Nat × DV)),made S1 g := by
 have S0 := c_szTestS us 1048576 (by omega) (by omega) (by omega)
 have n1 : ¬ (1048576 : Int) < us.length := by omega
 have n2 : ¬ (1048576 : Int) - us.length < 0 := by omega
 have n0 : ¬ z < 0 := by omega
 have A0 := c_toTestS us (by omega)
 have Q0 := c_eqTestS_self us (by omega)
 have A := c_toIntSS L (by omega) hR
 have Q := c_eqIntSS_self L (by omega) hR
 have Q1 := c_eqIntS_self X (by omega)
 have HH := c_heldIntS X.length 1 (by omega) (by omega) (by omega)
 rw [mk1_marks] at HH
 have n3 : ¬ 1 + 2 * (us.length : Int) + (totR L : Int) < 0 := by omega
 have n4 : ¬ 1 + (X.length : Int) < 0 := by omega
 have tk : List.take L.length (L.map eN) = L.map eN := List.take_of_length_le (by simp)
 have tk2 : List.take us.length (us.map e2) = us.map e2 := List.take_of_length_le (by simp)
 have tk3 : List.take X.length (X.map DV.i) = X.map .i := List.take_of_length_le (by simp)
 simp (config := { maxSteps := 2000000 }) [IChainOrder_19,made,settle,elems,wholeP,DV.allNew,DV.adopt,adoptP,newP,S0,n1,n2,n0,A0,Q0,S,A,Q,Q1,HH,n3,n4,tk,tk2,tk3,C1,C2]
set_option maxHeartbeats 4000000 in
theorem sChainOrder_20 {us : List T} {z : Int} {X : List Int} {L : List (List Int)} (hu : us.length ≤ 1048576) (z0 : 0 ≤ z) (hL : L.length ≤ 1048576) (hT : totR L ≤ 1048576) (hR : ∀ r ∈ L,(r.length : Int) ≤ 1048576) (hX : X.length ≤ 1048576) (S : call lf n_laws_szIntSS [.sl 0 (L.map eR),.i (1048576 - (us.length : Int))] = some (.i z,[])) (C1 : call lf n_impl_ChainOrder [.sl 0 (us.map e2),.sl 0 (L.map eR)] = some (.fr 1 (X.map .i),[])) (C2 : call lf n_spec_ChainOrder [.sl 0 (us.map e2),.sl 0 (L.map eR)] = some (.fr 1 (X.map .i),[])) : ∃ S1,ex lf IChainOrder_20 ⟨[(0,.sl 0 (us.map e2)),(1,.sl 0 (L.map eR)),(6,.sl 0 (X.map .i)),(9,.sl 0 ((marksI 1 X.length).map .i)),(11,.i (1 + (X.length : Int))),(12,.i (1))],[]⟩ = some (.normal,S1) ∧ ∀ g ∈ ([(12,.i (1 + (X.length : Int)))] : List (Nat × DV)),made S1 g := by
 have S0 := c_szTestS us 1048576 (by omega) (by omega) (by omega)
 have n1 : ¬ (1048576 : Int) < us.length := by omega
 have n2 : ¬ (1048576 : Int) - us.length < 0 := by omega
 have n0 : ¬ z < 0 := by omega
 have A0 := c_toTestS us (by omega)
 have Q0 := c_eqTestS_self us (by omega)
 have A := c_toIntSS L (by omega) hR
 have Q := c_eqIntSS_self L (by omega) hR
 have Q1 := c_eqIntS_self X (by omega)
 have HH := c_heldIntS X.length 1 (by omega) (by omega) (by omega)
 rw [mk1_marks] at HH
 have n3 : ¬ 1 + 2 * (us.length : Int) + (totR L : Int) < 0 := by omega
 have n4 : ¬ 1 + (X.length : Int) < 0 := by omega
 have tk : List.take L.length (L.map eN) = L.map eN := List.take_of_length_le (by simp)
 have tk2 : List.take us.length (us.map e2) = us.map e2 := List.take_of_length_le (by simp)
 have tk3 : List.take X.length (X.map DV.i) = X.map .i := List.take_of_length_le (by simp)
 simp (config := { maxSteps := 2000000 }) [IChainOrder_20,made,settle,elems,wholeP,DV.allNew,DV.adopt,adoptP,newP,S0,n1,n2,n0,A0,Q0,S,A,Q,Q1,HH,n3,n4,tk,tk2,tk3,C1,C2]
set_option maxHeartbeats 4000000 in
theorem sChainOrder_21 {us : List T} {z : Int} {X : List Int} {L : List (List Int)} (hu : us.length ≤ 1048576) (z0 : 0 ≤ z) (hL : L.length ≤ 1048576) (hT : totR L ≤ 1048576) (hR : ∀ r ∈ L,(r.length : Int) ≤ 1048576) (hX : X.length ≤ 1048576) (S : call lf n_laws_szIntSS [.sl 0 (L.map eR),.i (1048576 - (us.length : Int))] = some (.i z,[])) (C1 : call lf n_impl_ChainOrder [.sl 0 (us.map e2),.sl 0 (L.map eR)] = some (.fr 1 (X.map .i),[])) (C2 : call lf n_spec_ChainOrder [.sl 0 (us.map e2),.sl 0 (L.map eR)] = some (.fr 1 (X.map .i),[])) : ∃ S1,ex lf IChainOrder_21 ⟨[(0,.sl 0 (us.map e2)),(1,.sl 0 (L.map eR)),(6,.sl 0 (X.map .i)),(9,.sl 0 ((marksI 1 X.length).map .i)),(11,.i (1 + (X.length : Int))),(12,.i (1 + (X.length : Int)))],[]⟩ = some (.normal,S1) ∧ ∀ g ∈ ([] : List (Nat × DV)),made S1 g := by
 have S0 := c_szTestS us 1048576 (by omega) (by omega) (by omega)
 have n1 : ¬ (1048576 : Int) < us.length := by omega
 have n2 : ¬ (1048576 : Int) - us.length < 0 := by omega
 have n0 : ¬ z < 0 := by omega
 have A0 := c_toTestS us (by omega)
 have Q0 := c_eqTestS_self us (by omega)
 have A := c_toIntSS L (by omega) hR
 have Q := c_eqIntSS_self L (by omega) hR
 have Q1 := c_eqIntS_self X (by omega)
 have HH := c_heldIntS X.length 1 (by omega) (by omega) (by omega)
 rw [mk1_marks] at HH
 have n3 : ¬ 1 + 2 * (us.length : Int) + (totR L : Int) < 0 := by omega
 have n4 : ¬ 1 + (X.length : Int) < 0 := by omega
 have tk : List.take L.length (L.map eN) = L.map eN := List.take_of_length_le (by simp)
 have tk2 : List.take us.length (us.map e2) = us.map e2 := List.take_of_length_le (by simp)
 have tk3 : List.take X.length (X.map DV.i) = X.map .i := List.take_of_length_le (by simp)
 simp (config := { maxSteps := 2000000 }) [IChainOrder_21,made,settle,elems,wholeP,DV.allNew,DV.adopt,adoptP,newP,S0,n1,n2,n0,A0,Q0,S,A,Q,Q1,HH,n3,n4,tk,tk2,tk3,C1,C2]
set_option maxHeartbeats 4000000 in
theorem sChainOrder_22 {us : List T} {z : Int} {X : List Int} {L : List (List Int)} (hu : us.length ≤ 1048576) (z0 : 0 ≤ z) (hL : L.length ≤ 1048576) (hT : totR L ≤ 1048576) (hR : ∀ r ∈ L,(r.length : Int) ≤ 1048576) (hX : X.length ≤ 1048576) (S : call lf n_laws_szIntSS [.sl 0 (L.map eR),.i (1048576 - (us.length : Int))] = some (.i z,[])) (C1 : call lf n_impl_ChainOrder [.sl 0 (us.map e2),.sl 0 (L.map eR)] = some (.fr 1 (X.map .i),[])) (C2 : call lf n_spec_ChainOrder [.sl 0 (us.map e2),.sl 0 (L.map eR)] = some (.fr 1 (X.map .i),[])) : ∃ S1,ex lf IChainOrder_22 ⟨[(0,.sl 0 (us.map e2)),(1,.sl 0 (L.map eR)),(6,.sl 0 (X.map .i)),(9,.sl 0 ((marksI 1 X.length).map .i)),(11,.i (1 + (X.length : Int))),(12,.i (1 + (X.length : Int)))],[]⟩ = some (.normal,S1) ∧ ∀ g ∈ ([] : List (Nat × DV)),made S1 g := by
 have S0 := c_szTestS us 1048576 (by omega) (by omega) (by omega)
 have n1 : ¬ (1048576 : Int) < us.length := by omega
 have n2 : ¬ (1048576 : Int) - us.length < 0 := by omega
 have n0 : ¬ z < 0 := by omega
 have A0 := c_toTestS us (by omega)
 have Q0 := c_eqTestS_self us (by omega)
 have A := c_toIntSS L (by omega) hR
 have Q := c_eqIntSS_self L (by omega) hR
 have Q1 := c_eqIntS_self X (by omega)
 have HH := c_heldIntS X.length 1 (by omega) (by omega) (by omega)
 rw [mk1_marks] at HH
 have n3 : ¬ 1 + 2 * (us.length : Int) + (totR L : Int) < 0 := by omega
 have n4 : ¬ 1 + (X.length : Int) < 0 := by omega
 have tk : List.take L.length (L.map eN) = L.map eN := List.take_of_length_le (by simp)
 have tk2 : List.take us.length (us.map e2) = us.map e2 := List.take_of_length_le (by simp)
 have tk3 : List.take X.length (X.map DV.i) = X.map .i := List.take_of_length_le (by simp)
 simp (config := { maxSteps := 2000000 }) [IChainOrder_22,made,settle,elems,wholeP,DV.allNew,DV.adopt,adoptP,newP,S0,n1,n2,n0,A0,Q0,S,A,Q,Q1,HH,n3,n4,tk,tk2,tk3,C1,C2]
set_option maxHeartbeats 4000000 in
theorem sChainOrder_23 {us : List T} {z : Int} {X : List Int} {L : List (List Int)} (hu : us.length ≤ 1048576) (z0 : 0 ≤ z) (hL : L.length ≤ 1048576) (hT : totR L ≤ 1048576) (hR : ∀ r ∈ L,(r.length : Int) ≤ 1048576) (hX : X.length ≤ 1048576) (S : call lf n_laws_szIntSS [.sl 0 (L.map eR),.i (1048576 - (us.length : Int))] = some (.i z,[])) (C1 : call lf n_impl_ChainOrder [.sl 0 (us.map e2),.sl 0 (L.map eR)] = some (.fr 1 (X.map .i),[])) (C2 : call lf n_spec_ChainOrder [.sl 0 (us.map e2),.sl 0 (L.map eR)] = some (.fr 1 (X.map .i),[])) : ∃ S1,ex lf IChainOrder_23 ⟨[(0,.sl 0 (us.map e2)),(1,.sl 0 (L.map eR)),(6,.sl 0 (X.map .i)),(9,.sl 0 ((marksI 1 X.length).map .i)),(11,.i (1 + (X.length : Int)))],[]⟩ = some (.normal,S1) ∧ ∀ g ∈ ([(13,.sl 1 (X.map .i))] : List (Nat × DV)),made S1 g := by
 have S0 := c_szTestS us 1048576 (by omega) (by omega) (by omega)
 have n1 : ¬ (1048576 : Int) < us.length := by omega
 have n2 : ¬ (1048576 : Int) - us.length < 0 := by omega
 have n0 : ¬ z < 0 := by omega
 have A0 := c_toTestS us (by omega)
 have Q0 := c_eqTestS_self us (by omega)
 have A := c_toIntSS L (by omega) hR
 have Q := c_eqIntSS_self L (by omega) hR
 have Q1 := c_eqIntS_self X (by omega)
 have HH := c_heldIntS X.length 1 (by omega) (by omega) (by omega)
 rw [mk1_marks] at HH
 have n3 : ¬ 1 + 2 * (us.length : Int) + (totR L : Int) < 0 := by omega
 have n4 : ¬ 1 + (X.length : Int) < 0 := by omega
 have tk : List.take L.length (L.map eN) = L.map eN := List.take_of_length_le (by simp)
 have tk2 : List.take us.length (us.map e2) = us.map e2 := List.take_of_length_le (by simp)
 have tk3 : List.take X.length (X.map DV.i) = X.map .i := List.take_of_length_le (by simp)
 simp (config := { maxSteps := 2000000 }) [IChainOrder_23,made,settle,elems,wholeP,DV.allNew,DV.adopt,adoptP,newP,S0,n1,n2,n0,A0,Q0,S,A,Q,Q1,HH,n3,n4,tk,tk2,tk3,C1,C2]
set_option maxHeartbeats 4000000 in
theorem sChainOrder_24 {us : List T} {z : Int} {X : List Int} {L : List (List Int)} (hu : us.length ≤ 1048576) (z0 : 0 ≤ z) (hL : L.length ≤ 1048576) (hT : totR L ≤ 1048576) (hR : ∀ r ∈ L,(r.length : Int) ≤ 1048576) (hX : X.length ≤ 1048576) (S : call lf n_laws_szIntSS [.sl 0 (L.map eR),.i (1048576 - (us.length : Int))] = some (.i z,[])) (C1 : call lf n_impl_ChainOrder [.sl 0 (us.map e2),.sl 0 (L.map eR)] = some (.fr 1 (X.map .i),[])) (C2 : call lf n_spec_ChainOrder [.sl 0 (us.map e2),.sl 0 (L.map eR)] = some (.fr 1 (X.map .i),[])) : ∃ S1,ex lf IChainOrder_24 ⟨[(6,.sl 0 (X.map .i)),(9,.sl 0 ((marksI 1 X.length).map .i)),(11,.i (1 + (X.length : Int))),(13,.sl 0 (X.map .i))],[]⟩ = some (.normal,S1) ∧ ∀ g ∈ ([] : List (Nat × DV)),made S1 g := by
 have S0 := c_szTestS us 1048576 (by omega) (by omega) (by omega)
 have n1 : ¬ (1048576 : Int) < us.length := by omega
 have n2 : ¬ (1048576 : Int) - us.length < 0 := by omega
 have n0 : ¬ z < 0 := by omega
 have A0 := c_toTestS us (by omega)
 have Q0 := c_eqTestS_self us (by omega)
 have A := c_toIntSS L (by omega) hR
 have Q := c_eqIntSS_self L (by omega) hR
 have Q1 := c_eqIntS_self X (by omega)
 have HH := c_heldIntS X.length 1 (by omega) (by omega) (by omega)
 rw [mk1_marks] at HH
 have n3 : ¬ 1 + 2 * (us.length : Int) + (totR L : Int) < 0 := by omega
 have n4 : ¬ 1 + (X.length : Int) < 0 := by omega
 have tk : List.take L.length (L.map eN) = L.map eN := List.take_of_length_le (by simp)
 have tk2 : List.take us.length (us.map e2) = us.map e2 := List.take_of_length_le (by simp)
 have tk3 : List.take X.length (X.map DV.i) = X.map .i := List.take_of_length_le (by simp)
 simp (config := { maxSteps := 2000000 }) [IChainOrder_24,made,settle,elems,wholeP,DV.allNew,DV.adopt,adoptP,newP,S0,n1,n2,n0,A0,Q0,S,A,Q,Q1,HH,n3,n4,tk,tk2,tk3,C1,C2]
set_option maxHeartbeats 4000000 in
theorem sChainOrder_25 {us : List T} {z : Int} {X : List Int} {L : List (List Int)} (hu : us.length ≤ 1048576) (z0 : 0 ≤ z) (hL : L.length ≤ 1048576) (hT : totR L ≤ 1048576) (hR : ∀ r ∈ L,(r.length : Int) ≤ 1048576) (hX : X.length ≤ 1048576) (S : call lf n_laws_szIntSS [.sl 0 (L.map eR),.i (1048576 - (us.length : Int))] = some (.i z,[])) (C1 : call lf n_impl_ChainOrder [.sl 0 (us.map e2),.sl 0 (L.map eR)] = some (.fr 1 (X.map .i),[])) (C2 : call lf n_spec_ChainOrder [.sl 0 (us.map e2),.sl 0 (L.map eR)] = some (.fr 1 (X.map .i),[])) : ∃ S1,ex lf IChainOrder_25 ⟨[(9,.sl 0 ((marksI 1 X.length).map .i)),(11,.i (1 + (X.length : Int)))],[]⟩ = some (.normal,S1) ∧ ∀ g ∈ ([(12,.i (1))] : List (Nat × DV)),made S1 g := by
 have S0 := c_szTestS us 1048576 (by omega) (by omega) (by omega)
 have n1 : ¬ (1048576 : Int) < us.length := by omega
 have n2 : ¬ (1048576 : Int) - us.length < 0 := by omega
 have n0 : ¬ z < 0 := by omega
 have A0 := c_toTestS us (by omega)
 have Q0 := c_eqTestS_self us (by omega)
 have A := c_toIntSS L (by omega) hR
 have Q := c_eqIntSS_self L (by omega) hR
 have Q1 := c_eqIntS_self X (by omega)
 have HH := c_heldIntS X.length 1 (by omega) (by omega) (by omega)
 rw [mk1_marks] at HH
 have n3 : ¬ 1 + 2 * (us.length : Int) + (totR L : Int) < 0 := by omega
 have n4 : ¬ 1 + (X.length : Int) < 0 := by omega
 have tk : List.take L.length (L.map eN) = L.map eN := List.take_of_length_le (by simp)
 have tk2 : List.take us.length (us.map e2) = us.map e2 := List.take_of_length_le (by simp)
 have tk3 : List.take X.length (X.map DV.i) = X.map .i := List.take_of_length_le (by simp)
 simp (config := { maxSteps := 2000000 }) [IChainOrder_25,made,settle,elems,wholeP,DV.allNew,DV.adopt,adoptP,newP,S0,n1,n2,n0,A0,Q0,S,A,Q,Q1,HH,n3,n4,tk,tk2,tk3,C1,C2]
set_option maxHeartbeats 4000000 in
theorem sChainOrder_26 {us : List T} {z : Int} {X : List Int} {L : List (List Int)} (hu : us.length ≤ 1048576) (z0 : 0 ≤ z) (hL : L.length ≤ 1048576) (hT : totR L ≤ 1048576) (hR : ∀ r ∈ L,(r.length : Int) ≤ 1048576) (hX : X.length ≤ 1048576) (S : call lf n_laws_szIntSS [.sl 0 (L.map eR),.i (1048576 - (us.length : Int))] = some (.i z,[])) (C1 : call lf n_impl_ChainOrder [.sl 0 (us.map e2),.sl 0 (L.map eR)] = some (.fr 1 (X.map .i),[])) (C2 : call lf n_spec_ChainOrder [.sl 0 (us.map e2),.sl 0 (L.map eR)] = some (.fr 1 (X.map .i),[])) : ∃ S1,ex lf IChainOrder_26 ⟨[(9,.sl 0 ((marksI 1 X.length).map .i)),(11,.i (1 + (X.length : Int))),(12,.i (1))],[]⟩ = some (.normal,S1) ∧ ∀ g ∈ ([(12,.i (1 + (X.length : Int)))] : List (Nat × DV)),made S1 g := by
 have S0 := c_szTestS us 1048576 (by omega) (by omega) (by omega)
 have n1 : ¬ (1048576 : Int) < us.length := by omega
 have n2 : ¬ (1048576 : Int) - us.length < 0 := by omega
 have n0 : ¬ z < 0 := by omega
 have A0 := c_toTestS us (by omega)
 have Q0 := c_eqTestS_self us (by omega)
 have A := c_toIntSS L (by omega) hR
 have Q := c_eqIntSS_self L (by omega) hR
 have Q1 := c_eqIntS_self X (by omega)
 have HH := c_heldIntS X.length 1 (by omega) (by omega) (by omega)
 rw [mk1_marks] at HH
 have n3 : ¬ 1 + 2 * (us.length : Int) + (totR L : Int) < 0 := by omega
 have n4 : ¬ 1 + (X.length : Int) < 0 := by omega
 have tk : List.take L.length (L.map eN) = L.map eN := List.take_of_length_le (by simp)
 have tk2 : List.take us.length (us.map e2) = us.map e2 := List.take_of_length_le (by simp)
 have tk3 : List.take X.length (X.map DV.i) = X.map .i := List.take_of_length_le (by simp)
 simp (config := { maxSteps := 2000000 }) [IChainOrder_26,made,settle,elems,wholeP,DV.allNew,DV.adopt,adoptP,newP,S0,n1,n2,n0,A0,Q0,S,A,Q,Q1,HH,n3,n4,tk,tk2,tk3,C1,C2]
set_option maxHeartbeats 4000000 in
theorem sChainOrder_27 {us : List T} {z : Int} {X : List Int} {L : List (List Int)} (hu : us.length ≤ 1048576) (z0 : 0 ≤ z) (hL : L.length ≤ 1048576) (hT : totR L ≤ 1048576) (hR : ∀ r ∈ L,(r.length : Int) ≤ 1048576) (hX : X.length ≤ 1048576) (S : call lf n_laws_szIntSS [.sl 0 (L.map eR),.i (1048576 - (us.length : Int))] = some (.i z,[])) (C1 : call lf n_impl_ChainOrder [.sl 0 (us.map e2),.sl 0 (L.map eR)] = some (.fr 1 (X.map .i),[])) (C2 : call lf n_spec_ChainOrder [.sl 0 (us.map e2),.sl 0 (L.map eR)] = some (.fr 1 (X.map .i),[])) : ∃ S1,ex lf IChainOrder_27 ⟨[(11,.i (1 + (X.length : Int))),(12,.i (1 + (X.length : Int)))],[]⟩ = some (.normal,S1) ∧ ∀ g ∈ ([] : List (Nat × DV)),made S1 g := by
 have S0 := c_szTestS us 1048576 (by omega) (by omega) (by omega)
 have n1 : ¬ (1048576 : Int) < us.length := by omega
 have n2 : ¬ (1048576 : Int) - us.length < 0 := by omega
 have n0 : ¬ z < 0 := by omega
 have A0 := c_toTestS us (by omega)
 have Q0 := c_eqTestS_self us (by omega)
 have A := c_toIntSS L (by omega) hR
 have Q := c_eqIntSS_self L (by omega) hR
 have Q1 := c_eqIntS_self X (by omega)
 have HH := c_heldIntS X.length 1 (by omega) (by omega) (by omega)
 rw [mk1_marks] at HH
 have n3 : ¬ 1 + 2 * (us.length : Int) + (totR L : Int) < 0 := by omega
 have n4 : ¬ 1 + (X.length : Int) < 0 := by omega
 have tk : List.take L.length (L.map eN) = L.map eN := List.take_of_length_le (by simp)
 have tk2 : List.take us.length (us.map e2) = us.map e2 := List.take_of_length_le (by simp)
 have tk3 : List.take X.length (X.map DV.i) = X.map .i := List.take_of_length_le (by simp)
 simp (config := { maxSteps := 2000000 }) [IChainOrder_27,made,settle,elems,wholeP,DV.allNew,DV.adopt,adoptP,newP,S0,n1,n2,n0,A0,Q0,S,A,Q,Q1,HH,n3,n4,tk,tk2,tk3,C1,C2]
set_option maxHeartbeats 4000000 in
theorem sChainOrder_28 {us : List T} {z : Int} {X : List Int} {L : List (List Int)} (hu : us.length ≤ 1048576) (z0 : 0 ≤ z) (hL : L.length ≤ 1048576) (hT : totR L ≤ 1048576) (hR : ∀ r ∈ L,(r.length : Int) ≤ 1048576) (hX : X.length ≤ 1048576) (S : call lf n_laws_szIntSS [.sl 0 (L.map eR),.i (1048576 - (us.length : Int))] = some (.i z,[])) (C1 : call lf n_impl_ChainOrder [.sl 0 (us.map e2),.sl 0 (L.map eR)] = some (.fr 1 (X.map .i),[])) (C2 : call lf n_spec_ChainOrder [.sl 0 (us.map e2),.sl 0 (L.map eR)] = some (.fr 1 (X.map .i),[])) : ∃ S1,ex lf IChainOrder_28 ⟨[(11,.i (1 + (X.length : Int))),(12,.i (1 + (X.length : Int)))],[]⟩ = some (.normal,S1) ∧ ∀ g ∈ ([] : List (Nat × DV)),made S1 g := by
 have S0 := c_szTestS us 1048576 (by omega) (by omega) (by omega)
 have n1 : ¬ (1048576 : Int) < us.length := by omega
 have n2 : ¬ (1048576 : Int) - us.length < 0 := by omega
 have n0 : ¬ z < 0 := by omega
 have A0 := c_toTestS us (by omega)
 have Q0 := c_eqTestS_self us (by omega)
 have A := c_toIntSS L (by omega) hR
 have Q := c_eqIntSS_self L (by omega) hR
 have Q1 := c_eqIntS_self X (by omega)
 have HH := c_heldIntS X.length 1 (by omega) (by omega) (by omega)
 rw [mk1_marks] at HH
 have n3 : ¬ 1 + 2 * (us.length : Int) + (totR L : Int) < 0 := by omega
 have n4 : ¬ 1 + (X.length : Int) < 0 := by omega
 have tk : List.take L.length (L.map eN) = L.map eN := List.take_of_length_le (by simp)
 have tk2 : List.take us.length (us.map e2) = us.map e2 := List.take_of_length_le (by simp)
 have tk3 : List.take X.length (X.map DV.i) = X.map .i := List.take_of_length_le (by simp)
 simp (config := { maxSteps := 2000000 }) [IChainOrder_28,made,settle,elems,wholeP,DV.allNew,DV.adopt,adoptP,newP,S0,n1,n2,n0,A0,Q0,S,A,Q,Q1,HH,n3,n4,tk,tk2,tk3,C1,C2]
set_option maxHeartbeats 4000000 in
theorem sChainOrder_29 {us : List T} {z : Int} {X : List Int} {L : List (List Int)} (hu : us.length ≤ 1048576) (z0 : 0 ≤ z) (hL : L.length ≤ 1048576) (hT : totR L ≤ 1048576) (hR : ∀ r ∈ L,(r.length : Int) ≤ 1048576) (hX : X.length ≤ 1048576) (S : call lf n_laws_szIntSS [.sl 0 (L.map eR),.i (1048576 - (us.length : Int))] = some (.i z,[])) (C1 : call lf n_impl_ChainOrder [.sl 0 (us.map e2),.sl 0 (L.map eR)] = some (.fr 1 (X.map .i),[])) (C2 : call lf n_spec_ChainOrder [.sl 0 (us.map e2),.sl 0 (L.map eR)] = some (.fr 1 (X.map .i),[])) : ∃ S1,ex lf IChainOrder_29 ⟨[],[]⟩ = some (.normal,S1) ∧ ∀ g ∈ ([(4,.b true)] : List (Nat × DV)),made S1 g := by
 have S0 := c_szTestS us 1048576 (by omega) (by omega) (by omega)
 have n1 : ¬ (1048576 : Int) < us.length := by omega
 have n2 : ¬ (1048576 : Int) - us.length < 0 := by omega
 have n0 : ¬ z < 0 := by omega
 have A0 := c_toTestS us (by omega)
 have Q0 := c_eqTestS_self us (by omega)
 have A := c_toIntSS L (by omega) hR
 have Q := c_eqIntSS_self L (by omega) hR
 have Q1 := c_eqIntS_self X (by omega)
 have HH := c_heldIntS X.length 1 (by omega) (by omega) (by omega)
 rw [mk1_marks] at HH
 have n3 : ¬ 1 + 2 * (us.length : Int) + (totR L : Int) < 0 := by omega
 have n4 : ¬ 1 + (X.length : Int) < 0 := by omega
 have tk : List.take L.length (L.map eN) = L.map eN := List.take_of_length_le (by simp)
 have tk2 : List.take us.length (us.map e2) = us.map e2 := List.take_of_length_le (by simp)
 have tk3 : List.take X.length (X.map DV.i) = X.map .i := List.take_of_length_le (by simp)
 simp (config := { maxSteps := 2000000 }) [IChainOrder_29,made,settle,elems,wholeP,DV.allNew,DV.adopt,adoptP,newP,S0,n1,n2,n0,A0,Q0,S,A,Q,Q1,HH,n3,n4,tk,tk2,tk3,C1,C2]
section
variable {P : Go.Program} {dc : Array Go.Oper → Bool}
set_option maxHeartbeats 4000000 in
theorem law_FnExactChainOrder (hok : ∀ f F,lf f = some F → OkF P dc f F) (hD : ∀ Γ,FnSound P Γ → DrawOk P Γ dc) (hB : BackSound P) (us : List T) (hu0 : us.length ≤ Go.maxLen) (L : List (List Int)) (hL0 : L.length ≤ Go.maxLen ∧ ∀ r ∈ L,r.length ≤ Go.maxLen) {w : Go.World} (hg : GlobC ⟨w,fun _ => True,[]⟩) {v0 v1 : Go.Value} (h0 : CR w w.heap.size (okb (fun _ => True) w.heap.size fun _ => none) (rs2 us) v0) (h1 : CR w w.heap.size (okb (fun _ => True) w.heap.size fun _ => none) (rss L) v1) :
  Go.Calls P n_laws_FnExactChainOrder #[v0,v1] w fun e w' => e = .returned (.bool true) ∧ Go.RowKit.Below w.heap.size w w' := by
 have hS : ∀ n,CallOk P (callN lf n) := fun n => callOk_of (callN_sound hok hD hB n)
 have S0 := c_szTestS us 1048576 (by omega) (by omega) (by unfold Go.maxLen at hu0; omega)
 by_cases hbig : (1048576 : Int) < us.length
 ·have C : call lf n_laws_FnExactChainOrder [rs2 us,rss L] = some (.b true,[]) := by
   show call lf n_laws_FnExactChainOrder [.sl 0 (us.map e2),.sl 0 (L.map eR)] = _
   rw [call_k lf n_laws_FnExactChainOrder _ (F := F_laws_FnExactChainOrder) rfl rfl]
   simp [F_laws_FnExactChainOrder,S0,hbig]
  exact law_calls (call_sound hok hD hB C) (entry_top hg rfl (by simp [rs2,rss,refW]) (fun j d u hd hu => by
   match j,hd,hu with
   | 0,hd,hu => simp at hd hu; subst hd; subst hu; exact .cr _ _ h0
   | 1,hd,hu => simp at hd hu; subst hd; subst hu; exact .cr _ _ h1
   | j + 2,hd,hu => simp at hd))
 have hu : us.length ≤ 1048576 := by omega
 have n2 : ¬ (1048576 : Int) - us.length < 0 := by omega
 rcases c_szIntSS L (1048576 - us.length) (by omega) hL0.1 hL0.2 with S | ⟨z,z0,z1,zL,zF,S⟩
 ·have C : call lf n_laws_FnExactChainOrder [rs2 us,rss L] = some (.b true,[]) := by
   show call lf n_laws_FnExactChainOrder [.sl 0 (us.map e2),.sl 0 (L.map eR)] = _
   rw [call_k lf n_laws_FnExactChainOrder _ (F := F_laws_FnExactChainOrder) rfl rfl]
   simp [F_laws_FnExactChainOrder,S0,hbig,S,n2]
  exact law_calls (call_sound hok hD hB C) (entry_top hg rfl (by simp [rs2,rss,refW]) (fun j d u hd hu => by
   match j,hd,hu with
   | 0,hd,hu => simp at hd hu; subst hd; subst hu; exact .cr _ _ h0
   | 1,hd,hu => simp at hd hu; subst hd; subst hu; exact .cr _ _ h1
   | j + 2,hd,hu => simp at hd))
 have hT : totR L ≤ 1048576 := by rw [totR_flat]; omega
 have hL : L.length ≤ 1048576 := by omega
 have hR : ∀ r ∈ L,(r.length : Int) ≤ 1048576 := fun r hr => by
  obtain ⟨i,hi⟩ := List.mem_iff_getElem?.1 hr
  have := totR_mem L i r hi
  omega
 have C1 := c_impl_ChainOrder us L (by omega) (by omega) (by omega)
 have C2 := c_spec_ChainOrder us L (by omega) (by omega) (by omega)
 have hX : (ni (coV us L)).length ≤ 1048576 := by rw [ni_len]; exact coV_leX us L hu
 generalize ni (coV us L) = X at *
 refine law_start hok (F := F_laws_FnExactChainOrder) rfl rfl rfl rfl hg (fs := [⟨0,w.heap.size,fun b => b < w.heap.size,rs2 us⟩,⟨1,w.heap.size,fun b => b < w.heap.size,rss L⟩]) (by
  intro f hf
  simp only [List.mem_cons,List.not_mem_nil,or_false] at hf
  rcases hf with rfl | rfl
  ·exact ⟨in_fact h0 (by simp [rs2,DV.allOld,al_e2]),by show (0 : Nat) < 2; omega⟩
  ·exact ⟨in_fact h1 (by simp [rss,DV.allOld,al_eR]),by show (1 : Nat) < 2; omega⟩) (fun N code a0 hv hc hs0 => ?_)
 rw [body_ChainOrder] at hv
 refine hs0.base hS (l1 := IChainOrder_0) (l2 := RChainOrder_1) hv hc rfl [⟨0,w.heap.size,fun b => b < w.heap.size,rs2 us⟩,⟨1,w.heap.size,fun b => b < w.heap.size,rss L⟩] (by
  intro f hf
  simp only [List.mem_cons,List.not_mem_nil,or_false] at hf
  rcases hf with rfl | rfl <;> exact ⟨by simp,by dsimp only; decide⟩) [] (by
  simp only [envF,List.map_cons,List.map_nil,DV.lend,rs2,rss,lend_e2,lend_eN,lend_eR,lend_e3,lend_ints_]
  exact sChainOrder_0 hu z0 hL hT hR hX S C1 C2) (fun c1 a1 w1 hv1 hc1 hz1 hs1 => ?_)
 replace hs1 := hs1.sub (gs := [⟨0,w.heap.size,fun b => b < w.heap.size,rs2 us⟩,⟨1,w.heap.size,fun b => b < w.heap.size,rss L⟩]) (by
  intro g hg
  refine hs1.so g ?_
  simp only [List.cons_append,List.nil_append,List.map_cons,List.map_nil,newF]
  simp only [List.mem_cons,List.not_mem_nil,or_false] at hg ⊢
  rcases hg with rfl | rfl <;> simp)
 refine hs1.base hS (l1 := IChainOrder_1) (l2 := RChainOrder_2) hv1 hc1 rfl [⟨0,w.heap.size,fun b => b < w.heap.size,rs2 us⟩,⟨1,w.heap.size,fun b => b < w.heap.size,rss L⟩] (by
  intro f hf
  simp only [List.mem_cons,List.not_mem_nil,or_false] at hf
  rcases hf with rfl | rfl <;> exact ⟨by simp,by dsimp only; decide⟩) [(5,.i (1048576))] (by
  simp only [envF,List.map_cons,List.map_nil,DV.lend,rs2,rss,lend_e2,lend_eN,lend_eR,lend_e3,lend_ints_]
  exact sChainOrder_1 hu z0 hL hT hR hX S C1 C2) (fun c2 a2 w2 hv2 hc2 hz2 hs2 => ?_)
 replace hs2 := hs2.sub (gs := [⟨0,w.heap.size,fun b => b < w.heap.size,rs2 us⟩,⟨1,w.heap.size,fun b => b < w.heap.size,rss L⟩,⟨5,w1.heap.size,fun b => w1.heap.size ≤ b ∧ b < w2.heap.size,.i (1048576)⟩]) (by
  intro g hg
  refine hs2.so g ?_
  simp only [List.cons_append,List.nil_append,List.map_cons,List.map_nil,newF]
  simp only [List.mem_cons,List.not_mem_nil,or_false] at hg ⊢
  rcases hg with rfl | rfl | rfl <;> simp)
 refine hs2.base hS (l1 := IChainOrder_2) (l2 := RChainOrder_3) hv2 hc2 rfl [⟨0,w.heap.size,fun b => b < w.heap.size,rs2 us⟩,⟨1,w.heap.size,fun b => b < w.heap.size,rss L⟩] (by
  intro f hf
  simp only [List.mem_cons,List.not_mem_nil,or_false] at hf
  rcases hf with rfl | rfl <;> exact ⟨by simp,by dsimp only; decide⟩) [(5,.i (1048576 - (us.length : Int)))] (by
  simp only [envF,List.map_cons,List.map_nil,DV.lend,rs2,rss,lend_e2,lend_eN,lend_eR,lend_e3,lend_ints_]
  exact sChainOrder_2 hu z0 hL hT hR hX S C1 C2) (fun c3 a3 w3 hv3 hc3 hz3 hs3 => ?_)
 replace hs3 := hs3.sub (gs := [⟨0,w.heap.size,fun b => b < w.heap.size,rs2 us⟩,⟨1,w.heap.size,fun b => b < w.heap.size,rss L⟩,⟨5,w2.heap.size,fun b => w2.heap.size ≤ b ∧ b < w3.heap.size,.i (1048576 - (us.length : Int))⟩]) (by
  intro g hg
  refine hs3.so g ?_
  simp only [List.cons_append,List.nil_append,List.map_cons,List.map_nil,newF]
  simp only [List.mem_cons,List.not_mem_nil,or_false] at hg ⊢
  rcases hg with rfl | rfl | rfl <;> simp)
 refine hs3.base hS (l1 := IChainOrder_3) (l2 := RChainOrder_4) hv3 hc3 rfl [⟨0,w.heap.size,fun b => b < w.heap.size,rs2 us⟩,⟨1,w.heap.size,fun b => b < w.heap.size,rss L⟩,⟨5,w2.heap.size,fun b => w2.heap.size ≤ b ∧ b < w3.heap.size,.i (1048576 - (us.length : Int))⟩] (by
  intro f hf
  simp only [List.mem_cons,List.not_mem_nil,or_false] at hf
  rcases hf with rfl | rfl | rfl <;> exact ⟨by simp,by dsimp only; decide⟩) [] (by
  simp only [envF,List.map_cons,List.map_nil,DV.lend,rs2,rss,lend_e2,lend_eN,lend_eR,lend_e3,lend_ints_]
  exact sChainOrder_3 hu z0 hL hT hR hX S C1 C2) (fun c4 a4 w4 hv4 hc4 hz4 hs4 => ?_)
 replace hs4 := hs4.sub (gs := [⟨0,w.heap.size,fun b => b < w.heap.size,rs2 us⟩,⟨1,w.heap.size,fun b => b < w.heap.size,rss L⟩,⟨5,w2.heap.size,fun b => w2.heap.size ≤ b ∧ b < w3.heap.size,.i (1048576 - (us.length : Int))⟩]) (by
  intro g hg
  refine hs4.so g ?_
  simp only [List.cons_append,List.nil_append,List.map_cons,List.map_nil,newF]
  simp only [List.mem_cons,List.not_mem_nil,or_false] at hg ⊢
  rcases hg with rfl | rfl | rfl <;> simp)
 refine hs4.base hS (l1 := IChainOrder_4) (l2 := RChainOrder_5) hv4 hc4 rfl [⟨0,w.heap.size,fun b => b < w.heap.size,rs2 us⟩,⟨1,w.heap.size,fun b => b < w.heap.size,rss L⟩] (by
  intro f hf
  simp only [List.mem_cons,List.not_mem_nil,or_false] at hf
  rcases hf with rfl | rfl <;> exact ⟨by simp,by dsimp only; decide⟩) [(5,.i (z))] (by
  simp only [envF,List.map_cons,List.map_nil,DV.lend,rs2,rss,lend_e2,lend_eN,lend_eR,lend_e3,lend_ints_]
  exact sChainOrder_4 hu z0 hL hT hR hX S C1 C2) (fun c5 a5 w5 hv5 hc5 hz5 hs5 => ?_)
 replace hs5 := hs5.sub (gs := [⟨0,w.heap.size,fun b => b < w.heap.size,rs2 us⟩,⟨1,w.heap.size,fun b => b < w.heap.size,rss L⟩,⟨5,w4.heap.size,fun b => w4.heap.size ≤ b ∧ b < w5.heap.size,.i (z)⟩]) (by
  intro g hg
  refine hs5.so g ?_
  simp only [List.cons_append,List.nil_append,List.map_cons,List.map_nil,newF]
  simp only [List.mem_cons,List.not_mem_nil,or_false] at hg ⊢
  rcases hg with rfl | rfl | rfl <;> simp)
 refine hs5.base hS (l1 := IChainOrder_5) (l2 := RChainOrder_6) hv5 hc5 rfl [⟨0,w.heap.size,fun b => b < w.heap.size,rs2 us⟩,⟨1,w.heap.size,fun b => b < w.heap.size,rss L⟩] (by
  intro f hf
  simp only [List.mem_cons,List.not_mem_nil,or_false] at hf
  rcases hf with rfl | rfl <;> exact ⟨by simp,by dsimp only; decide⟩) [] (by
  simp only [envF,List.map_cons,List.map_nil,DV.lend,rs2,rss,lend_e2,lend_eN,lend_eR,lend_e3,lend_ints_]
  exact sChainOrder_5 hu z0 hL hT hR hX S C1 C2) (fun c6 a6 w6 hv6 hc6 hz6 hs6 => ?_)
 replace hs6 := hs6.sub (gs := [⟨0,w.heap.size,fun b => b < w.heap.size,rs2 us⟩,⟨1,w.heap.size,fun b => b < w.heap.size,rss L⟩]) (by
  intro g hg
  refine hs6.so g ?_
  simp only [List.cons_append,List.nil_append,List.map_cons,List.map_nil,newF]
  simp only [List.mem_cons,List.not_mem_nil,or_false] at hg ⊢
  rcases hg with rfl | rfl <;> simp)
 refine hs6.base hS (l1 := IChainOrder_6) (l2 := RChainOrder_7) hv6 hc6 rfl [⟨0,w.heap.size,fun b => b < w.heap.size,rs2 us⟩,⟨1,w.heap.size,fun b => b < w.heap.size,rss L⟩] (by
  intro f hf
  simp only [List.mem_cons,List.not_mem_nil,or_false] at hf
  rcases hf with rfl | rfl <;> exact ⟨by simp,by dsimp only; decide⟩) [(6,.sl 1 (X.map .i))] (by
  simp only [envF,List.map_cons,List.map_nil,DV.lend,rs2,rss,lend_e2,lend_eN,lend_eR,lend_e3,lend_ints_]
  exact sChainOrder_6 hu z0 hL hT hR hX S C1 C2) (fun c7 a7 w7 hv7 hc7 hz7 hs7 => ?_)
 replace hs7 := hs7.sub (gs := [⟨0,w.heap.size,fun b => b < w.heap.size,rs2 us⟩,⟨1,w.heap.size,fun b => b < w.heap.size,rss L⟩,⟨6,w6.heap.size,fun b => w6.heap.size ≤ b ∧ b < w7.heap.size,.sl 1 (X.map .i)⟩]) (by
  intro g hg
  refine hs7.so g ?_
  simp only [List.cons_append,List.nil_append,List.map_cons,List.map_nil,newF]
  simp only [List.mem_cons,List.not_mem_nil,or_false] at hg ⊢
  rcases hg with rfl | rfl | rfl <;> simp)
 refine hs7.base hS (l1 := IChainOrder_7) (l2 := RChainOrder_8) hv7 hc7 rfl [⟨0,w.heap.size,fun b => b < w.heap.size,rs2 us⟩,⟨1,w.heap.size,fun b => b < w.heap.size,rss L⟩,⟨6,w6.heap.size,fun b => w6.heap.size ≤ b ∧ b < w7.heap.size,.sl 1 (X.map .i)⟩] (by
  intro f hf
  simp only [List.mem_cons,List.not_mem_nil,or_false] at hf
  rcases hf with rfl | rfl | rfl <;> exact ⟨by simp,by dsimp only; decide⟩) [(7,.sl 1 (us.map e2))] (by
  simp only [envF,List.map_cons,List.map_nil,DV.lend,rs2,rss,lend_e2,lend_eN,lend_eR,lend_e3,lend_ints_]
  exact sChainOrder_7 hu z0 hL hT hR hX S C1 C2) (fun c8 a8 w8 hv8 hc8 hz8 hs8 => ?_)
 replace hs8 := hs8.sub (gs := [⟨0,w.heap.size,fun b => b < w.heap.size,rs2 us⟩,⟨1,w.heap.size,fun b => b < w.heap.size,rss L⟩,⟨6,w6.heap.size,fun b => w6.heap.size ≤ b ∧ b < w7.heap.size,.sl 1 (X.map .i)⟩,⟨7,w7.heap.size,fun b => w7.heap.size ≤ b ∧ b < w8.heap.size,.sl 1 (us.map e2)⟩]) (by
  intro g hg
  refine hs8.so g ?_
  simp only [List.cons_append,List.nil_append,List.map_cons,List.map_nil,newF]
  simp only [List.mem_cons,List.not_mem_nil,or_false] at hg ⊢
  rcases hg with rfl | rfl | rfl | rfl <;> simp)
 refine hs8.base hS (l1 := IChainOrder_8) (l2 := RChainOrder_9) hv8 hc8 rfl [⟨0,w.heap.size,fun b => b < w.heap.size,rs2 us⟩,⟨1,w.heap.size,fun b => b < w.heap.size,rss L⟩,⟨6,w6.heap.size,fun b => w6.heap.size ≤ b ∧ b < w7.heap.size,.sl 1 (X.map .i)⟩,⟨7,w7.heap.size,fun b => w7.heap.size ≤ b ∧ b < w8.heap.size,.sl 1 (us.map e2)⟩] (by
  intro f hf
  simp only [List.mem_cons,List.not_mem_nil,or_false] at hf
  rcases hf with rfl | rfl | rfl | rfl <;> exact ⟨by simp,by dsimp only; decide⟩) [(8,.sl 1 (L.map eN))] (by
  simp only [envF,List.map_cons,List.map_nil,DV.lend,rs2,rss,lend_e2,lend_eN,lend_eR,lend_e3,lend_ints_]
  exact sChainOrder_8 hu z0 hL hT hR hX S C1 C2) (fun c9 a9 w9 hv9 hc9 hz9 hs9 => ?_)
 replace hs9 := hs9.sub (gs := [⟨0,w.heap.size,fun b => b < w.heap.size,rs2 us⟩,⟨1,w.heap.size,fun b => b < w.heap.size,rss L⟩,⟨6,w6.heap.size,fun b => w6.heap.size ≤ b ∧ b < w7.heap.size,.sl 1 (X.map .i)⟩,⟨7,w7.heap.size,fun b => w7.heap.size ≤ b ∧ b < w8.heap.size,.sl 1 (us.map e2)⟩,⟨8,w8.heap.size,fun b => w8.heap.size ≤ b ∧ b < w9.heap.size,.sl 1 (L.map eN)⟩]) (by
  intro g hg
  refine hs9.so g ?_
  simp only [List.cons_append,List.nil_append,List.map_cons,List.map_nil,newF]
  simp only [List.mem_cons,List.not_mem_nil,or_false] at hg ⊢
  rcases hg with rfl | rfl | rfl | rfl | rfl <;> simp)
 refine hs9.base hS (l1 := IChainOrder_9) (l2 := RChainOrder_10) hv9 hc9 rfl [⟨0,w.heap.size,fun b => b < w.heap.size,rs2 us⟩,⟨1,w.heap.size,fun b => b < w.heap.size,rss L⟩,⟨6,w6.heap.size,fun b => w6.heap.size ≤ b ∧ b < w7.heap.size,.sl 1 (X.map .i)⟩,⟨7,w7.heap.size,fun b => w7.heap.size ≤ b ∧ b < w8.heap.size,.sl 1 (us.map e2)⟩,⟨8,w8.heap.size,fun b => w8.heap.size ≤ b ∧ b < w9.heap.size,.sl 1 (L.map eN)⟩] (by
  intro f hf
  simp only [List.mem_cons,List.not_mem_nil,or_false] at hf
  rcases hf with rfl | rfl | rfl | rfl | rfl <;> exact ⟨by simp,by dsimp only; decide⟩) [(9,.sl 1 (X.map .i))] (by
  simp only [envF,List.map_cons,List.map_nil,DV.lend,rs2,rss,lend_e2,lend_eN,lend_eR,lend_e3,lend_ints_]
  exact sChainOrder_9 hu z0 hL hT hR hX S C1 C2) (fun c10 a10 w10 hv10 hc10 hz10 hs10 => ?_)
 replace hs10 := hs10.sub (gs := [⟨0,w.heap.size,fun b => b < w.heap.size,rs2 us⟩,⟨1,w.heap.size,fun b => b < w.heap.size,rss L⟩,⟨6,w6.heap.size,fun b => w6.heap.size ≤ b ∧ b < w7.heap.size,.sl 1 (X.map .i)⟩,⟨7,w7.heap.size,fun b => w7.heap.size ≤ b ∧ b < w8.heap.size,.sl 1 (us.map e2)⟩,⟨8,w8.heap.size,fun b => w8.heap.size ≤ b ∧ b < w9.heap.size,.sl 1 (L.map eN)⟩,⟨9,w9.heap.size,fun b => w9.heap.size ≤ b ∧ b < w10.heap.size,.sl 1 (X.map .i)⟩]) (by
  intro g hg
  refine hs10.so g ?_
  simp only [List.cons_append,List.nil_append,List.map_cons,List.map_nil,newF]
  simp only [List.mem_cons,List.not_mem_nil,or_false] at hg ⊢
  rcases hg with rfl | rfl | rfl | rfl | rfl | rfl <;> simp)
 refine hs10.base hS (l1 := IChainOrder_10) (l2 := RChainOrder_11) hv10 hc10 rfl [⟨0,w.heap.size,fun b => b < w.heap.size,rs2 us⟩,⟨1,w.heap.size,fun b => b < w.heap.size,rss L⟩,⟨6,w6.heap.size,fun b => w6.heap.size ≤ b ∧ b < w7.heap.size,.sl 1 (X.map .i)⟩,⟨7,w7.heap.size,fun b => w7.heap.size ≤ b ∧ b < w8.heap.size,.sl 1 (us.map e2)⟩,⟨8,w8.heap.size,fun b => w8.heap.size ≤ b ∧ b < w9.heap.size,.sl 1 (L.map eN)⟩,⟨9,w9.heap.size,fun b => w9.heap.size ≤ b ∧ b < w10.heap.size,.sl 1 (X.map .i)⟩] (by
  intro f hf
  simp only [List.mem_cons,List.not_mem_nil,or_false] at hf
  rcases hf with rfl | rfl | rfl | rfl | rfl | rfl <;> exact ⟨by simp,by dsimp only; decide⟩) [] (by
  simp only [envF,List.map_cons,List.map_nil,DV.lend,rs2,rss,lend_e2,lend_eN,lend_eR,lend_e3,lend_ints_]
  exact sChainOrder_10 hu z0 hL hT hR hX S C1 C2) (fun c11 a11 w11 hv11 hc11 hz11 hs11 => ?_)
 replace hs11 := hs11.sub (gs := [⟨0,w.heap.size,fun b => b < w.heap.size,rs2 us⟩,⟨1,w.heap.size,fun b => b < w.heap.size,rss L⟩,⟨6,w6.heap.size,fun b => w6.heap.size ≤ b ∧ b < w7.heap.size,.sl 1 (X.map .i)⟩,⟨7,w7.heap.size,fun b => w7.heap.size ≤ b ∧ b < w8.heap.size,.sl 1 (us.map e2)⟩,⟨8,w8.heap.size,fun b => w8.heap.size ≤ b ∧ b < w9.heap.size,.sl 1 (L.map eN)⟩,⟨9,w9.heap.size,fun b => w9.heap.size ≤ b ∧ b < w10.heap.size,.sl 1 (X.map .i)⟩]) (by
  intro g hg
  refine hs11.so g ?_
  simp only [List.cons_append,List.nil_append,List.map_cons,List.map_nil,newF]
  simp only [List.mem_cons,List.not_mem_nil,or_false] at hg ⊢
  rcases hg with rfl | rfl | rfl | rfl | rfl | rfl <;> simp)
 refine hs11.base hS (l1 := IChainOrder_11) (l2 := RChainOrder_12) hv11 hc11 rfl [⟨0,w.heap.size,fun b => b < w.heap.size,rs2 us⟩,⟨1,w.heap.size,fun b => b < w.heap.size,rss L⟩,⟨6,w6.heap.size,fun b => w6.heap.size ≤ b ∧ b < w7.heap.size,.sl 1 (X.map .i)⟩,⟨7,w7.heap.size,fun b => w7.heap.size ≤ b ∧ b < w8.heap.size,.sl 1 (us.map e2)⟩,⟨8,w8.heap.size,fun b => w8.heap.size ≤ b ∧ b < w9.heap.size,.sl 1 (L.map eN)⟩,⟨9,w9.heap.size,fun b => w9.heap.size ≤ b ∧ b < w10.heap.size,.sl 1 (X.map .i)⟩] (by
  intro f hf
  simp only [List.mem_cons,List.not_mem_nil,or_false] at hf
  rcases hf with rfl | rfl | rfl | rfl | rfl | rfl <;> exact ⟨by simp,by dsimp only; decide⟩) [] (by
  simp only [envF,List.map_cons,List.map_nil,DV.lend,rs2,rss,lend_e2,lend_eN,lend_eR,lend_e3,lend_ints_]
  exact sChainOrder_11 hu z0 hL hT hR hX S C1 C2) (fun c12 a12 w12 hv12 hc12 hz12 hs12 => ?_)
 replace hs12 := hs12.sub (gs := [⟨0,w.heap.size,fun b => b < w.heap.size,rs2 us⟩,⟨1,w.heap.size,fun b => b < w.heap.size,rss L⟩,⟨6,w6.heap.size,fun b => w6.heap.size ≤ b ∧ b < w7.heap.size,.sl 1 (X.map .i)⟩,⟨7,w7.heap.size,fun b => w7.heap.size ≤ b ∧ b < w8.heap.size,.sl 1 (us.map e2)⟩,⟨8,w8.heap.size,fun b => w8.heap.size ≤ b ∧ b < w9.heap.size,.sl 1 (L.map eN)⟩,⟨9,w9.heap.size,fun b => w9.heap.size ≤ b ∧ b < w10.heap.size,.sl 1 (X.map .i)⟩]) (by
  intro g hg
  refine hs12.so g ?_
  simp only [List.cons_append,List.nil_append,List.map_cons,List.map_nil,newF]
  simp only [List.mem_cons,List.not_mem_nil,or_false] at hg ⊢
  rcases hg with rfl | rfl | rfl | rfl | rfl | rfl <;> simp)
 refine hs12.base hS (l1 := IChainOrder_12) (l2 := RChainOrder_13) hv12 hc12 rfl [⟨0,w.heap.size,fun b => b < w.heap.size,rs2 us⟩,⟨1,w.heap.size,fun b => b < w.heap.size,rss L⟩,⟨6,w6.heap.size,fun b => w6.heap.size ≤ b ∧ b < w7.heap.size,.sl 1 (X.map .i)⟩,⟨7,w7.heap.size,fun b => w7.heap.size ≤ b ∧ b < w8.heap.size,.sl 1 (us.map e2)⟩,⟨8,w8.heap.size,fun b => w8.heap.size ≤ b ∧ b < w9.heap.size,.sl 1 (L.map eN)⟩,⟨9,w9.heap.size,fun b => w9.heap.size ≤ b ∧ b < w10.heap.size,.sl 1 (X.map .i)⟩] (by
  intro f hf
  simp only [List.mem_cons,List.not_mem_nil,or_false] at hf
  rcases hf with rfl | rfl | rfl | rfl | rfl | rfl <;> exact ⟨by simp,by dsimp only; decide⟩) [] (by
  simp only [envF,List.map_cons,List.map_nil,DV.lend,rs2,rss,lend_e2,lend_eN,lend_eR,lend_e3,lend_ints_]
  exact sChainOrder_12 hu z0 hL hT hR hX S C1 C2) (fun c13 a13 w13 hv13 hc13 hz13 hs13 => ?_)
 replace hs13 := hs13.sub (gs := [⟨0,w.heap.size,fun b => b < w.heap.size,rs2 us⟩,⟨1,w.heap.size,fun b => b < w.heap.size,rss L⟩,⟨6,w6.heap.size,fun b => w6.heap.size ≤ b ∧ b < w7.heap.size,.sl 1 (X.map .i)⟩,⟨7,w7.heap.size,fun b => w7.heap.size ≤ b ∧ b < w8.heap.size,.sl 1 (us.map e2)⟩,⟨8,w8.heap.size,fun b => w8.heap.size ≤ b ∧ b < w9.heap.size,.sl 1 (L.map eN)⟩,⟨9,w9.heap.size,fun b => w9.heap.size ≤ b ∧ b < w10.heap.size,.sl 1 (X.map .i)⟩]) (by
  intro g hg
  refine hs13.so g ?_
  simp only [List.cons_append,List.nil_append,List.map_cons,List.map_nil,newF]
  simp only [List.mem_cons,List.not_mem_nil,or_false] at hg ⊢
  rcases hg with rfl | rfl | rfl | rfl | rfl | rfl <;> simp)
 refine hs13.base hS (l1 := IChainOrder_13) (l2 := RChainOrder_14) hv13 hc13 rfl [⟨0,w.heap.size,fun b => b < w.heap.size,rs2 us⟩,⟨1,w.heap.size,fun b => b < w.heap.size,rss L⟩,⟨6,w6.heap.size,fun b => w6.heap.size ≤ b ∧ b < w7.heap.size,.sl 1 (X.map .i)⟩,⟨7,w7.heap.size,fun b => w7.heap.size ≤ b ∧ b < w8.heap.size,.sl 1 (us.map e2)⟩,⟨8,w8.heap.size,fun b => w8.heap.size ≤ b ∧ b < w9.heap.size,.sl 1 (L.map eN)⟩,⟨9,w9.heap.size,fun b => w9.heap.size ≤ b ∧ b < w10.heap.size,.sl 1 (X.map .i)⟩] (by
  intro f hf
  simp only [List.mem_cons,List.not_mem_nil,or_false] at hf
  rcases hf with rfl | rfl | rfl | rfl | rfl | rfl <;> exact ⟨by simp,by dsimp only; decide⟩) [(10,.i (1))] (by
  simp only [envF,List.map_cons,List.map_nil,DV.lend,rs2,rss,lend_e2,lend_eN,lend_eR,lend_e3,lend_ints_]
  exact sChainOrder_13 hu z0 hL hT hR hX S C1 C2) (fun c14 a14 w14 hv14 hc14 hz14 hs14 => ?_)
 replace hs14 := hs14.sub (gs := [⟨0,w.heap.size,fun b => b < w.heap.size,rs2 us⟩,⟨1,w.heap.size,fun b => b < w.heap.size,rss L⟩,⟨6,w6.heap.size,fun b => w6.heap.size ≤ b ∧ b < w7.heap.size,.sl 1 (X.map .i)⟩,⟨7,w7.heap.size,fun b => w7.heap.size ≤ b ∧ b < w8.heap.size,.sl 1 (us.map e2)⟩,⟨8,w8.heap.size,fun b => w8.heap.size ≤ b ∧ b < w9.heap.size,.sl 1 (L.map eN)⟩,⟨9,w9.heap.size,fun b => w9.heap.size ≤ b ∧ b < w10.heap.size,.sl 1 (X.map .i)⟩,⟨10,w13.heap.size,fun b => w13.heap.size ≤ b ∧ b < w14.heap.size,.i (1)⟩]) (by
  intro g hg
  refine hs14.so g ?_
  simp only [List.cons_append,List.nil_append,List.map_cons,List.map_nil,newF]
  simp only [List.mem_cons,List.not_mem_nil,or_false] at hg ⊢
  rcases hg with rfl | rfl | rfl | rfl | rfl | rfl | rfl <;> simp)
 refine hs14.markS hv14 hc14 (x := 7) (x2 := 50) (k := 10) (k2 := 51) (r := 52) (l2 := RChainOrder_15) (List.mem_of_getElem? (i := 3) rfl) (List.mem_of_getElem? (i := 6) rfl) (row_markTestS hok hD hB us 1 (by omega) (by omega) (by omega)) (by omega) (fun b h => h.1) (by decide) [⟨0,w.heap.size,fun b => b < w.heap.size,rs2 us⟩,⟨1,w.heap.size,fun b => b < w.heap.size,rss L⟩,⟨6,w6.heap.size,fun b => w6.heap.size ≤ b ∧ b < w7.heap.size,.sl 1 (X.map .i)⟩,⟨8,w8.heap.size,fun b => w8.heap.size ≤ b ∧ b < w9.heap.size,.sl 1 (L.map eN)⟩,⟨9,w9.heap.size,fun b => w9.heap.size ≤ b ∧ b < w10.heap.size,.sl 1 (X.map .i)⟩] (by
  intro g hg
  simp only [List.mem_cons,List.not_mem_nil,or_false] at hg
  rcases hg with rfl | rfl | rfl | rfl | rfl <;> exact ⟨by simp,by dsimp only; decide,by dsimp only; decide,by dsimp only; decide,by dsimp only; decide⟩) (by
  intro g hg b h1 h2
  simp only [List.mem_cons,List.not_mem_nil,or_false] at hg
  rcases hg with rfl | rfl | rfl | rfl | rfl <;> simp only at h1 h2 <;> omega) (fun c15 a15 w15 d15 hv15 hc15 hz15 hR15 hs15 => ?_)
 have hs15 := hs15.sub (gs := [⟨10,w13.heap.size,fun b => w13.heap.size ≤ b ∧ b < w14.heap.size,.i (1 + 2 * (us.length : Int))⟩,⟨0,w.heap.size,fun b => b < w.heap.size,rs2 us⟩,⟨1,w.heap.size,fun b => b < w.heap.size,rss L⟩,⟨6,w6.heap.size,fun b => w6.heap.size ≤ b ∧ b < w7.heap.size,.sl 1 (X.map .i)⟩,⟨8,w8.heap.size,fun b => w8.heap.size ≤ b ∧ b < w9.heap.size,.sl 1 (L.map eN)⟩,⟨9,w9.heap.size,fun b => w9.heap.size ≤ b ∧ b < w10.heap.size,.sl 1 (X.map .i)⟩]) (fun g hg => hs15.so g (List.mem_cons_of_mem _ hg))
 replace hs15 := hs15.sub (gs := [⟨0,w.heap.size,fun b => b < w.heap.size,rs2 us⟩,⟨1,w.heap.size,fun b => b < w.heap.size,rss L⟩,⟨6,w6.heap.size,fun b => w6.heap.size ≤ b ∧ b < w7.heap.size,.sl 1 (X.map .i)⟩,⟨8,w8.heap.size,fun b => w8.heap.size ≤ b ∧ b < w9.heap.size,.sl 1 (L.map eN)⟩,⟨9,w9.heap.size,fun b => w9.heap.size ≤ b ∧ b < w10.heap.size,.sl 1 (X.map .i)⟩,⟨10,w13.heap.size,fun b => w13.heap.size ≤ b ∧ b < w14.heap.size,.i (1 + 2 * (us.length : Int))⟩]) (by
  intro g hg
  refine hs15.so g ?_
  simp only [List.mem_cons,List.not_mem_nil,or_false] at hg ⊢
  rcases hg with rfl | rfl | rfl | rfl | rfl | rfl <;> simp)
 refine hs15.markS hv15 hc15 (x := 8) (x2 := 53) (k := 10) (k2 := 54) (r := 55) (l2 := RChainOrder_16) (List.mem_of_getElem? (i := 3) rfl) (List.mem_of_getElem? (i := 5) rfl) (rows_markIntSS hok hD hB L (1 + 2 * (us.length : Int)) (by omega) (by omega) (by omega) hT) (by omega) (fun b h => h.1) (by decide) [⟨0,w.heap.size,fun b => b < w.heap.size,rs2 us⟩,⟨1,w.heap.size,fun b => b < w.heap.size,rss L⟩,⟨6,w6.heap.size,fun b => w6.heap.size ≤ b ∧ b < w7.heap.size,.sl 1 (X.map .i)⟩,⟨9,w9.heap.size,fun b => w9.heap.size ≤ b ∧ b < w10.heap.size,.sl 1 (X.map .i)⟩] (by
  intro g hg
  simp only [List.mem_cons,List.not_mem_nil,or_false] at hg
  rcases hg with rfl | rfl | rfl | rfl <;> exact ⟨by simp,by dsimp only; decide,by dsimp only; decide,by dsimp only; decide,by dsimp only; decide⟩) (by
  intro g hg b h1 h2
  simp only [List.mem_cons,List.not_mem_nil,or_false] at hg
  rcases hg with rfl | rfl | rfl | rfl <;> simp only at h1 h2 <;> omega) (fun c16 a16 w16 d16 hv16 hc16 hz16 hR16 hs16 => ?_)
 have hs16 := hs16.sub (gs := [⟨10,w13.heap.size,fun b => w13.heap.size ≤ b ∧ b < w14.heap.size,.i (1 + 2 * (us.length : Int) + (totR L : Int))⟩,⟨0,w.heap.size,fun b => b < w.heap.size,rs2 us⟩,⟨1,w.heap.size,fun b => b < w.heap.size,rss L⟩,⟨6,w6.heap.size,fun b => w6.heap.size ≤ b ∧ b < w7.heap.size,.sl 1 (X.map .i)⟩,⟨9,w9.heap.size,fun b => w9.heap.size ≤ b ∧ b < w10.heap.size,.sl 1 (X.map .i)⟩]) (fun g hg => hs16.so g (List.mem_cons_of_mem _ hg))
 replace hs16 := hs16.sub (gs := [⟨0,w.heap.size,fun b => b < w.heap.size,rs2 us⟩,⟨1,w.heap.size,fun b => b < w.heap.size,rss L⟩,⟨6,w6.heap.size,fun b => w6.heap.size ≤ b ∧ b < w7.heap.size,.sl 1 (X.map .i)⟩,⟨9,w9.heap.size,fun b => w9.heap.size ≤ b ∧ b < w10.heap.size,.sl 1 (X.map .i)⟩,⟨10,w13.heap.size,fun b => w13.heap.size ≤ b ∧ b < w14.heap.size,.i (1 + 2 * (us.length : Int) + (totR L : Int))⟩]) (by
  intro g hg
  refine hs16.so g ?_
  simp only [List.mem_cons,List.not_mem_nil,or_false] at hg ⊢
  rcases hg with rfl | rfl | rfl | rfl | rfl <;> simp)
 refine hs16.base hS (l1 := IChainOrder_16) (l2 := RChainOrder_17) hv16 hc16 rfl [⟨0,w.heap.size,fun b => b < w.heap.size,rs2 us⟩,⟨1,w.heap.size,fun b => b < w.heap.size,rss L⟩,⟨6,w6.heap.size,fun b => w6.heap.size ≤ b ∧ b < w7.heap.size,.sl 1 (X.map .i)⟩,⟨9,w9.heap.size,fun b => w9.heap.size ≤ b ∧ b < w10.heap.size,.sl 1 (X.map .i)⟩] (by
  intro f hf
  simp only [List.mem_cons,List.not_mem_nil,or_false] at hf
  rcases hf with rfl | rfl | rfl | rfl <;> exact ⟨by simp,by dsimp only; decide⟩) [] (by
  simp only [envF,List.map_cons,List.map_nil,DV.lend,rs2,rss,lend_e2,lend_eN,lend_eR,lend_e3,lend_ints_]
  exact sChainOrder_16 hu z0 hL hT hR hX S C1 C2) (fun c17 a17 w17 hv17 hc17 hz17 hs17 => ?_)
 replace hs17 := hs17.sub (gs := [⟨0,w.heap.size,fun b => b < w.heap.size,rs2 us⟩,⟨1,w.heap.size,fun b => b < w.heap.size,rss L⟩,⟨6,w6.heap.size,fun b => w6.heap.size ≤ b ∧ b < w7.heap.size,.sl 1 (X.map .i)⟩,⟨9,w9.heap.size,fun b => w9.heap.size ≤ b ∧ b < w10.heap.size,.sl 1 (X.map .i)⟩]) (by
  intro g hg
  refine hs17.so g ?_
  simp only [List.cons_append,List.nil_append,List.map_cons,List.map_nil,newF]
  simp only [List.mem_cons,List.not_mem_nil,or_false] at hg ⊢
  rcases hg with rfl | rfl | rfl | rfl <;> simp)
 refine hs17.base hS (l1 := IChainOrder_17) (l2 := RChainOrder_18) hv17 hc17 rfl [⟨0,w.heap.size,fun b => b < w.heap.size,rs2 us⟩,⟨1,w.heap.size,fun b => b < w.heap.size,rss L⟩,⟨6,w6.heap.size,fun b => w6.heap.size ≤ b ∧ b < w7.heap.size,.sl 1 (X.map .i)⟩,⟨9,w9.heap.size,fun b => w9.heap.size ≤ b ∧ b < w10.heap.size,.sl 1 (X.map .i)⟩] (by
  intro f hf
  simp only [List.mem_cons,List.not_mem_nil,or_false] at hf
  rcases hf with rfl | rfl | rfl | rfl <;> exact ⟨by simp,by dsimp only; decide⟩) [(11,.i (1))] (by
  simp only [envF,List.map_cons,List.map_nil,DV.lend,rs2,rss,lend_e2,lend_eN,lend_eR,lend_e3,lend_ints_]
  exact sChainOrder_17 hu z0 hL hT hR hX S C1 C2) (fun c18 a18 w18 hv18 hc18 hz18 hs18 => ?_)
 replace hs18 := hs18.sub (gs := [⟨0,w.heap.size,fun b => b < w.heap.size,rs2 us⟩,⟨1,w.heap.size,fun b => b < w.heap.size,rss L⟩,⟨6,w6.heap.size,fun b => w6.heap.size ≤ b ∧ b < w7.heap.size,.sl 1 (X.map .i)⟩,⟨9,w9.heap.size,fun b => w9.heap.size ≤ b ∧ b < w10.heap.size,.sl 1 (X.map .i)⟩,⟨11,w17.heap.size,fun b => w17.heap.size ≤ b ∧ b < w18.heap.size,.i (1)⟩]) (by
  intro g hg
  refine hs18.so g ?_
  simp only [List.cons_append,List.nil_append,List.map_cons,List.map_nil,newF]
  simp only [List.mem_cons,List.not_mem_nil,or_false] at hg ⊢
  rcases hg with rfl | rfl | rfl | rfl | rfl <;> simp)
 refine hs18.markS hv18 hc18 (x := 9) (x2 := 64) (k := 11) (k2 := 65) (r := 66) (l2 := RChainOrder_19) (List.mem_of_getElem? (i := 3) rfl) (List.mem_of_getElem? (i := 4) rfl) (row_markIntSf hok hD hB X 1 (by omega) (by omega) (by omega)) (by omega) (fun b h => h.1) (by decide) [⟨0,w.heap.size,fun b => b < w.heap.size,rs2 us⟩,⟨1,w.heap.size,fun b => b < w.heap.size,rss L⟩,⟨6,w6.heap.size,fun b => w6.heap.size ≤ b ∧ b < w7.heap.size,.sl 1 (X.map .i)⟩] (by
  intro g hg
  simp only [List.mem_cons,List.not_mem_nil,or_false] at hg
  rcases hg with rfl | rfl | rfl <;> exact ⟨by simp,by dsimp only; decide,by dsimp only; decide,by dsimp only; decide,by dsimp only; decide⟩) (by
  intro g hg b h1 h2
  simp only [List.mem_cons,List.not_mem_nil,or_false] at hg
  rcases hg with rfl | rfl | rfl <;> simp only at h1 h2 <;> omega) (fun c19 a19 w19 d19 hv19 hc19 hz19 hR19 hs19 => ?_)
 subst hR19
 replace hs19 := hs19.sub (gs := [⟨0,w.heap.size,fun b => b < w.heap.size,rs2 us⟩,⟨1,w.heap.size,fun b => b < w.heap.size,rss L⟩,⟨6,w6.heap.size,fun b => w6.heap.size ≤ b ∧ b < w7.heap.size,.sl 1 (X.map .i)⟩,⟨9,w9.heap.size,fun b => w9.heap.size ≤ b ∧ b < w10.heap.size,.sl 1 ((marksI 1 X.length).map .i)⟩,⟨11,w17.heap.size,fun b => w17.heap.size ≤ b ∧ b < w18.heap.size,.i (1 + (X.length : Int))⟩]) (by
  intro g hg
  refine hs19.so g ?_
  simp only [List.mem_cons,List.not_mem_nil,or_false] at hg ⊢
  rcases hg with rfl | rfl | rfl | rfl | rfl <;> simp)
 refine hs19.base hS (l1 := IChainOrder_19) (l2 := RChainOrder_20) hv19 hc19 rfl [⟨0,w.heap.size,fun b => b < w.heap.size,rs2 us⟩,⟨1,w.heap.size,fun b => b < w.heap.size,rss L⟩,⟨6,w6.heap.size,fun b => w6.heap.size ≤ b ∧ b < w7.heap.size,.sl 1 (X.map .i)⟩,⟨9,w9.heap.size,fun b => w9.heap.size ≤ b ∧ b < w10.heap.size,.sl 1 ((marksI 1 X.length).map .i)⟩,⟨11,w17.heap.size,fun b => w17.heap.size ≤ b ∧ b < w18.heap.size,.i (1 + (X.length : Int))⟩] (by
  intro f hf
  simp only [List.mem_cons,List.not_mem_nil,or_false] at hf
  rcases hf with rfl | rfl | rfl | rfl | rfl <;> exact ⟨by simp,by dsimp only; decide⟩) [(12,.i (1))] (by
  simp only [envF,List.map_cons,List.map_nil,DV.lend,rs2,rss,lend_e2,lend_eN,lend_eR,lend_e3,lend_ints_]
  exact sChainOrder_19 hu z0 hL hT hR hX S C1 C2) (fun c20 a20 w20 hv20 hc20 hz20 hs20 => ?_)
 replace hs20 := hs20.sub (gs := [⟨0,w.heap.size,fun b => b < w.heap.size,rs2 us⟩,⟨1,w.heap.size,fun b => b < w.heap.size,rss L⟩,⟨6,w6.heap.size,fun b => w6.heap.size ≤ b ∧ b < w7.heap.size,.sl 1 (X.map .i)⟩,⟨9,w9.heap.size,fun b => w9.heap.size ≤ b ∧ b < w10.heap.size,.sl 1 ((marksI 1 X.length).map .i)⟩,⟨11,w17.heap.size,fun b => w17.heap.size ≤ b ∧ b < w18.heap.size,.i (1 + (X.length : Int))⟩,⟨12,w19.heap.size,fun b => w19.heap.size ≤ b ∧ b < w20.heap.size,.i (1)⟩]) (by
  intro g hg
  refine hs20.so g ?_
  simp only [List.cons_append,List.nil_append,List.map_cons,List.map_nil,newF]
  simp only [List.mem_cons,List.not_mem_nil,or_false] at hg ⊢
  rcases hg with rfl | rfl | rfl | rfl | rfl | rfl <;> simp)
 refine hs20.base hS (l1 := IChainOrder_20) (l2 := RChainOrder_21) hv20 hc20 rfl [⟨0,w.heap.size,fun b => b < w.heap.size,rs2 us⟩,⟨1,w.heap.size,fun b => b < w.heap.size,rss L⟩,⟨6,w6.heap.size,fun b => w6.heap.size ≤ b ∧ b < w7.heap.size,.sl 1 (X.map .i)⟩,⟨9,w9.heap.size,fun b => w9.heap.size ≤ b ∧ b < w10.heap.size,.sl 1 ((marksI 1 X.length).map .i)⟩,⟨11,w17.heap.size,fun b => w17.heap.size ≤ b ∧ b < w18.heap.size,.i (1 + (X.length : Int))⟩] (by
  intro f hf
  simp only [List.mem_cons,List.not_mem_nil,or_false] at hf
  rcases hf with rfl | rfl | rfl | rfl | rfl <;> exact ⟨by simp,by dsimp only; decide⟩) [(12,.i (1 + (X.length : Int)))] (by
  simp only [envF,List.map_cons,List.map_nil,DV.lend,rs2,rss,lend_e2,lend_eN,lend_eR,lend_e3,lend_ints_]
  exact sChainOrder_20 hu z0 hL hT hR hX S C1 C2) (fun c21 a21 w21 hv21 hc21 hz21 hs21 => ?_)
 replace hs21 := hs21.sub (gs := [⟨0,w.heap.size,fun b => b < w.heap.size,rs2 us⟩,⟨1,w.heap.size,fun b => b < w.heap.size,rss L⟩,⟨6,w6.heap.size,fun b => w6.heap.size ≤ b ∧ b < w7.heap.size,.sl 1 (X.map .i)⟩,⟨9,w9.heap.size,fun b => w9.heap.size ≤ b ∧ b < w10.heap.size,.sl 1 ((marksI 1 X.length).map .i)⟩,⟨11,w17.heap.size,fun b => w17.heap.size ≤ b ∧ b < w18.heap.size,.i (1 + (X.length : Int))⟩,⟨12,w20.heap.size,fun b => w20.heap.size ≤ b ∧ b < w21.heap.size,.i (1 + (X.length : Int))⟩]) (by
  intro g hg
  refine hs21.so g ?_
  simp only [List.cons_append,List.nil_append,List.map_cons,List.map_nil,newF]
  simp only [List.mem_cons,List.not_mem_nil,or_false] at hg ⊢
  rcases hg with rfl | rfl | rfl | rfl | rfl | rfl <;> simp)
 refine hs21.base hS (l1 := IChainOrder_21) (l2 := RChainOrder_22) hv21 hc21 rfl [⟨0,w.heap.size,fun b => b < w.heap.size,rs2 us⟩,⟨1,w.heap.size,fun b => b < w.heap.size,rss L⟩,⟨6,w6.heap.size,fun b => w6.heap.size ≤ b ∧ b < w7.heap.size,.sl 1 (X.map .i)⟩,⟨9,w9.heap.size,fun b => w9.heap.size ≤ b ∧ b < w10.heap.size,.sl 1 ((marksI 1 X.length).map .i)⟩,⟨11,w17.heap.size,fun b => w17.heap.size ≤ b ∧ b < w18.heap.size,.i (1 + (X.length : Int))⟩,⟨12,w20.heap.size,fun b => w20.heap.size ≤ b ∧ b < w21.heap.size,.i (1 + (X.length : Int))⟩] (by
  intro f hf
  simp only [List.mem_cons,List.not_mem_nil,or_false] at hf
  rcases hf with rfl | rfl | rfl | rfl | rfl | rfl <;> exact ⟨by simp,by dsimp only; decide⟩) [] (by
  simp only [envF,List.map_cons,List.map_nil,DV.lend,rs2,rss,lend_e2,lend_eN,lend_eR,lend_e3,lend_ints_]
  exact sChainOrder_21 hu z0 hL hT hR hX S C1 C2) (fun c22 a22 w22 hv22 hc22 hz22 hs22 => ?_)
 replace hs22 := hs22.sub (gs := [⟨0,w.heap.size,fun b => b < w.heap.size,rs2 us⟩,⟨1,w.heap.size,fun b => b < w.heap.size,rss L⟩,⟨6,w6.heap.size,fun b => w6.heap.size ≤ b ∧ b < w7.heap.size,.sl 1 (X.map .i)⟩,⟨9,w9.heap.size,fun b => w9.heap.size ≤ b ∧ b < w10.heap.size,.sl 1 ((marksI 1 X.length).map .i)⟩,⟨11,w17.heap.size,fun b => w17.heap.size ≤ b ∧ b < w18.heap.size,.i (1 + (X.length : Int))⟩,⟨12,w20.heap.size,fun b => w20.heap.size ≤ b ∧ b < w21.heap.size,.i (1 + (X.length : Int))⟩]) (by
  intro g hg
  refine hs22.so g ?_
  simp only [List.cons_append,List.nil_append,List.map_cons,List.map_nil,newF]
  simp only [List.mem_cons,List.not_mem_nil,or_false] at hg ⊢
  rcases hg with rfl | rfl | rfl | rfl | rfl | rfl <;> simp)
 refine hs22.base hS (l1 := IChainOrder_22) (l2 := RChainOrder_23) hv22 hc22 rfl [⟨0,w.heap.size,fun b => b < w.heap.size,rs2 us⟩,⟨1,w.heap.size,fun b => b < w.heap.size,rss L⟩,⟨6,w6.heap.size,fun b => w6.heap.size ≤ b ∧ b < w7.heap.size,.sl 1 (X.map .i)⟩,⟨9,w9.heap.size,fun b => w9.heap.size ≤ b ∧ b < w10.heap.size,.sl 1 ((marksI 1 X.length).map .i)⟩,⟨11,w17.heap.size,fun b => w17.heap.size ≤ b ∧ b < w18.heap.size,.i (1 + (X.length : Int))⟩] (by
  intro f hf
  simp only [List.mem_cons,List.not_mem_nil,or_false] at hf
  rcases hf with rfl | rfl | rfl | rfl | rfl <;> exact ⟨by simp,by dsimp only; decide⟩) [] (by
  simp only [envF,List.map_cons,List.map_nil,DV.lend,rs2,rss,lend_e2,lend_eN,lend_eR,lend_e3,lend_ints_]
  exact sChainOrder_22 hu z0 hL hT hR hX S C1 C2) (fun c23 a23 w23 hv23 hc23 hz23 hs23 => ?_)
 replace hs23 := hs23.sub (gs := [⟨0,w.heap.size,fun b => b < w.heap.size,rs2 us⟩,⟨1,w.heap.size,fun b => b < w.heap.size,rss L⟩,⟨6,w6.heap.size,fun b => w6.heap.size ≤ b ∧ b < w7.heap.size,.sl 1 (X.map .i)⟩,⟨9,w9.heap.size,fun b => w9.heap.size ≤ b ∧ b < w10.heap.size,.sl 1 ((marksI 1 X.length).map .i)⟩,⟨11,w17.heap.size,fun b => w17.heap.size ≤ b ∧ b < w18.heap.size,.i (1 + (X.length : Int))⟩]) (by
  intro g hg
  refine hs23.so g ?_
  simp only [List.cons_append,List.nil_append,List.map_cons,List.map_nil,newF]
  simp only [List.mem_cons,List.not_mem_nil,or_false] at hg ⊢
  rcases hg with rfl | rfl | rfl | rfl | rfl <;> simp)
 refine hs23.base hS (l1 := IChainOrder_23) (l2 := RChainOrder_24) hv23 hc23 rfl [⟨6,w6.heap.size,fun b => w6.heap.size ≤ b ∧ b < w7.heap.size,.sl 1 (X.map .i)⟩,⟨9,w9.heap.size,fun b => w9.heap.size ≤ b ∧ b < w10.heap.size,.sl 1 ((marksI 1 X.length).map .i)⟩,⟨11,w17.heap.size,fun b => w17.heap.size ≤ b ∧ b < w18.heap.size,.i (1 + (X.length : Int))⟩] (by
  intro f hf
  simp only [List.mem_cons,List.not_mem_nil,or_false] at hf
  rcases hf with rfl | rfl | rfl <;> exact ⟨by simp,by dsimp only; decide⟩) [(13,.sl 1 (X.map .i))] (by
  simp only [envF,List.map_cons,List.map_nil,DV.lend,rs2,rss,lend_e2,lend_eN,lend_eR,lend_e3,lend_ints_]
  exact sChainOrder_23 hu z0 hL hT hR hX S C1 C2) (fun c24 a24 w24 hv24 hc24 hz24 hs24 => ?_)
 replace hs24 := hs24.sub (gs := [⟨6,w6.heap.size,fun b => w6.heap.size ≤ b ∧ b < w7.heap.size,.sl 1 (X.map .i)⟩,⟨9,w9.heap.size,fun b => w9.heap.size ≤ b ∧ b < w10.heap.size,.sl 1 ((marksI 1 X.length).map .i)⟩,⟨11,w17.heap.size,fun b => w17.heap.size ≤ b ∧ b < w18.heap.size,.i (1 + (X.length : Int))⟩,⟨13,w23.heap.size,fun b => w23.heap.size ≤ b ∧ b < w24.heap.size,.sl 1 (X.map .i)⟩]) (by
  intro g hg
  refine hs24.so g ?_
  simp only [List.cons_append,List.nil_append,List.map_cons,List.map_nil,newF]
  simp only [List.mem_cons,List.not_mem_nil,or_false] at hg ⊢
  rcases hg with rfl | rfl | rfl | rfl <;> simp)
 refine hs24.base hS (l1 := IChainOrder_24) (l2 := RChainOrder_25) hv24 hc24 rfl [⟨9,w9.heap.size,fun b => w9.heap.size ≤ b ∧ b < w10.heap.size,.sl 1 ((marksI 1 X.length).map .i)⟩,⟨11,w17.heap.size,fun b => w17.heap.size ≤ b ∧ b < w18.heap.size,.i (1 + (X.length : Int))⟩] (by
  intro f hf
  simp only [List.mem_cons,List.not_mem_nil,or_false] at hf
  rcases hf with rfl | rfl <;> exact ⟨by simp,by dsimp only; decide⟩) [] (by
  simp only [envF,List.map_cons,List.map_nil,DV.lend,rs2,rss,lend_e2,lend_eN,lend_eR,lend_e3,lend_ints_]
  exact sChainOrder_24 hu z0 hL hT hR hX S C1 C2) (fun c25 a25 w25 hv25 hc25 hz25 hs25 => ?_)
 replace hs25 := hs25.sub (gs := [⟨9,w9.heap.size,fun b => w9.heap.size ≤ b ∧ b < w10.heap.size,.sl 1 ((marksI 1 X.length).map .i)⟩,⟨11,w17.heap.size,fun b => w17.heap.size ≤ b ∧ b < w18.heap.size,.i (1 + (X.length : Int))⟩]) (by
  intro g hg
  refine hs25.so g ?_
  simp only [List.cons_append,List.nil_append,List.map_cons,List.map_nil,newF]
  simp only [List.mem_cons,List.not_mem_nil,or_false] at hg ⊢
  rcases hg with rfl | rfl <;> simp)
 refine hs25.base hS (l1 := IChainOrder_25) (l2 := RChainOrder_26) hv25 hc25 rfl [⟨9,w9.heap.size,fun b => w9.heap.size ≤ b ∧ b < w10.heap.size,.sl 1 ((marksI 1 X.length).map .i)⟩,⟨11,w17.heap.size,fun b => w17.heap.size ≤ b ∧ b < w18.heap.size,.i (1 + (X.length : Int))⟩] (by
  intro f hf
  simp only [List.mem_cons,List.not_mem_nil,or_false] at hf
  rcases hf with rfl | rfl <;> exact ⟨by simp,by dsimp only; decide⟩) [(12,.i (1))] (by
  simp only [envF,List.map_cons,List.map_nil,DV.lend,rs2,rss,lend_e2,lend_eN,lend_eR,lend_e3,lend_ints_]
  exact sChainOrder_25 hu z0 hL hT hR hX S C1 C2) (fun c26 a26 w26 hv26 hc26 hz26 hs26 => ?_)
 replace hs26 := hs26.sub (gs := [⟨9,w9.heap.size,fun b => w9.heap.size ≤ b ∧ b < w10.heap.size,.sl 1 ((marksI 1 X.length).map .i)⟩,⟨11,w17.heap.size,fun b => w17.heap.size ≤ b ∧ b < w18.heap.size,.i (1 + (X.length : Int))⟩,⟨12,w25.heap.size,fun b => w25.heap.size ≤ b ∧ b < w26.heap.size,.i (1)⟩]) (by
  intro g hg
  refine hs26.so g ?_
  simp only [List.cons_append,List.nil_append,List.map_cons,List.map_nil,newF]
  simp only [List.mem_cons,List.not_mem_nil,or_false] at hg ⊢
  rcases hg with rfl | rfl | rfl <;> simp)
 refine hs26.base hS (l1 := IChainOrder_26) (l2 := RChainOrder_27) hv26 hc26 rfl [⟨11,w17.heap.size,fun b => w17.heap.size ≤ b ∧ b < w18.heap.size,.i (1 + (X.length : Int))⟩] (by
  intro f hf
  simp only [List.mem_cons,List.not_mem_nil,or_false] at hf
  rcases hf with rfl <;> exact ⟨by simp,by dsimp only; decide⟩) [(12,.i (1 + (X.length : Int)))] (by
  simp only [envF,List.map_cons,List.map_nil,DV.lend,rs2,rss,lend_e2,lend_eN,lend_eR,lend_e3,lend_ints_]
  exact sChainOrder_26 hu z0 hL hT hR hX S C1 C2) (fun c27 a27 w27 hv27 hc27 hz27 hs27 => ?_)
 replace hs27 := hs27.sub (gs := [⟨11,w17.heap.size,fun b => w17.heap.size ≤ b ∧ b < w18.heap.size,.i (1 + (X.length : Int))⟩,⟨12,w26.heap.size,fun b => w26.heap.size ≤ b ∧ b < w27.heap.size,.i (1 + (X.length : Int))⟩]) (by
  intro g hg
  refine hs27.so g ?_
  simp only [List.cons_append,List.nil_append,List.map_cons,List.map_nil,newF]
  simp only [List.mem_cons,List.not_mem_nil,or_false] at hg ⊢
  rcases hg with rfl | rfl <;> simp)
 refine hs27.base hS (l1 := IChainOrder_27) (l2 := RChainOrder_28) hv27 hc27 rfl [⟨11,w17.heap.size,fun b => w17.heap.size ≤ b ∧ b < w18.heap.size,.i (1 + (X.length : Int))⟩,⟨12,w26.heap.size,fun b => w26.heap.size ≤ b ∧ b < w27.heap.size,.i (1 + (X.length : Int))⟩] (by
  intro f hf
  simp only [List.mem_cons,List.not_mem_nil,or_false] at hf
  rcases hf with rfl | rfl <;> exact ⟨by simp,by dsimp only; decide⟩) [] (by
  simp only [envF,List.map_cons,List.map_nil,DV.lend,rs2,rss,lend_e2,lend_eN,lend_eR,lend_e3,lend_ints_]
  exact sChainOrder_27 hu z0 hL hT hR hX S C1 C2) (fun c28 a28 w28 hv28 hc28 hz28 hs28 => ?_)
 replace hs28 := hs28.sub (gs := [⟨11,w17.heap.size,fun b => w17.heap.size ≤ b ∧ b < w18.heap.size,.i (1 + (X.length : Int))⟩,⟨12,w26.heap.size,fun b => w26.heap.size ≤ b ∧ b < w27.heap.size,.i (1 + (X.length : Int))⟩]) (by
  intro g hg
  refine hs28.so g ?_
  simp only [List.cons_append,List.nil_append,List.map_cons,List.map_nil,newF]
  simp only [List.mem_cons,List.not_mem_nil,or_false] at hg ⊢
  rcases hg with rfl | rfl <;> simp)
 refine hs28.base hS (l1 := IChainOrder_28) (l2 := RChainOrder_29) hv28 hc28 rfl [] (by
  intro f hf
  cases hf) [] (by
  simp only [envF,List.map_cons,List.map_nil,DV.lend,rs2,rss,lend_e2,lend_eN,lend_eR,lend_e3,lend_ints_]
  exact sChainOrder_28 hu z0 hL hT hR hX S C1 C2) (fun c29 a29 w29 hv29 hc29 hz29 hs29 => ?_)
 refine hs29.base hS (l1 := IChainOrder_29) (l2 := RChainOrder_30) hv29 hc29 rfl [] (by
  intro f hf
  cases hf) [(4,.b true)] (by
  simp only [envF,List.map_cons,List.map_nil,DV.lend,rs2,rss,lend_e2,lend_eN,lend_eR,lend_e3,lend_ints_]
  exact sChainOrder_29 hu z0 hL hT hR hX S C1 C2) (fun c30 a30 w30 hv30 hc30 hz30 hs30 => ?_)
 replace hs30 := hs30.sub (gs := [⟨4,w29.heap.size,fun b => w29.heap.size ≤ b ∧ b < w30.heap.size,.b true⟩]) (by
  intro g hg
  refine hs30.so g ?_
  simp only [List.cons_append,List.nil_append,List.map_cons,List.map_nil,newF]
  simp only [List.mem_cons,List.not_mem_nil,or_false] at hg ⊢
  rcases hg with rfl <;> simp)
 exact law_ret hv30 hs30 rfl
end
end Zz
