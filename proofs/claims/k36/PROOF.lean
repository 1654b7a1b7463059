import PyProof.Rows.All
import Wide.All
import OpenK.AllK
import Wide.FinOn
import Lean
import PyProof.EqAt
import PyProof.EqKinds
import PyProof.TupleCall
import PySem.Challenge.RW_motiffield_k36_bad_texts
set_option compiler.extract_closed false
set_option Elab.async false
set_option linter.all false
set_option maxRecDepth 100000
set_option maxHeartbeats 4000000
def goP(t:Lean.Syntax):Lean.Syntax:=t.rewriteBottomUp fun s=>
 let n:=Lean.mkNode
 let l p:=n ``Lean.Parser.Tactic.rcasesPatLo #[n ``Lean.Parser.Tactic.rcasesPatMed #[Lean.mkNullNode #[p]],Lean.mkNullNode]
 if s.isIdent then l (n ``Lean.Parser.Tactic.rcasesPat.one #[s]) else if s.getKind== ``Lean.Parser.Term.hole then l (n ``Lean.Parser.Tactic.rcasesPat.ignore #[s[0]]) else if s.getKind== `«term#[_,]» then l (n ``Lean.Parser.Tactic.rcasesPat.tuple #[Lean.mkAtom "⟨",s[1],Lean.mkAtom "⟩"]) else s
local macro_rules
|`(tactic|let#[$x,*]$[:$t]?:=$e)=>do let y:=(goP (<-`(#[$x,*])))[0];`(tactic|obtain $(.mk y)$[:$t]?:=$e)
local macro_rules
|`(tactic|intro$x*)=>if x.any fun x=>x.raw.getKind== `«term#[_,]»||x.raw.getId== `rfl then `(tactic|rintro$(x.map fun x=>.mk (Lean.mkNode ``Lean.Parser.Tactic.rintroPat.one #[(goP x)[0][0][0]]))*) else Lean.Macro.throwUnsupported
local macro_rules|`($t\$c)=>`(autoParam $t $c)
local macro_rules|`(command|example:=$s:str)=>do
 let c:=s.getString.toList.toArray
 return Lean.mkNullNode (<-(Array.range (c.size/11)).mapM fun i=>`(command|def $(Lean.mkIdent (.mkSimple s!"tw{(c.extract (i*11) (i*11+11)).foldl (fun a x=>a*62+(x.toNat-65)) 0}")):ident:=Nat))
local macro_rules|`(command|def $x:declId $s:optDeclSig $v:declVal)=>`(command|noncomputable def $x:declId $s:optDeclSig $v:declVal)
local macro_rules|`(command|abbrev $x:declId $s:optDeclSig $v:declVal)=>`(command|noncomputable abbrev $x:declId $s:optDeclSig $v:declVal)
local macro_rules|`(#[$x,*])=>`(⟨$x,*⟩)
theorem KK{p:Prop}(h:p:=by decide+kernel):p:=h
theorem Md{p:Prop}(h:p:=by lia):p:=h
theorem Mh{p:Prop}(h:p:=by decide):p:=h
theorem Mn{p:Prop}(h:p:=by simp):p:=h
theorem Mo{p:Prop}(h:p:=by k_memK):p:=h
theorem Nk{p:Prop}(h:p:=by omega):p:=h
theorem Np{p:Prop}(h:p:=by grind):p:=h
theorem Nr{p:Prop}(h:p:=by simp[step,aP,aQ]):p:=h
theorem NA{p:Prop}(h:p:=by cases d<;>first|exact#[_,rfl,h]|exact False.elim h):p:=h
theorem Ow{p:Prop}(h:p:=by cases q:cd.mro with|nil=>rw[q]at hm;simp[excMro]at hm|cons _ _=>rfl):p:=h
theorem Pm{p:Prop}(h:p:=by rw[<-hY];rfl):p:=h
theorem Qu{p:Prop}(h:p:=by simp;lia):p:=h
theorem RA{p:Prop}(h:p:=by unfold B12;lia):p:=h
theorem RJ{p:Prop}(h:p:=by unfold mroIn;rw[hc,Iq,if_neg (by rw[ne];decide),exc_has KK hm]):p:=h
theorem RP{p:Prop}(h:p:=by rw[bT];simp[bS,show¬d=5 by lia]):p:=h
open PySem renaming Str->Lq
open Option renaming some->be,none->w6
open PySem renaming Value->Os,Addr->Pi,wpAny_bind->P3,Shared->SB,mainGlobals->SL,wpAny_pure->SZ,model->U4,Program->U5,Stmt->U6,Expr->U7,wpAny->U8,starEach->U9,World->U',Around->U_,assignEach->Va,attributeBase->Vb,eval->Vc,FuncData->Vd,wpAny_Call_Name_kw->Ve,Pos->Vf,wpAny_holding->Vh,wpAny_newObj_type->Vi,wpAny_mono->Vj,Obj->Vk,bootBuiltins->Vl,wpAny_loadPart_at->Vm,swapsWith->Vn,compareOp->Vo,PassesOwn->Vp,excClassObj->Vq,binaryOp->Vr,wpAny_call->Vs,wpAny_passesOwn->Vt,behindInMarks->Vu,holding->Vv,sysModules->Vw,codeAny_mono->Vx,Scope->Vy,wpAny_standAt->Vz,ExceptHandler->VA,wpAny_getItem_str_slice->VB,backTo->VC,swapsWithSole->VD,swappedStores->VE,wpAny_field->VF,sliceBounds->VG,codeAny_call_builtin->VH,bindArgs->VI,NameKind->VJ,wpAny_execs_nil->VL,assign->VM,wpAny_isSubtype_exc->VN,standAt->VO,Env->VP,wpAny_truthy_bool->VQ,wpAny_pyIter_enum->VR,wpAny_of_eq->VS,keywordEach->VT,tupleKind->VV,noteFrame->VW,ClassData->VX,BindsTo->VY,post_val_or_str->VZ,letOwnedTupleGo->V0,wpAny_setField->V1,sizeLine_eq->V2,rawInt->V3,onTheHeap->V4,getMethod->V5,codeAny->V6,isInstance->V7,wpAny_assign_Name->V9,callerA->V',backToKw->V_,plainObj_wpAny_Assign_Attribute->Wa,setFlight->Wb,IsPart->Wc,cLine->Wd,atKey->We,valueAt->Wg,getItem->Wh,wpAny_loadPart->Wi,wpAny_letOwnedTupleGo_enum->Wj,handleBy->Wk,dictSetDefault->Wl,bindName->Wm,Operator->Wn,wpAny_comprehension_free->Wo,wpAny_attempt->Wp,assignInOrder->Wq,bindL->Wr,bindC->Ws,setItem->Wv,seqIndex_neg->Ww,leaving->Wx,getAttr->Wy,codeAny_compStart_list->Wz,call_meetsIn->WA,Sem->WB,codeAny_handlers_test->WD,wpAny_newFunctionEnv->WE,seqIndex_of->WG,callWith->WH,Model->WI,GenState->WJ,wpAny_handleBy_cons->WK,wpAny_call_exc_subT->WL,wpAny_rule->WM,wpAny_entryPlaceOf->WN,wpAny_Name->WO,typeIs_str->WQ,tupleKind_room_in1->WR,call_meets->WS,builtinsNs->WT,wpAny_frameOf_fun->WU,release->WV,relabel->WW,foldedSetIterable->WX,Tok->WZ,Keyword->W0,CmpOp->W1
open PyProof.Rows renaming envOfC->Vg,AllBare->VU,assignInOrder_cons->V8,subscriptTail_builtinR->Wu,IntsAre->WC,assignInOrder_nil->WY
open PySem.W renaming Frag->Ex,findIn->HB,mroIn->Ig,specialIn->Iy,takesIn->Jf,typeIn->Ju,clsIn->JC,OpenLaw->JR,handedIn->Kq,WalkO->Kt
open List renaming mem_singleton->Hv,mem_cons->Hx,mem_cons_self->Hy,mem_cons_of_mem->Hz,length_cons->HA,range->HC,length_map->HE,length_append->HF,getElem?_map->HI,getElem?_eq_some_iff->HJ,size_toArray->HK,getElem?_set_ne->HL,lookup_cons->HM,getElem?_eq_getElem->HP,map_cons->HR,mem_append_right->HU,mem_map->HW,mem_append->HX,append_nil->H9,map_append->Ia,cons_append->Ih,append_assoc->Ii,getElem?_set_self->Ij,getElem?_append_left->Ik,all_cons->Il,getElem_mem->Im,getElem?_eq_none->Io,all_eq_true->Ir,getElem?_range->Iw,nodup_cons->IA,replicate->IB,length_set->IC,getD->ID,not_mem_nil->II,lookup->IK,getElem?_append_right->IL,getElem?_set->IN,drop_eq_getElem_cons->IQ,mem_append_left->IR,length_drop->IS,map_nil->IT,ext_getElem?->IU,find?_cons->IW,nodup_append->IY,map_map->Jb,length->Jg,length_take->Jh,mem_of_getElem?->Ji,length_nil->Jj,range_succ->Jk,map_congr_left->Jl,drop->Jn,filterMap_cons->Jr,any_cons->Jy,map->JA,findIdx_cons->JD,take_length->JH,drop_zero->JJ,countP_cons->JL,of_mem_zip->JM,getElem?_replicate->JN,getElem?_take_of_lt->JO,length_singleton->JP,contains_cons->JS,forIn_cons->JU,take_of_length_le->JX,eq_nil_of_length_eq_zero->JY,nil_append->Kb,length_range->Ke,drop_of_length_le->Kf,set_cons_succ->Ki,set_cons_zero->Kj,mem_of_mem_drop->Kk,drop_eq_nil_of_le->Kl,mem_filter->Ko,mem_filterMap->Kp,filterMap_map->Kr,take_succ->Kz,nodup_nil->KB,getElem?_drop->KZ,map_take->K4,take_range->K5,take_append_drop->K6,drop_length->K8
open Nat renaming le_refl->Hw,ne_of_lt->HD,le_trans->HG,lt_of_lt_of_le->HQ,zero_le->HS,pow_succ->Ic,pow_le_pow_right->Iv,ne_of_gt->Ix,le_succ->Iz,pow_pos->IH,lt_irrefl->IJ,lt_or_ge->IV,mul_le_mul->IZ,zero_add->Je,le_of_lt->Jq,le_of_eq->Jv,lt_succ_self->Jw,add_le_add->JE,min_eq_left->JK,le_of_not_lt->JQ,le_of_ble_eq_true->JT,lt_succ_of_lt->JV,add_comm->J6,le_max_left->J7,le_max_right->J8,pow_add->J9,sub_zero->Kg,lt_of_le_of_lt->Ku,lt_trans->Kv,log2_lt->Kw,add_sub_add_right->Ky,succ_ne_self->KC,add_sub_cancel->KP,not_lt_zero->KR,mod_eq_of_lt->K0,mul_succ->K3
open Bool renaming false_ne_true->HH,and_eq_true->HV,eq_false_iff->H8,eq_iff_iff->Jt,or_true->Jz
open Int renaming mul_pos->HN,mul_comm->HY,mul_le_mul_of_nonneg_right->HZ,mul_ediv_cancel->Ib,toNat_of_nonneg->Ie,le_trans->Ip,natAbs_mul->Iu,emod_nonneg->IE,emod_lt_of_pos->IF,mul_nonpos_of_nonpos_of_nonneg->IG,toNat_natCast->IM,emod_def->IP,eq_of_mul_eq_mul_right->Ja,emod_add_mul_ediv->Jc,zero_add->Jd,natCast_add->Jo,add_zero->Jp,dvd_mul_of_dvd_right->JF,mul_eq_zero->JG,mul_neg->JI,natAbs_add_le->JZ,mul_nonneg->J0,fmod_eq_zero_of_dvd->J1,neg_mul->J2,natAbs_neg->J3,eq_of_mul_eq_mul_left->J4,dvd_add->J5,mul_le_mul->Ka,sub_mul->Kc,add_mul->Kd,add_assoc->Kh,ediv_nonneg->Km,ediv_le_self->Kn,natAbs_eq_zero->Kx,fmod_nonneg_of_pos->KD,fmod_lt_of_pos->KE,natAbs_sub_le->KF,mul_emod_left->KG,mul_le_mul_of_nonneg_left->KH,le_natAbs->KI,ofNat_le->KJ,dvd_mul_of_dvd_left->KL,mul_fdiv_cancel_of_fmod_eq_zero->KM,dvd_antisymm->KN,zero_mul->KO,add_mul_emod_self_right->KS,add_mul_ediv_right->KU,dvd_add_left->KW,dvd_mul_right->KY,natCast_emod->K1,ediv_eq_zero_of_lt->K2,mul_left_comm->K7
open Option renaming bind_some->Iq,getD_none->Ks
open Array renaming length_toList->Js,getElem?_eq_some_iff->JB,all_toList->JW,getElem?_eq_getElem->KA,toList_inj->KQ
open PySem.W (InitBack any_some callWith_K callWith_K0 cellsFrom_some cls_value codeIn codeRec_of emptyDict eq_bytes findCls findObj_own fnOf get_value hasDictIn hideAll hideAll_get hideAll_none hideAll_size instObj isFn isNs_of_in kIn_of keepIn ki_setAt ki_setBack kia_one kitCls kitOne kitx_bool kitx_dict kitx_float kitx_int kitx_list kitx_none kitx_own kitx_str kitx_tuple kun_itemsOf len_bytes lookIn make_core makesIn makes_of methodCall_KW methodObj method_cls method_fn mg_none_of mg_of ne_bytes nsIn nsMap_none_of_in nsOkIn of_hideAll osa_open plainGet plainGet_of plainOver readsIn tailIn tail_of_in takerIn truthy_bytes)
def qZ0(_:0=0:=by rfl):=0
nonrec def zA0:=qZ0._auto_1
def qZ1(_:0=0:=by decide):=0
nonrec def zA1:=qZ1._auto_1
def qZ2(_:0=0:=by first|exact .inl rfl|exact .inr rfl|assumption):=0
nonrec def zA2:=qZ2._auto_1
def qZ3(_:0=0:=by exact λ_=>rfl):=0
nonrec def zA3:=qZ3._auto_1
def qZ4(_:0=0:=by first|exact Or.inl rfl|exact Or.inr rfl):=0
nonrec def zA4:=qZ4._auto_1
def qZ5(_:0=0:=by first|exact Or.inl rfl|exact Or.inr (Or.inl rfl)|exact Or.inr (Or.inr rfl)):=0
nonrec def zA5:=qZ5._auto_1
def qZ6(_:0=0:=by exact λ_ _=>rfl):=0
nonrec def zA6:=qZ6._auto_1
def qZ7(_:0=0:=by walk_at "b"):=0
nonrec def zA7:=qZ7._auto_1
def qZ8(_:0=0:=by intros;rfl):=0
nonrec def zA8:=qZ8._auto_1
namespace PySem.W.Fast
example:=r"DAJhOGgZNWeVtOPXxceVvJL{z|dXyJJfWEJQm\]nVSmmDjd|LCPe]|JIacKBHS^}eJEX`ViKgNQjrFHZgfIyUBpAR~AY`_{\junJAuKlvYOxPKQCBhzPg\qxHHW{UUOr`yWcR~~bazUh|K^Q[}bJ_UKYvbE`saisJsRijTfE{rJCdRY]SffcbfPFnFXP[BPg|\JlqtFmpVm~nALOqNhGdFE]nKOUJsMDMM}UGMzIeCM_nA^OvBTbgYaHFz]{UOq^|GCg}oWOSH\Ql^yF|MuL[jrE`wAK{nD|wrtnyDQlBDGubycAR`pMUVBXXlsrx{PNbRLfotHOFWAFYgKZblTW\R^bDvd~cE^EHQNjodOcUDwRNYdgsjhyvjPwx~pXee~idSEEG~aSrWizJbph|Ta[en\CcGYURlOOJ^GOLh]hdCzayUoj}wIdU`|gVlFrp]ovpogD}]sUWNAOZFJT{JGGhUu_aSxOE[ZYUCRWAaa~WWW}gsqMa_mw[RvSm}Fvo]OPhLfHdVaYRSbMpq}jFs[[Rq]}M`XKRa|FehpfT`SwwBogsQd}qT\^XNoW[EZCPPzvgs}y~UlVDnHX_q{V^]IVyIXU^cUm~Ron[RrcicKhJxOPPtf}ikLQbkc^`MhlhXRUSw\~KNqZZCBHyFC]dr{VKd`YIHXFxIkLql{`_QfleBF]j]Yynm]X|Oy~pud]|cHlQ\o\aAQIgDZLap{_gjH_cdLeX]vW{gwhSQ[t{kXY\IjtBgKyNeWV^tHVJXmcBfXIkHLOhcNYqjKCtALMjFy}Yt{qIkFgrqZtVUVLSbe_QDiXzEVsrnZRRjF|QAb_f[hiaQDVPLTMFAJlO{~C]aXcLSOOgKUswuOWfCLCQR|w^{MNlU]LHAp]gdzwtAQILy]HtmYhhOHcPI}YaDhegHl}[mRX{dDCBlXKa[lgSyDFU\GHZh[KXHRApJmu{MCzLCyrXsMkANEsHsagC]jifUeLfNmDiSTasmGykpxv]atASTU]LQCQgg[wIbj_VuJjFuWBWnydhcLQTAUJQK`wRCfrsT|HNlGRWOiZO~{^O[ZVL_PCgWunhHzeQWGt~F[dW~tGSFmTsW}Dm]fQCkv}d[acVXKCGkBqFpC~aEFpGjrgnFJYuSAcSPfleHe`AwzG{cQGYlHNJS]oJC}pG^VGWoPtWlPxRM^JE`sB`YOmJuTjUzc~omLIqASiPSTq_tDDMNvKZBs{UEng\XBl`nLJNrtSl^BVxeMJSbeXNArgUkBEWZy|lmJiqLMUFrjOAhBgR`gBzGfJ^RFFQ^G}AVR[qPNtaOV\hbobdLlcwk~XYB|cUZebczlB\[yKaI\BhlSsV{UJ}O{ABkl{qNMo^e{Nnn~iKtJxw\sVvYaQhCVrpvG\_IOylmXrE^vklNZABkNnKfktF`^A\TIcxEOD{NeJkMrbcPCi_eGIPOhgyUZjty_ovpwAC`VSO~wkN`bTbAy{Ho|T`\TYprEH^xhzOFCHh}nb[qSfFaobghLLcVsLbJ]bxPctsvV^^AKAdlHadVM`g_JWo_ftDheypWcbjO`G}mfc}wKAURE[Hvo~jpBuMHTjfFevA_nhJ[I\mCU}q\BGSTYHOcz]JHTiPtNiQAbaRAk|Gc_sIDLBRRg[}^v[GQOKM]^~JjTR]UO]]\I`PswU~RQdBnr}cOO\DLLaSCmyWDtE}SLDgUaJkDP^VaAmzH\eNDn]PqCFXrjCMMhEAhDunm{KluoTXeeEArGxeIuQK}ycnFHRGAVyq`POFLV`xbKM`gjO|bDA{}FdplTkvtCZxEmVIHzUPXu[CkhCLTLIYLHn|ZSGWXuk\rxywcNFieEt^ep\YUQTctdNIfdJHteHeinNzR|PUTmUbEmyF~NrE_GRV}koOTjiOqjBR~rOQAc{SkzPWMOJZv^nfzP]b}AS_ih_x|BaRMQYaKkBqmafIouyJowajC`RNigBXSD}EeG{cAm`icx^^M|soYDsv^HnD[JmnD~{_HSHzEBAumS~B[E__AXwOktWESBpuNT`PZe\J_BuOHteptAPlJCe`KvBaaQvXsAvPKuKeDdDPVSh~`PtMrivUo_}~i`FuIl\^aI\FKLEFmBYO}`LCI}aIHgSSdisHMNHMmdCSLYM~KfabFl~m}DBSO`xIN}jdIxX~XDCKHP_Q[cYgdobfvoREndTP^KRL|M|fIHn_Fo|ONDlA_\gxjJ_Gp`bsV]ZIRcQB{ZnqDoLBFIVjKG[]qmK|Jf{vb^eKYgONTLAXd^anASIZKxikypek{TgyAeuztaEWPRpDdfcydsnKrrQk\O~ptBRYpvMExa^KoDzYduEIKcbbVmV_hNHmVavFDPPJKmLvrPMfrNRslhChZM|JACehL{{bP{ICuRzZdPuK}Uvv`FJH\FJzPOkcA^cMVHIZGA|gEYGqHew||vtQzheLT[ENA[aHIKDvuA{`YP]SjBhj[wL[lhdCNvSHX`]^VvDBWsIeMN]{CxDCXRF_sMoV]VeS^gIrddmCNOeZF`mFG^XPJheg~yKuhBB~OtM|afFvvENlLgtO{Pw[GC~hehVvBPICloQ^[fGXZ[Kcf_LkYANkgGAioVCm]ZVUHLHherOiUiwV}B~RZ`unnxDTEm~iycjSpQxinBTbjQ~POJaOqBj_kwzL}nOWVnbsXDIdf[B^[kEGPCdOmDg~l]DZNz{J~nRicfyHC|alKQmtVvV}\sc^Rr^K[EojVMmtuznuDyd}}zz}xldJXagM`wkaj`V\DNYFnBIGcKR|y\IYB~guE_jQJMbay|cOiEm}clbQDdCFOaPh^ogIPLJyG|OiK]J`UTixdtD\fPEEOVSntfST_[UlhBoq_\as|CAkhrzZjqolCCQdnd[q{BvTDpeYwoPI[bPxEjvCPosdoGFwfeFIt\_oOeqCScCVWQkFTtoImZupdaQht^e~_sEPyAAHEZvnQNdQJ_E}[vDujslMD}KYOj]`_[NACKatzv{K{Rht_AvrapI`UrJYI[vxJ~TJHQyBjG][MqFQN\OYZ]fqoKCH~uxwfWZqSY}MUzHhjtxOTy\SWdzz{EToj]RQ_uvHZARxj{|GheGIB`GjyRojUSRTicXdexmzxeIJAwL{ArJ\PPnjjqOI^D}}InyC`NGRt~IHgjOuxC\}o}CxK`PO_BvcWAUsHgiMwSFqLRtv`bBsFXWOA]hYs\V_b{NeU{dC`jzmVFbevoHHkAHXNJeth}Md[BsEUK~RJZgwzqA{jNfQDVwzvPYoxSfVt{V}K\SlRVpLU{nKmVuIQaZtY~AvqGpReK`nWGVr~EtXxRe`St}WVHd^}KfHJkqZFjW_bMLh[|D~S}CdOK[PARVrVRV`IE~I~vTKsMDNvGwtdAHc`eVXsgBUznsxjNtXIdxB{JiXNkiawWHNsLqQsbIR]YB_cmJhrMd{kYM`QRBBuBOdXvrBDDGjSHn\wqkPNPjGDkM|WzK{DnjnxknjvOFJXvWFBuRnFl[LYTYr^muIiD}b`]DYeAB_}]GnSJ^`rFGsKC_i_sPQUpshpRWBseJVk^e{nCSHGABMyO|[r}AAhMubOturhpJTBJyxp^nFc[eNHaUc^suXdwIuwMqMoxd^xImD`Bd{JjaQVcKTS`\mhQDLQIlY]PHUVhCbxtgRExHlVCwCPAZDJ]^hOB\VhtWbtxlDHWqDOCTfwpAecLqRLkXc{HRNrTVy{KttV[Si~_vrWAGM\awDa~kJlcDt]HUANohXnGOjhEu]uIffOjOqmFvOnHRQcNyyltMf^vLJbbHM{RvyZHfNa[JDIyJNVLfJYVYj`poCXyofiRyhl\CMMbiYKzjTvPMrqVw\`OUvFC_KjtPgIh_KJBqcea_Y{fMPqiaeg{}qRTYaUdspYTQrL[vTFaeh}SxCgPeLvOTchnAyhw^AxQG`CM^xWrukwfXWAcrKlSketAANljuZ\CofXbRuNcfSVnXUTLZSt[VYZU`xGjpw]P`{hA~VTaq_mcoyljLlPYl}_\cRkU^x{[MqdGm]JpaAkczE^wLExEP`nHL{IfUzTLBrSwddsDJWRGZOenqYDatwonuWdhzHSqbyBY^bsWP^brqHGu|sBQjL`_RyFPZwNuPdkNu||MwGQWaODh]irWA{WuC[|OR[cPU{rT[Ua[OSHmGS|`UboxRERjvZ^^ZFFPHuJkdjdx]o_Qt[EwQuLTjQP^aG\UhjTvjAkvf~ZlsZ~^DYwQTTCDoZVTgJhmK}m|dQBb|_RgxX_BoMgRBSV}wWZjVklQFkw~zVrTd]qI}vG`h~U_MPdRXMhicEJjKHR~BeHfVFBu_k[Z[iYUFNGjhKum~KJBKL~\[AKTuFXq`r^bYJR\IkpTGJ^LmdOStqurJO|o}ATaRxEwI{atPTv_gmnV~CmVPCqeB}^cuyHPmaVRwy|RRmLRo`[gB`SasFFtaXtrdM\WKWqO_EEFXiSOMETXfljU`_F~sGq^BuOjYGuMAkgucXqBOvezQkHBB_HJFfvQRAHwEHKNGyQVpdQH[QBZQvBJABCgKbHkSiIfSw\HNoJzbDg}ewISCcUTyYKjoG{jIa[ZbPO|CuqQYv``xH^I`PKKY\xO\zKQFFccbmAMCSjnPDUMyiUIS[EWOZlED[JCP~EQg^p{ybHzhPAIcg`sAQEuYW|LR]YmNY_\dhqAZnEMxct}ds]yecLWwOdGXp^YGUPycYOo\^LXECA~q~StlzKJuIVMLF{tHWEFIgYz\uGUqRpgLLvG\|^TDJOZJzGfMI~BXUpsNvhNicQ^\QFIqWrUBIYeZp][[rHgHmUELOI}MXeGitu_WkNbUHVEWmIkSg|AlUFwCRxbIF]bRU]x_QRBvb_Gm^vVxmMMmLEnlUBuw\Sn|DleSFZUZSjeJ|}_YvBSTBqMje|WIymu{YMZ]n_VU_iNGNgJllCobGdfC\u}WFi{ZECFm[xcp^{OozKqKlA^erOQkPqY}hFHWDhGRSLO{{jJwLVQmmAeCZOdAYOP}ZGU[wMHiUvo|ILdzHvX"
end PySem.W.Fast
section
namespace L2
open PySem PySem.Spec PyProof.Rows
abbrev Key:=Sum Int Lq
def eQ:Key->Os->Bool
 |.inl k,v=>Value.isInt k v
 |.inr x,v=>Value.isStrOf x v
def keyH(w:U'):Key->Int
 |.inl k=>hashInt k
 |.inr x=>hashStr w x
def keyIs_shape:∀{k:Key} {v:Os},eQ k v=true->(∃i t,k=Sum.inl i/\v=Value.int i t)\/(∃x t,k=Sum.inr x/\v=Value.str x t)
 |.inl i,v,h=>by
  let#[t,e]:=Value.isInt_shape (k:=i) (v:=v) h;exact .inl #[i,t,rfl,e]
 |.inr x,v,h=>by
  let#[t,e]:=Value.isStrOf_shape (x:=x) (v:=v) h;exact .inr #[x,t,rfl,e]
def xh(i:Int)(t:WZ):eQ (.inl i) (.int i t)=true:=by simp[eQ,Value.isInt]
def xi(x:Lq)(t:WZ):eQ (.inr x) (.str x t)=true:=by simp[eQ,Value.isStrOf]
def xj(a b:Int):decide ((Sum.inl a:Key)=Sum.inl b)=(a==b):=by
 by_cases e:a=b
 .subst e;simp
 .have h:¬(Sum.inl a:Key)=Sum.inl b:=λq=>e (Sum.inl.inj q);rw[decide_eq_false h];exact(beq_eq_false_iff_ne.mpr e).symm
def xk(a b:Lq):decide ((Sum.inr a:Key)=Sum.inr b)=decide (a=b):=by
 by_cases e:a=b
 .subst e;simp
 .have h:¬(Sum.inr a:Key)=Sum.inr b:=λq=>e (Sum.inr.inj q);rw[decide_eq_false h,decide_eq_false e]
def xm(a:Int)(b:Lq):decide ((Sum.inl a:Key)=Sum.inr b)=false:=decide_eq_false (λq=>nomatch q)
def xn(a:Lq)(b:Int):decide ((Sum.inr a:Key)=Sum.inl b)=false:=decide_eq_false (λq=>nomatch q)
def bM(prog:U5)(w:U'):PySem.KeyKind prog w Key where
 is:=eQ
 hash:=keyH w
 inj:=λv a b ha hb=>by
  rcases keyIs_shape ha with⟨i,t,rfl,rfl⟩|⟨x,t,rfl,rfl⟩
  .rcases keyIs_shape hb with⟨j,u,rfl,e⟩|⟨y,u,rfl,e⟩
   .injection e with e1 _;rw[e1]
   .exact nomatch e
  .rcases keyIs_shape hb with⟨j,u,rfl,e⟩|⟨y,u,rfl,e⟩
   .exact nomatch e
   .injection e with e1 _;rw[e1]
 byValue:=λk v h=>by
  rcases keyIs_shape h with⟨i,t,rfl,rfl⟩|⟨x,t,rfl,rfl⟩<;>rfl
 pyHash:=λhv h=>by
  rcases keyIs_shape hv with⟨i,t,rfl,rfl⟩|⟨x,t,rfl,rfl⟩
  .exact wpAny_pyHash_int h
  .exact wpAny_pyHash_str h
 eqBool:=λhu hv h=>by
  rcases keyIs_shape hu with⟨i,t,rfl,rfl⟩|⟨x,t,rfl,rfl⟩
  .rcases keyIs_shape hv with⟨j,u,rfl,rfl⟩|⟨y,u,rfl,rfl⟩
   .rw[xj]at h;exact wpAny_eqBool_int h
   .rw[xm]at h;exact SeqAt.EqAt.int_str i t y u _ _ _ _ h
  .rcases keyIs_shape hv with⟨j,u,rfl,rfl⟩|⟨y,u,rfl,rfl⟩
   .rw[xn]at h;exact SeqAt.EqAt.str_int x t j u _ _ _ _ h
   .rw[xk]at h;exact wpAny_eqBool_str h
 «strs»:=λk x t v h=>by
  rcases keyIs_shape h with⟨i,u,rfl,e⟩|⟨y,u,rfl,e⟩
  .exact nomatch e
  .injection e with e1 _;subst e1;cases v<;>rfl
def mixKind_int(prog:U5)(w:U')(i:Int)(t:WZ):(bM prog w).is (.inl i) (.int i t)=true:=xh i t
def xo(prog:U5)(w:U')(x:Lq)(t:WZ):(bM prog w).is (.inr x) (.str x t)=true:=xi x t
inductive V where
 |non|bl (b:Bool)|int (i:Int)|str (x:Str)|byt (b:Array UInt8)|flt (b:UInt64)|ref (a:Pi)|ty (n:String)
 deriving DecidableEq
def RelV:V->Os->Prop
 |.non,u=>u=Value.none
 |.bl b,u=>u=Value.bool b
 |.int i,u=>∃t,u=Value.int i t
 |.str x,u=>∃t,u=Value.str x t
 |.byt b,u=>∃t,u=Value.bytes b t
 |.flt b,u=>∃t,u=Value.float b t
 |.ref a,u=>u=Value.ref a
 |.ty n,u=>u=Value.type n
abbrev Vals:List V->List Os->Prop:=Paired RelV
variable{xs:List V}{us:List Os}
def Vals.length(r:Vals xs us):xs.length=us.length:=Paired.length r
def Vals.get:∀{xs:List V} {us:List Os} {i:Nat} {x:V},Vals xs us->xs[i]?=be x->∃u,us[i]?=be u/\RelV x u
 |_,_,_,_,.nil,e=>by simp at e
 |_,_,0,_,.cons r _,e=>by simp at e;subst e;exact#[_,rfl,r]
 |_,_,i+1,x,.cons _ t,e=>by
  let#[u,h1,h2]:=Vals.get (i:=i) (x:=x) t (by simpa using e);exact#[u,by simpa using h1,h2]
def Vals.set{x:V}{u:Os}(r:RelV x u):∀{xs:List V} {us:List Os} (i:Nat),Vals xs us->Vals (xs.set i x) (us.set i u)
 |_,_,_,.nil=>.nil
 |_,_,0,.cons _ t=>.cons r t
 |_,_,i+1,.cons q t=>.cons q (Vals.set r i t)
def Vals.append:∀{xs ys:List V} {us ws:List Os},Vals xs us->Vals ys ws->Vals (xs++ys) (us++ws):=by
 intro xs ys us ws h s;induction h with
 |nil=>exact s
 |cons r _ e=>exact .cons r e
def Vals.take:∀{xs:List V} {us:List Os} (n:Nat),Vals xs us->Vals (xs.take n) (us.take n)
 |_,_,0,_=>.nil
 |_,_,_+1,.nil=>.nil
 |_,_,n+1,.cons r t=>.cons r (Vals.take n t)
def Vals.drop:∀{xs:List V} {us:List Os} (n:Nat),Vals xs us->Vals (xs.drop n) (us.drop n)
 |_,_,0,r=>r
 |_,_,_+1,.nil=>.nil
 |_,_,n+1,.cons _ t=>Vals.drop n t
def RelO:Option V->Option Os->Prop
 |some v,be u=>RelV v u
 |none,w6=>True
 |_,_=>False
def KV{κ:Type}:List (κ×V)->List (κ×Os)->Prop:=Paired λ(p:κ×V) (q:κ×Os)=>p.1=q.1/\RelV p.2 q.2
def kV:Key->V
 |.inl i=>.int i
 |.inr x=>.str x
inductive HO where
  |lst (xs:List V)
  |tup (xs:List V)
  |dK (a_:List (Key×V))|dT (a_:List (List Key×V))
  |set (S:Int->Bool) (n:Nat)
  |ins (C dx:Pi) (fs:List (Lq×V))
  |own (x:Pi)
  |xd (fs:List (Lq×V))
  |met (f x:Pi)
  |rng (lo hi:Int)
  |frz (o:Vk) (u:HO)
  |tbl (ps:Array Os)
  |ext (φ:Heap->Prop)
abbrev Hp:=Pi->Option HO
def upd(H:Hp)(a:Pi)(o:HO):Hp:=λb=>if b=a then be o else H b
variable{H:Hp}{a:Pi}{o:HO}
def aC:upd H a o a=be o:=by unfold upd;rw[if_pos rfl]
variable{b:Pi}
def ar(h:b≠a):upd H a o b=H b:=by unfold upd;rw[if_neg h]
def xp{u:HO}(h:H a=be o)(h':H b=be u)(d:o≠u):a≠b:=by
 intro e;subst e;rw[h]at h';exact d (Option.some.inj h')
def bH(h:H a=be o)(h':H b=w6):a≠b:=by
 intro e;subst e;rw[h]at h';cases h'
section
variable (P:U5)(w:U')
def ObjOk(H:Hp)(h:Heap)(a:Pi):HO->Prop
 |.lst xs=>xs.length<=sizeLine/\∃(its:List Os) (n:Nat),Vals xs its/\h.get? a=be {cls:=.type "list",data:=.seq its.toArray n}
 |.tup xs=>xs.length<=sizeLine/\∃its:List Os,Vals xs its/\IsTup h a its.toArray
 |.dK a_=>a_.length<=sizeLine/\(a==Vw)=false/\∃vs,KV a_ vs/\h.DictOf (bM P w) a vs
 | .dT a_=>a_.length<=sizeLine/\(a==Vw)=false/\∃xs:List (List Key×Pi×Os),
   Paired (λ(p:List Key×V) (q:List Key×Pi×Os)=>p.1=q.1/\H q.2.1=be (.tup (p.1.map kV))/\RelV p.2 q.2.2) a_ xs/\
   ∃o es ep,h.get? a=be o/\o.ExactDict/\o.data=.dict es ep/\es.toList=xs.map (entryOfKey (VV (bM P w)))/\(xs.map (·.1)).Nodup
 |.set S n=>h.SetOf (intKind P w) a S n
 | .ins C dx fs=>H dx=be (.own a)/\fs.length<=1000/\dx≠a/\h.get? a=be (instObj C dx)/\
   ∃mA,h.Ns1 dx mA/\(∀f,RelO (fs.lookup f) (mA f))/\PySem.Within mA (fs.map (·.1))
 |.own _=>∃o,h.get? a=be o
 |.xd fs=>∃mA,h.Ns1 a mA/\∀f,RelO (fs.lookup f) (mA f)
 |.rng lo hi=>∃t u v,h.get? a=be {cls:=.type "range",data:=.fields [.int lo t,.int hi u,.int 1 v].toArray}
 |.frz o u=>h.get? a=be o/\ObjOk H h a u
 |.tbl ps=>h.get? a=be {cls:=.none,data:=.fields ps}
 |.met f x=>h.get? a=be (methodObj (.ref f) (.ref x))
 |.ext φ=>φ h/\(∃o,h.get? a=be o)/\∀h1 h2:Heap,φ h1->(∀o,h1.get? a=be o->h2.get? a=be o)->φ h2
def HOk(H:Hp)(h:Heap):Prop:=∀a o,H a=be o->ObjOk P w H h a o
end
section
variable {P:U5}{w:U'}{H H':Hp}{h h':Heap}{a:Pi}{o:HO}
def ObjOk.lt(x:ObjOk P w H h a o):a<h.objs.size:=by
 cases o with
 |lst xs=>let#[_,_,_,_,e]:=x;exact Heap.lt_size e
 |tup xs=>let#[_,_,_,p]:=x;exact p.lt
 |dK a_=>let#[_,_,_,_,o,_,_,e,_]:=x;exact Heap.lt_size e
 |dT a_=>let#[_,_,_,_,o,_,_,e,_]:=x;exact Heap.lt_size e
 |set S n=>let#[o,_,_,_,e,_]:=x;exact Heap.lt_size e
 |ins C dx fs=>let#[_,_,_,e,_]:=x;exact Heap.lt_size e
 |own y=>let#[_,e]:=x;exact Heap.lt_size e
 |xd fs=>let#[_,#[_,_,_,e,_],_]:=x;exact Heap.lt_size e
 |rng lo hi=>let#[_,_,_,e]:=x;exact Heap.lt_size e
 |frz ob u=>let#[e,_]:=x;exact Heap.lt_size e
 |tbl ps=>exact Heap.lt_size (show h.get? a=be _ from x)
 |met f y=>exact Heap.lt_size (show h.get? a=be _ from x)
 |ext φ=>let#[_,#[_,e],_]:=x;exact Heap.lt_size e
def Paired.mapP{α β:Type}{F G:α->β->Prop}:∀{l₁:List α} {l₂:List β},Paired F l₁ l₂->(∀a b,F a b->G a b)->Paired G l₁ l₂:=by
 intro l₁ l₂ h f;induction h with
 |nil=>exact .nil
 |cons r _ e=>exact .cons (f _ _ r) e
def ObjOk.stay(x:ObjOk P w H h a o)(k:∀b u,(b=a\/H b=be (.own a))->h.get? b=be u->h'.get? b=be u)
  (ho:∀b,H b=be (.own a)->H' b=be (.own a)) (ht:∀b xs,H b=be (.tup xs)->H' b=be (.tup xs)):ObjOk P w H' h' a o:=by
 induction o with
 |lst xs=>let#[z,its,n,r,e]:=x;exact#[z,its,n,r,k _ _ (.inl rfl) e]
 |tup xs=>let#[z,its,r,ob,e,c]:=x;exact#[z,its,r,ob,k _ _ (.inl rfl) e,c]
 |dK a_=>let#[z,y,vs,r,ob,es,ep,e,c]:=x;exact#[z,y,vs,r,ob,es,ep,k _ _ (.inl rfl) e,c]
 |dT a_=>
  let#[z,y,xs,r,ob,es,ep,e,c]:=x;exact#[z,y,xs,Paired.mapP r λp q z=>#[z.1,ht _ _ z.2.1,z.2.2],ob,es,ep,k _ _ (.inl rfl) e,c]
 |set S n=>let#[ob,es,ep,t,e,c]:=x;exact#[ob,es,ep,t,k _ _ (.inl rfl) e,c]
 |ins C dx fs=>
  let#[d,z,ne,e,mA,#[od,es,ep,e2,c],r]:=x;exact#[ho _ d,z,ne,k _ _ (.inl rfl) e,mA,#[od,es,ep,k _ _ (.inr d) e2,c],r]
 |own y=>let#[ob,e]:=x;exact#[ob,k _ _ (.inl rfl) e]
 |xd fs=>let#[mA,#[od,es,ep,e,c],r]:=x;exact#[mA,#[od,es,ep,k _ _ (.inl rfl) e,c],r]
 |rng lo hi=>let#[t,u,v,e]:=x;exact#[t,u,v,k _ _ (.inl rfl) e]
 |frz ob u ih=>let#[e,q]:=x;exact#[k _ _ (.inl rfl) e,ih q]
 |tbl ps=>
  have e:h.get? a=be {cls:=.none,data:=.fields ps}:=x;show h'.get? a=be {cls:=.none,data:=.fields ps};exact k a _ (.inl rfl) e
 |met f y=>
  have e:h.get? a=be (methodObj (.ref f) (.ref y)):=x;show h'.get? a=be (methodObj (.ref f) (.ref y));exact k a _ (.inl rfl) e
 |ext φ=>let#[p,#[o,e],st]:=x;exact#[st _ _ p λo q=>k _ _ (.inl rfl) q,#[o,k _ _ (.inl rfl) e],st]
def HOk.lt(x:HOk P w H h)(e:H a=be o):a<h.objs.size:=(x a o e).lt
def HOk.fresh(x:HOk P w H h)(e:h.objs.size<=a):H a=none:=by
 cases q:H a with
 |none=>rfl
 |some u=>exact absurd (HQ (x.lt q) e) (IJ _)
def HOk.kept(x:HOk P w H h)(k:∀b u,h.get? b=be u->h'.get? b=be u):HOk P w H h':=λa o e=>
 (x a o e).stay (λb u _ q=>k b u q) (λ_ q=>q) λ_ _ q=>q
def HOk.laid(x:HOk P w H h)(k:∀b u,h.get? b=be u->h'.get? b=be u)(hp:h.objs.size<=a)(new:ObjOk P w (upd H a o) h' a o):HOk P w (upd H a o) h':=λb u e=>by
 have hn:=x.fresh hp;by_cases hb:b=a
 .subst hb;rw[aC]at e;cases e;exact new
 .rw[ar hb]at e;exact(x b u e).stay (λc v _ q=>k c v q) (λc q=>by rw[ar (bH q hn)];exact q) λc xs q=>by rw[ar (bH q hn)];exact q
end
def Rd(H:Hp)(a:Pi)(u:HO):Prop:=H a=be u\/∃o,H a=be (.frz o u)
variable{P:U5}{w:U'}{h:Heap}
def Rd.ok{u:HO}(r:Rd H a u)(x:HOk P w H h):ObjOk P w H h a u:=by
 rcases r with r|⟨o,r⟩
 .exact x a u r
 .obtain⟨_,q⟩:=x a _ r;exact q
def Mut:Option HO->Prop
 |some (.lst _)=>True
 |some (.dK _)=>True
 |some (.dT _)=>True
 |some (.set _ _)=>True
 |some (.ins _ _ _)=>True
 |some (.ext _)=>True
 |_=>False
section
variable {P:U5}{w:U'}{H:Hp}{h h':Heap}{x e:Pi}{o':HO}
def HOk.write(ok:HOk P w H h)(mu:Mut (H x))(he:e=x\/H e=be (.own x))(k:∀b u,b≠e->h.get? b=be u->h'.get? b=be u)(La:∃u,h'.get? e=be u)
  (new:ObjOk P w (upd H x o') h' x o'):HOk P w (upd H x o') h':=λb u q=>by
 have nown:∀c y,H c=be (.own y)->c≠x:=λc y r z=>by subst z;rw[r]at mu;exact mu
 have O0:∀c xs,H c=be (.tup xs)->c≠x:=λc xs r z=>by subst z;rw[r]at mu;exact mu
 by_cases hb:b=x
 .subst hb;rw[aC]at q;cases q;exact new
 .rw[ar hb]at q;by_cases L_:b=e
  .have q':H b=be (.own x):=by
    rcases he with z|z
    .exact absurd (L_.trans z) hb
    .rw[L_];exact z
   rw[q]at q';cases q';let#[v,hv]:=La;exact#[v,by rw[L_];exact hv]
  .refine(ok b u q).stay (λc v hc r=>k c v ?_ r) (λc r=>by rw[ar (nown c b r)];exact r) λc xs r=>by rw[ar (O0 c xs r)];exact r
   rcases hc with rfl|hc
   .exact L_
   .rintro rfl;rcases he with z|z
    .exact nown c b hc z
    .rw[hc]at z;cases z;exact hb rfl
end
structure Un(fs ex:List Pi)(H H':Hp)(h h':Heap):Prop where
 keep:∀b o,h.get? b=be o->H b=w6->b∉fs->b∉ex->h'.get? b=be o
 slot:∀b o,h.get? b=be o->H b=w6->b∈fs->b∉ex->∃sl,h'.get? b=be {o with slots:=sl}
 free:∀b o,h.get? b=be o->H b=w6->b∉ex->H' b=w6
 there:∀b o,h.get? b=be o->b∉ex->∃o',h'.get? b=be o'
 tups:∀b xs,H b=be (.tup xs)->H' b=be (.tup xs)
 frzs:∀b o u,H b=be (.frz o u)->H' b=be (.frz o u)
 tbls:∀b ps,H b=be (.tbl ps)->∃more,H' b=be (.tbl (ps++more))
section
variable {fs n5 ex Rv:List Pi}{H H1 H2:Hp}{h h1 h2 h':Heap}{a x e:Pi}{o:HO}
def Un.any(u:Un fs ex H H1 h h1){b:Pi}{ob:Vk}(q:h.get? b=be ob)(n:H b=w6)(hx:b∉ex):∃sl,h1.get? b=be {ob with slots:=sl}:=by
 by_cases hb:b∈fs
 .exact u.slot b ob q n hb hx
 .exact#[ob.slots,u.keep b ob q n hb hx]
def Un.kept(k:∀b u,h.get? b=be u->h'.get? b=be u):Un fs ex H H h h':=
 #[λb ob q _ _ _=>k b ob q,λb ob q _ _ _=>#[ob.slots,k b ob q],λ_ _ _ n _=>n,λb ob q _=>#[ob,k b ob q],λ_ _ q=>q,λ_ _ _ q=>q,λ_ ps q=>#[[].toArray,by rw[q];simp]]
def Un.refl:Un fs ex H H h h:=Un.kept λ_ _ q=>q
def Un.laid(k:∀b u,h.get? b=be u->h'.get? b=be u)(hp:h.objs.size<=a)(hn:H a=w6):Un fs ex H (upd H a o) h h' where
 keep:=λb u q _ _ _=>k b u q
 slot:=λb u q _ _ _=>#[u.slots,k b u q]
 free:=λb u q n _=>by rw[ar (HD (HQ (Heap.lt_size q) hp))];exact n
 there:=λb u q _=>#[u,k b u q]
 tups:=λb xs q=>by rw[ar (bH q hn)];exact q
 frzs:=λb u xs q=>by rw[ar (bH q hn)];exact q
 tbls:=λb ps q=>#[[].toArray,by rw[ar (bH q hn),q];simp]
def Un.write(mu:Mut (H x))(he:e=x\/H e=be (.own x))(k:∀b u,b≠e->h.get? b=be u->h'.get? b=be u)(La:∃u,h'.get? e=be u):Un fs ex H (upd H x o) h h':=by
 have hx:∀b,H b=w6->b≠x:=λb n z=>by subst z;rw[n]at mu;exact mu
 have hb:∀b,H b=w6->b≠e:=λb n z=>by
  subst z;rcases he with r|r
  .exact hx b n r
  .rw[n]at r;cases r
 have hm:∀b u,H b=be u->¬Mut (be u)->b≠x:=λb u q nm z=>by subst z;rw[q]at mu;exact nm mu
 refine⟨λb u q n _ _=>k b u (hb b n) q,λb u q n _ _=>#[u.slots,k b u (hb b n) q],λb u q n _=>by rw[ar (hx b n)];exact n,λb u q _=>?_,
  λb xs q=>by rw[ar (hm b _ q λz=>z)];exact q,λb u xs q=>by rw[ar (hm b _ q λz=>z)];exact q,λb ps q=>#[[].toArray,by rw[ar (hm b _ q λz=>z),q];simp]⟩
 by_cases L_:b=e
 .subst L_;exact La
 .exact#[u,k b u L_ q]
end
def trk(h:Heap)(H:Hp):List Pi:=(HC h.objs.size).filter λa=>(H a).isSome
def hidT(h:Heap)(H:Hp):Heap:=hideAll h (trk h H)
def xq(h:Heap)(H:Hp):(hidT h H).objs.size=h.objs.size:=hideAll_size _ _
def xr{o:Vk}(e:h.get? b=be o)(n:H b=w6):(hidT h H).get? b=be o:=
 hideAll_get _ e λhm=>by
  have q:(H b).isSome=true:=(Ko.mp hm).2;rw[n]at q;simp at q
def xt{o:Vk}(e:(hidT h H).get? b=be o):h.get? b=be o/\H b=none:=by
 have e':h.get? b=be o:=of_hideAll (trk h H) e;refine#[e',?_];cases q:H b with
 |none=>rfl
 |some x=>
  have hm:b∈trk h H:=Ko.mpr #[List.mem_range.mpr (Heap.lt_size e'),by simp[q]];have z:(hidT h H).get? b=none:=hideAll_none (trk h H) hm;rw[z]at e;cases e
structure Mod(K:Ex)(mg:Str->Option Os)(base:Heap):Prop where
 kin:K.In base
 glob:base.Ns SL mg
 blt:∃mb,base.Ns WT mb/\∀x:Lq,x≠"__name__"->mb x=Vl x
 nolimit:base.NoLimit
structure Cx where
 prog:U5
 w:U'
 K:Ex
 mg:Lq->Option Os
 base:Heap
 A:U_
 N:List Lq
 s₀:SB
 H₀:Hp
 env:VP
 outer:List VP
 stack:List VP
 ex:List Pi
 fn:Lq->Bool
 calm:Bool
 pn:List (Pi×Vk)
 xe:Os->SB->Prop
abbrev zSE(X:Cx)(e:U7)(es:List U7):Prop:=U9 (e::es) X.env=(false,Vc e X.env)::U9 es X.env
abbrev zPL(X:Cx)(p:Vf)(es:List U7):Prop:=(VC p (U9 es X.env)).any (·.1)=false
abbrev zHF(X:Cx)(p:Vf)(es:List U7):Prop:=((VC p (U9 es X.env)).all (λx=>!x.1)&&(V_ p (VT [] X.env)).all (λx=>x.1.isSome)&&decide (es.length+([]:List W0).length+(if([]:List W0).isEmpty then 0 else 1)<30))=true
abbrev zFN(X:Cx)(x:Lq):Prop:=X.fn x=true\/X.env.scope.names.lookup x=be .local
abbrev zND(x:Lq):Prop:=(x==("__debug__":Lq))=false
abbrev zNC(x:Lq):Prop:=(x==("__classdict__":Lq))=false
abbrev zFS(X:Cx)(e:U7)(y:Os):Prop:=WX e X.env y=pure y
def frs(l:List VP):List Pi:=l.filterMap (·.frame)
abbrev Cx.fs(X:Cx):List Pi:=frs X.outer
def Vis(sc:Vy)(x:Lq):Prop:=sc.names.lookup x=be .local\/sc.names.lookup x=be .cell\/sc.names.lookup x=be .free
def Loc(sc:Vy)(x:Lq):Prop:=sc.names.lookup x=be .local\/sc.names.lookup x=be .cell
def Look(env:VP)(h:Heap)(m:Lq->Option Os)(x:Lq)(u:Os):Prop:=
 (env.kindOf x=be .local/\m x=be u)\/((env.kindOf x=be .cell\/env.kindOf x=be .free)/\∃c,env.cells.lookup x=be c/\h.IsCell c (be u))
structure Cx.Ok(X:Cx):Prop where
 mod:Mod X.K X.mg X.base
 kind:X.env.scope.kind=.function
 glob:X.env.globals=SL
 blt:X.env.builtins=WT
 above:X.s₀.heap.objs.size<=X.env.locals
 inj:∀x y c,X.env.cells.lookup x=be c->X.env.cells.lookup y=be c->x=y
 has:∀x,(X.env.kindOf x=be .cell\/X.env.kindOf x=be .free)->∃c,X.env.cells.lookup x=be c
 cab:∀x c,X.fn x=true->X.env.cells.lookup x=be c->X.s₀.heap.objs.size<=c
 hd:X.calm=true->X.A.handled=w6
 frames:X.A.frames=be X.stack
 stk:X.stack=X.outer\/(X.stack=X.env::X.outer/\X.env.frame=be X.env.locals)
 exf:∀b∈X.ex,b≠X.env.locals/\∀x c,X.env.cells.lookup x=be c->c≠b
 bs:∀b o,X.base.get? b=be o->X.s₀.heap.get? b=be o/\X.H₀ b=w6
 bsz:X.base.objs.size<=X.s₀.heap.objs.size
 noex:∀b o,X.base.get? b=be o->b∉X.ex
 exfs:∀b∈X.ex,b∉X.fs
 funs:X.s₀.heap.FunFrames X.base X.outer
 frf:∀b∈X.fs,X.H₀ b=w6
structure Inv(X:Cx)(pins:List (Pi×Vk))(σ:List (Option V))(H:Hp)(s:SB):Prop where
 ok:X.Ok
 os:s.os=X.s₀.os
 bare:VU s.gens
 base:Un X.fs X.ex X.H₀ H X.s₀.heap s.heap
 loc:∃m,s.heap.Ns X.env.locals m/\∀(i:Nat) (x:Lq) (v:V),X.N[i]?=be x->σ[i]?=be (be v)->Vis X.env.scope x->∃u,RelV v u/\Look X.env s.heap m x u
 cell:∀x c,X.env.cells.lookup x=be c->∃v,s.heap.IsCell c v
 free:H X.env.locals=w6
 freeC:∀x c,X.env.cells.lookup x=be c->H c=w6
 pin:∀p∈X.pn++pins,s.heap.get? p.1=be p.2/\H p.1=w6/\p.1≠X.env.locals/\p.1∉X.fs/\∀v,p.2.data≠.cell v
 hok:HOk X.prog X.w H s.heap
 len:σ.length=X.N.length
section
variable {X:Cx}{pins:List (Pi×Vk)}{σ:List (Option V)}{H H':Hp}{s:SB}{h':Heap}
def Cx.Ok.nofr(ok:X.Ok){b:Pi}{o:Vk}(e:X.base.get? b=be o):b∉X.fs:=λhb=>by
 have:=(ok.funs.mem hb).1;rw[e]at this;cases this
def Inv.bs(I:Inv X pins σ H s):∀b o,X.base.get? b=be o->s.heap.get? b=be o/\H b=none:=λb o e=>
 #[I.base.keep b o (I.ok.bs b o e).1 (I.ok.bs b o e).2 (I.ok.nofr e) (I.ok.noex b o e),I.base.free b o (I.ok.bs b o e).1 (I.ok.bs b o e).2 (I.ok.noex b o e)]
def Inv.bk(I:Inv X pins σ H s):∀b o,X.base.get? b=be o->s.heap.get? b=be o:=λb o e=>(I.bs b o e).1
def Inv.mod(I:Inv X pins σ H s):Mod X.K X.mg X.base:=I.ok.mod
def Inv.kIn(I:Inv X pins σ H s):X.K.In s.heap:=I.ok.mod.kin.keeps I.bk
def Inv.lt(I:Inv X pins σ H s):X.env.locals<s.heap.objs.size:=let ⟨_,hn,_⟩:=I.loc;hn.lt
def Inv.sz(I:Inv X pins σ H s):X.s₀.heap.objs.size<=s.heap.objs.size:=HG I.ok.above (Jq I.lt)
def Inv.nofs(I:Inv X pins σ H s){a:Pi}(h:s.heap.objs.size<=a):a∉X.fs:=λhb=>by
 let#[_,o,ho,_]:=I.ok.funs.mem hb;exact absurd (HQ (Heap.lt_size ho) (HG I.sz h)) (IJ _)
def Inv.cne(I:Inv X pins σ H s):∀x c,X.env.cells.lookup x=be c->c≠X.env.locals:=λx c e z=>by
 let#[v,o,ho,hd]:=I.cell x c e;let#[m,#[o',es,ep,Ma,g_,_],_]:=I.loc;rw[z,Ma]at ho;cases ho;rw[g_]at hd;cases hd
def Inv.funs(I:Inv X pins σ H s):s.heap.FunFrames X.base X.outer:=by
 have all:∀(l:List VP),(∀b∈frs l,b∈X.fs)->X.s₀.heap.FunFrames X.base l->s.heap.FunFrames X.base l:=by
  intro l;induction l with
  |nil=>intro _ _;trivial
  |cons env r ih=>
   intro hs hl;let#[hk,#[L,o,hf,hn,ho,hd],hr]:=hl;have hL:L∈X.fs:=hs L (by unfold frs;rw[Jr,hf];exact Hy);let#[sl,e]:=I.base.slot L o ho (I.ok.frf L hL) hL λz=>I.ok.exfs L z hL;exact#[hk,#[L,_,hf,hn,e,hd],ih (λb hb=>hs b (by unfold frs;rw[Jr,hf];exact Hz _ hb)) hr]
 exact all X.outer (λ_ hb=>hb) I.ok.funs
def Inv.stack(I:Inv X pins σ H s):s.heap.FunFrames X.base X.stack:=by
 rcases I.ok.stk with e|⟨e,hf⟩
 .rw[e];exact I.funs
 .rw[e];let#[m,hn,_]:=I.loc;refine .cons (by rw[I.ok.kind];decide) hf hn ?_ I.funs;exact Heap.get?_none_of_le (HG I.ok.bsz I.ok.above)
def Inv.stkSub(I:Inv X pins σ H s):∀b∈frs X.stack,b∈X.env.locals::X.fs:=λb hb=>by
 rcases I.ok.stk with e|⟨e,hf⟩
 .rw[e]at hb;exact Hz _ hb
 .rw[e]at hb;unfold frs at hb;rw[Jr,hf]at hb;exact hb
def Inv.stkFree(I:Inv X pins σ H s):∀b∈frs X.stack,H b=none:=λb hb=>by
 rcases Hx.mp (I.stkSub b hb)with e|hb
 .rw[e];exact I.free
 .obtain⟨_,o,ho,_⟩:=I.ok.funs.mem hb;exact I.base.free b o ho (I.ok.frf b hb) λz=>I.ok.exfs b z hb
variable{g':Array WJ}{ch:List Pi}
def Inv.step{t':Nat}{d':Drawn}(I:Inv X pins σ H s)
  (Lb:∀b∈ch,(b∈X.ex\/X.s₀.heap.objs.size<=b)/\b≠X.env.locals/\(∀x c,X.env.cells.lookup x=be c->c≠b)/\∀p∈X.pn++pins,p.1≠b)
  (keep:∀b o,b≠X.env.locals->b∉X.fs->b∉ch->s.heap.get? b=be o->H b=w6->h'.get? b=be o)
  (slot:∀b o,b≠X.env.locals->b∈X.fs->b∉ch->s.heap.get? b=be o->H b=w6->∃sl,h'.get? b=be {o with slots:=sl}) (free:∀b o,b∉ch->s.heap.get? b=be o->H b=w6->H' b=w6)
  (there:∀b o,b∉ch->s.heap.get? b=be o->∃o',h'.get? b=be o')
  (tups:∀b xs,H b=be (.tup xs)->H' b=be (.tup xs)) (frzs:∀b o u,H b=be (.frz o u)->H' b=be (.frz o u)) (tbls:∀b ps,H b=be (.tbl ps)->∃more,H' b=be (.tbl (ps++more)))
  (ns:∀m,s.heap.Ns X.env.locals m->h'.Ns X.env.locals m) (hok:HOk X.prog X.w H' h') (hg:VU g'):
  Inv X pins σ H' {s with heap:=h',gens:=g',drawn:=d',toks:=t'}:=by
 have Rw:∀b o,X.s₀.heap.get? b=be o->b≠X.env.locals:=λb o e=>HD (HQ (Heap.lt_size e) I.ok.above);have Oo:∀b o,X.s₀.heap.get? b=be o->b∉X.ex->b∉ch:=λb o e hx hb=>by
  rcases(Lb b hb).1 with z|z
  .exact hx z
  .exact absurd (HQ (Heap.lt_size e) z) (IJ _)
 have n8:∀x c,X.env.cells.lookup x=be c->∀v,s.heap.IsCell c v->h'.IsCell c v:=λx c e v ⟨o,ho,hd⟩=>by
  have Nh:c∉ch:=λz=>(Lb c z).2.2.1 x c e rfl;by_cases hc:c∈X.fs
  .obtain⟨sl,q⟩:=slot c o (I.cne x c e) hc Nh ho (I.freeC x c e);exact#[_,q,hd]
  .exact#[o,keep c o (I.cne x c e) hc Nh ho (I.freeC x c e),hd]
 refine#[I.ok,I.os,hg,#[λb o e n hb hx=>?_,λb o e n hb hx=>?_,λb o e n hx=>?_,λb o e hx=>?_,λb xs e=>tups b xs (I.base.tups b xs e),λb o xs e=>frzs b o xs (I.base.frzs b o xs e),λb ps e=>?_],?_,λx c e=>?_,?_,λx c e=>?_,λp hp=>?_,hok,I.len]
 .exact keep b o (Rw b o e) hb (Oo b o e hx) (I.base.keep b o e n hb hx) (I.base.free b o e n hx)
 .obtain⟨sl,e1⟩:=I.base.slot b o e n hb hx;let#[n9,e2]:=slot b _ (Rw b o e) hb (Oo b o e hx) e1 (I.base.free b o e n hx);exact#[n9,e2]
 .obtain⟨o',e1⟩:=I.base.there b o e hx;exact free b o' (Oo b o e hx) e1 (I.base.free b o e n hx)
 .obtain⟨o',e1⟩:=I.base.there b o e hx;exact there b o' (Oo b o e hx) e1
 .obtain⟨m1,e1⟩:=I.base.tbls b ps e;let#[m2,e2]:=tbls b _ e1;exact#[m1++m2,by rw[e2,Array.append_assoc]]
 .obtain⟨m,hn,hl⟩:=I.loc;refine#[m,ns m hn,λi x v e1 e2 e3=>?_];let#[u,r,l]:=hl i x v e1 e2 e3;refine#[u,r,?_];rcases l with l|⟨k,c,e,z⟩
  .exact .inl l
  .exact .inr #[k,c,e,n8 x c e _ z]
 .obtain⟨v,z⟩:=I.cell x c e;exact#[v,n8 x c e v z]
 .obtain⟨m,⟨o,_,_,ho,_⟩,_⟩:=I.loc;exact free _ o (λz=>(Lb _ z).2.1 rfl) ho I.free
 .obtain⟨v,o,ho,hd⟩:=I.cell x c e;exact free c o (λz=>(Lb c z).2.2.1 x c e rfl) ho (I.freeC x c e)
 .obtain⟨e,n,ne,nf,d⟩:=I.pin p hp;have Nh:p.1∉ch:=λz=>(Lb p.1 z).2.2.2 p hp rfl;exact#[keep p.1 p.2 ne nf Nh e n,free p.1 p.2 Nh e n,ne,nf,d]
def Inv.un{t':Nat}(I:Inv X pins σ H s)(u:Un X.fs [] H H' s.heap h')(hok:HOk X.prog X.w H' h'):Inv X pins σ H' {s with heap:=h',toks:=t'}:=by
 let#[m,#[o,es,ep,ho,r],_]:=id I.loc;let#[sl,hL]:=u.any ho I.free Mn;exact I.step (g':=s.gens) (d':=s.drawn) (ch:=[]) (λ_ z=>nomatch z) (λb o _ hb _ e n=>u.keep b o e n hb Mn) (λb o _ hb _ e n=>u.slot b o e n hb Mn) (λb o _ e n=>u.free b o e n Mn) (λb o _ e=>u.there b o e Mn) u.tups u.frzs u.tbls (λm' hm=>by
  let#[o',O1,O2,Ma,r']:=hm;rw[ho]at Ma;cases Ma;exact#[_,O1,O2,hL,r']) hok I.bare
def Inv.call{t':Nat}{d':Drawn}(I:Inv X pins σ H s)(u:Un (frs X.stack) ch H H' s.heap h')(hok:HOk X.prog X.w H' h')(hg:VU g')
  (Lb:∀b∈ch,(b∈X.ex\/X.s₀.heap.objs.size<=b)/\b≠X.env.locals/\(∀x c,X.env.cells.lookup x=be c->c≠b)/\∀p∈X.pn++pins,p.1≠b):
  Inv X pins σ H' {s with heap:=h',gens:=g',drawn:=d',toks:=t'}:=by
 let#[m,#[o,es,ep,ho,r],_]:=id I.loc;let#[sl,hL]:=u.any ho I.free λz=>(Lb _ z).2.1 rfl;exact I.step (ch:=ch) Lb (λb o hL hb hc e n=>u.keep b o e n (λz=>(Hx.mp (I.stkSub b z)).elim hL hb) hc) (λb o _ _ hc e n=>u.any e n hc) (λb o hc e n=>u.free b o e n hc) (λb o hc e=>u.there b o e hc) u.tups u.frzs u.tbls (λm' hm=>by
  let#[o',O1,O2,Ma,r']:=hm;rw[ho]at Ma;cases Ma;exact#[_,O1,O2,hL,r']) hok hg
def Inv.turned{t':Nat}{it:Pi}(I:Inv X pins σ H s)(k:∀b o,b≠it->s.heap.get? b=be o->h'.get? b=be o)(hn:H it=w6)(hL:it≠X.env.locals)
  (h1:it∈X.ex\/X.s₀.heap.objs.size<=it) (h2:∀x c,X.env.cells.lookup x=be c->c≠it) (h3:∀p∈X.pn++pins,p.1≠it):Inv X pins σ H {s with heap:=h',toks:=t'}:=by
 have Mb:∀b u,H b=be u->b≠it:=λb u e z=>by rw[z,hn]at e;cases e
 refine I.step (g':=s.gens) (d':=s.drawn) (ch:=[it]) (λb hb=>?_) (λb o _ _ hc e _=>k b o (λz=>hc (by simp[z])) e) (λb o _ _ hc e _=>#[o.slots,k b o (λz=>hc (by simp[z])) e]) (λ_ _ _ _ n=>n)
  (λb o hc e=>#[o,k b o (λz=>hc (by simp[z])) e]) (λ_ _ e=>e) (λ_ _ _ e=>e) (λb ps e=>#[[].toArray,by rw[e];simp]) (λm hm=>?_) (λb u e=>?_) I.bare
 .have e:b=it:=by simpa using hb
  subst e;exact#[h1,hL,h2,h3]
 .obtain⟨o,es,ep,ho,r⟩:=hm;exact#[o,es,ep,k _ o (Ne.symm hL) ho,r]
 .refine(I.hok b u e).stay (λc v hc q=>k c v ?_ q) (λ_ q=>q) λ_ _ q=>q;rcases hc with z|z
  .rw[z];exact Mb b u e
  .exact Mb c _ z
def Inv.tok(I:Inv X pins σ H s)(t:Nat):Inv X pins σ H {s with toks:=t}:=I.un (h':=s.heap) (t':=t) Un.refl I.hok
def Inv.kept{t':Nat}(I:Inv X pins σ H s)(k:∀b u,s.heap.get? b=be u->h'.get? b=be u):Inv X pins σ H {s with heap:=h',toks:=t'}:=I.un (Un.kept k) (I.hok.kept k)
def Inv.laid{a:Pi}{o:HO}{t':Nat}(I:Inv X pins σ H s)(k:∀b u,s.heap.get? b=be u->h'.get? b=be u)(hp:s.heap.objs.size<=a)(new:ObjOk X.prog X.w (upd H a o) h' a o):
  Inv X pins σ (upd H a o) {s with heap:=h',toks:=t'}:=I.un (Un.laid k hp (I.hok.fresh hp)) (I.hok.laid k hp new)
def Inv.write{x e:Pi}{o:HO}{t':Nat}(I:Inv X pins σ H s)(mu:Mut (H x))(he:e=x\/H e=be (.own x))(k:∀b u,b≠e->s.heap.get? b=be u->h'.get? b=be u)(La:∃u,h'.get? e=be u)
  (new:ObjOk X.prog X.w (upd H x o) h' x o):Inv X pins σ (upd H x o) {s with heap:=h',toks:=t'}:=I.un (Un.write mu he k La) (I.hok.write mu he k La new)
def Inv.pins_of{LS:List (Pi×Vk)}(I:Inv X pins σ H s)(h:∀p∈LS,s.heap.get? p.1=be p.2/\H p.1=w6/\p.1≠X.env.locals/\p.1∉X.fs/\∀v,p.2.data≠.cell v):Inv X LS σ H s:=
 #[I.ok,I.os,I.bare,I.base,I.loc,I.cell,I.free,I.freeC,λp hp=>(HX.mp hp).elim (λz=>I.pin p (IR _ z)) (h p),I.hok,I.len]
variable{x:Lq}{i:Nat}
def jA{N:List Lq}(hN:N.Nodup){j:Nat}(a:N[i]?=be x)(b:N[j]?=be x):i=j:=by
 let#[h1,e1]:=HJ.mp a;let#[h2,e2]:=HJ.mp b;exact(List.getElem_inj hN).mp (e1.trans e2.symm)
variable{E:Os->SB->Prop}{Q:Unit->SB->Prop}
def pX{M:WI}{A:U_}{v:V}{u:Os}(I:Inv X pins σ H s)(hN:X.N.Nodup)(hi:X.N[i]?=be x)(hx:Loc X.env.scope x)(r:RelV v u)
  (h:∀s',Inv X pins (σ.set i (be v)) H s'->(∃a,Heap.SameBut a s.heap s'.heap/\(a=X.env.locals\/X.env.cells.lookup x=be a))->Q () s') (hf:zFN X x\zA2):U8 M A (storeName X.env x u) Q E s:=by
 let#[m,hn,hl]:=id I.loc;have z6:(X.env.scope.kind== .class||(X.env.scope.kind== .module&&X.env.locals !=X.env.globals))=false:=by rw[I.ok.kind];rfl
 have hiσ:i<σ.length:=by rw[I.len];exact(HJ.mp hi).1
 have cne:=I.cne;have g9:∀{a:Pi} {h':Heap},(∃o,s.heap.get? a=be o/\H a=w6)->Heap.SameBut a s.heap h'->HOk X.prog X.w H h':=λ{a h'} ha hs b ob e=>by
  let#[_,_,m5]:=ha;refine(I.hok b ob e).stay (λc w' hc q=>(hs.2 c ?_).trans q) (λ_ q=>q) λ_ _ q=>q;intro rfl;rcases hc with rfl|hc
  .rw[m5]at e;cases e
  .rw[m5]at hc;cases hc
 rcases hx with hk|hk
 .refine wpAny_storeName_local hk hn (λh' i_ hs=>?_) z6;let#[oL,_,_,Rx,_]:=id hn;refine h _ #[I.ok,I.os,I.bare,#[λb o e n hb hx=>?_,λb o e n hb hx=>?_,I.base.free,λb o e hx=>?_,I.base.tups,I.base.frzs,I.base.tbls],#[_,i_,λj y v' e1 e2 e3=>?_],λy c e=>?_,I.free,I.freeC,λp hp=>?_,g9 #[oL,Rx,I.free] hs,by simpa using I.len] #[_,hs,.inl rfl]
  .exact(hs.2 b (HD (HQ (Heap.lt_size e) I.ok.above))).trans (I.base.keep b o e n hb hx)
  .obtain⟨sl,e1⟩:=I.base.slot b o e n hb hx;exact#[sl,(hs.2 b (HD (HQ (Heap.lt_size e) I.ok.above))).trans e1]
  .obtain⟨o',e1⟩:=I.base.there b o e hx;exact#[o',(hs.2 b (HD (HQ (Heap.lt_size e) I.ok.above))).trans e1]
  .by_cases hj:j=i
   .subst hj;rw[hi]at e1;cases e1;rw[Ij hiσ]at e2;cases e2;exact#[u,r,.inl #[hk,Mn]]
   .rw[HL (Ne.symm hj)]at e2;let#[u',r',q]:=hl j y v' e1 e2 e3;refine#[u',r',?_];rcases q with⟨k,e⟩|⟨k,c,e,z⟩
    .refine .inl #[k,?_];have:y≠x:=λe=>hj (jA hN e1 (e ▸ hi));simp[this,e]
    .exact .inr #[k,c,e,z.sameBut hs (cne y c e)]
  .obtain⟨w',z⟩:=I.cell y c e;exact#[w',z.sameBut hs (cne y c e)]
  .obtain⟨e,n,ne,nf,d⟩:=I.pin p hp;exact#[(hs.2 p.1 ne).trans e,n,ne,nf,d]
 .have Ni:X.fn x=true:=by
   rcases hf with z|z
   .exact z
   .rw[z]at hk;cases hk
  let#[c,hc]:=I.ok.has x (.inl hk);let#[w',z]:=I.cell x c hc;refine wpAny_storeName_cell I.ok.kind hk hc z (λh' Ld hs=>?_);let#[oc,Ry,O3]:=id z;refine h {s with heap:=h'} #[I.ok,I.os,I.bare,#[λb o e n hb hx=>?_,λb o e n hb hx=>?_,I.base.free,λb o e hx=>?_,I.base.tups,I.base.frzs,I.base.tbls],#[m,hn.sameBut hs (Ne.symm (cne x c hc)),λj y v' e1 e2 e3=>?_],λy c' e=>?_,I.free,I.freeC,λp hp=>?_,g9 #[oc,Ry,I.freeC x c hc] hs,by simpa using I.len] #[c,hs,.inr hc]
  .exact(hs.2 b (HD (HQ (Heap.lt_size e) (I.ok.cab x c Ni hc)))).trans (I.base.keep b o e n hb hx)
  .obtain⟨sl,e1⟩:=I.base.slot b o e n hb hx;exact#[sl,(hs.2 b (HD (HQ (Heap.lt_size e) (I.ok.cab x c Ni hc)))).trans e1]
  .obtain⟨o',e1⟩:=I.base.there b o e hx;exact#[o',(hs.2 b (HD (HQ (Heap.lt_size e) (I.ok.cab x c Ni hc)))).trans e1]
  .by_cases hj:j=i
   .subst hj;rw[hi]at e1;cases e1;rw[Ij hiσ]at e2;cases e2;exact#[u,r,.inr #[.inl hk,c,hc,Ld]]
   .rw[HL (Ne.symm hj)]at e2;let#[u',r',q]:=hl j y v' e1 e2 e3;refine#[u',r',?_];rcases q with q|⟨k,c',e,z'⟩
    .exact .inl q
    .refine .inr #[k,c',e,z'.sameBut hs ?_];intro rfl;exact hj (jA hN e1 (I.ok.inj _ _ _ e hc ▸ hi))
  .by_cases Rz:c'=c
   .subst Rz;exact#[_,Ld]
   .obtain⟨w2,z2⟩:=I.cell y c' e;exact#[w2,z2.sameBut hs Rz]
  .obtain⟨e,n,ne,nf,d⟩:=I.pin p hp;refine#[(hs.2 p.1 ?_).trans e,n,ne,nf,d];intro q;rw[q,Ry]at e;have q':oc=p.2:=Option.some.inj e;exact d w' (by rw[<-q'];exact O3)
def eU{M:WI}{A:U_}{v:V}{u:Os}(I:Inv X pins σ H s)(hN:X.N.Nodup)(hi:X.N[i]?=be x)(hx:Loc X.env.scope x)(r:RelV v u)
  (h:∀s',Inv X pins (σ.set i (be v)) H s'->Q () s') (hf:zFN X x\zA2):U8 M A (storeName X.env x u) Q E s:=
 pX I hN hi hx r (λs' I' _=>h s' I') hf
def Inv.call'{s':SB}(I:Inv X pins σ H s)(ho:s'.os=s.os)(u:Un (frs X.stack) ch H H' s.heap s'.heap)(hok:HOk X.prog X.w H' s'.heap)(hg:VU s'.gens)
  (Lb:∀b∈ch,(b∈X.ex\/X.s₀.heap.objs.size<=b)/\b≠X.env.locals/\(∀x c,X.env.cells.lookup x=be c->c≠b)/\∀p∈X.pn++pins,p.1≠b):Inv X pins σ H' s':=by
 let#[h',g',d',t',o']:=s';have e:o'=s.os:=ho;subst e;exact I.call (g':=g') (t':=t') (d':=d') u hok hg Lb
end
abbrev XK:=Os->Option Pi->Hp->Prop
abbrev St:=List (Option V)
abbrev VK:=V->Hp->Prop
abbrev TE:=St->Hp->VK->Prop
abbrev TT:=St->Hp->(Bool->Hp->Prop)->Prop
abbrev TA:=St->Hp->(List V->Hp->Prop)->Prop
structure Ends where
 nx:St->Hp->Prop
 rt:VK
 bk:St->Hp->Prop:=λ_ _=>False
 ct:St->Hp->Prop:=λ_ _=>False
abbrev TS:=Ends->St->Hp->Prop
def EP(X:Cx)(pins:List (Pi×Vk))(σ:St)(Q:VK)(u:Os)(s':SB):Prop:=∃v H',Inv X pins σ H' s'/\RelV v u/\Q v H'
def TP(X:Cx)(pins:List (Pi×Vk))(σ:St)(Q:Bool->Hp->Prop)(b:Bool)(s':SB):Prop:=∃H',Inv X pins σ H' s'/\Q b H'
def AP(X:Cx)(pins:List (Pi×Vk))(σ:St)(Q:List V->Hp->Prop)(us:List Os)(s':SB):Prop:=∃vs H',Inv X pins σ H' s'/\Vals vs us/\Q vs H'
def SP(X:Cx)(pins:List (Pi×Vk))(D:Ends)(f:Flow)(s':SB):Prop:=
 match f with
 |.next=>∃σ' H',Inv X pins σ' H' s'/\D.nx σ' H'
 |.brk=>∃σ' H',Inv X pins σ' H' s'/\D.bk σ' H'
 |.cont=>∃σ' H',Inv X pins σ' H' s'/\D.ct σ' H'
 |.ret u=>∃v σ' H',Inv X pins σ' H' s'/\RelV v u/\D.rt v H'
def PE(X:Cx)(e:U7)(t:TE):Prop:=
 ∀(pins:List (Pi×Vk)) (s:SB) (σ:St) (H:Hp) (Q:VK),Inv X pins σ H s->t σ H Q->U8 (U4 X.prog X.w) X.A (Vc e X.env) (EP X pins σ Q) X.xe s
def PT(X:Cx)(e:U7)(t:TT):Prop:=
 ∀(pins:List (Pi×Vk)) (s:SB) (σ:St) (H:Hp) (Q:Bool->Hp->Prop),Inv X pins σ H s->t σ H Q->U8 (U4 X.prog X.w) X.A (isTrue e X.env (Vc e X.env)) (TP X pins σ Q) X.xe s
def PW(X:Cx)(e:U7)(t:TT):Prop:=
 ∀(g5:WB Os) (pins:List (Pi×Vk)) (s:SB) (σ:St) (H:Hp) (Q:Bool->Hp->Prop),Inv X pins σ H s->t σ H Q->U8 (U4 X.prog X.w) X.A (isTrue e X.env g5) (TP X pins σ Q) X.xe s
variable{X:Cx}
def PW.pt{e:U7}{t:TT}(h:PW X e t):PT X e t:=h _
def PA(X:Cx)(es:List U7)(t:TA):Prop:=
 ∀(pos:Vf) (pins:List (Pi×Vk)) (s:SB) (σ:St) (H:Hp) (Q:List V->Hp->Prop),Inv X pins σ H s->t σ H Q->U8 (U4 X.prog X.w) X.A (spliced (VC pos (U9 es X.env))) (AP X pins σ Q) X.xe s
def PS(X:Cx)(st:U6)(t:TS):Prop:=
 ∀(pins:List (Pi×Vk)) (s:SB) (σ:St) (H:Hp) (D:Ends),Inv X pins σ H s->t D σ H->U8 (U4 X.prog X.w) X.A (exec st X.env) (SP X pins D) X.xe s
def PSs(X:Cx)(st:List U6)(t:TS):Prop:=
 ∀(pins:List (Pi×Vk)) (s:SB) (σ:St) (H:Hp) (D:Ends),Inv X pins σ H s->t D σ H->U8 (U4 X.prog X.w) X.A (execs st X.env) (SP X pins D) X.xe s
variable{A:U_}{E:Os->SB->Prop}{s:SB}
def thn{α:Type}{t:WB α}{Q Q':α->SB->Prop}{M:WI}(h:U8 M A t Q E s)(hQ:∀a s,Q a s->Q' a s):U8 M A t Q' E s:=Vj h hQ λ_ _ x=>x
section
variable {X:Cx}
def tVar(i:Nat):TE:=λσ H Q=>∃v,σ[i]?=be (be v)/\Q v H
def tC(v:V):TE:=λ_ H Q=>Q v H
variable{x:Lq}{pos:Vf}
def dm{i:Nat}(hN:X.N[i]?=be x)(hv:Vis X.env.scope x)(hd:zND x\zA1)(h_:zNC x\zA1):PE X (.Name x pos) (tVar i):=by
 intro pins s σ H Q I h;let#[v,e,h]:=h;let#[m,hn,hl]:=I.loc;let#[u,r,l]:=hl i x v hN e hv;have f6:EP X pins σ Q u s:=#[v,H,I,r,h];rcases l with⟨hk,hm⟩|⟨hk,c,hc,n_⟩
 .exact WO (wpAny_loadName_local I.ok.kind hk hn hm f6) hd
 .rcases hk with hk|hk
  .exact WO (wpAny_loadName_cell I.ok.kind hk hc n_ f6) hd
  .exact WO (wpAny_loadName_free I.ok.kind hk hc n_ f6 h_) hd
def xu{i j pos}:PE X (.Constant (.int i) j pos) (tC (.int i)):=λ_ _ _ H _ I h=>wpAny_Constant_int #[.int i,H,I.tok _,#[_,rfl],h]
def xw{b j pos}:PE X (.Constant (.bool b) j pos) (tC (.bl b)):=λ_ _ _ H _ I h=>Constant_bool #[.bl b,H,I,rfl,h]
def xx{j pos}:PE X (.Constant .none j pos) (tC .non):=λ_ _ _ H _ I h=>Constant_none #[.non,H,I,rfl,h]
def pY{x j pos}:PE X (.Constant (.str x) j pos) (tC (.str x)):=λ_ _ _ H _ I h=>Calls.Constant_str #[.str x,H,I.tok _,#[_,rfl],h]
def Gl(X:Cx)(x:Lq):Prop:=X.env.kindOf x=be .globalImplicit
variable{E Q:Os->SB->Prop}{pins:List (Pi×Vk)}{u:Os}
def ck{s:SB}{σ:St}{H:Hp}(I:Inv X pins σ H s)(hg:Gl X x)(hm:X.mg x=be u)(h:Q u s)
  (hd:zND x\zA1):U8 (U4 X.prog X.w) X.A (Vc (.Name x pos) X.env) Q E s:=
 Calls.Name_function_global I.ok.kind hg (Calls.loadGlobal_global (by rw[I.ok.glob];exact I.mod.glob.keeps I.bk) hm h) hd
def dQ{s:SB}{σ:St}{H:Hp}(I:Inv X pins σ H s)(hg:Gl X x)(hm:X.mg x=w6)(hv:Vl x=be u)(h:Q u s)
  (hn:(x≠"__name__")\zA1) (hd:zND x\zA1):U8 (U4 X.prog X.w) X.A (Vc (.Name x pos) X.env) Q E s:=by
 let#[mb,h1,h2]:=I.mod.blt;exact Calls.Name_function_global I.ok.kind hg (Calls.loadGlobal_builtin (by rw[I.ok.glob];exact I.mod.glob.keeps I.bk) hm (by rw[I.ok.blt];exact h1.keeps I.bk) ((h2 x hn).trans hv) h) hd
def pZ{v:V}(hg:Gl X x)(hm:X.mg x=be u)(r:RelV v u)(hd:zND x\zA1):PE X (.Name x pos) (tC v):=
 λ_ _ _ H _ I h=>ck I hg hm #[v,H,I,r,h] hd
def jB{v:V}(hg:Gl X x)(hm:X.mg x=w6)(hv:Vl x=be u)(r:RelV v u)(hn:(x≠"__name__")\zA1)(hd:zND x\zA1):PE X (.Name x pos) (tC v):=
 λ_ _ _ H _ I h=>dQ I hg hm hv #[v,H,I,r,h] hn hd
variable {a b:U7}{ta tb:TE}{pos:Vf}
variable {tA Ln:TT}{rest:List U7}
def tAnd(t u:TT):TT:=λσ H Q=>t σ H λc H1=>if c=true then u σ H1 Q else Q false H1
def tOr(t u:TT):TT:=λσ H Q=>t σ H λc H1=>if c=true then Q true H1 else u σ H1 Q
def tNot(t:TT):TT:=λσ H Q=>t σ H λc H1=>Q (!c) H1
def qc(ha:PT X a tA):PW X (.BoolOp .And [a] pos) tA:=by
 intro wh pins s σ H Q I h;refine isTrue_and (thn (ha pins s σ H Q I h) λc s1 e=>?_);cases c with
 |true=>exact isTrue_and_nil e
 |false=>exact e
def qd(ha:PT X a tA):PW X (.BoolOp .Or [a] pos) tA:=by
 intro wh pins s σ H Q I h;refine isTrue_or (thn (ha pins s σ H Q I h) λc s1 e=>?_);cases c with
 |false=>exact isTrue_or_nil e
 |true=>exact e
def qe(ha:PT X a tA)(hb:PW X (.BoolOp .And (b::rest) pos) Ln):PW X (.BoolOp .And (a::b::rest) pos) (tAnd tA Ln):=by
 intro wh pins s σ H Q I h;refine isTrue_and (thn (ha pins s σ H _ I h) λc s1 c7=>?_);let#[H1,I1,q1]:=c7;cases c with
 |true=>exact hb wh pins s1 σ H1 Q I1 q1
 |false=>exact#[H1,I1,q1]
def qf(ha:PT X a tA)(hb:PW X (.BoolOp .Or (b::rest) pos) Ln):PW X (.BoolOp .Or (a::b::rest) pos) (tOr tA Ln):=by
 intro wh pins s σ H Q I h;refine isTrue_or (thn (ha pins s σ H _ I h) λc s1 c7=>?_);let#[H1,I1,q1]:=c7;cases c with
 |true=>exact#[H1,I1,q1]
 |false=>exact hb wh pins s1 σ H1 Q I1 q1
def qg(ha:PT X a tA):PT X (.UnaryOp .Not a pos) (tNot tA):=by
 intro pins s σ H Q I h;exact isTrue_not (ha pins s σ H (λc H1=>Q (!c) H1) I h)
def xy(ta tb:TE):TE:=λσ H Q=>ta σ H λx H1=>∃c,x=.bl c/\if c=true then tb σ H1 Q else Q (.bl false) H1
def xz(ta:TE):TE:=λσ H Q=>ta σ H λx H1=>∃c,x=.bl c/\Q (.bl (!c)) H1
def xA{op}{t:TE}(h:PE X a t):PE X (.BoolOp op [a] pos) t:=λpins s σ H Q I hw=>BoolOp_one (h pins s σ H Q I hw)
def xB(ha:PE X a ta)(hb:PE X (.BoolOp .And (b::rest) pos) tb):PE X (.BoolOp .And (a::b::rest) pos) (xy ta tb):=by
 intro pins s σ H Q I h;refine BoolOp_and (thn (ha pins s σ H _ I h) λv s1 c7=>?_);let#[x,H1,I1,r1,q1]:=c7;let#[c,rfl,q1]:=q1;cases r1;refine VQ ?_;cases c with
 |true=>exact hb pins s1 σ H1 Q I1 q1
 |false=>exact#[.bl false,H1,I1,rfl,q1]
def xC(ha:PE X a ta):PE X (.UnaryOp .Not a pos) (xz ta):=by
 intro pins s σ H Q I h;refine UnaryOp_ (thn (ha pins s σ H _ I h) λv s1 c7=>?_);let#[x,H1,I1,r1,q1]:=c7;let#[c,rfl,q1]:=q1;cases r1;exact not_of (VQ #[.bl (!c),H1,I1,rfl,q1])
def tIf(t:TT)(ta tb:TE):TE:=λσ H Q=>t σ H λc H1=>if c=true then ta σ H1 Q else tb σ H1 Q
def xD{c:U7}(hc:PT X c tA)(ha:PE X a ta)(hb:PE X b tb):PE X (.IfExp c a b pos) (tIf tA ta tb):=by
 intro pins s σ H Q I h;refine wpAny_IfExp (thn (hc pins s σ H _ I h) λd s1 c7=>?_);let#[H1,I1,q1]:=c7;cases d with
 |true=>exact ha pins s1 σ H1 Q I1 q1
 |false=>exact hb pins s1 σ H1 Q I1 q1
end
def SqL(K:Ex)(H:Hp)(a:Pi)(xs:List V):Prop:=
 Rd H a (.lst xs)\/
  ∃(o:Vk) (its:Array Os) (n:Nat),K.lookup a=be o/\o.cls=.type "list"/\o.dict=w6/\o.data=.seq its n/\its.size<=sizeLine/\Vals xs its.toList
def SqT(K:Ex)(H:Hp)(a:Pi)(xs:List V):Prop:=
 Rd H a (.tup xs)\/
  ∃(o:Vk) (its:Array Os) (n:Nat),K.lookup a=be o/\o.cls=.type "tuple"/\o.data=.seq its n/\its.size<=sizeLine/\Vals xs its.toList
def absV:Os->Option V
 |.none=>be .non
 |.bool b=>be (.bl b)
 |.int i _=>be (.int i)
 |.str x _=>be (.str x)
 |.bytes b _=>be (.byt b)
 |.float b _=>be (.flt b)
 |.ref a=>be (.ref a)
 |.type n=>be (.ty n)
 |_=>w6
variable{u:Os}
def RelV.abs{x:V}(r:RelV x u):absV u=be x:=by
 cases x with
 |non=>cases r;rfl
 |bl _=>cases r;rfl
 |int _=>let#[t,rfl]:=r;rfl
 |str _=>let#[t,rfl]:=r;rfl
 |byt _=>let#[t,rfl]:=r;rfl
 |flt _=>let#[t,rfl]:=r;rfl
 |ref _=>cases r;rfl
 |ty _=>cases r;rfl
def RelV.inj{x y:V}(r:RelV x u)(q:RelV y u):x=y:=Option.some.inj (r.abs.symm.trans q.abs)
def Vals.inj:∀{xs ys:List V} {us:List Os},Vals xs us->Vals ys us->xs=ys:=by
 intro xs ys us h;induction h generalizing ys with
 |nil=>intro g;cases g;rfl
 |cons r _ e=>
  intro g;cases g with
  |cons r' t'=>rw[r.inj r',e t']
section
variable {X:Cx}{pins:List (Pi×Vk)}{σ:St}{H:Hp}{s:SB}{a:Pi}{xs ys:List V}
def SqL.of{K:Ex}(h:H a=be (.lst xs)):SqL K H a xs:=.inl (.inl h)
def SqT.of{K:Ex}(h:H a=be (.tup xs)):SqT K H a xs:=.inl (.inl h)
def Inv.list(I:Inv X pins σ H s)(h:SqL X.K H a xs):∃its:List Os,Vals xs its/\PlainL s.heap a its.toArray/\xs.length<=sizeLine:=by
 rcases h with h|⟨o,its,n,hk,hc,hd,hs,hz,r⟩
 .obtain⟨z,its,n,r,e⟩:=h.ok I.hok;exact#[its,r,#[_,n,e,rfl,rfl,rfl],z]
 .refine#[its.toList,r,#[o,n,I.kIn a o hk,hc,hd,by simpa using hs],?_];have e:=r.length;simp only[Js]at e;lia
def Inv.tuple(I:Inv X pins σ H s)(h:SqT X.K H a xs):∃its:List Os,Vals xs its/\IsTup s.heap a its.toArray/\xs.length<=sizeLine:=by
 rcases h with h|⟨o,its,n,hk,hc,hs,hz,r⟩
 .obtain⟨z,its,r,p⟩:=h.ok I.hok;exact#[its,r,p,z]
 .refine#[its.toList,r,#[o,I.kIn a o hk,hc,n,by simpa using hs],?_];have e:=r.length;simp only[Js]at e;lia
def Inv.list_inj(I:Inv X pins σ H s)(h:SqL X.K H a xs)(h':SqL X.K H a ys):xs=ys:=by
 let#[its,r,#[o,n,e,_,_,d],_]:=I.list h;let#[its',r',#[o',n',e',_,_,d'],_]:=I.list h';rw[e]at e';cases e';rw[d]at d';injection d' with d1 _;have:its=its':=by simpa using congrArg Array.toList d1
 subst this;exact r.inj r'
end
abbrev Cx.wish(X:Cx)(E:Os->SB->Prop):Cx:={X with xe:=E}
abbrev Cx.nox(X:Cx):Cx:=X.wish λ_ _=>False
def Cx.Ok.wish(ok:X.Ok)(E:Os->SB->Prop):(X.wish E).Ok:=
 #[ok.mod,ok.kind,ok.glob,ok.blt,ok.above,ok.inj,ok.has,ok.cab,ok.hd,ok.frames,ok.stk,ok.exf,ok.bs,ok.bsz,ok.noex,ok.exfs,ok.funs,ok.frf]
def Cx.Ok.unwish(ok:(X.wish E).Ok):X.Ok:=
 #[ok.mod,ok.kind,ok.glob,ok.blt,ok.above,ok.inj,ok.has,ok.cab,ok.hd,ok.frames,ok.stk,ok.exf,ok.bs,ok.bsz,ok.noex,ok.exfs,ok.funs,ok.frf]
section
variable {X:Cx}{pins:List (Pi×Vk)}{σ:St}{H:Hp}{s:SB}{E:Os->SB->Prop}
def Inv.wish(I:Inv X pins σ H s)(E:Os->SB->Prop):Inv (X.wish E) pins σ H s:=#[I.ok.wish E,I.os,I.bare,I.base,I.loc,I.cell,I.free,I.freeC,I.pin,I.hok,I.len]
def Inv.unwish(I:Inv (X.wish E) pins σ H s):Inv X pins σ H s:=#[I.ok.unwish,I.os,I.bare,I.base,I.loc,I.cell,I.free,I.freeC,I.pin,I.hok,I.len]
def SP.unwish{D:Ends}{f:Flow}{s':SB}(h:SP (X.wish E) pins D f s'):SP X pins D f s':=by
 cases f with
 |next=>let#[σ',H',I,q]:=h;exact#[σ',H',I.unwish,q]
 |brk=>let#[σ',H',I,q]:=h;exact#[σ',H',I.unwish,q]
 |cont=>let#[σ',H',I,q]:=h;exact#[σ',H',I.unwish,q]
 |ret u=>let#[v,σ',H',I,r,q]:=h;exact#[v,σ',H',I.unwish,r,q]
def PSs.nox{st:List U6}{t:TS}(h:PSs X.nox st t):PSs X st t:=λpins s σ H D I hw=>
 Vj (h pins s σ H D (I.wish _) hw) (λ_ _ q=>q.unwish) λ_ _ z=>False.elim z
end
section
variable {X:Cx}{st:U6}{rest:List U6}{t u:TS}{e:U7}{te:TE}{pos:Vf}
def xE:TS:=λD σ H=>D.nx σ H
def tSeq(t u:TS):TS:=λD σ H=>t {D with nx:=u D} σ H
def pss_nil:PSs X [] xE:=λ_ _ σ H _ I h=>VL #[σ,H,I,h]
def fT(h1:PS X st t)(h2:PSs X rest u):PSs X (st::rest) (tSeq t u):=by
 intro pins s σ H D I h;refine wpAny_execs_cons (thn (h1 pins s σ H {D with nx:=u D} I h) λf s1 q=>?_);cases f with
 |next=>
  let#[σ',H',I',q]:=q;exact h2 pins s1 σ' H' D I' q
 |ret v=>exact q
 |brk=>exact q
 |cont=>exact q
def qh(h1:PS X st t):PSs X [st] t:=by
 intro pins s σ H D I h;refine wpAny_execs_cons (thn (h1 pins s σ H D I h) λf s1 q=>?_);cases f with
 |next=>exact VL q
 |ret v=>exact q
 |brk=>exact q
 |cont=>exact q
def Inv.quiet{pins:List (Pi×Vk)}{σ:St}{H:Hp}{s:SB}(I:Inv X pins σ H s):interactive X.env=false:=by simp[interactive,I.ok.kind]
def xF(te:TE):TS:=λD σ H=>te σ H λ_ H1=>D.nx σ H1
def jC(he:PE X e te)(hs:(Vn e w6 pos.line X.env=pure false)\zA0):PS X (.Expr e pos) (xF te):=by
 intro pins s σ H D I h;exact wpAny_Expr_any (thn (he pins s σ H _ I h) λv s1 ⟨x,H1,I1,r1,q1⟩=>#[σ,H1,I1,q1]) I.quiet hs
def tRet(te:TE):TS:=λD σ H=>te σ H D.rt
def qi(he:PE X e te):PS X (.Return (be e) pos) (tRet te):=by
 intro pins s σ H D I h;exact wpAny_Return_some (thn (he pins s σ H _ I h) λv s1 ⟨x,H1,I1,r1,q1⟩=>#[x,σ,H1,I1,r1,q1])
def tIfS(c:TT)(t u:TS):TS:=λD σ H=>c σ H λb H1=>if b=true then t D σ H1 else u D σ H1
def qj{c:U7}{a b:List U6}{tc:TT}(hc:PT X c tc)(ha:PSs X a t)(hb:PSs X b u):PS X (.If c a b pos) (tIfS tc t u):=by
 intro pins s σ H D I h;refine wpAny_If (thn (hc pins s σ H _ I h) λd s1 c7=>?_);let#[H1,I1,q1]:=c7;cases d with
 |true=>exact ha pins s1 σ H1 D I1 q1
 |false=>exact hb pins s1 σ H1 D I1 q1
end
abbrev TG:=V->St->Hp->(St->Hp->Prop)->Prop
abbrev TGs:=List V->St->Hp->(St->Hp->Prop)->Prop
def PG(X:Cx)(i6:U7)(t:TG):Prop:=
 ∀(pins:List (Pi×Vk)) (s:SB) (σ:St) (H:Hp) (v:V) (u:Os) (Q:St->Hp->Prop),Inv X pins σ H s->RelV v u->t v σ H Q->
  U8 (U4 X.prog X.w) X.A (VM i6 X.env u) (λ_ s'=>∃σ' H',Inv X pins σ' H' s'/\Q σ' H') X.xe s
def PGs(X:Cx)(ts:List U7)(t:TGs):Prop:=
 ∀(pins:List (Pi×Vk)) (s:SB) (σ:St) (H:Hp) (vs:List V) (us:List Os) (Q:St->Hp->Prop),Inv X pins σ H s->Vals vs us->t vs σ H Q->
  U8 (U4 X.prog X.w) X.A (Wq ((Va ts X.env).map (·.2)) us) (λ_ s'=>∃σ' H',Inv X pins σ' H' s'/\Q σ' H') X.xe s
abbrev TSet:=V->V->V->Hp->(Hp->Prop)->Prop
def PSet(X:Cx)(t:TSet):Prop:=
 ∀(pins:List (Pi×Vk)) (s:SB) (σ:St) (H:Hp) (o i v:V) (ov iv u:Os) (Q:Hp->Prop),Inv X pins σ H s->RelV o ov->RelV i iv->RelV v u->t o i v H Q->
  U8 (U4 X.prog X.w) X.A (Wv ov iv u) (λ_ s'=>∃H',Inv X pins σ H' s'/\Q H') X.xe s
abbrev TIp:=V->V->Hp->VK->Prop
def PIp(X:Cx)(op:Wn)(t:TIp):Prop:=
 ∀(pins:List (Pi×Vk)) (s:SB) (σ:St) (H:Hp) (x y:V) (v u:Os) (Q:VK),Inv X pins σ H s->RelV x v->RelV y u->t x y H Q->
  U8 (U4 X.prog X.w) X.A (inplaceOp op v u) (EP X pins σ Q) X.xe s
section
variable {X:Cx}{pos:Vf}
def fU(i:Nat):TG:=λv σ H Q=>Q (σ.set i (be v)) H
variable{i:Nat}{x:Lq}
def dR(hN:X.N.Nodup)(hi:X.N[i]?=be x)(hx:Loc X.env.scope x)(hf:zFN X x\zA2):PG X (.Name x pos) (fU i):=by
 intro pins s σ H v u Q I r h;exact V9 (eU I hN hi hx r (λs' I'=>#[_,H,I',h]) hf)
def gNil:TGs:=λvs σ H Q=>vs=[]/\Q σ H
def xG(t:TG)(u:TGs):TGs:=λvs σ H Q=>∃v r,vs=v::r/\t v σ H λσ' H'=>u r σ' H' Q
def xH:PGs X [] gNil:=by
 intro pins s σ H vs us Q I r h;let#[e,h]:=h;subst e;cases r;exact WY #[σ,H,I,h]
variable{e:U7}{es:List U7}
def xI{t:TG}{u:TGs}(h1:PG X e t)(h2:PGs X es u)
  (hs:((Va (e::es) X.env).map (·.2)=VM e X.env::(Va es X.env).map (·.2))\zA0):PGs X (e::es) (xG t u):=by
 intro pins s σ H vs us Q I r h;let#[v,vr,e1,h]:=h;subst e1;cases r with
 |cons r rr=>
  rw[hs];refine V8 (thn (h1 pins s σ H _ _ _ I r h) λ_ s1 c7=>?_);let#[σ1,H1,I1,q1]:=c7;exact h2 pins s1 σ1 H1 _ _ Q I1 rr q1
def gTup(K:Ex)(n:Nat)(t:TGs):TG:=λv σ H Q=>∃a xs,v=.ref a/\SqT K H a xs/\xs.length=n/\t xs σ H Q
def gU{k:Nat}{t:TGs}{n:Nat}(hc:X.calm=true)(h:PGs X es t)
  (hn:((Va es X.env).length=n)\zA0) (p_:((Va es X.env).findIdx? (·.1)=none)\zA0):PG X (.Tuple es k pos) (gTup X.K n t):=by
 intro pins s σ H v u Q I r hw;let#[a,xs,e1,hq,hl,hw]:=hw;subst e1;cases r;let#[its,rv,ht,hz]:=I.tuple hq;refine assign_Tuple_tuple (I.ok.hd hc) ht (by simp[hn,<-hl,rv.length]) p_ λh' hx=>?_;have I1:Inv X pins σ H {s with heap:=h'}:=I.kept (t':=s.toks) λb o e=>hx b o (HD (Heap.lt_size e)) e;exact h pins _ σ H xs _ Q I1 (by simpa using rv) hw
def gSub(to ti:TE)(t:TSet):TG:=λv σ H Q=>to σ H λo H1=>ti σ H1 λi H2=>t o i v H2 λH3=>Q σ H3
def xJ{o i:U7}{to ti:TE}{t:TSet}(ho:PE X o to)(hi:PE X i ti)(hs:PSet X t)
  (ha:∀v,VM (.Subscript o i pos) X.env v=(do
   let ov <-Vv [v] (Vc o X.env)
   let iv <-Vv [v,ov] (Vc i X.env)
   VO pos
   Vv [v,ov,iv] (Wv ov iv v)
   WV [v,ov,iv] []):=by intro _;rfl):PG X (.Subscript o i pos) (gSub to ti t):=by
 intro pins s σ H v u Q I r h;rw[ha];refine P3 (Vh (thn (ho pins s σ H _ I h) λov s1 c7=>?_));let#[x,H1,I1,r1,q1]:=c7;refine P3 (Vh (thn (hi pins s1 σ H1 _ I1 q1) λiv s2 c7=>?_));let#[y,H2,I2,r2,q2]:=c7;refine P3 (Vz (P3 (Vh (thn (hs pins s2 σ H2 x y v ov iv u _ I2 r1 r2 r q2) λ_ s3 c7=>?_))));let#[H3,I3,q3]:=c7;exact wpAny_release #[σ,H3,I3,q3]
def tAsg(te:TE)(g:TG):TS:=λD σ H=>te σ H λx H1=>g x σ H1 D.nx
variable{te:TE}
def jD{tg:U7}{g:TG}(he:PE X e te)(hg:PG X tg g)(hs:(VD [tg] e pos.line X.env=pure false)\zA0)(hw:(VE [tg] e X.env=pure none)\zA0)
  (h1:((Va [tg] X.env).map (·.2)=[VM tg X.env])\zA0):PS X (.Assign [tg] e pos) (tAsg te g):=by
 intro pins s σ H D I h;refine wpAny_Assign_stores (thn (he pins s σ H _ I h) λv s1 hh=>?_) hs hw;let#[x,H1,I1,r1,q1]:=hh;rw[h1];exact thn (hg pins s1 σ H1 x v _ I1 r1 q1) λ_ s2 q=>q
def jE{d7:Vf}(hN:X.N.Nodup)(hi:X.N[i]?=be x)(hx:Loc X.env.scope x)(he:PE X e te)(hs:(Vn e (be (.Name x d7)) pos.line X.env=pure false)\zA0)(hf:zFN X x\zA2):
  PS X (.Assign [.Name x d7] e pos) (tAsg te (fU i)):=by
 intro pins s σ H D I h;refine wpAny_Assign_Name (thn (he pins s σ H _ I h) λv s1 hh=>?_) hs;let#[y,H1,I1,r1,q1]:=hh;exact eU I1 hN hi hx r1 (λs2 I2=>#[_,H1,I2,q1]) hf
def tPar(i j:Nat)(ta:TA):TS:=λD σ H=>ta σ H λvs H1=>∃v w,vs=[v,w]/\D.nx ((σ.set i (be v)).set j (be w)) H1
def xK{j:Nat}{y:Lq}{a b:U7}{ta:TA}{px py pt:Vf}{kt k2 Mc}(hc:X.calm=true)(hN:X.N.Nodup)(hi:X.N[i]?=be x)(hj:X.N[j]?=be y)(O4:i≠j)
  (hx:X.env.scope.names.lookup x=be .local) (hy:X.env.scope.names.lookup y=be .local) (ha:PA X [a,b] ta)
  (hw:VE [.Tuple [.Name x px,.Name y py] kt pt] (.Tuple [a,b] k2 Mc) X.env=pure (be [x,y]))
  (hs:(VD [.Tuple [.Name x px,.Name y py] kt pt] (.Tuple [a,b] k2 Mc) pos.line X.env=pure false)\zA0):
  PS X (.Assign [.Tuple [.Name x px,.Name y py] kt pt] (.Tuple [a,b] k2 Mc) pos) (tPar i j ta):=by
 intro pins s σ H D I h;rw[exec_Assign_arm];refine P3 (Vz ?_);rw[hs];refine P3 (SZ ?_);rw[if_neg Mh];refine P3 (Tuple_ (thn (ha _ pins s σ H _ I h) λus s1 c7=>?_));let#[vs,H1,I1,r1,q1]:=c7;let#[v,w,e1,q1]:=q1;subst e1;let#[u1,u2,rfl,rv,j6]:∃u1 u2,us=[u1,u2]/\RelV v u1/\RelV w u2:=by
  cases r1 with
  |cons p q=>
   cases q with
   |cons p' q'=>
    cases q';exact#[_,_,rfl,p,p']
 refine Vi ?_ (by show 2<=sizeLine;decide);have I2:Inv X pins σ H1 {s1 with heap:=s1.heap.push {cls:=.type "tuple",data:=.seq [u1,u2].toArray} }:=I1.kept (t':=s1.toks) λb o e=>Heap.get?_push_of_some _ e;rw[hw];refine P3 (SZ ?_);show U8 (U4 X.prog X.w) X.A (do rule "assign.swapped-stores";let items <-unpackItems (.ref s1.heap.objs.size) 2 w6;Wq [λv=>Wm X.env y v,λv=>Wm X.env x v] items.reverse;pure Flow.next) _ _ _;refine P3 (WM (P3 (unpackItems_tuple (items:=[u1,u2].toArray) (I.ok.hd hc) (IsTup.new s1.heap _) λh' i8=>?_)));have I3:=I2.kept (h':=h') (t':=s1.toks) λb o e=>i8 b o (HD (Heap.lt_size e)) e;show U8 _ _ (Wq [λv=>Wm X.env y v,λv=>Wm X.env x v] [u2,u1]>>=λ_=>pure Flow.next) _ _ _;refine P3 (V8 (wpAny_bindName (eU I3 hN hj (.inl hy) j6 (λs2 I4=>?_) (.inr hy))));refine V8 (wpAny_bindName (eU I4 hN hi (.inl hx) rv (λs3 I5=>WY (SZ ?_)) (.inr hx)));rw[List.set_comm _ _ (Ne.symm O4)]at I5;exact#[_,H1,I5,q1]
def xL(to ti te:TE)(Lo:V->V->Hp->VK->Prop)(Op:TIp)(Lp:TSet):TS:=λD σ H=>to σ H λo H1=>ti σ H1 λi H2=>Lo o i H2 λx H3=>te σ H3 λy H4=>Op x y H4 λz H5=>Lp o i z H5 λH6=>D.nx σ H6
def PGet(X:Cx)(t:V->V->Hp->VK->Prop):Prop:=
 ∀(pins:List (Pi×Vk)) (s:SB) (σ:St) (H:Hp) (o i:V) (ov iv:Os) (Q:VK),Inv X pins σ H s->RelV o ov->RelV i iv->t o i H Q->
  U8 (U4 X.prog X.w) X.A (Wh ov iv) (EP X pins σ Q) X.xe s
def xM{o i:U7}{to ti:TE}{Lo:V->V->Hp->VK->Prop}{Op:TIp}{Lp:TSet}{op:Wn}{Nj:Vf}(ho:PE X o to)(hi:PE X i ti)(hg:PGet X Lo)(he:PE X e te)(hp:PIp X op Op)(hs:PSet X Lp)
  (ha:(∀ov iv new,augStore i ov iv new=(do Vv [new,ov,iv] (Wv ov iv new);WV [new,ov,iv] [];pure .next))\zA8):PS X (.AugAssign (.Subscript o i Nj) op e pos) (xL to ti te Lo Op Lp):=by
 intro pins s σ H D I h;refine wpAny_AugAssign_SubscriptAny (thn (ho pins s σ H _ I h) λov s1 hh=>?_) ha;let#[x1,H1,I1,r1,q1]:=hh;refine thn (hi pins s1 σ H1 _ I1 q1) λiv s2 c7=>?_;let#[x2,H2,I2,r2,q2]:=c7;refine thn (hg pins s2 σ H2 x1 x2 ov iv _ I2 r1 r2 q2) λf7 s3 c7=>?_;let#[x3,H3,I3,r3,q3]:=c7;refine thn (he pins s3 σ H3 _ I3 q3) λv s4 c7=>?_;let#[x4,H4,I4,r4,q4]:=c7;refine thn (hp pins s4 σ H4 x3 x4 f7 v _ I4 r3 r4 q4) λnew s5 c7=>?_;let#[x5,H5,I5,r5,q5]:=c7;exact thn (hs pins s5 σ H5 x1 x2 x5 ov iv new _ I5 r1 r2 r5 q5) λ_ s6 ⟨H6,I6,q6⟩=>#[σ,H6,I6,q6]
def ipI(f:Int->Int->Int):TIp:=λx y H Q=>∃i j,x=.int i/\y=.int j/\Q (.int (f i j)) H
def xN:PIp X .Add (ipI λi j=>i+j):=by
 intro pins s σ H x y v u Q I r1 r2 h;let#[i,j,e1,e2,q]:=h;subst e1;subst e2;let#[t,rfl]:=r1;let#[t',rfl]:=r2;exact iadd_int #[.int _,H,I.tok _,#[_,rfl],q]
def xO(c:TT)(tb:TS):TS:=λD σ H=>∃W:Nat->St->Hp->Prop,(∃m,W m σ H)/\∀m σ H,W m σ H->
 c σ H λb H1=>if b=true then ∃N:St->Hp->Prop,(∀σ' H',N σ' H'->∃m',m'<m/\W m' σ' H')/\tb {D with nx:=N,ct:=N,bk:=D.nx} σ H1 else D.nx σ H1
def qk{c:U7}{body:List U6}{tc:TT}{tb:TS}(hp:Vp (U4 X.prog X.w) X.A X.env X.xe)(hc:PT X c tc)(hb:PSs X body tb):PS X (.While c body [] pos) (xO tc tb):=by
 intro pins s σ H D I h;let#[W,#[m0,w0],d5]:=h;refine wpAny_While (codeAny_whileLoop (λn s'=>∃σ' H',Inv X pins σ' H' s'/\W n σ' H') ?_ m0 #[σ,H,I,w0]);intro n s1#[σ1,H1,I1,w1];refine Vt hp (thn (hc pins s1 σ1 H1 _ I1 (d5 n σ1 H1 w1)) λb s2 c7=>?_);let#[H2,I2,q2]:=c7;cases b with
 |true=>
  let#[N,hN,q2]:=q2;rw[if_pos rfl];refine Vt hp (thn (hb pins s2 σ1 H2 _ I2 q2) λf s3 q3=>?_);cases f with
  |next=>
   let#[σ3,H3,I3,n3]:=q3;let#[m',hm,w3]:=hN σ3 H3 n3;exact#[m',hm,σ3,H3,I3,w3]
  |cont=>
   let#[σ3,H3,I3,n3]:=q3;let#[m',hm,w3]:=hN σ3 H3 n3;exact#[m',hm,σ3,H3,I3,w3]
  |brk=>exact q3
  |ret v=>exact q3
 |false=>
  rw[if_neg HH];exact VL #[σ1,H2,I2,q2]
end
structure It where
 go:Nat->Hp->Prop
 yld:Nat->Hp->V->Hp->Prop
 stop:Nat->Hp->Prop
def FpOk(X:Cx)(pins:List (Pi×Vk))(H:Hp)(b:Pi):Prop:=
 H b=w6/\b≠X.env.locals/\b∉X.fs/\(b∈X.ex\/X.s₀.heap.objs.size<=b)/\(∀x c,X.env.cells.lookup x=be c->c≠b)/\∀p∈X.pn++pins,p.1≠b
variable{σ:St}
def Inv.fpOk{pins:List (Pi×Vk)}{H':Hp}(I:Inv X pins σ H s)(hb:s.heap.objs.size<=b)(hn:H' b=w6):FpOk X pins H' b:=by
 refine#[hn,Ix (HQ I.lt hb),I.nofs hb,.inr (HG I.sz hb),λx c e z=>?_,λp hp z=>?_]
 .obtain⟨v,q⟩:=I.cell x c e;exact absurd (HQ q.lt (by rw[z];exact hb)) (IJ _)
 .exact absurd (HQ (Heap.lt_size (I.pin p hp).1) (by rw[z];exact hb)) (IJ _)
structure Turn(P:U5)(w:U')(K:Ex)(tg:U7)(J:It)(fp:List Pi)(it:Pi)(tn:Nat->Heap->Prop):Prop where
 mem:it∈fp
 obj:∀i h,tn i h->∀b∈fp,∃o,h.get? b=be o/\∀v,o.data≠.cell v
 keep:∀i h h',tn i h->(∀b∈fp,∀o,h.get? b=be o->h'.get? b=be o)->tn i h'
 item:∀(X:Cx),X.prog=P->X.w=w->X.K=K->X.calm=true->∀(i:Nat) (pins:List (Pi×Vk)) (s:SB) (σ:St) (H:Hp) (E:Os->SB->Prop),Inv X pins σ H s->(∀b∈fp,FpOk X pins H b)->tn i s.heap->J.go i H->
  U8 (U4 P w) X.A (pyNext (.ref it)) (λr s1=>∃u,r=be u/\
   U8 (U4 P w) X.A (V0 tg (.ref it) u) (λ_ s2=>∃x H',Inv X pins σ H' s2/\RelV x u/\J.yld i H x H'/\tn (i+1) s2.heap/\∀b∈fp,H' b=w6) E s1) E s
 done:∀(X:Cx),X.prog=P->X.w=w->X.K=K->X.calm=true->∀(i:Nat) (pins:List (Pi×Vk)) (s:SB) (σ:St) (H:Hp) (E:Os->SB->Prop),Inv X pins σ H s->(∀b∈fp,FpOk X pins H b)->tn i s.heap->J.stop i H->
  U8 (U4 P w) X.A (pyNext (.ref it)) (λr s1=>r=w6/\Inv X pins σ H s1) E s
 self:∀(A:U_) (i:Nat) (s:SB) (Q:Os->SB->Prop) (E:Os->SB->Prop),tn i s.heap->Q (.ref it) s->U8 (U4 P w) A (pyIter (.ref it)) Q E s
abbrev TI:=St->Hp->(It->Hp->Prop)->Prop
def PIE(X:Cx)(pins:List (Pi×Vk))(σ:St)(tg:U7)(R:It->Hp->Prop)(Oq:Os)(s2:SB):Prop:=
 ∃(it:Pi) (fp:List Pi) (tn:Nat->Heap->Prop) (J:It) (H':Hp),Oq=.ref it/\Inv X pins σ H' s2/\Turn X.prog X.w X.K tg J fp it tn/\tn 0 s2.heap/\(∀b∈fp,FpOk X pins H' b)/\R J H'
def PI(X:Cx)(tg iter:U7)(wi:TI):Prop:=
 ∀(pins:List (Pi×Vk)) (s:SB) (σ:St) (H:Hp) (R:It->Hp->Prop),Inv X pins σ H s->wi σ H R->
  U8 (U4 X.prog X.w) X.A (Vc iter X.env) (λv s1=>U8 (U4 X.prog X.w) X.A (pyIter v) (PIE X pins σ tg R) X.xe s1) X.xe s
variable{tg:U7}
def jF{M:WI}{it:Pi}{o:Vk}{n:String}{vs:Array Os}{Q:Unit->SB->Prop}(ho:s.heap.get? it=be o)(hc:o.cls=.type n)(hd:o.data=.fields vs)
    (hn:["enumerate","zip","dict_itemiterator","dict_reverseitemiterator","odict_iterator","itertools.zip_longest","itertools.pairwise"].contains n=false) (hQ:Q () s):U8 M A (V0 tg (.ref it) u) Q E s:=by
  unfold V0;cases tg<;>first
    |exact SZ hQ
    |(cases u<;>first
        |exact SZ hQ
        |( refine P3 (wpAny_load ho ?_)
           rw[hc,hd];show U8 M A (if(["enumerate","zip","dict_itemiterator","dict_reverseitemiterator","odict_iterator","itertools.zip_longest","itertools.pairwise"].contains n&&vs[0]?==be (V3 _))=true then _ else _) Q E s;rw[if_neg (by intro h;rw[hn,Bool.false_and]at h;cases h)];exact SZ hQ))
def Itl(K:Ex)(a:Pi):It:=
 #[λi H=>∃xs x,SqL K H a xs/\xs[i]?=be x,λi H x H'=>H'=H/\∀xs,SqL K H a xs->xs[i]?=be x,λi H=>∃xs,SqL K H a xs/\xs.length<=i]
def Itr(lo:Int)(n:Nat):It:=#[λi _=>i<n,λi H x H'=>H'=H/\x=.int (lo+i),λi _=>n<=i]
variable{K:Ex}
def xP(a it:Pi):Turn P w K tg (Itl K a) [it] it (λi h=>h.IsListIter it a i) where
 mem:=Mn
 obj:=λi h st b hb=>by
  have e:b=it:=by simpa using hb
  subst e;let#[o,e,c,d]:=st;exact#[o,e,λv z=>by rw[d]at z;cases z]
 keep:=λi h h' st k=>st.at λo e=>k it Mn o e
 item:=by
  intro X hP hw hK hc i pins s σ H E I hf st hg;subst hP hw hK;let#[xs,x,hq,hx]:=hg;let#[its,rv,p,hz]:=I.list hq;let#[u,hu,ru]:=rv.get hx;let#[f0,f1,f2,f3,f4,f5]:=hf it Mn;refine wpAny_pyNext_list_item st p.isList (x:=u) (by simpa using hu) λh' st' sb=>?_;have I1:Inv X pins σ H {s with heap:=h'}:=I.turned (t':=s.toks) (λb o hb e=>(sb.2 b hb).trans e) f0 f1 f3 f4 f5;let#[o,e,c,d]:=id st';exact#[u,rfl,jF (s:={s with heap:=h'}) e c d Mh #[x,H,I1,ru,#[rfl,λys hy=>by rw[I.list_inj hy hq];exact hx],st',λb hb=>(hf b hb).1]]
 done:=by
  intro X hP hw hK hc i pins s σ H E I hf st hg;subst hP hw hK;let#[xs,hq,hx]:=hg;let#[its,rv,p,hz]:=I.list hq;let#[f0,f1,f2,f3,f4,f5]:=hf it Mn;have hl:=rv.length;exact wpAny_pyNext_list_end (I.ok.hd hc) st p.isList Qu λh' eb=>#[rfl,I.turned (t':=s.toks) (λb o hb e=>eb b o hb e) f0 f1 f3 f4 f5]
 self:=λ_ _ _ _ _ st h=>wpAny_pyIter_listiter st h
def xQ(it:Pi)(lo:Int)(n:Nat):Turn P w K tg (Itr lo n) [it] it (λi h=>IsRangeIter h it (lo+(i:Nat)*1) ((n:Int)-(i:Nat)) 1) where
 mem:=Mn
 obj:=λi h st b hb=>by
  have e:b=it:=by simpa using hb
  subst e;exact⟨_,st,λv z=>by
   have z':Data.fields _=Data.cell v:=z;cases z'⟩
 keep:=λi h h' st k=>k it Mn _ st
 item:=by
  intro X hP hw hK hc i pins s σ H E I hf st hg;subst hP hw hK;let#[f0,f1,f2,f3,f4,f5]:=hf it Mn;have W:=Walks.range (prog:=X.prog) (w:=X.w) (I.ok.hd hc) it lo 1 n;refine W.item i s _ _ hg st λv h' tk hv st' kk=>?_;let#[t,rfl]:=hv;have I1:Inv X pins σ H {s with heap:=h',toks:=tk}:=I.turned (λb o hb e=>kk b o (by simpa using hb) e) f0 f1 f3 f4 f5;refine#[_,rfl,jF (s:={s with heap:=h',toks:=tk}) (n:="range_iterator") st' rfl rfl Mh #[.int (lo+i),H,I1,#[t,?_],#[rfl,rfl],st',λb hb=>(hf b hb).1]];rw[Int.mul_one]
 done:=by
  intro X hP hw hK hc i pins s σ H E I hf st hg;subst hP hw hK;let#[f0,f1,f2,f3,f4,f5]:=hf it Mn;exact wpAny_pyNext_range_end (I.ok.hd hc) st (by have:n<=i:=hg;lia) λh' eb=>#[rfl,I.turned (t':=s.toks) (λb o hb e=>eb b o hb e) f0 f1 f3 f4 f5]
 self:=λ_ _ _ _ _ st h=>wpAny_pyIter_rangeiter st h
section
variable {X:Cx}{tg:U7}
def ql(K:Ex)(tl:TE):TI:=λσ H R=>tl σ H λx H1=>∃a,x=.ref a/\(∃xs,SqL K H1 a xs)/\R (Itl K a) H1
def jG{l:U7}{tl:TE}(hl:PE X l tl):PI X tg l (ql X.K tl):=by
 intro pins s σ H R I h;refine thn (hl pins s σ H _ I h) λv s1 c7=>?_;let#[x,H1,I1,r1,q1]:=c7;let#[a,e,#[xs,hq],q]:=q1;subst e;cases r1;let#[its,rv,p,hz]:=I1.list hq;refine wpAny_pyIter_list p.isList ?_;refine#[s1.heap.objs.size,[s1.heap.objs.size],_,_,H1,rfl,I1.kept (t':=s1.toks) λb o e=>Heap.get?_push_of_some _ e,xP a _,#[_,Heap.get?_push_size _ rfl,rfl,rfl],λb hb=>?_,q];have e:b=s1.heap.objs.size:=by simpa using hb
 subst e;exact I1.fpOk (Hw _) (I1.hok.fresh (Hw _))
variable{pins:List (Pi×Vk)}{σ:St}{H:Hp}{s:SB}
def qm{R:It->Hp->Prop}{E:Os->SB->Prop}{lo hi:Int}{t u v:WZ}{tk:Nat}(I:Inv X pins σ H s)(h1:-(2^62)<=lo)(h2:lo<2^62)(h3:-(2^62)<=hi)(h4:hi<2^62)
  (q:R (Itr lo (hi-lo).toNat) H):U8 (U4 X.prog X.w) X.A (pyIter (.ref s.heap.objs.size)) (PIE X pins σ tg R) E {s with heap:=s.heap.push {cls:=.type "range",data:=.fields [.int lo t,.int hi u,.int 1 v].toArray},toks:=tk}:=by
 refine wpAny_pyIter_range (IsRange.new ..) (small_one h1 h2 h3 h4) ?_;have I1:Inv X pins σ H {s with heap:=s.heap.push {cls:=.type "range",data:=.fields [.int lo t,.int hi u,.int 1 v].toArray},toks:=tk}:=I.kept λb o e=>Heap.get?_push_of_some _ e;refine⟨(s.heap.push {cls:=.type "range",data:=.fields [.int lo t,.int hi u,.int 1 v].toArray}).objs.size,[(s.heap.push {cls:=.type "range",data:=.fields [.int lo t,.int hi u,.int 1 v].toArray}).objs.size],_,_,H,rfl,
  I1.kept (t':=tk) λb o e=>Heap.get?_push_of_some _ e,xQ _ lo (hi-lo).toNat,?_,λb hb=>?_,q⟩
 .have e1:lo+((0:Nat):Int)*1=lo:=by simp
  have e2:(((hi-lo).toNat:Nat):Int)-((0:Nat):Int)=Builtin.Range.rangeSize lo hi 1:=by rw[rangeSize_one];split<;>lia
  show IsRangeIter _ _ (lo+((0:Nat):Int)*1) ((((hi-lo).toNat:Nat):Int)-((0:Nat):Int)) 1;rw[e1,e2];exact Heap.get?_push_size _ rfl
 .have e:b=(s.heap.push {cls:=.type "range",data:=.fields [.int lo t,.int hi u,.int 1 v].toArray}).objs.size:=by simpa using hb
  subst e;exact I1.fpOk (Hw _) (I1.hok.fresh (Hw _))
def qo(ta:TA):TI:=λσ H R=>ta σ H λvs H1=>∃j:Int,vs=[.int j]/\-(2^62)<=j/\j<2^62/\R (Itr 0 j.toNat) H1
def xR(ta:TA):TI:=λσ H R=>ta σ H λvs H1=>∃i j:Int,vs=[.int i,.int j]/\(-(2^62)<=i/\i<2^62/\-(2^62)<=j/\j<2^62)/\R (Itr i (j-i).toNat) H1
variable{pos:Vf}
def jH{a:U7}{ta:TA}{p:Vf}(hg:Gl X "range")(hm:X.mg "range"=w6)(ha:PA X [a] ta)(hs:(U9 [a] X.env=[(false,Vc a X.env)])\zA0):PI X tg (.Call (.Name "range" p) [a] [] pos) (qo ta):=by
 intro pins s σ H R I h;refine Call_ (dQ I hg hm boot_range (PyProof.Rows.callWith_type1 (thn (ha pos pins s σ H _ I h) λus s1 hh=>?_) hs rfl));let#[vs,H1,I1,r1,q1]:=hh;let#[j,e,q1,q2,q]:=q1;subst e;cases r1 with
 |cons r rr=>
  cases rr;let#[t,rfl]:=r;exact call_range_1 (qm I1 Md Md q1 q2 (by simpa using q))
def xS{a b:U7}{ta:TA}{p:Vf}(hg:Gl X "range")(hm:X.mg "range"=w6)(ha:PA X [a,b] ta)(hs:(U9 [a,b] X.env=[(false,Vc a X.env),(false,Vc b X.env)])\zA0)(j_:(U9 [b] X.env=[(false,Vc b X.env)])\zA0):
  PI X tg (.Call (.Name "range" p) [a,b] [] pos) (xR ta):=by
 intro pins s σ H R I h;refine Call_ (dQ I hg hm boot_range (PyProof.Rows.callWith_type1 (thn (ha pos pins s σ H _ I h) λus s1 hh=>?_) (by rw[hs,j_]) (by rw[j_];rfl)));let#[vs,H1,I1,r1,q1]:=hh;let#[i,j,e,#[q1,q2,q3,q4],q]:=q1;subst e;cases r1 with
 |cons r rr=>
  cases rr with
  |cons r' rr=>
   cases rr;let#[t,rfl]:=r;let#[t',rfl]:=r';exact call_range_2 (qm I1 q1 q2 q3 q4 q)
def tFor(wi:TI)(g:TG)(tb:TS):TS:=λD σ H=>wi σ H λJ H1=>∃W:Nat->Nat->St->Hp->Prop,(∃m,W 0 m σ H1)/\∀i m σ H,W i m σ H->
 (J.stop i H/\D.nx σ H)\/(J.go i H/\∃N:St->Hp->Prop,(∀σ' H',N σ' H'->∃m',m'<m/\W (i+1) m' σ' H')/\∀x H',J.yld i H x H'->g x σ H' λσ2 H2=>tb {D with nx:=N,ct:=N,bk:=D.nx} σ2 H2)
def gW(fp:List Pi)(h:Heap):List (Pi×Vk):=fp.filterMap λb=>(h.get? b).map λo=>(b,o)
variable{fp:List Pi}
def eV{h:Heap}{b:Pi}{o:Vk}(hb:b∈fp)(e:h.get? b=be o):(b,o)∈gW fp h:=Kp.mpr #[b,hb,by rw[e];rfl]
def xT{h:Heap}{p:Pi×Vk}(hp:p∈gW fp h):p.1∈fp/\h.get? p.1=be p.2:=by
 let#[b,hb,e]:=Kp.mp hp;cases q:h.get? b with
 |none=>rw[q]at e;cases e
 |some o=>
  rw[q]at e;have e':(b,o)=p:=Option.some.inj e;subst e';exact#[hb,q]
def Inv.pinned(I:Inv X pins σ H s)(hf:∀b∈fp,FpOk X pins H b)(ho:∀b∈fp,∃o,s.heap.get? b=be o/\∀v,o.data≠.cell v):Inv X (pins++gW fp s.heap) σ H s:=
 I.pins_of λp hp=>(HX.mp hp).elim (λz=>I.pin p (HU _ z)) λz=>by
  let#[hb,e]:=xT z;let#[f0,f1,f2,_]:=hf p.1 hb;let#[o,e',d]:=ho p.1 hb;rw[e]at e';cases e';exact#[e,f0,f1,f2,d]
def Inv.unpinned{pl:List (Pi×Vk)}(I:Inv X (pins++pl) σ H s):Inv X pins σ H s:=I.pins_of λp hp=>I.pin p (HU _ (IR _ hp))
def cM{iter:U7}{body:List U6}{wi:TI}{g:TG}{tb:TS}(hp:Vp (U4 X.prog X.w) X.A X.env X.xe)(hc:X.calm=true)(hi:PI X tg iter wi)(hg:PG X tg g)(hb:PSs X body tb)
  (hs:∀x,WX iter X.env x=pure x:=by intro _;rfl):PS X (.For tg iter body [] pos) (tFor wi g tb):=by
 intro pins s σ H D I h;refine wpAny_For (thn (hi pins s σ H _ I h) λv s1 h1=>thn h1 λOq s2 h2=>?_) hs;let#[it,fp,tn,J,H2,e,I2,T,u8,f2,W,#[m0,w0],d5]:=h2;subst e;have q8:∀{H':Hp},(∀b∈fp,H' b=w6)->∀b∈fp,FpOk X pins H' b:=λhn b hb=>#[hn b hb,(f2 b hb).2];refine codeAny_forLoop_any (λn s'=>∃i σ' H',Inv X pins σ' H' s'/\tn i s'.heap/\(∀b∈fp,H' b=w6)/\W i n σ' H') ?_ m0 #[0,σ,H2,I2,u8,λb hb=>(f2 b hb).1,w0];intro n s3#[i,σ3,H3,I3,Le,RB,w3];rcases d5 i n σ3 H3 w3 with⟨stop,qn⟩|⟨go,N,hN,step⟩
 .refine Vt hp (thn (T.done X rfl rfl rfl hc i pins s3 σ3 H3 X.xe I3 (q8 RB) Le stop) λr s4 c7=>?_);let#[hr,I4]:=c7;subst hr;exact VL #[σ3,H3,I4,qn]
 .refine Vt hp (thn (T.item X rfl rfl rfl hc i pins s3 σ3 H3 X.xe I3 (q8 RB) Le go) λr s4 c7=>?_);let#[u,hr,h4]:=c7;subst hr;refine Vt hp (thn h4 λ_ s5 c7=>?_);let#[x,H5,I5,r5,y5,Lr,O5]:=c7;have SI:=I5.pinned (q8 O5) (T.obj _ _ Lr);refine Vt hp (thn (hg _ s5 σ3 H5 x u _ SI r5 (step x H5 y5)) λ_ s6 c7=>?_);let#[σ6,H6,I6,q6]:=c7;refine Vt hp (thn (hb _ s6 σ6 H6 _ I6 q6) λf s7 q7=>?_);have again:∀{σ7:St} {H7:Hp},Inv X (pins++gW fp s5.heap) σ7 H7 s7->N σ7 H7->∃m,m<n/\∃i σ' H',Inv X pins σ' H' s7/\tn i s7.heap/\(∀b∈fp,H' b=w6)/\W i m σ' H':=λ{σ7 H7} I7 n7=>by
   let#[m',hm,w7]:=hN σ7 H7 n7;refine#[m',hm,i+1,σ7,H7,I7.unpinned,T.keep _ _ _ Lr λb hb o e=>(I7.pin (b,o) (HU _ (HU _ (eV hb e)))).1,λb hb=>?_,w7];let#[o,e,d]:=T.obj _ _ Lr b hb;exact(I7.pin (b,o) (HU _ (HU _ (eV hb e)))).2.1
  cases f with
  |next=>let#[σ7,H7,I7,n7]:=q7;exact again I7 n7
  |cont=>let#[σ7,H7,I7,n7]:=q7;exact again I7 n7
  |brk=>let#[σ7,H7,I7,q7]:=q7;exact#[σ7,H7,I7.unpinned,q7]
  |ret v=>let#[x7,σ7,H7,I7,r7,q7]:=q7;exact#[x7,σ7,H7,I7.unpinned,r7,q7]
end
def jI{g:TG}{tb:TS}{D:Ends}(Pv:Nat->St->Hp->Prop)(h0:Pv 0 σ H)(hl:∀i σ H,i<=xs.length->Pv i σ H->SqL K H a xs)
  (hs:∀i x σ H,xs[i]?=be x->Pv i σ H->g x σ H λσ2 H2=>tb {D with nx:=Pv (i+1),ct:=Pv (i+1),bk:=D.nx} σ2 H2) (hd:∀σ H,Pv xs.length σ H->D.nx σ H):
  ∃W:Nat->Nat->St->Hp->Prop,(∃m,W 0 m σ H)/\∀i m σ H,W i m σ H->
   ((Itl K a).stop i H/\D.nx σ H)\/((Itl K a).go i H/\∃N:St->Hp->Prop,(∀σ' H',N σ' H'->∃m',m'<m/\W (i+1) m' σ' H')/\∀x H',(Itl K a).yld i H x H'->g x σ H' λσ2 H2=>tb {D with nx:=N,ct:=N,bk:=D.nx} σ2 H2):=by
 refine#[λi m σ H=>m=xs.length-i/\i<=xs.length/\Pv i σ H,#[xs.length,Mn,HS _,h0],?_];intro i m σ H#[rfl,hi,p];have q:=hl i σ H hi p;by_cases ge:i<xs.length
 .refine .inr #[#[xs,xs[i],q,by simp[ge]],Pv (i+1),λσ' H' p'=>#[xs.length-(i+1),Md,rfl,ge,p'],λx H' y=>?_];let#[e,y]:=y;subst e;exact hs i x σ _ (y xs q) p
 .have e:i=xs.length:=by lia
  subst e;exact .inl #[#[xs,q,Hw _],hd σ H p]
def jJ{lo:Int}{n:Nat}{g:TG}{tb:TS}{D:Ends}(Pv:Nat->St->Hp->Prop)(h0:Pv 0 σ H)
  (hs:∀i σ H,i<n->Pv i σ H->g (.int (lo+i)) σ H λσ2 H2=>tb {D with nx:=Pv (i+1),ct:=Pv (i+1),bk:=D.nx} σ2 H2) (hd:∀σ H,Pv n σ H->D.nx σ H):
  ∃W:Nat->Nat->St->Hp->Prop,(∃m,W 0 m σ H)/\∀i m σ H,W i m σ H->
   ((Itr lo n).stop i H/\D.nx σ H)\/((Itr lo n).go i H/\∃N:St->Hp->Prop,(∀σ' H',N σ' H'->∃m',m'<m/\W (i+1) m' σ' H')/\∀x H',(Itr lo n).yld i H x H'->g x σ H' λσ2 H2=>tb {D with nx:=N,ct:=N,bk:=D.nx} σ2 H2):=by
 refine#[λi m σ H=>m=n-i/\i<=n/\Pv i σ H,#[n,Mn,HS _,h0],?_];intro i m σ H#[rfl,hi,p];by_cases ge:i<n
 .refine .inr #[ge,Pv (i+1),λσ' H' p'=>#[n-(i+1),Md,rfl,ge,p'],λx H' y=>?_];let#[e,y]:=y;subst e y;exact hs i σ _ ge p
 .have e:i=n:=by lia
  subst e;exact .inl #[Hw _,hd σ H p]
abbrev R2:=V->V->Hp->VK->Prop
def OpR(X:Cx)(f:Os->Os->WB Os)(r:R2):Prop:=
 ∀(pins:List (Pi×Vk)) (s:SB) (σ:St) (H:Hp) (x y:V) (v u:Os) (Q:VK),Inv X pins σ H s->RelV x v->RelV y u->r x y H Q->
  U8 (U4 X.prog X.w) X.A (f v u) (EP X pins σ Q) X.xe s
def UnR(X:Cx)(f:Os->WB Os)(r:V->Hp->VK->Prop):Prop:=
 ∀(pins:List (Pi×Vk)) (s:SB) (σ:St) (H:Hp) (x:V) (v:Os) (Q:VK),Inv X pins σ H s->RelV x v->r x H Q->
  U8 (U4 X.prog X.w) X.A (f v) (EP X pins σ Q) X.xe s
def bI(X:Cx)(f:Os)(r:List V->Hp->VK->Prop):Prop:=
 ∀(pins:List (Pi×Vk)) (s:SB) (σ:St) (H:Hp) (xs:List V) (us:List Os) (Q:VK),Inv X pins σ H s->Vals xs us->r xs H Q->
  U8 (U4 X.prog X.w) X.A (call f us) (EP X pins σ Q) X.xe s
def TruR(X:Cx)(r:V->Hp->(Bool->Hp->Prop)->Prop):Prop:=
 ∀(pins:List (Pi×Vk)) (s:SB) (σ:St) (H:Hp) (x:V) (v:Os) (Q:Bool->Hp->Prop),Inv X pins σ H s->RelV x v->r x H Q->
  U8 (U4 X.prog X.w) X.A (truthy v) (TP X pins σ Q) X.xe s
def tOp(r:R2)(ta tb:TE):TE:=λσ H Q=>ta σ H λx H1=>tb σ H1 λy H2=>r x y H2 Q
def tUn(r:V->Hp->VK->Prop)(ta:TE):TE:=λσ H Q=>ta σ H λx H1=>r x H1 Q
def rI(C:Int->Int->Prop)(g:Int->Int->V):R2:=λx y H Q=>∃i j,x=.int i/\y=.int j/\C i j/\Q (g i j) H
def rI0(g:Int->Int->V):R2:=λx y H Q=>∃i j,x=.int i/\y=.int j/\Q (g i j) H
def rU(g:Int->V):V->Hp->VK->Prop:=λx H Q=>∃i,x=.int i/\Q (g i) H
section
variable {X:Cx}{a b c:U7}{ta tb tc:TE}{pos:Vf}
variable{f:Os->Os->WB Os}
def binT(ha:PE X a ta)(hb:PE X b tb){pins:List (Pi×Vk)}{s:SB}{σ:St}{H:Hp}{R:V->V->Hp->Prop}(I:Inv X pins σ H s)
  (h:ta σ H λx H1=>tb σ H1 λy H2=>R x y H2) {Q:Os->SB->Prop} 
  (hf:∀v u s2 x y H2,Inv X pins σ H2 s2->RelV x v->RelV y u->R x y H2->U8 (U4 X.prog X.w) X.A (f v u) Q X.xe s2):
  U8 (U4 X.prog X.w) X.A (Vc a X.env) (λv s₁=>U8 (U4 X.prog X.w) X.A (Vc b X.env) (λu s₂=>U8 (U4 X.prog X.w) X.A (f v u) Q X.xe s₂) X.xe s₁) X.xe s:=by
 refine thn (ha pins s σ H _ I h) λv s1 c7=>?_;let#[x,H1,I1,r1,q1]:=c7;refine thn (hb pins s1 σ H1 _ I1 q1) λu s2 c7=>?_;let#[y,H2,I2,r2,q2]:=c7;exact hf v u s2 x y H2 I2 r1 r2 q2
def jK{op:Wn}{r:R2}(ho:OpR X (Vr op) r)(ha:PE X a ta)(hb:PE X b tb):PE X (.BinOp a op b pos) (tOp r ta tb):=by
 intro pins s σ H Q I h;exact wpAny_BinOp (binT ha hb I h λv u s2 x y H2 I2 rx ry q=>ho pins s2 σ H2 x y v u Q I2 rx ry q)
def xU{op:UnaryOp}{r:V->Hp->VK->Prop}(ho:UnR X (unaryOp op) r)(ha:PE X a ta):PE X (.UnaryOp op a pos) (tUn r ta):=by
 intro pins s σ H Q I h;exact UnaryOp_ (thn (ha pins s σ H _ I h) λv s1 ⟨x,H1,I1,r1,q1⟩=>ho pins s1 σ H1 x v Q I1 r1 q1)
variable{g:Int->Int->Int}
def opI{C:Int->Int->Prop}
  (rule:∀(i j:Int) (t u:WZ) (s:SB) (Q:Os->SB->Prop) (E:Os->SB->Prop),C i j->Q (.int (g i j) s.toks) {s with toks:=s.toks+1}->U8 (U4 X.prog X.w) X.A (f (.int i t) (.int j u)) Q E s):
  OpR X f (rI C λi j=>.int (g i j)):=by
 intro pins s σ H x y v u Q I rx ry h;let#[i,j,rfl,rfl,hc,q]:=h;let#[t,rfl]:=rx;let#[t',rfl]:=ry;exact rule i j t t' s _ _ hc #[.int (g i j),H,I.tok _,#[_,rfl],q]
def opI0
  (rule:∀(i j:Int) (t u:WZ) (s:SB) (Q:Os->SB->Prop) (E:Os->SB->Prop),Q (.int (g i j) s.toks) {s with toks:=s.toks+1}->U8 (U4 X.prog X.w) X.A (f (.int i t) (.int j u)) Q E s):
  OpR X f (rI0 λi j=>.int (g i j)):=by
 intro pins s σ H x y v u Q I rx ry h;let#[i,j,rfl,rfl,q]:=h;let#[t,rfl]:=rx;let#[t',rfl]:=ry;exact rule i j t t' s _ _ #[.int (g i j),H,I.tok _,#[_,rfl],q]
def opB0{g:Int->Int->Bool}
  (rule:∀(i j:Int) (t u:WZ) (s:SB) (Q:Os->SB->Prop) (E:Os->SB->Prop),Q (.bool (g i j)) s->U8 (U4 X.prog X.w) X.A (f (.int i t) (.int j u)) Q E s):
  OpR X f (rI0 λi j=>.bl (g i j)):=by
 intro pins s σ H x y v u Q I rx ry h;let#[i,j,rfl,rfl,q]:=h;let#[t,rfl]:=rx;let#[t',rfl]:=ry;exact rule i j t t' s _ _ #[.bl (g i j),H,I,rfl,q]
def CDiv(i j:Int):Prop:=0<j/\j<1073741824
def CMul(i j:Int):Prop:=(-(2^64)<i/\i<2^64)\/(-(2^64)<j/\j<2^64)
def CMul.ok{i j:Int}(h:CMul i j):IntMulOk i j:=by
 rcases h with⟨h1,h2⟩|⟨h1,h2⟩
 .exact .of_left (intBits_le_64 h1 h2)
 .exact .of_right (intBits_le_64 h1 h2)
def xV:OpR X (Vr .Add) (rI0 λi j=>.int (i+j)):=opI0 λ_ _ _ _ _ _ _ q=>add_int q
def qp:OpR X (Vr .Sub) (rI0 λi j=>.int (i-j)):=opI0 λ_ _ _ _ _ _ _ q=>sub_int q
def xW:OpR X (Vr .Mult) (rI CMul λi j=>.int (i*j)):=opI λ_ _ _ _ _ _ _ hc q=>mul_int q hc.ok
def xX:OpR X (Vr .FloorDiv) (rI CDiv λi j=>.int (i/j)):=opI λi j _ _ _ _ _ hc q=>by
 have h1:(0:Int)<j:=hc.1;have h2:j<1073741824:=hc.2;exact floordiv_int Md (by rw[Int.fdiv_eq_ediv_of_nonneg i Md];exact q) (.inl (PyProof.noPylong_small Md))
def xY:OpR X (Vr .Mod) (rI (λ_ j=>0<j) λi j=>.int (i%j)):=opI λi j _ _ _ _ _ hc q=>by
 have h1:(0:Int)<j:=hc;exact mod_int' Md (by rw[Int.fmod_eq_emod_of_nonneg i Md];exact q)
def xZ:OpR X (Vr .Mod) (rI (λ_ j=>j≠0) λi j=>.int (i.fmod j)):=opI λ_ _ _ _ _ _ _ hc q=>mod_int' hc q
def unI{f:Os->WB Os}{g:Int->Int}
  (rule:∀(i:Int) (t:WZ) (s:SB) (Q:Os->SB->Prop) (E:Os->SB->Prop),Q (.int (g i) s.toks) {s with toks:=s.toks+1}->U8 (U4 X.prog X.w) X.A (f (.int i t)) Q E s):
  UnR X f (rU λi=>.int (g i)):=by
 intro pins s σ H x v Q I rx h;let#[i,rfl,q]:=h;let#[t,rfl]:=rx;exact rule i t s _ _ #[.int (g i),H,I.tok _,#[_,rfl],q]
def ya:UnR X (unaryOp .USub) (rU λi=>.int (-i)):=unI λ_ _ _ _ _ q=>neg_int q
end
def scal:V->V->Bool
 |.non,.non=>true|.non,.int _=>true|.int _,.non=>true|.non,.bl _=>true|.bl _,.non=>true|.non,.str _=>true|.str _,.non=>true
 |.int _,.int _=>true|.bl _,.bl _=>true|.str _,.str _=>true|.byt _,.byt _=>true
 |.int _,.str _=>true|.str _,.int _=>true|.bl _,.str _=>true|.str _,.bl _=>true
 |_,_=>false
def rEq:R2:=λx y H Q=>scal x y=true/\Q (.bl (decide (x=y))) H
def rNe:R2:=λx y H Q=>scal x y=true/\Q (.bl (!decide (x=y))) H
def qq{i j:Int}:decide (V.int i=V.int j)=(i==j):=by
 rw[Jt];simp
def qr{i j:Bool}:decide (V.bl i=V.bl j)=(i==j):=by
 rw[Jt];simp
def qt{i j:Lq}:decide (V.str i=V.str j)=(i==j):=by
 rw[Jt];simp
def qu{i j:Array UInt8}:decide (V.byt i=V.byt j)=(i.toList==j.toList):=by
 rw[Jt];cases i;cases j;simp
section
variable {X:Cx}{a b c:U7}{ta tb tc:TE}{pos:Vf}
def aV{pins:List (Pi×Vk)}{σ:St}{H:Hp}{s:SB}{Q:VK}{k k':Bool}(I:Inv X pins σ H s)(q:Q (.bl k) H)(e:k=k'):EP X pins σ Q (.bool k') s:=by
 subst e;exact#[.bl k,H,I,rfl,q]
def jL:OpR X (Vo .Eq) rEq:=by
 intro pins s σ H x y v u Q I rx ry h;let#[hs,q]:=h;cases x with
 |non=>
  cases rx;cases y with
  |non=>cases ry;exact PySem.EqNone.eq_none_none (aV I q Mn)
  |bl j=>cases ry;exact PySem.EqNone.eq_none_bool (aV I q Mn)
  |int j=>let#[t',rfl]:=ry;exact PySem.EqNone.eq_none_int (aV I q Mn)
  |str j=>let#[t',rfl]:=ry;exact PySem.EqNone.eq_none_str (aV I q Mn)
  |_=>exact absurd (show false=true from hs) HH
 |bl i=>
  cases rx;cases y with
  |non=>cases ry;exact PySem.EqNone.eq_bool_none (aV I q Mn)
  |bl j=>cases ry;exact eq_bool (aV I q qr)
  |str j=>let#[t',rfl]:=ry;exact PySem.EqMixed.eq_bool_str (aV I q Mn)
  |_=>exact absurd (show false=true from hs) HH
 |int i=>
  let#[t,rfl]:=rx;cases y with
  |non=>cases ry;exact PySem.EqNone.eq_int_none (aV I q Mn)
  |int j=>let#[t',rfl]:=ry;exact eq_int (aV I q qq)
  |str j=>let#[t',rfl]:=ry;exact PySem.EqMixed.eq_int_str (aV I q Mn)
  |_=>exact absurd (show false=true from hs) HH
 |str i=>
  let#[t,rfl]:=rx;cases y with
  |non=>cases ry;exact PySem.EqNone.eq_str_none (aV I q Mn)
  |bl j=>cases ry;exact PySem.EqMixed.eq_str_bool (aV I q Mn)
  |int j=>let#[t',rfl]:=ry;exact PySem.EqMixed.eq_str_int (aV I q Mn)
  |str j=>let#[t',rfl]:=ry;exact eq_str (aV I q qt)
  |_=>exact absurd (show false=true from hs) HH
 |byt i=>
  let#[t,rfl]:=rx;cases y with
  |byt j=>let#[t',rfl]:=ry;exact eq_bytes (aV I q qu)
  |_=>exact absurd (show false=true from hs) HH
 |_=>cases y<;>exact absurd (show false=true from hs) HH
def qv:OpR X (Vo .NotEq) rNe:=by
 intro pins s σ H x y v u Q I rx ry h;let#[hs,q]:=h;cases x with
 |non=>
  cases rx;cases y with
  |non=>cases ry;exact PySem.EqNone.ne_none_none (aV I q Mn)
  |bl j=>cases ry;exact PySem.EqNone.ne_none_bool (aV I q Mn)
  |int j=>let#[t',rfl]:=ry;exact PySem.EqNone.ne_none_int (aV I q Mn)
  |str j=>let#[t',rfl]:=ry;exact PySem.EqNone.ne_none_str (aV I q Mn)
  |_=>exact absurd (show false=true from hs) HH
 |bl i=>
  cases rx;cases y with
  |non=>cases ry;exact PySem.EqNone.ne_bool_none (aV I q Mn)
  |bl j=>cases ry;exact ne_bool (aV I q (congrArg not qr))
  |str j=>let#[t',rfl]:=ry;exact PySem.EqMixed.ne_bool_str (aV I q Mn)
  |_=>exact absurd (show false=true from hs) HH
 |int i=>
  let#[t,rfl]:=rx;cases y with
  |non=>cases ry;exact PySem.EqNone.ne_int_none (aV I q Mn)
  |int j=>let#[t',rfl]:=ry;exact ne_int (aV I q (congrArg not qq))
  |str j=>let#[t',rfl]:=ry;exact PySem.EqMixed.ne_int_str (aV I q Mn)
  |_=>exact absurd (show false=true from hs) HH
 |str i=>
  let#[t,rfl]:=rx;cases y with
  |non=>cases ry;exact PySem.EqNone.ne_str_none (aV I q Mn)
  |bl j=>cases ry;exact PySem.EqMixed.ne_str_bool (aV I q Mn)
  |int j=>let#[t',rfl]:=ry;exact PySem.EqMixed.ne_str_int (aV I q Mn)
  |str j=>let#[t',rfl]:=ry;exact ne_str (aV I q (congrArg not qt))
  |_=>exact absurd (show false=true from hs) HH
 |byt i=>
  let#[t,rfl]:=rx;cases y with
  |byt j=>let#[t',rfl]:=ry;exact ne_bytes (aV I q (congrArg not qu))
  |_=>exact absurd (show false=true from hs) HH
 |_=>cases y<;>exact absurd (show false=true from hs) HH
def qw:OpR X (Vo .Lt) (rI0 λi j=>.bl (decide (i<j))):=opB0 λ_ _ _ _ _ _ _ q=>lt_int q
def yb:OpR X (Vo .LtE) (rI0 λi j=>.bl (decide (i<=j))):=opB0 λ_ _ _ _ _ _ _ q=>le_int q
def jM:OpR X (Vo .Gt) (rI0 λi j=>.bl (decide (j<i))):=opB0 λ_ _ _ _ _ _ _ q=>gt_int q
def yc:OpR X (Vo .GtE) (rI0 λi j=>.bl (decide (j<=i))):=opB0 λ_ _ _ _ _ _ _ q=>ge_int q
def qy:OpR X (Vo .Is) (λx y H Q=>y=.non/\Q (.bl (decide (x=.non))) H):=by
 intro pins s σ H x y v u Q I rx ry h;let#[rfl,q]:=h;cases ry;refine is_none_gen (aV I q ?_);cases x<;>first
  |(cases rx;rfl)
  |(let#[t,rfl]:=rx;rfl)
variable{r:R2}
def OpR.or{f:Os->Os->WB Os}{r':R2}(h:OpR X f r)(h':OpR X f r'):OpR X f (λx y H Q=>r x y H Q\/r' x y H Q):=by
 intro pins s σ H x y v u Q I rx ry q;rcases q with q|q
 .exact h pins s σ H x y v u Q I rx ry q
 .exact h' pins s σ H x y v u Q I rx ry q
variable{op:W1}
def nomark(b:U7)(h:(op≠.In)\zA1)(h2:(op≠.NotIn)\zA1):Vu op b=false:=by
 have e1:(op==CmpOp.In)=false:=by cases op<;>first|rfl|exact absurd rfl h
 have e2:(op==CmpOp.NotIn)=false:=by cases op<;>first|rfl|exact absurd rfl h2
 cases b<;>simp[Vu,e1,e2]
def yd(ho:OpR X (Vo op) r)(ha:PE X a ta)(hb:PE X b tb)(hm:Vu op b=false):PE X (.Compare a [op] [b] pos) (tOp r ta tb):=by
 intro pins s σ H Q I h;exact wpAny_Compare1 (binT ha hb I h λv u s2 x y H2 I2 rx ry q=>ho pins s2 σ H2 x y v u Q I2 rx ry q) hm
def ye(t:TE):TT:=λσ H Q=>t σ H λx H'=>∃k,x=.bl k/\Q k H'
def qz(ho:OpR X (Vo op) r)(ha:PE X a ta)(hb:PE X b tb)(hm:Vu op b=false):PT X (.Compare a [op] [b] pos) (ye (tOp r ta tb)):=by
 intro pins s σ H Q I h;refine wpAny_isTrue_Compare1 (thn (ha pins s σ H _ I h) λv s1 ⟨x,H1,I1,r1,q1⟩=>thn (hb pins s1 σ H1 _ I1 q1) λu s2 ⟨y,H2,I2,r2,q2⟩=>
  thn (ho pins s2 σ H2 x y v u _ I2 r1 r2 q2) λc s3 hh=>?_) hm
 let#[z,H3,I3,r3,k,e,q3]:=hh;subst e;cases r3;exact VQ #[H3,I3,q3]
def TruV(K:Ex)(x:V)(H:Hp)(k:Bool):Prop:=
 match x with
 |.non=>k=false
 |.bl b=>k=b
 |.int i=>k=(i !=0)
 |.str y=>y.length<=sizeLine/\k=((y.length:Int) !=0)
 |.byt y=>y.size<=sizeLine/\k=((y.size:Int) !=0)
 |.ref p=>(∃xs,SqL K H p xs/\k=!xs.isEmpty)\/(∃xs,SqT K H p xs/\k=!xs.isEmpty)\/∃a_,H p=be (.dK a_)/\k=!a_.isEmpty
 |_=>False
def yf{κ:Type}{a_:List (κ×V)}{vs:List (κ×Os)}(r:KV a_ vs):(!vs.isEmpty)=!a_.isEmpty:=by
 cases r<;>rfl
def isEmpty_of{xs:List V}{its:List Os}(r:Vals xs its):(!its.toArray.isEmpty)=!xs.isEmpty:=by
 cases r<;>simp
def line63:(sizeLine:Nat)<2^63:=by rw[V2];decide
def yg:TruR X (λx H Q=>∃k,TruV X.K x H k/\Q k H):=by
 intro pins s σ H x v Q I rx h;let#[k,e,q]:=h;have hl:=line63;have hs:sizeLine=16777216:=V2;cases x with
 |non=>
  cases rx;have e':k=false:=e;subst e';exact truthy_none #[H,I,q]
 |bl b=>
  cases rx;have e':k=b:=e;subst e';exact VQ #[H,I,q]
 |int i=>
  let#[t,rfl]:=rx;have e':k=(i !=0):=e;subst e';exact PySem.P.truthy_int #[H,I,q]
 |str y=>
  let#[t,rfl]:=rx;let#[hy,e']:y.length<=sizeLine/\k=((y.length:Int) !=0):=e;subst e';exact PySem.P.truthy_str Md #[H,I.tok _,q]
 |byt y=>
  let#[t,rfl]:=rx;let#[hy,e']:y.size<=sizeLine/\k=((y.size:Int) !=0):=e;subst e';exact truthy_bytes Md #[H,I.tok _,q]
 |ref p=>
  cases rx;have e':(∃xs,SqL X.K H p xs/\k=!xs.isEmpty)\/(∃xs,SqT X.K H p xs/\k=!xs.isEmpty)\/∃a_,H p=be (.dK a_)/\k=!a_.isEmpty:=e;rcases e' with⟨xs,hx,e'⟩|⟨xs,hx,e'⟩|⟨a_,hx,e'⟩
  .subst e';let#[its,r,pl,hz]:=I.list hx;have b9:=r.length;exact wpAny_truthy_list pl.isList (by simp only[HK];lia) #[H,I.tok _,by rw[isEmpty_of r];exact q]
  .subst e';let#[its,r,pl,hz]:=I.tuple hx;have b9:=r.length;exact truthy_tuple pl (by simp only[HK];lia) #[H,I.tok _,by rw[isEmpty_of r];exact q]
  .subst e';let#[hz,hS,vs,r,m]:a_.length<=sizeLine/\(p==Vw)=false/\∃vs,KV a_ vs/\s.heap.DictOf (bM X.prog X.w) p vs:=I.hok p _ hx;have b9:a_.length=vs.length:=Paired.length r;exact wpAny_truthy_dict hS m Md #[H,I.tok _,by rw[yf r];exact q]
 |_=>exact(show False from e).elim
def qA(ha:PE X a ta)(he:∀g5,isTrue a X.env g5=(do let v <-g5;VO a.pos;Vv [v] (truthy v))):
  PT X a (λσ H Q=>ta σ H λx H'=>∃k,TruV X.K x H' k/\Q k H'):=by
 intro pins s σ H Q I h;exact isTrue_plain (thn (ha pins s σ H _ I h) λv s1 ⟨x,H1,I1,r1,q1⟩=>yg pins s1 σ H1 x v Q I1 r1 q1) (he _)
def yh:OpR X (Vr .Add) (λx y H Q=>∃i j,x=.str i/\y=.str j/\i.length+j.length<=sizeLine/\Q (.str (i++j)) H):=by
 intro pins s σ H x y v u Q I rx ry h;let#[i,j,rfl,rfl,hz,q]:=h;let#[t,rfl]:=rx;let#[t',rfl]:=ry;exact add_str (λt' tk=>#[.str (i++j),H,I.tok _,#[_,rfl],q]) hz
variable{us:List Os}
def vals1{x:V}(r:Vals [x] us):∃u,us=[u]/\RelV x u:=by
 cases r with
 |cons r1 r2=>cases r2;exact#[_,rfl,r1]
def vals2{x y:V}(r:Vals [x,y] us):∃u w',us=[u,w']/\RelV x u/\RelV y w':=by
 cases r with
 |cons r1 r2=>
  cases r2 with
  |cons r3 r4=>cases r4;exact#[_,_,rfl,r1,r3]
def yi:bI X (.builtin "abs") (λxs H Q=>∃i,xs=[.int i]/\Q (.int (if i<0 then -i else i)) H):=by
 intro pins s σ H xs us Q I r h;let#[i,rfl,q]:=h;let#[u,rfl,t,rfl]:=vals1 r;exact call_abs_int λu tk=>#[.int (if i<0 then -i else i),H,I.tok _,#[_,rfl],q]
def yj(hc:X.calm=true):bI X (.builtin "max") (λxs H Q=>∃i j,xs=[.int i,.int j]/\Q (.int (if j>i then j else i)) H):=by
 intro pins s σ H xs us Q I r h;let#[i,j,rfl,q]:=h;let#[u,w',rfl,#[t,rfl],#[t',rfl]]:=vals2 r;refine max_two_ints (I.ok.hd hc) λh' tk k=>#[_,H,I.kept k,?_,q];by_cases hj:j>i
 .rw[if_pos hj,if_pos hj];exact#[_,rfl]
 .rw[if_neg hj,if_neg hj];exact#[_,rfl]
def yk(hc:X.calm=true):bI X (.builtin "min") (λxs H Q=>∃i j,xs=[.int i,.int j]/\Q (.int (if j<i then j else i)) H):=by
 intro pins s σ H xs us Q I r h;let#[i,j,rfl,q]:=h;let#[u,w',rfl,#[t,rfl],#[t',rfl]]:=vals2 r;refine min_two_ints (I.ok.hd hc) λh' tk k=>#[_,H,I.kept k,?_,q];by_cases hj:j<i
 .rw[if_pos hj,if_pos hj];exact#[_,rfl]
 .rw[if_neg hj,if_neg hj];exact#[_,rfl]
def yl:bI X (.type "int") (λxs H Q=>(∃i,xs=[.int i]/\Q (.int i) H)\/∃k,xs=[.bl k]/\Q (.int (if k then 1 else 0)) H):=by
 intro pins s σ H xs us Q I r h;rcases h with⟨i,rfl,q⟩|⟨k,rfl,q⟩
 .obtain⟨u,rfl,t,rfl⟩:=vals1 r;exact call_int_int #[.int i,H,I,#[_,rfl],q]
 .obtain⟨u,rfl,r1⟩:=vals1 r;cases r1;exact call_int_bool #[.int (if k then 1 else 0),H,I.tok _,#[_,rfl],q]
def ym:bI X (.type "str") (λxs H Q=>∃i,xs=[.int i]/\i.natAbs.log2<1920/\Q (.str (toString i)) H):=by
 intro pins s σ H xs us Q I r h;let#[i,rfl,hz,q]:=h;let#[u,rfl,t,rfl]:=vals1 r;exact PySem.P.str_of_int hz #[.str _,H,I.tok _,#[_,rfl],q]
def LenV(K:Ex)(x:V)(H:Hp)(n:Nat):Prop:=
 match x with
 |.str y=>y.length<=sizeLine/\n=y.length
 |.byt y=>y.size<=sizeLine/\n=y.size
 |.ref p=>(∃xs,SqL K H p xs/\n=xs.length)\/∃xs,SqT K H p xs/\n=xs.length
 |_=>False
def jN:bI X (.builtin "len") (λxs H Q=>∃x n,xs=[x]/\LenV X.K x H n/\Q (.int n) H):=by
 intro pins s σ H xs us Q I r h;let#[x,n,rfl,e,q]:=h;let#[u,rfl,rx]:=vals1 r;have hl:=line63;have hs:sizeLine=16777216:=V2;cases x with
 |str y=>
  let#[t,rfl]:=rx;let#[hy,e']:y.length<=sizeLine/\n=y.length:=e;subst e';exact len_str Md #[.int _,H,I.tok _,#[_,rfl],q]
 |byt y=>
  let#[t,rfl]:=rx;let#[hy,e']:y.size<=sizeLine/\n=y.size:=e;subst e';exact len_bytes Md #[.int _,H,I.tok _,#[_,rfl],q]
 |ref p=>
  cases rx;have e':(∃xs,SqL X.K H p xs/\n=xs.length)\/∃xs,SqT X.K H p xs/\n=xs.length:=e;rcases e' with⟨xs,hx,e'⟩|⟨xs,hx,e'⟩
  .subst e';let#[its,r',pl,hz]:=I.list hx;have b9:=r'.length;exact Calls.call_len_list pl.isList (by simp only[HK];lia) #[.int xs.length,H,I.tok _,#[_,by simp only[HK];rw[b9]],q]
  .subst e';let#[its,r',pl,hz]:=I.tuple hx;have b9:=r'.length;exact len_tuple pl (by simp only[HK];lia) #[.int xs.length,H,I.tok _,#[_,by simp only[HK];rw[b9]],q]
 |_=>exact(show False from e).elim
end
structure ObjM(h:Heap)(x dx C:Pi)(mA:Str->Option Os):Prop where
 obj:h.get? x=be (instObj C dx)
 ns:h.Ns1 dx mA
 ne:dx≠x
variable{mA:Lq->Option Os}
def jO{dx:Pi}(n:h.Ns1 dx mA):∃od,h.get? dx=be od/\∀name,lookIn name od=be (mA name):=by
 let#[o,es,ep,ho,hd,hk,_,hm]:=n;refine#[o,ho,λname=>?_];have e:=hm name;unfold nsFind findBy at e;rw[<-Array.find?_toList]at e;unfold lookIn;rw[hd];dsimp only;split
 .rename_i y q;rw[q]at e;exact congrArg be e
 .rename_i q;rw[q]at e;have a:es.toList.any (·.refKey)=false:=by
   rw[List.any_eq_false];intro y hy;let#[z,t,q9]:=hk y (Array.mem_toList_iff.mp hy);simp[DictEntry.refKey,q9]
  have a':¬es.toList.any (·.refKey)=true:=by rw[a];exact HH
  rw[if_neg a'];exact congrArg be e
variable{C:Pi}
def ObjM.look{x dx:Pi}(I:ObjM h x dx C mA):∃od,PySem.W.InstAt h x (instObj C dx) C (be od)/\∀name,lookIn name od=be (mA name):=
 let ⟨od,ho,hl⟩:=jO I.ns
 #[od,#[I.obj,rfl,rfl,ho],hl]
section
variable {prog:U5}{w:U'}{A:U_}{E:Os->SB->Prop}{s:SB}{K:Ex}{x dx C f:Pi}{mA:Lq->Option Os}{name:Lq}{v:Os}
def yn{z7:Bool}{Q:Os->SB->Prop}(X:K.In s.heap)(I:ObjM s.heap x dx C mA)(hg:plainGet K C name=true)(hh:hasDictIn K C=true)
  (ha:HB K (.ref C) name=be w6) (hv:mA name=be v) (SJ:Kq v=true) (h:Q v {s with toks:=s.toks+1}):
  U8 (U4 prog w) A (Wy (.ref x) name z7) Q E s:=by
 let#[od,J,hl]:=I.look;exact get_value X J (plainGet_of hg).1 (findObj_own hh ha rfl (by rw[hl,hv])) SJ h
def yo{pl:WB Bool}{Q:Os×List Os->SB->Prop}(X:K.In s.heap)(I:ObjM s.heap x dx C mA)(hg:plainGet K C name=true)
  (hf:HB K (.ref C) name=be (be (.ref f))) (ht:isFn K (.ref f)=true) (hv:mA name=w6) (h:Q (.ref f,[.ref x]) s):
  U8 (U4 prog w) A (V5 (.ref x) name pl) Q E s:=by
 let#[od,J,hl]:=I.look;exact method_fn X J (plainGet_of hg).1 (plainGet_of hg).2 hf (beq_iff_eq.mp ht) (by show(lookIn name od).map (·.isSome)=be false;rw[hl,hv];rfl) h
def yp{ns:List Lq}{Q:Unit->SB->Prop}(X:K.In s.heap)(I:ObjM s.heap x dx C mA)
  (hs:HB K (.ref C) "__setattr__"=be (be (.builtin "object.__setattr__"))) (hp:plainOver K C=true) (ht:takerIn K C name=be w6) (hh:hasDictIn K C=true)
  (hw:PySem.Within mA ns) (m6:ns.length<=sizeLine)
  (h:∀h',ObjM h' x dx C (λy=>if y=name then be v else mA y)->Heap.SameBut dx s.heap h'->Q () {s with heap:=h',toks:=s.toks+2}):
  U8 (U4 prog w) A (setAttr (.ref x) name v) Q E s:=by
 let#[od,J,hl]:=I.look;refine PySem.W.set_plain X J hs (osa_open (s:={s with toks:=s.toks+1}) (r:=w6) X J hp ht λb=>?_);let#[cd,hc,g_]:=any_some hh;have hx:s.heap.get? x=be #[.ref C,be dx,.plain,[].toArray]:=I.obj;refine P3 (SZ (P3 (P3 (Wi hx (P3 (PySem.W.Looks.here (s:={s with toks:=s.toks+1}) (PySem.W.looks_clsIn X hc) ?_))))));rw[g_];refine SZ (a:=be dx) (P3 (SZ (P3 ?_)));refine wpAny_nsSet1 (s:={s with toks:=s.toks+1}) I.ns λh' Lf j_=>?_;let#[oD,SK,SM,O6,O7,O8]:=Lf.count (PySem.Within.cons name v hw);refine P3 (wpAny_lookBehind O6 (by rw[O7];exact pastItsLine_dict (HG O8 (by rw[HA];lia))) ?_);exact SZ (h _ #[(j_.2 _ (Ne.symm I.ne)).trans I.obj,Lf,I.ne] j_)
def qB{R:Result->SB->Prop}{vs:List Os}{kw:List (Lq×Os)}(X:K.In s.heap)(hm:makesIn K C=true)
  (hi:HB K (.ref C) "__init__"=be (be (.ref f))) (hf:Ju K (.ref f)=be (.type "function"))
  (h:V6 (U4 prog w) (A.under (.builtin "type.__call__" #[.ref C::vs,kw])) (.call (.ref f) #[.ref (s.heap.objs.size+1)::vs,kw]) (InitBack (s.heap.objs.size+1) R)
   {s with heap:=(s.heap.push emptyDict).push (instObj C s.heap.objs.size)}):
  V6 (U4 prog w) A (.call (.ref C) #[vs,kw]) R s:=by
 let#[hh,g,d,t,os]:=s;exact make_core (makes_of X hm) (PySem.W.looks_findIn X hi) (λself=>PySem.W.bind_fn X self hf) (.inl rfl) h
end
def putF(f:Lq)(v:V):List (Lq×V)->List (Lq×V)
 |[]=>[(f,v)]
 |(g,x)::r=>if g=f then(g,v)::r else(g,x)::putF f v r
def qC(f g:Lq)(v:V):∀fs:List (Lq×V),(putF f v fs).lookup g=if g=f then be v else fs.lookup g
 |[]=>by
  show IK g [(f,v)]=_;by_cases h:g=f
  .have hb:(g==f)=true:=beq_iff_eq.mpr h;simp only[IK,hb,if_pos h]
  .have hb:(g==f)=false:=beq_eq_false_iff_ne.mpr h;simp only[IK,hb,if_neg h]
 |(k,x)::r=>by
  have ih:=qC f g v r;rw[show putF f v ((k,x)::r)=(if k=f then(k,v)::r else(k,x)::putF f v r)from rfl];by_cases hk:k=f
  .rw[if_pos hk];by_cases h:g=k
   .have hb:(g==k)=true:=beq_iff_eq.mpr h;simp only[IK,hb,if_pos (h.trans hk)]
   .have hb:(g==k)=false:=beq_eq_false_iff_ne.mpr h;simp only[IK,hb,if_neg (λe:g=f=>h (e.trans hk.symm))]
  .rw[if_neg hk];by_cases h:g=k
   .have hb:(g==k)=true:=beq_iff_eq.mpr h;simp only[IK,hb,if_neg (λe:g=f=>hk (h.symm.trans e))]
   .have hb:(g==k)=false:=beq_eq_false_iff_ne.mpr h;simp only[IK,hb];exact ih
def jP(f:Lq)(v:V):∀fs:List (Lq×V),f∈(putF f v fs).map (·.1)/\∀g,g∈fs.map (·.1)->g∈(putF f v fs).map (·.1)
 |[]=>#[by simp[putF],λg h=>by simp at h]
 |(k,x)::r=>by
  let#[i1,i2]:=jP f v r;rw[show putF f v ((k,x)::r)=(if k=f then(k,v)::r else(k,x)::putF f v r)from rfl];by_cases hk:k=f
  .rw[if_pos hk];subst hk;exact#[Mn,λg h=>by simpa using h]
  .rw[if_neg hk];refine#[?_,λg h=>?_]
   .rw[HR];exact Hz _ i1
   .rw[HR]at h ⊢;rcases Hx.mp h with e|e
    .exact Hx.mpr (.inl e)
    .exact Hz _ (i2 g e)
def qD(f:Lq)(v:V):∀fs:List (Lq×V),(putF f v fs).length<=fs.length+1
 |[]=>by simp[putF]
 |(k,x)::r=>by
  have ih:=qD f v r;rw[show putF f v ((k,x)::r)=(if k=f then(k,v)::r else(k,x)::putF f v r)from rfl];by_cases hk:k=f
  .rw[if_pos hk,HA,HA];lia
  .rw[if_neg hk,HA,HA];lia
def RelO.some_of{v:V}{o:Option Os}(r:RelO (be v) o):∃u,o=be u/\RelV v u:=by
 cases o with
 |none=>exact(show False from r).elim
 |some u=>exact#[u,rfl,r]
def RelO.none_of{o:Option Os}(r:RelO w6 o):o=none:=by
 cases o with
 |none=>rfl
 |some u=>exact(show False from r).elim
def qE{v:V}(r:RelV v u):Kq u=true:=by
 cases v with
 |non=>cases(show u=Value.none from r);rfl
 |bl b=>cases(show u=Value.bool b from r);rfl
 |int i=>let#[t,e]:=(show ∃t,u=Value.int i t from r);cases e;rfl
 |str x=>let#[t,e]:=(show ∃t,u=Value.str x t from r);cases e;rfl
 |byt b=>let#[t,e]:=(show ∃t,u=Value.bytes b t from r);cases e;rfl
 |flt b=>let#[t,e]:=(show ∃t,u=Value.float b t from r);cases e;rfl
 |ref a=>cases(show u=Value.ref a from r);rfl
 |ty n=>cases(show u=Value.type n from r);rfl
section
variable {P:U5}{w:U'}{H H':Hp}{h h':Heap}{a C dx:Pi}{fs n5:List (Lq×V)}
def gX(hok:HOk P w H h)(e:H a=be (.ins C dx fs)):∃mA,ObjM h a dx C mA/\(∀f,RelO (fs.lookup f) (mA f))/\PySem.Within mA (fs.map (·.1))/\fs.length<=1000/\H dx=be (.own a):=by
 let#[d,z,ne,ob,mA,n,r,q]:=(show ObjOk P w H h a (.ins C dx fs)from hok a _ e);exact#[mA,#[ob,n,ne],r,q,z,d]
end
structure Cls(K:Ex)(C:Pi):Prop where
 pg:plainGet K C Str.empty=true
 hd:hasDictIn K C=true
 po:plainOver K C=true
 sa:HB K (.ref C) "__setattr__"=be (be (.builtin "object.__setattr__"))
def Cls.get(c:Cls K C)(f:Lq):plainGet K C f=true:=c.pg
def NoAttr(K:Ex)(C:Pi)(f:Lq):Prop:=HB K (.ref C) f=be w6
def NoAttr.taker{f:Lq}(n:NoAttr K C f):takerIn K C f=be none:=by
 unfold takerIn;rw[show HB K (.ref C) f=be w6 from n];rfl
structure Meth(K:Ex)(C:Pi)(m:Str)(f:Pi):Prop where
 at_:HB K (.ref C) m=be (be (.ref f))
 fn:isFn K (.ref f)=true
 kp:keepIn K (.ref f)=true
section
variable {X:Cx}{pins:List (Pi×Vk)}{σ:St}{H:Hp}{s:SB}{a C dx:Pi}{fs:List (Lq×V)}{f:Lq}{v:V}{A:U_}{E:Os->SB->Prop}
variable{Q:Os->SB->Prop}
def yq{b:Bool}(I:Inv X pins σ H s)(e:H a=be (.ins C dx fs))(c:Cls X.K C)(n:NoAttr X.K C f)(l:fs.lookup f=be v)
  (h:∀u s',Inv X pins σ H s'->RelV v u->Q u s'):U8 (U4 X.prog X.w) A (Wy (.ref a) f b) Q E s:=by
 let#[mA,O,r,_,_,_]:=gX I.hok e;let#[u,hu,ru]:=RelO.some_of (v:=v) (o:=mA f) (by rw[<-l];exact r f);exact yn I.kIn O (c.get f) c.hd n hu (qE ru) (h u _ (I.tok _) ru)
def jQ{m:Lq}{g:Pi}{pl:WB Bool}{Q:Os×List Os->SB->Prop}(I:Inv X pins σ H s)(e:H a=be (.ins C dx fs))(c:Cls X.K C)(k:Meth X.K C m g)(l:fs.lookup m=w6)
  (h:Q (.ref g,[.ref a]) s):U8 (U4 X.prog X.w) A (V5 (.ref a) m pl) Q E s:=by
 let#[mA,O,r,_,_,_]:=gX I.hok e;have hn:mA m=none:=RelO.none_of (by rw[<-l];exact r m);exact yo I.kIn O (c.get m) k.at_ k.fn hn h
def yr{y:V}{u:Os}{Q:Unit->SB->Prop}(I:Inv X pins σ H s)(e:H a=be (.ins C dx fs))(c:Cls X.K C)(n:NoAttr X.K C f)(hl:fs.length<1000)(ry:RelV y u)
  (h:∀s',Inv X pins σ (upd H a (.ins C dx (putF f y fs))) s'->Q () s'):U8 (U4 X.prog X.w) A (setAttr (.ref a) f u) Q E s:=by
 let#[mA,O,r,wi,_,ho]:=gX I.hok e;have hz:(fs.map (·.1)).length<=sizeLine:=by rw[HE,V2];lia
 refine yp I.kIn O c.sa c.po n.taker c.hd wi hz λh' O' sb=>h _ ?_;have hd:∃o,h'.get? dx=be o:=let ⟨o,_,_,e',_⟩:=O'.ns;#[o,e']
 refine I.write (x:=a) (e:=dx) (by rw[e];exact True.intro) (.inr ho) (λb q hb z=>(sb.2 b hb).trans z) hd ?_;refine#[by rw[ar O.ne];exact ho,?_,O.ne,O'.obj,_,O'.ns,λg=>?_,λg hg=>?_]
 .have:=qD f y fs;lia
 .show RelO ((putF f y fs).lookup g) (if g=f then be u else mA g);rw[qC];by_cases q:g=f
  .rw[if_pos q,if_pos q];exact ry
  .rw[if_neg q,if_neg q];exact r g
 .by_cases q:g=f
  .rw[q];exact(jP f y fs).1
  .refine(jP f y fs).2 g (wi g λz=>hg ?_);show(if g=f then be u else mA g)=w6;rw[if_neg q];exact z
def Inv.made(I:Inv X pins σ H s):Inv X pins σ (upd (upd H s.heap.objs.size (.own (s.heap.objs.size+1))) (s.heap.objs.size+1) (.ins C s.heap.objs.size []))
  {s with heap:=(s.heap.push emptyDict).push (instObj C s.heap.objs.size)}:=by
 have e1:(s.heap.push emptyDict).get? s.heap.objs.size=be emptyDict:=Heap.get?_push_size s.heap rfl;have e2:((s.heap.push emptyDict).push (instObj C s.heap.objs.size)).get? (s.heap.objs.size+1)=be (instObj C s.heap.objs.size):=by
  have:=Heap.get?_push_size (s.heap.push emptyDict) (o:=instObj C s.heap.objs.size) rfl;rwa [Heap.size_push]at this
 have e3:(s.heap.push emptyDict).Ns s.heap.objs.size (λ_=>w6):=#[emptyDict,[].toArray,_,e1,rfl,(λe he=>absurd he Mn),λ_=>rfl];have I1:=I.laid (a:=s.heap.objs.size) (o:=.own (s.heap.objs.size+1)) (h':=s.heap.push emptyDict) (t':=s.toks) (λb u q=>Heap.get?_push_of_some _ q) (Hw _) #[_,e1];refine I1.laid (a:=s.heap.objs.size+1) (o:=.ins C s.heap.objs.size []) (t':=s.toks) (λb u q=>Heap.get?_push_of_some _ q) (Jv (Heap.size_push _ _)) ?_;have ne:s.heap.objs.size≠s.heap.objs.size+1:=HD (Jw _);refine#[by rw[ar ne,aC],HS _,ne,e2,λ_=>w6,(Heap.Ns1.of_empty e3).at λo q=>Heap.get?_push_of_some _ q,λ_=>True.intro,λy hy=>absurd rfl hy]
def attr_of{prog:U5}{w:U'}{env:VP}{e:U7}{f:Lq}{pos:Vf}{s:SB}(hb:Vb e f env (Vc e env)=Vc e env)
  (h:U8 (U4 prog w) A (Vc e env) (λo s₁=>U8 (U4 prog w) A (Wy o f true) Q E s₁) E s):U8 (U4 prog w) A (Vc (.Attribute e f pos) env) Q E s:=
 Attribute_any_ h (by rw[arm_eval_Attribute,hb])
end
def tFld(K:Ex)(ta:TE)(f:Lq):TE:=λσ H Q=>ta σ H λx H1=>∃a C dx fs v,x=.ref a/\H1 a=be (.ins C dx fs)/\Cls K C/\NoAttr K C f/\fs.lookup f=be v/\Q v H1
def sFld(K:Ex)(ta tv:TE)(f:Lq):TS:=λD σ H=>tv σ H λy H1=>ta σ H1 λx H2=>∃a C dx fs,x=.ref a/\H2 a=be (.ins C dx fs)/\Cls K C/\NoAttr K C f/\fs.length<1000/\
 D.nx σ (upd H2 a (.ins C dx (putF f y fs)))
section
variable {X:Cx}{o e value:U7}{f:Lq}{pos d7 Nj:Vf}{ta tv:TE}
def qF(he:PE X e ta)(hb:Vb e f X.env (Vc e X.env)=Vc e X.env):PE X (.Attribute e f pos) (tFld X.K ta f):=by
 intro pins s σ H Q I h;refine attr_of hb (thn (he pins s σ H _ I h) λu s1 c7=>?_);let#[x,H1,I1,rx,a,C,dx,fs,v,ex,ea,c,n,l,q]:=c7;subst ex;obtain rfl:u=Value.ref a:=rx;exact yq I1 ea c n l λu' s2 I2 ru=>#[v,H1,I2,ru,q]
def qG(ha:PE X o ta)(hv:PE X value tv)(hs:Vn value (be (.Attribute o f d7)) pos.line X.env=pure false):PS X (.Assign [.Attribute o f d7] value pos) (sFld X.K ta tv f):=by
 intro pins s σ H D I h;refine Wa (thn (hv pins s σ H _ I h) λu s1 ⟨y,H1,I1,ry,q⟩=>thn (ha pins s1 σ H1 _ I1 q) λov s2 hh=>?_) hs;let#[x,H2,I2,rx,a,C,dx,fs,ex,ea,c,n,l,q2]:=hh;subst ex;obtain rfl:ov=Value.ref a:=rx;exact yr I2 ea c n l ry λs3 I3=>#[σ,_,I3,q2]
end
section
variable {X:Cx}{pins:List (Pi×Vk)}{σ:St}{H:Hp}{s:SB}{A:U_}{E:Os->SB->Prop}{Q:Os->SB->Prop}{c:Os}{b:Bool}
inductive TyOf(K:Ex)(H:Hp):V->Os->Prop where
 |non:TyOf K H .non (.type "NoneType")
 |bl (x:Bool):TyOf K H (.bl x) (.type "bool")
 |int (i:Int):TyOf K H (.int i) (.type "int")
 |str (x:Str):TyOf K H (.str x) (.type "str")
 |flt (x:UInt64):TyOf K H (.flt x) (.type "float")
 |lst {a:Pi} {xs:List V} (e:H a=some (.lst xs)):TyOf K H (.ref a) (.type "list")
 |frz {a:Pi} {o:Vk} {xs:List V} (e:H a=some (.frz o (.lst xs))):TyOf K H (.ref a) (.type "list")
 |tup {a:Pi} {xs:List V} (e:H a=some (.tup xs)):TyOf K H (.ref a) (.type "tuple")
 |dK {a:Pi} {a_:List (Key×V)} (e:H a=some (.dK a_)):TyOf K H (.ref a) (.type "dict")
 |dT {a:Pi} {a_:List (List Key×V)} (e:H a=some (.dT a_)):TyOf K H (.ref a) (.type "dict")
 |ins {a C dx:Pi} {fs:List (Str×V)} (e:H a=some (.ins C dx fs)) (cl:Cls K C) (ha:HB K (.ref C) "__class__"=some (some (.builtin "object.__class__")))
   (hn:Iy K (.builtin "object.__class__") "__get__"=be (be (.builtin "getset_descriptor.__get__"))) (RC:Jf K (.builtin "object.__class__")=be true)
   (hm:Ig K C (.type "object")=be true):TyOf K H (.ref a) (.ref C)
def yt{x:V}{u t:Os}(I:Inv X pins σ H s)(rx:RelV x u)(ty:TyOf X.K H x t)(e:kitOne X.K t c=be b)(h:∀tk,Q (.bool b) {s with toks:=tk}):
  U8 (U4 X.prog X.w) A (call (.builtin "isinstance") [u,c]) Q E s:=by
 cases ty with
 |non=>cases(show u=Value.none from rx);exact kia_one kitx_none I.kIn True.intro e (λz=>nomatch z) h
 |bl y=>cases(show u=Value.bool y from rx);exact kia_one kitx_bool I.kIn True.intro e (λz=>nomatch z) h
 |int i=>let#[t,q]:=(show ∃t,u=Value.int i t from rx);cases q;exact kia_one kitx_int I.kIn True.intro e (λz=>nomatch z) h
 |str y=>let#[t,q]:=(show ∃t,u=Value.str y t from rx);cases q;exact kia_one kitx_str I.kIn True.intro e (λz=>nomatch z) h
 |flt y=>let#[t,q]:=(show ∃t,u=Value.float y t from rx);cases q;exact kia_one kitx_float I.kIn True.intro e (λz=>nomatch z) h
 |@lst a xs ea=>
  cases(show u=Value.ref a from rx);let#[_,_,n,_,h1]:=(show ObjOk X.prog X.w H s.heap a (.lst xs)from I.hok a _ ea);exact kia_one kitx_list I.kIn #[_,h1,rfl] e (λz=>nomatch z) h
 |@frz a ob xs ea=>
  cases(show u=Value.ref a from rx);let#[_,_,_,n,_,h1]:=(show ObjOk X.prog X.w H s.heap a (.frz ob (.lst xs))from I.hok a _ ea);exact kia_one kitx_list I.kIn #[_,h1,rfl] e (λz=>nomatch z) h
 |@tup a xs ea=>
  cases(show u=Value.ref a from rx);let#[_,_,_,p]:=(show ObjOk X.prog X.w H s.heap a (.tup xs)from I.hok a _ ea);let#[o,h1,h2,_]:=p;exact kia_one kitx_tuple I.kIn #[o,h1,h2] e (λz=>nomatch z) h
 |@dK a a_ ea=>
  cases(show u=Value.ref a from rx);let#[_,_,vs,_,p]:=(show ObjOk X.prog X.w H s.heap a (.dK a_)from I.hok a _ ea);let#[o,es,ep,h1,h2,_]:=p;exact kia_one kitx_dict I.kIn #[o,h1,h2.1] e (λz=>nomatch z) h
 |@dT a a_ ea=>
  cases(show u=Value.ref a from rx);let#[_,_,xs,_,o,es,ep,h1,h2,_]:=(show ObjOk X.prog X.w H s.heap a (.dT a_)from I.hok a _ ea);exact kia_one kitx_dict I.kIn #[o,h1,h2.1] e (λz=>nomatch z) h
 |@ins a C dx fs ea cl ha hn RC hm=>
  cases(show u=Value.ref a from rx);let#[mA,O,_]:=gX I.hok ea;let#[od,J,_]:=O.look;exact kia_one (kitx_own (cl.get _) cl.hd ha hn RC hm) I.kIn J e (λz=>nomatch z) h
end
structure Room(k:Nat)(A:U_):Prop where
 hd:A.handled=w6
 dp:A.depth+3*k+5<recursionLimit
 un:A.units+16*k+200<Wd
variable{k:Nat}
def Room.mono{j:Nat}(r:Room k A)(h:j<=k):Room j A:=#[r.hd,by have:=r.dp;lia,by have:=r.un;lia]
def Room.deeper(r:Room (k+1) A)(env:VP):Room k (A.deeper env):=
 #[r.hd,by have:=r.dp;show A.depth+1+3*k+5<_;lia,by have:=r.un;show A.units+3+16*k+200<_;lia]
variable{kw:List (Lq×Os)}
def yu:(A.under (.builtin "type.__call__" #[.ref C::us,kw])).depth=A.depth+1:=by
 first|rfl|simp[Around.under,Code.weight,Code.isCreation,Code.isGuard,Code.isCaller,Code.frames,Code.isFrame,guardIds]
def yw:(A.under (.builtin "type.__call__" #[.ref C::us,kw])).units=A.units+1:=by
 first|rfl|simp[Around.under,Code.cUnits,Code.frames,Code.isFrame]
def Room.make(r:Room (k+1) A)(C:Pi)(us:List Os)(kw:List (Lq×Os)):Room k (A.under (.builtin "type.__call__" #[.ref C::us,kw])):=
 #[r.hd,by have:=r.dp;rw[yu];lia,by have:=r.un;rw[yw];lia]
def Room.depth(r:Room k A):A.depth<recursionLimit:=by have:=r.dp;lia
def Room.units(r:Room k A):A.units+64<Wd:=by have:=r.un;lia
def tNil:TA:=λ_ H Q=>Q [] H
def qH(ta:TE)(tr:TA):TA:=λσ H Q=>ta σ H λx H1=>tr σ H1 λxs H2=>Q (x::xs) H2
section
variable {X:Cx}{e:U7}{es:List U7}{te:TE}{t:TA}{pos:Vf}
def pa_nil:PA X [] tNil:=λ_ _ _ _ H Q I h=>Calls.spliced_nil #[[],H,I,.nil,h]
def bt(ha:PE X e te)(hr:PA X es t)(hs:zSE X e es\zA0):PA X (e::es) (qH te t):=by
 intro pos pins s σ H Q I h;rw[hs];show U8 _ _ (spliced ((false,Vc e X.env)::VC pos (U9 es X.env))) _ _ s;refine Calls.spliced_cons (thn (ha pins s σ H _ I h) λu s1 c7=>?_);let#[x,H1,I1,r1,q1]:=c7;exact thn (hr pos pins s1 σ H1 _ I1 q1) λus s2 ⟨xs,H2,I2,r2,q2⟩=>#[x::xs,H2,I2,.cons r1 r2,q2]
def tTup(t:TA):TE:=λσ H Q=>t σ H λxs H1=>xs.length<=sizeLine/\∀p,H1 p=w6->Q (.ref p) (upd H1 p (.tup xs))
def tLst(t:TA):TE:=λσ H Q=>t σ H λxs H1=>xs.length<=sizeLine/\∀p,H1 p=w6->Q (.ref p) (upd H1 p (.lst xs))
def qI{x1}(h:PA X es t):PE X (.Tuple es x1 pos) (tTup t):=by
 intro pins s σ H Q I hq;refine wpAny_Tuple_spliced (thn (h pos pins s σ H _ I hq) λus s1 ⟨xs,H1,I1,r,z,q⟩=>#[by rw[<-r.length];exact z,?_]);have hf:H1 s1.heap.objs.size=none:=I1.hok.fresh (Hw _);refine#[.ref s1.heap.objs.size,upd H1 s1.heap.objs.size (.tup xs),I1.laid (t':=s1.toks) (λb u e=>Heap.get?_push_of_some _ e) (Hw _) ?_,rfl,q _ hf];exact#[z,us,r,#[_,Heap.get?_push_size _ rfl,rfl,_,rfl]]
def jR(h:PA X es t):PE X (.List es pos) (tLst t):=by
 intro pins s σ H Q I hq;refine wpAny_List_spliced (thn (h pos pins s σ H _ I hq) λus s1 ⟨xs,H1,I1,r,z,q⟩=>#[by rw[<-r.length];exact z,?_]);have hf:H1 s1.heap.objs.size=none:=I1.hok.fresh (Hw _);refine#[.ref s1.heap.objs.size,upd H1 s1.heap.objs.size (.lst xs),I1.laid (t':=s1.toks) (λb u e=>Heap.get?_push_of_some _ e) (Hw _) ?_,rfl,q _ hf];exact#[z,us,0,r,Heap.get?_push_size _ rfl]
end
abbrev Sp:=List V->Hp->VK->XK->Prop
abbrev CXT:=List VP->Hp->SB->XK->Os->SB->Prop
structure Env0(P:U5)(w:U')(K:Ex)(mg:Str->Option Os)(base:Heap)(A:U_)(outer:List VP)(s:SB)(H:Hp):Prop where
 frames:A.frames=be outer
 mod:Mod K mg base
 bs:∀b o,base.get? b=be o->s.heap.get? b=be o/\H b=w6
 bsz:base.objs.size<=s.heap.objs.size
 funs:s.heap.FunFrames base outer
 frf:∀b∈frs outer,H b=w6
 hok:HOk P w H s.heap
 bare:VU s.gens
def CE(outer:List VP)(P:U5)(w:U')(H:Hp)(s:SB)(Q:VK)(u:Os)(s':SB):Prop:=
 ∃v H',s'.os=s.os/\VU s'.gens/\Un (frs outer) [] H H' s.heap s'.heap/\HOk P w H' s'.heap/\RelV v u/\Q v H'
def CR(CX:CXT)(outer:List VP)(P:U5)(w:U')(H:Hp)(s:SB)(Q:VK)(E:XK)(r:Result)(s':SB):Prop:=
 match r with
 |.ok (.ret u)=>CE outer P w H s Q u s'
 |.ok _=>False
 |.error e=>CX outer H s E e s'
structure FnOk(P:U5)(w:U')(K:Ex)(mg:Str->Option Os)(base:Heap)(CX:CXT)(k:Nat)(f:Pi)(fd:Vd)(ps:List Str)(sp:Sp):Prop where
 len:∀vs H Q E,sp vs H Q E->vs.length=ps.length
 run:∀(A:U_) (outer:List VP) (s:SB) (H:Hp) (args:Args) (us:List Os) (vs:List V) (Q:VK) (E:XK),Room k A->Env0 P w K mg base A outer s H->VY s fd args (ps.zip us)->Vals vs us->sp vs H Q E->
  V6 (U4 P w) A (.call (.ref f) args) (CR CX outer P w H s Q E) s
variable{f:Pi}{mg:Lq->Option Os}{base:Heap}{CX:CXT}{fd:Vd}{ps:List Lq}{sp:Sp}
def FnOk.mono{j:Nat}(F:FnOk P w K mg base CX j f fd ps sp)(h:j<=k):
  FnOk P w K mg base CX k f fd ps sp:=#[F.len,λA outer s H args us vs Q E hr=>F.run A outer s H args us vs Q E (hr.mono h)]
def FnOk.imp{LU:Sp}(F:FnOk P w K mg base CX k f fd ps sp)
  (h:∀vs H Q E,LU vs H Q E->sp vs H Q E):FnOk P w K mg base CX k f fd ps LU:=
 #[λvs H Q E q=>F.len vs H Q E (h _ _ _ _ q),λA outer s H args us vs Q E hr he hb hv hs=>F.run A outer s H args us vs Q E hr he hb hv (h _ _ _ _ hs)]
variable{outer:List VP}
def Env0.make(e:Env0 P w K mg base A outer s H)(C:Pi)(us:List Os)(kw:List (Lq×Os)):
  Env0 P w K mg base (A.under (.builtin "type.__call__" #[.ref C::us,kw])) outer s H:=#[by first|exact e.frames|(simpa[Around.under,Code.envs,Code.isFrame,pushEnvs]using e.frames),e.mod,e.bs,e.bsz,e.funs,e.frf,e.hok,e.bare]
section
variable {X:Cx}{pins:List (Pi×Vk)}{σ:St}{H:Hp}{s s':SB}
def Inv.env0(I:Inv X pins σ H s):Env0 X.prog X.w X.K X.mg X.base X.A X.stack s H:=
 #[I.ok.frames,I.ok.mod,I.bs,HG I.ok.bsz I.sz,I.stack,I.stkFree,I.hok,I.bare]
def Inv.after{Q:VK}{u:Os}(I:Inv X pins σ H s)(h:CE X.stack X.prog X.w H s Q u s'):EP X pins σ Q u s':=by
 let#[v,H',os,bare,un,hok,r,q]:=h;let#[hh,g,d,t,SN]:=s';obtain rfl:SN=s.os:=os;exact#[v,H',I.call (h':=hh) (g':=g) (d':=d) (t':=t) (ch:=[]) un hok bare (λb z=>absurd z Mn),r,q]
end
def qJ(sp:Sp)(g8:List V)(E:XK)(t:TA):TE:=λσ H Q=>t σ H λvs H1=>sp (vs++g8) H1 Q E
def yx(C:Pi)(sp:Sp)(g8:List V)(E:XK)(t:TA):TE:=λσ H Q=>t σ H λvs H1=>∀x dx,H1 x=w6->H1 dx=w6->dx≠x->
 sp (.ref x::(vs++g8)) (upd (upd H1 dx (.own x)) x (.ins C dx [])) (λv H2=>v=.non/\Q (.ref x) H2) E
def Binds(K:Ex)(fd:Vd)(ps:List Lq)(ds:List Os):Prop:=
 ∀(s:SB) (us:List Os),K.In s.heap->(us++ds).length=ps.length->VY s fd #[us,[]] (ps.zip (us++ds))
def Binds.all(h:∀us:List Os,us.length=ps.length->VI fd #[us,[]]=pure (ps.zip us)):Binds K fd ps []:=λs us _ hl=>by
 rw[H9]at hl ⊢;exact .of_eq (h us hl)
def fV(CX:CXT)(X:Cx)(E:XK):Prop:=∀(pins:List (Pi×Vk)) (σ:St) (H:Hp) (s:SB) (e:Os) (s':SB),Inv X pins σ H s->CX X.stack H s E e s'->X.xe e s'
section
variable {X:Cx}{CX:CXT}{k:Nat}{f C:Pi}{fd:Vd}{ps:List Lq}{sp:Sp}{g8:List V}{ds:List Os}{E:XK}{x m:Lq}{p pos b7:Vf}{e o:U7}{es:List U7}{ta:TE}{t:TA}
variable{pins:List (Pi×Vk)}{us:List Os}{vs:List V}
def yy{σ:St}{H:Hp}{s:SB}{Q:VK}(F:FnOk X.prog X.w X.K X.mg X.base CX k f fd ps sp)(hr:Room k X.A)(hb:Binds X.K fd ps ds)(hd:Vals g8 ds)(hx:fV CX X E)
  (I:Inv X pins σ H s) (r:Vals vs us) (h:sp (vs++g8) H Q E):U8 (U4 X.prog X.w) X.A (call (.ref f) us) (EP X pins σ Q) X.xe s:=by
 have r2:Vals (vs++g8) (us++ds):=r.append hd;have hl:(us++ds).length=ps.length:=by rw[<-r2.length];exact F.len _ _ _ _ h
 refine Vs (Vx (F.run X.A X.stack s H #[us,[]] (us++ds) (vs++g8) Q E hr I.env0 (hb s us I.kIn hl) r2 h) λr s' hq=>?_);cases r with
 |error e=>exact hx pins σ H s e s' I hq
 |ok fl=>
  cases fl with
  |ret u=>exact I.after hq
  |next=>exact False.elim hq
  |brk=>exact False.elim hq
  |cont=>exact False.elim hq
def yz(F:FnOk X.prog X.w X.K X.mg X.base CX k f fd ps sp)(hr:Room k X.A)(hg:Gl X x)(hm:X.mg x=be (.ref f))(hk:keepIn X.K (.ref f)=true)(hb:Binds X.K fd ps ds)(hd:Vals g8 ds)(hx:fV CX X E)
  (ha:PA X (e::es) t) (d6:zND x\zA1) (he:zSE X e es\zA0) (c_:zPL X pos es\zA0):
  PE X (.Call (.Name x p) (e::es) [] pos) (qJ sp g8 E t):=by
 intro pins s σ H Q I h;refine Ve (ck I hg hm ?_ d6);refine callWith_K (h₀:=X.base) I.ok.mod.kin hk (thn (ha pos pins s σ H _ I h) λus s1 ⟨vs,H1,I1,r,q⟩=>#[I1.kIn,?_]) he c_;exact yy F hr hb hd hx I1 r q
structure Mk(K:Ex)(C f:Pi):Prop where
 makes:makesIn K C=true
 init:HB K (.ref C) "__init__"=be (be (.ref f))
 fn:isFn K (.ref f)=true
 kp:keepIn K (.ref C)=true
def yB{σ:St}{H:Hp}{s:SB}{Q:VK}(M:Mk X.K C f)(F:FnOk X.prog X.w X.K X.mg X.base CX k f fd ps sp)(hr:Room (k+1) X.A)(hb:Binds X.K fd ps ds)(hd:Vals g8 ds)
  (hx:fV CX X E) (I:Inv X pins σ H s) (r:Vals vs us)
  (h:∀x dx,H x=w6->H dx=w6->dx≠x->sp (.ref x::(vs++g8)) (upd (upd H dx (.own x)) x (.ins C dx [])) (λv H2=>v=.non/\Q (.ref x) H2) E):
  U8 (U4 X.prog X.w) X.A (call (.ref C) us) (EP X pins σ Q) X.xe s:=by
 have hq:=h (s.heap.objs.size+1) s.heap.objs.size (I.hok.fresh (Iz _)) (I.hok.fresh (Hw _)) (HD (Jw _));have I2:=Inv.made (C:=C) I;have r2:Vals (V.ref (s.heap.objs.size+1)::(vs++g8)) (Value.ref (s.heap.objs.size+1)::(us++ds)):=.cons rfl (r.append hd);have hl:(Value.ref (s.heap.objs.size+1)::us++ds).length=ps.length:=by
  have e:=r2.length;rw[F.len _ _ _ _ hq]at e;exact e.symm
 refine Vs (qB (f:=f) I.kIn M.makes M.init (beq_iff_eq.mp M.fn) (Vx (F.run _ X.stack _ _ #[Value.ref (s.heap.objs.size+1)::us,[]] (Value.ref (s.heap.objs.size+1)::(us++ds)) _ _ E (hr.make C us [])
  (I2.env0.make C us []) (hb _ (Value.ref (s.heap.objs.size+1)::us) I2.kIn hl) r2 hq) λr s' o6=>?_))
 cases r with
 |error e=>exact hx pins σ _ _ e s' I2 o6
 |ok fl=>
  cases fl with
  |ret u=>
   let#[v,H',I3,rv,ev,q3]:=I2.after o6;subst ev;exact#[rv,#[V.ref (s.heap.objs.size+1),H',I3,rfl,q3]]
  |next=>exact False.elim o6
  |brk=>exact False.elim o6
  |cont=>exact False.elim o6
def jS(M:Mk X.K C f)(F:FnOk X.prog X.w X.K X.mg X.base CX k f fd ps sp)(hr:Room (k+1) X.A)(hg:Gl X x)(hm:X.mg x=be (.ref C))(hb:Binds X.K fd ps ds)(hd:Vals g8 ds)(hx:fV CX X E)
  (ha:PA X (e::es) t) (d6:zND x\zA1) (he:zSE X e es\zA0) (c_:zPL X pos es\zA0):
  PE X (.Call (.Name x p) (e::es) [] pos) (yx C sp g8 E t):=by
 intro pins s σ H Q I h;refine Ve (ck I hg hm ?_ d6);refine callWith_K (h₀:=X.base) I.ok.mod.kin M.kp (thn (ha pos pins s σ H _ I h) λus s1 ⟨vs,H1,I1,r,q⟩=>#[I1.kIn,?_]) he c_;exact yB M F hr hb hd hx I1 r q
end
structure FnScope(N P:List Str)(sc:Vy):Prop where
 kind:sc.kind=.function
 co:sc.isCoroutine=false
 gen:sc.isGenerator=false
 nd:N.Nodup
 pre:N.take P.length=P
 par:∀x∈P,sc.names.lookup x=be .local\/sc.names.lookup x=be .cell
 nofree:∀y∈sc.names,y.2≠.free
def qK{kindOf:Lq->Option VJ}{x:Lq}:∀{binds:List (Lq×Os)} {m:Lq->Option Os},(∀v,(x,v)∉binds)->Wr kindOf binds m x=m x
 |[],_,_=>rfl
 |(n,v)::r,m,h=>by
  unfold Wr;rw[qK λw hw=>h w (Hz _ hw)];split
  .have:x≠n:=by intro rfl;exact h v Hy
   simp[this]
  .rfl
def bindC_out{kindOf:Lq->Option VJ}{x:Lq}:∀{binds:List (Lq×Os)} {m:Lq->Option Os},(∀v,(x,v)∉binds)->Ws kindOf binds m x=m x
 |[],_,_=>rfl
 |(n,v)::r,m,h=>by
  unfold Ws;rw[bindC_out λw hw=>h w (Hz _ hw)];split
  .rfl
  .have:x≠n:=by intro rfl;exact h v Hy
   simp[this]
def bindL_get{kindOf:Lq->Option VJ}{x:Lq}{v:Os}:∀{P:List Lq} {vs:List Os} {i:Nat} {m:Lq->Option Os},P.Nodup->P[i]?=be x->vs[i]?=be v->kindOf x=be .local->
  Wr kindOf (P.zip vs) m x=be v
 |[],_,_,_,_,h,_,_=>by simp at h
 |_::_,[],_,_,_,_,h,_=>by simp at h
 |p::P,w::vs,0,m,nd,h1,h2,hk=>by
  simp at h1 h2;subst h1;subst h2;show Wr kindOf ((p,w)::P.zip vs) m p=_;unfold Wr;rw[qK λv hv=>(IA.mp nd).1 (JM hv).1,if_pos hk];simp
 |p::P,w::vs,i+1,m,nd,h1,h2,hk=>by
  show Wr kindOf ((p,w)::P.zip vs) m x=_;unfold Wr;exact bindL_get (i:=i) (IA.mp nd).2 (by simpa using h1) (by simpa using h2) hk
def qL{kindOf:Lq->Option VJ}{x:Lq}{v:Os}:∀{P:List Lq} {vs:List Os} {i:Nat} {m:Lq->Option Os},P.Nodup->P[i]?=be x->vs[i]?=be v->kindOf x≠be .local->
  Ws kindOf (P.zip vs) m x=be v
 |[],_,_,_,_,h,_,_=>by simp at h
 |_::_,[],_,_,_,_,h,_=>by simp at h
 |p::P,w::vs,0,m,nd,h1,h2,hk=>by
  simp at h1 h2;subst h1;subst h2;show Ws kindOf ((p,w)::P.zip vs) m p=_;unfold Ws;rw[bindC_out λv hv=>(IA.mp nd).1 (JM hv).1,if_neg hk];simp
 |p::P,w::vs,i+1,m,nd,h1,h2,hk=>by
  show Ws kindOf ((p,w)::P.zip vs) m x=_;unfold Ws;exact qL (i:=i) (IA.mp nd).2 (by simpa using h1) (by simpa using h2) hk
def start(N:List Lq)(vs:List V):St:=vs.map be++IB (N.length-vs.length) w6
def cxOf(CX:CXT)(P:U5)(w:U')(K:Ex)(mg:Lq->Option Os)(base:Heap)(N:List Lq)(qual:Lq)(scope:Vy)(f:Pi)(cd:Os)(A:U_)(outer:List VP)(s:SB)(H:Hp)(E:XK):Cx where
 prog:=P
 w:=w
 K:=K
 mg:=mg
 base:=base
 A:=A.deeper (Vg qual scope s.heap.objs.size f cd)
 N:=N
 s₀:=s
 H₀:=H
 env:=Vg qual scope s.heap.objs.size f cd
 outer:=outer
 stack:=Vg qual scope s.heap.objs.size f cd::outer
 ex:=[]
 calm:=true
 fn:=λ_=>true
 pn:=[]
 xe:=λe s'=>U8 (U4 P w) (A.deeper (Vg qual scope s.heap.objs.size f cd)) (Wx (Vg qual scope s.heap.objs.size f cd) e) (λ_ O9=>CX outer H s E e O9) (λe' O9=>CX outer H s E e' O9) s'
def cell_has{sc:Vy}{n:Nat}{x:Lq}(h:sc.names.lookup x=be .cell):∃c,(cellsFrom n sc.names []).lookup x=be c:=by
 have q:=cellsFrom_some sc.names n [] (.inl h);exact Option.isSome_iff_exists.mp q
variable{N:List Lq}{scope:Vy}
def yD{qual:Lq}{cd:Os}{s1:SB}{E:XK}{vs:List V}
  (S:FnScope N ps scope) (hd:A.handled=w6) (e0:Env0 P w K mg base A outer s H) (hl:vs.length=ps.length) (r:Vals vs us)
  (x:InCallC s s.heap.objs.size (Wr (Vg qual scope s.heap.objs.size f cd).kindOf (ps.zip us) λ_=>w6) (cellsFrom (s.heap.objs.size+1) scope.names []) (Ws (Vg qual scope s.heap.objs.size f cd).kindOf (ps.zip us) λ_=>w6) s1):
  Inv (cxOf CX P w K mg base N qual scope f cd A outer s H E) [] (start N vs) H s1:=by
 have c_:ps.length<=N.length:=by have:=congrArg Jg S.pre;rw[Jh]at this;lia
 let#[h1,tk,rfl,hk]:=x.done;have Nl:∀b:Pi,b∉(cxOf CX P w K mg base N qual scope f cd A outer s H E).ex:=λb z=>absurd (show b∈([]:List Pi)from z) Mn;refine⟨#[e0.mod,S.kind,rfl,rfl,Hw _,λy z c h1 h2=>?_,λy hy=>?_,λy c _ h=>?_,λ_=>hd,Around.frames_deeper e0.frames,.inr #[rfl,rfl],λb z=>absurd z (Nl b),e0.bs,e0.bsz,λb _ _=>Nl b,λb z=>absurd z (Nl b),e0.funs,e0.frf],
  rfl,e0.bare,Un.kept hk,#[_,x.toInCall.ns,λi y v h1 h2 h3=>?_],λy c h=>#[_,x.cell y c h],e0.hok.fresh (Hw _),λy c h=>?_,λp hp=>absurd (show p∈([]:List (Pi×Vk))from hp) Mn,e0.hok.kept hk,?_⟩
 .exact name_of_addr x.apart (PySem.mem_of_lookup h1) (PySem.mem_of_lookup h2)
 .have hy:scope.names.lookup y=be .cell\/scope.names.lookup y=be .free:=hy;rcases hy with hy|hy
  .exact cell_has hy
  .exact absurd rfl (S.nofree _ (PySem.mem_of_lookup hy))
 .exact Jq (x.above y c (PySem.mem_of_lookup h))
 .have hi:i<vs.length:=by
   unfold start at h2;by_cases hi:i<vs.length
   .exact hi
   .rw[IL (by simpa using hi)]at h2;rw[JN]at h2;split at h2<;>cases h2
  have ha:vs[i]?=be v:=by
   unfold start at h2;rw[Ik (by simpa using hi),HI]at h2;cases e:vs[i]? with
   |none=>rw[e]at h2;cases h2
   |some a=>rw[e]at h2;cases h2;rfl
  let#[u,hu,rv]:=r.get ha;have hp:ps[i]?=be y:=by
   rw[<-S.pre,JO Md];exact h1
  have RD:ps.Nodup:=by rw[<-S.pre];exact S.nd.sublist (List.take_sublist _ _)
  refine#[u,rv,?_];rcases S.par y (Ji hp)with k|k
  .exact .inl #[k,bindL_get RD hp hu k]
  .obtain⟨c,e⟩:=cell_has (n:=s.heap.objs.size+1) k;refine .inr #[.inl k,c,e,?_];have q:=x.cell y c e;rw[qL RD hp hu (by show scope.names.lookup y≠_;rw[k];decide)]at q;exact q
 .exact e0.hok.fresh (Jq (x.above y c (PySem.mem_of_lookup h)))
 .unfold start;show _=N.length;rw[HF,HE,List.length_replicate];lia
def yF{name qual:Lq}{params:Arguments}{body:List U6}{dV kV doc pm cdv ct oc:Os}{an od:Option Pi}
  {osl:Array (Option Os)}   (lk:K.lookup f=be #[oc,od,.func (fnOf name qual params body scope dV kV doc pm an cdv ct),osl]) (h_:codeIn K cdv qual=true) (S:FnScope N ps scope)
  (len:∀vs H Q E,sp vs H Q E->vs.length=ps.length)
  (a9:∀(A:U_) (outer:List VP) (s:SB) (H:Hp) (vs:List V) (Q:VK) (E:XK),Room k (A.deeper (Vg qual scope s.heap.objs.size f cdv))->sp vs H Q E->
   ∃t,PSs (cxOf CX P w K mg base N qual scope f cdv A outer s H E) body t/\t {nx:=λ_ H'=>Q .non H',rt:=Q} (start N vs) H):
  FnOk P w K mg base CX (k+1) f (fnOf name qual params body scope dV kV doc pm an cdv ct) ps sp:=by
 refine#[len,λA outer s H args us vs Q E hr e0 hb r z8=>?_];have hl:=len _ _ _ _ z8;have KX:K.In s.heap:=e0.mod.kin.keeps λb o e=>(e0.bs b o e).1;have SO:s.heap.NoLimit:=e0.mod.nolimit.keeps λb o e=>(e0.bs b o e).1;have Nm:∀y∈ps.zip us,scope.names.lookup y.1=be .local\/(scope.names.lookup y.1=be .cell/\((cellsFrom (s.heap.objs.size+1) scope.names []).lookup y.1).isSome=true):=λ⟨n,v⟩ hy=>by
  rcases S.par n (JM hy).1 with q|q
  .exact .inl q
  .exact .inr #[q,cellsFrom_some _ _ _ (.inl q)]
 refine codeAny_call_function hr.depth (KX _ _ lk) rfl S.co S.gen rfl (codeRec_of KX h_) (hb _ _ _ _ ?_);refine wpAny_newFunctionEnv_cells S.kind Nm λenv he s1 x=>?_;subst he;refine#[SO.keeps x.toInCall.keep,codeAny_func ?_];let#[t,ht,hq]:=a9 A outer s H vs Q E (hr.deeper _) z8;have I:Inv (cxOf CX P w K mg base N qual scope f cdv A outer s H E) [] (start N vs) H s1:=yD S hr.hd e0 hl r x;refine Vj (ht [] s1 (start N vs) H _ I hq) (λfl s' hs=>?_) λe s' hs=>hs;have f6:∀{σ':St} {H':Hp} {v:V} {u:Os},Inv (cxOf CX P w K mg base N qual scope f cdv A outer s H E) [] σ' H' s'->RelV v u->Q v H'->CE outer P w H s Q u s':=
  λ{σ' H' v u} J rv q=>#[v,H',J.os,J.bare,J.base,J.hok,rv,q]
 cases fl with
 |ret u=>
  let#[v,σ',H',J,rv,q]:=hs;exact f6 J rv q
 |next=>
  let#[σ',H',J,q]:=hs;exact f6 (v:=V.non) (u:=Value.none) J rfl q
 |brk=>
  let#[_,_,_,q]:=hs;exact False.elim q
 |cont=>
  let#[_,_,_,q]:=hs;exact False.elim q
section
variable {X:Cx}{x:Lq}{p pos:Vf}{e:U7}{es:List U7}{t:TA}{id T:String}{r:List V->Hp->VK->Prop}
def tCB(r:List V->Hp->VK->Prop)(t:TA):TE:=λσ H Q=>t σ H λvs H1=>r vs H1 Q
def eX(hc:bI X (.builtin id) r)(hg:Gl X x)(hm:X.mg x=w6)(hv:Vl x=be (.builtin id))(ha:PA X (e::es) t)(hn:(x≠"__name__")\zA1)(d6:zND x\zA1)
  (he:zSE X e es\zA0) (c_:zPL X pos es\zA0):PE X (.Call (.Name x p) (e::es) [] pos) (tCB r t):=by
 intro pins s σ H Q I h;refine Ve (dQ I hg hm hv ?_ hn d6);exact PyProof.Rows.callWith_builtin1 (thn (ha pos pins s σ H _ I h) λus s1 ⟨vs,H1,I1,r1,q1⟩=>hc pins s1 σ H1 vs us Q I1 r1 q1) he c_
def qM(hc:bI X (.type T) r)(hg:Gl X x)(hm:X.mg x=w6)(hv:Vl x=be (.type T))(ha:PA X (e::es) t)(hn:(x≠"__name__")\zA1)(d6:zND x\zA1)
  (he:zSE X e es\zA0) (c_:zPL X pos es\zA0):PE X (.Call (.Name x p) (e::es) [] pos) (tCB r t):=by
 intro pins s σ H Q I h;refine Ve (dQ I hg hm hv ?_ hn d6);exact PyProof.Rows.callWith_type1 (thn (ha pos pins s σ H _ I h) λus s1 ⟨vs,H1,I1,r1,q1⟩=>hc pins s1 σ H1 vs us Q I1 r1 q1) he c_
end
end L2
namespace HT
open PySem PyProof.Rows
section
variable {prog:U5}{w:U'}{A:U_}{E:Os->SB->Prop}{s:SB}
variable{Q:Os->SB->Prop}
def cat_tup{t b:Pi}{vs ws:List Os}(ht:IsTup s.heap t vs.toArray)(hb:IsTup s.heap b ws.toArray)(hv:vs≠[])
  (h1:ws=[]->Q (.ref t) s) (h2:ws≠[]->Q (.ref s.heap.objs.size) {s with heap:=s.heap.push {cls:=.type "tuple",data:=.seq (vs++ws).toArray} })
  (m6:vs.length+ws.length<=sizeLine):U8 (U4 prog w) A (Vr .Add (.ref t) (.ref b)) Q E s:=by
 let#[#[cls,dd,data,sl],ho,hc,n,hd]:=id ht;let#[#[SQ,RE,data2,RF],Ot,RG,n2,Ou]:=id hb;simp only at hc hd RG Ou;subst hc hd RG Ou;have e:vs.toArray++ws.toArray=(vs++ws).toArray:=Mn
 by_cases hw:ws=[]
 .exact concat_meets #[_,ho,rfl] #[_,Ot,rfl] noFill_tuple_add seq_tuple_add PySem.F.slot_tuple_add PySem.F.entry_tuple_add (PySem.F.args_tuple_add_2 _ _)
   (tuple_addW1 t b vs.toArray ws.toArray n n2 dd RE sl RF (by simpa using hv) (by simp[hw])) #[ho,Ot,h1 hw]
 .refine concat_meets #[_,ho,rfl] #[_,Ot,rfl] noFill_tuple_add seq_tuple_add PySem.F.slot_tuple_add PySem.F.entry_tuple_add (PySem.F.args_tuple_add_2 _ _)
   (tuple_addW2 t b vs.toArray ws.toArray n n2 dd RE sl RF (by simpa using hv) (by simpa using hw) (by rw[HK,HK];exact m6)) #[ho,Ot,?_]
  rw[e];exact h2 hw
def sIx(n d:Nat):Option Int->Nat
 |none=>d
 |some v=>if v<0 then(v+(n:Int)).toNat else min v.toNat n
def sIx_none(n d:Nat):sIx n d w6=d:=rfl
def sIx_nat(n d k:Nat):sIx n d (be (k:Int))=min k n:=by
 show(if(k:Int)<0 then((k:Int)+(n:Int)).toNat else min (k:Int).toNat n)=min k n;rw[if_neg Md,IM]
def sIx_le(n d:Nat)(hd:d<=n)(o:Option Int):sIx n d o<=n:=by
 cases o with
 |none=>exact hd
 |some v=>
  show(if v<0 then(v+(n:Int)).toNat else min v.toNat n)<=n;by_cases hv:v<0
  .rw[if_pos hv];lia
  .rw[if_neg hv];exact Nat.min_le_right _ _
def qN(v:Int)(n d:Nat):(if v<0 then max (v+(n:Int)) 0 else min v (n:Int))=((sIx n d (be v):Nat):Int):=by
 show(if v<0 then max (v+(n:Int)) 0 else min v (n:Int))=(((if v<0 then(v+(n:Int)).toNat else min v.toNat n):Nat):Int);by_cases hv:v<0
 .simp only[if_pos hv];lia
 .simp only[if_neg hv];lia
def yG(lo hi:Option Int)(n:Nat):Builtin.Slice.sliceAdjust lo hi 1 (n:Int)=(((sIx n 0 lo:Nat):Int),((sIx n n hi:Nat):Int)):=by
 have h1:¬((1:Int)<0):=Md
 unfold Builtin.Slice.sliceAdjust;simp only[h1,if_false];refine Prod.ext ?_ ?_
 .cases lo with
  |none=>rfl
  |some v=>exact qN v n 0
 .cases hi with
  |none=>rfl
  |some v=>exact qN v n n
def yH(i j:Nat):Builtin.Slice.slicePlaces (i:Int) (j:Int) 1=j-i:=by
 unfold Builtin.Slice.slicePlaces;have h1:(1:Int)>0:=Md
 simp only[h1,if_true,Int.ediv_one];split<;>lia
def qO{v:Os}{o:Option Int}{Q:Option Int->SB->Prop}(p:Wc v o)(h:Q o s):U8 (U4 prog w) A (Builtin.Slice.slicePartIndex v) Q E s:=by
 cases p with
 |none=>exact slicePart_none h
 |int i t=>exact slicePart_int h
variable{lo hi:Option Int}
def yI{sl:Pi}{vl vu:Os}{n:Nat}{Q:Int×Int×Nat->SB->Prop}(hs:s.heap.IsSliceOf sl vl vu .none)(pl:Wc vl lo)(pu:Wc vu hi)
  (h:Q (((sIx n 0 lo:Nat):Int),1,sIx n n hi-sIx n 0 lo) s):U8 (U4 prog w) A (Builtin.Slice.sliceApplied (.ref sl) (pure (n:Int))) Q E s:=by
 let#[os,Ls,RH,Ov]:=id hs;unfold Builtin.Slice.sliceApplied Builtin.Slice.sliceFields;refine P3 (P3 (VF Ls Ov (x:=vl) rfl (P3 (VF Ls Ov (x:=vu) rfl (P3 (VF Ls Ov (x:=.none) rfl (SZ ?_)))))));refine P3 (slicePart_none ?_);show U8 _ _ (if((1:Int)==0)=true then _ else _) _ _ s;rw[if_neg Mh];refine P3 (qO pl (P3 (qO pu (P3 (SZ ?_)))));show U8 _ _ (match Builtin.Slice.sliceAdjust lo hi 1 (n:Int)with|(lo,hi)=>pure (lo,(1:Int),Builtin.Slice.slicePlaces lo hi 1)) _ _ s;rw[yG lo hi n];show U8 _ _ (pure (((sIx n 0 lo:Nat):Int),(1:Int),Builtin.Slice.slicePlaces ((sIx n 0 lo:Nat):Int) ((sIx n n hi:Nat):Int) 1)) _ _ s;rw[yH];exact SZ h
def yJ(xs:Array Os)(i k:Nat):((HC k).filterMap λ(m:Nat)=>xs[((i:Int)+(m:Int)*1).toNat]?).toArray=((xs.toList.drop i).take k).toArray:=by
 have e:(λ(m:Nat)=>xs[((i:Int)+(m:Int)*1).toNat]?)=λm=>xs[i+m]?:=by
  funext m;have:((i:Int)+(m:Int)*1).toNat=i+m:=Md
  rw[this]
 rw[e];have:=pick_run xs i k;rw[Kr]at this;have e2:((λx=>xs[x]?) ∘ λx=>i+x)=λm=>xs[i+m]?:=rfl;rw[e2]at this;rw[this]
def getItem_tuple_cut{t sl:Pi}{items:Array Os}{vl vu:Os}(ht:IsTup s.heap t items)(hs:s.heap.IsSliceOf sl vl vu .none)(pl:Wc vl lo)(pu:Wc vu hi)
  (hw:¬(sIx items.size 0 lo=0/\sIx items.size items.size hi=items.size))
  (h:Q (.ref s.heap.objs.size) {s with heap:=s.heap.push {cls:=.type "tuple",data:=.seq ((items.toList.drop (sIx items.size 0 lo)).take (sIx items.size items.size hi-sIx items.size 0 lo)).toArray} })
  (m6:items.size<=sizeLine):U8 (U4 prog w) A (Wh (.ref t) (.ref sl)) Q E s:=by
 have k6:sizeOk (.seq ((items.toList.drop (sIx items.size 0 lo)).take (sIx items.size items.size hi-sIx items.size 0 lo)).toArray):=by
  show((items.toList.drop (sIx items.size 0 lo)).take (sIx items.size items.size hi-sIx items.size 0 lo)).toArray.size<=sizeLine;rw[HK,Jh,IS,Js];lia
 have hj:sIx items.size items.size hi<=items.size:=sIx_le _ _ (Hw _) hi;let#[os,Ls,RH,Ov]:=id hs;have SR:s.TypeIs (.ref sl) "slice":=#[os,Ls,RH];unfold Wh
 try with_reducible refine Vh ?_
 first|refine P3 (SZ ?_)|skip
 refine P3 (wpAny_sequenceKey ht.typeIs Mh ?_);refine P3 (wpAny_callSpecial?_slot (name:=Str.ofString "__getitem__") ht.typeIs PyProof.Rows.slot_tuple_getitem
  (wpAny_call_entry PyProof.Rows.slot_tuple_getitem ht.typeIs entry_tuple_getitem ?_ (args_tuple_getitem _ _)))
 show U8 _ _ (Builtin.Tuple.tupleItemsOf (.ref t)>>=_) _ _ s;refine P3 (tupleItemsOf_ ht ?_);refine P3 (wpAny_typeOf SR ?_);rw[if_pos Mh];refine P3 (yI hs pl pu ?_);have e_:¬((((sIx items.size 0 lo:Nat):Int)==0&&(1:Int)==1&&(sIx items.size items.size hi-sIx items.size 0 lo)==items.size)=true):=by
  intro q;rw[HV,HV]at q;have q1:((sIx items.size 0 lo:Nat):Int)=0:=eq_of_beq q.1.1;have q2:sIx items.size items.size hi-sIx items.size 0 lo=items.size:=eq_of_beq q.2;exact hw #[Md,Md]
 show U8 _ _ (if(((sIx items.size 0 lo:Nat):Int)==0&&(1:Int)==1&&(sIx items.size items.size hi-sIx items.size 0 lo)==items.size)=true then _ else _) _ _ s;rw[if_neg e_,yJ]
 first
  |exact P3 (m:=Builtin.Tuple.tupleExact _) (Vi (SZ ⟨_,rfl,SZ h⟩) k6)
  |exact P3 (m:=Builtin.Tuple.tupleExact _) (Vi (P3 (SZ (SZ ⟨_,rfl,SZ h⟩))) k6)
  |exact P3 (P3 (m:=Builtin.Tuple.tupleExact _) (Vi (SZ (SZ ⟨_,rfl,SZ h⟩)) k6))
  |exact P3 (P3 (m:=Builtin.Tuple.tupleExact _) (Vi (SZ ⟨_,rfl,SZ h⟩) k6))
end
end HT
namespace L2
open PySem PySem.Spec PyProof.Rows
abbrev TO:=St->Hp->(Option Int->Hp->Prop)->Prop
def PO(X:Cx)(e:Option U7)(t:TO):Prop:=
 ∀(pins:List (Pi×Vk)) (s:SB) (σ:St) (H:Hp) (Q:Option Int->Hp->Prop),Inv X pins σ H s->t σ H Q->
  U8 (U4 X.prog X.w) X.A (evalPart e X.env) (λu s'=>∃o H',Inv X pins σ H' s'/\Wc u o/\Q o H') X.xe s
def yL:TO:=λ_ H Q=>Q w6 H
def yM(t:TE):TO:=λσ H Q=>t σ H λx H1=>∃i,x=.int i/\Q (be i) H1
section
variable {X:Cx}{e:U7}{te:TE}{lo hi:Option U7}{tl th:TO}{pos p2:Vf}
def jT:PO X w6 yL:=by
 intro pins s σ H Q I h;rw[evalPart_none];exact SZ #[w6,H,I,.none,h]
def jU(h:PE X e te):PO X (be e) (yM te):=by
 intro pins s σ H Q I hw;rw[evalPart_some];refine thn (h pins s σ H _ I hw) λu s1 c7=>?_;let#[x,H1,I1,r1,q1]:=c7;let#[i,rfl,q]:=q1;let#[t,rfl]:=r1;exact#[be i,H1,I1,.int i t,q]
def SlR(X:Cx)(r:V->Option Int->Option Int->Hp->VK->Prop):Prop:=
 ∀(pins:List (Pi×Vk)) (s:SB) (σ:St) (H:Hp) (x:V) (v vl vu:Os) (lo hi:Option Int) (sl:Pi) (Q:VK),Inv X pins σ H s->RelV x v->s.heap.IsSliceOf sl vl vu .none->Wc vl lo->Wc vu hi->r x lo hi H Q->
  ∃T id,typeLookup (.type T) "__getitem__"=pure (be (.builtin id))/\s.TypeIs v T/\U8 (U4 X.prog X.w) X.A (Wh v (.ref sl)) (EP X pins σ Q) X.xe s
variable{r:V->Option Int->Option Int->Hp->VK->Prop}
def SlR.or{r':V->Option Int->Option Int->Hp->VK->Prop}(h:SlR X r)(h':SlR X r'):SlR X (λx lo hi H Q=>r x lo hi H Q\/r' x lo hi H Q):=by
 intro pins s σ H x v vl vu lo hi sl Q I rx hs pl pu q;rcases q with q|q
 .exact h pins s σ H x v vl vu lo hi sl Q I rx hs pl pu q
 .exact h' pins s σ H x v vl vu lo hi sl Q I rx hs pl pu q
def tSl(r:V->Option Int->Option Int->Hp->VK->Prop)(te:TE)(tl th:TO):TE:=λσ H Q=>te σ H λx H1=>tl σ H1 λl H2=>th σ H2 λu H3=>r x l u H3 Q
def gY(hr:SlR X r)(he:PE X e te)(hl:PO X lo tl)(hu:PO X hi th):PE X (.Subscript e (.Slice lo hi w6 p2) pos) (tSl r te tl th):=by
 intro pins s σ H Q I h;refine Subscript_ (thn (he pins s σ H _ I h) λv s1 c7=>?_);let#[x,H1,I1,r1,q1]:=c7;refine wpAny_Slice (thn (hl pins s1 σ H1 _ I1 q1) λvl s2 ⟨l,H2,I2,pl,q2⟩=>thn (hu pins s2 σ H2 _ I2 q2) λvu s3 c7=>?_);let#[u,H3,I3,pu,q3]:=c7;rw[evalPart_none];refine SZ ?_;have I4:Inv X pins σ H3 {s3 with heap:=s3.heap.push {cls:=.type "slice",data:=.fields [vl,vu,.none].toArray} }:=I3.kept (t':=s3.toks) λb ob q=>Heap.get?_push_of_some _ q;let#[T,id,hT,ht,hg]:=hr pins {s3 with heap:=s3.heap.push {cls:=.type "slice",data:=.fields [vl,vu,.none].toArray} } σ H3 x v vl vu l u s3.heap.objs.size Q I4 r1 (Heap.IsSliceOf.new ..) pl pu q3;show U8 (U4 X.prog X.w) X.A (subscriptTail e (.Slice lo hi w6 p2) v (.ref s3.heap.objs.size)) (EP X pins σ Q) X.xe {s3 with heap:=s3.heap.push {cls:=.type "slice",data:=.fields [vl,vu,.none].toArray} };exact tail_any (ops:=[.ref s3.heap.objs.size,v]) ht hT hg (by with_unfolding_all rfl)
def cutV(xs:List V)(lo hi:Option Int):List V:=(xs.drop (HT.sIx xs.length 0 lo)).take (HT.sIx xs.length xs.length hi-HT.sIx xs.length 0 lo)
def qP(xs:List V)(lo hi:Option Int):(cutV xs lo hi).length<=xs.length:=by
 unfold cutV;rw[Jh,IS];lia
def rSlT(K:Ex):V->Option Int->Option Int->Hp->VK->Prop:=λx lo hi H Q=>∃a xs,x=.ref a/\SqT K H a xs/\
 ¬(HT.sIx xs.length 0 lo=0/\HT.sIx xs.length xs.length hi=xs.length)/\∀p,H p=w6->Q (.ref p) (upd H p (.tup (cutV xs lo hi)))
def qQ:SlR X (rSlT X.K):=by
 intro pins s σ H x v vl vu lo hi sl Q I rx hs pl pu h;let#[a,xs,rfl,hx,hw,q]:=h;cases rx;let#[its,r,ht,hz]:=I.tuple hx;have b9:its.toArray.size=xs.length:=by rw[HK];exact r.length.symm
 refine#["tuple",_,PyProof.Rows.slot_tuple_getitem.lookup,ht.typeIs,?_];refine HT.getItem_tuple_cut ht hs pl pu (by rw[b9];exact hw) ?_ (by rw[b9];exact hz);rw[b9];refine#[.ref s.heap.objs.size,_,I.laid (t':=s.toks) (o:=.tup (cutV xs lo hi)) (λb ob q=>Heap.get?_push_of_some _ q) (Hw _) ?_,rfl,q _ (I.hok.fresh (Hw _))];exact#[HG (qP xs lo hi) hz,_,(r.drop (HT.sIx xs.length 0 lo)).take (HT.sIx xs.length xs.length hi-HT.sIx xs.length 0 lo),IsTup.new _ _]
def qR(K:Ex):R2:=λx y H Q=>∃a b xs ys,x=.ref a/\y=.ref b/\SqT K H a xs/\SqT K H b ys/\xs≠[]/\xs.length+ys.length<=sizeLine/\
 (ys=[]->Q (.ref a) H)/\(ys≠[]->∀p,H p=w6->Q (.ref p) (upd H p (.tup (xs++ys))))
def Vals.nil_iff{xs:List V}{us:List Os}(r:Vals xs us):us=[]↔xs=[]:=by
 cases r with
 |nil=>simp
 |cons _ _=>simp
def yO:OpR X (Vr .Add) (qR X.K):=by
 intro pins s σ H x y v u Q I rx ry h;let#[a,b,xs,ys,rfl,rfl,ha,hb,hx,hz,q1,q2]:=h;cases rx;cases ry;let#[its,r1,p1,_]:=I.tuple ha;let#[Lu,r2,p2,_]:=I.tuple hb;refine HT.cat_tup p1 p2 (λz=>hx (r1.nil_iff.mp z)) (λz=>#[.ref a,H,I,rfl,q1 (r2.nil_iff.mp z)]) (λz=>?_) (by rw[<-r1.length,<-r2.length];exact hz);refine#[.ref s.heap.objs.size,_,I.laid (t':=s.toks) (o:=.tup (xs++ys)) (λb ob q=>Heap.get?_push_of_some _ q) (Hw _) ?_,rfl,q2 (λw=>z (r2.nil_iff.mpr w)) _ (I.hok.fresh (Hw _))];exact#[by rw[HF];exact hz,_,r1.append r2,IsTup.new _ _]
end
def ixN(n:Nat)(i:Int):Option Nat:=if 0<=i then(if i<n then be i.toNat else w6)else if -(n:Int)<=i then be (i+n).toNat else w6
def atI{α:Type}(xs:List α)(i:Int):Option α:=(ixN xs.length i).bind λj=>xs[j]?
def qS{n:Nat}{i:Int}{j:Nat}(h:ixN n i=be j):seqIndex? i n=be j/\j<n/\-(n:Int)<=i/\i<n:=by
 unfold ixN at h;by_cases h0:0<=i
 .rw[if_pos h0]at h;by_cases h1:i<n
  .rw[if_pos h1]at h;have e:i.toNat=j:=Option.some.inj h;exact#[by rw[WG h0 h1,e],Md,Md,h1]
  .rw[if_neg h1]at h;cases h
 .rw[if_neg h0]at h;by_cases h1:-(n:Int)<=i
  .rw[if_pos h1]at h;have e:(i+n).toNat=j:=Option.some.inj h;exact#[by rw[Ww Md h1,e],Md,h1,Md]
  .rw[if_neg h1]at h;cases h
def atI_get{α:Type}{xs:List α}{i:Int}{v:α}(h:atI xs i=be v):∃j,seqIndex? i xs.length=be j/\xs[j]?=be v/\j<xs.length/\-(xs.length:Int)<=i/\i<xs.length:=by
 unfold atI at h;cases e:ixN xs.length i with
 |none=>rw[e]at h;cases h
 |some j=>
  rw[e]at h;let#[h1,h2,h3,h4]:=qS e;exact#[j,h1,h,h2,h3,h4]
def bZ{α:Type}{xs:List α}{j:Nat}{v:α}(h:xs[j]?=be v):atI xs (j:Int)=be v:=by
 have hj:j<xs.length:=(HJ.mp h).1;have e:ixN xs.length (j:Int)=be j:=by
  unfold ixN;rw[if_pos Md,if_pos Md];simp
 unfold atI;rw[e];exact h
def eY(b:U7):Prop:=∀o i,subscripted b false o i=operate [o,i] (Wh o i)
def IxR(X:Cx)(r:R2):Prop:=
 ∀(value slice:U7) (pins:List (Pi×Vk)) (s:SB) (σ:St) (H:Hp) (x y:V) (v u:Os) (Q:VK),Inv X pins σ H s->RelV x v->RelV y u->r x y H Q->
  subscripted slice false v u=operate [v,u] (Wh v u)->U8 (U4 X.prog X.w) X.A (subscriptTail value slice v u) (EP X pins σ Q) X.xe s
def MtR(X:Cx)(id:String)(r:V->List V->Hp->VK->Prop):Prop:=
 ∀(pins:List (Pi×Vk)) (s:SB) (σ:St) (H:Hp) (x:V) (xs:List V) (v:Os) (us:List Os) (Q:VK),Inv X pins σ H s->RelV x v->Vals xs us->r x xs H Q->
  U8 (U4 X.prog X.w) X.A (call (.builtin id) (v::us)) (EP X pins σ Q) X.xe s
section
variable {X:Cx}{a b:U7}{ta tb:TE}{pos:Vf}
def IxR.or{r r':R2}(h:IxR X r)(h':IxR X r'):IxR X (λx y H Q=>r x y H Q\/r' x y H Q):=by
 intro value slice pins s σ H x y v u Q I rx ry q hs;rcases q with q|q
 .exact h value slice pins s σ H x y v u Q I rx ry q hs
 .exact h' value slice pins s σ H x y v u Q I rx ry q hs
def pe_ix{r:R2}(hr:IxR X r)(ha:PE X a ta)(hb:PE X b tb)(hs:eY b):PE X (.Subscript a b pos) (tOp r ta tb):=by
 intro pins s σ H Q I h;exact Subscript_ (binT ha hb I h λv u s2 x y H2 I2 rx ry q=>hr a b pins s2 σ H2 x y v u Q I2 rx ry q (hs _ _))
def rIxL(K:Ex):R2:=λx y H Q=>∃p xs i v,x=.ref p/\y=.int i/\SqL K H p xs/\atI xs i=be v/\Q v H
def rIxT(K:Ex):R2:=λx y H Q=>∃p xs i v,x=.ref p/\y=.int i/\SqT K H p xs/\atI xs i=be v/\Q v H
def rIxS:R2:=λx y H Q=>∃z i c,x=.str z/\y=.int i/\z.length<=sizeLine/\atI z.cps.toList i=be c/\Q (.str #[[c].toArray]) H
def ix_list:IxR X (rIxL X.K):=by
 intro value slice pins s σ H x y v u Q I rx ry h hs;let#[p,xs,i,z,rfl,rfl,hq,he,q]:=h;cases rx;let#[t,rfl]:=ry;let#[its,r,pl,hz]:=I.list hq;let#[j,h1,h2,h3,h4,h5]:=atI_get he;let#[w,ew,j6]:=r.get h2;have hl:=r.length;have hn:=line63;have f6:EP X pins σ Q w s:=#[z,H,I,j6,q];by_cases h0:0<=i
 .have hj:i.toNat=j:=by
   rw[WG h0 h5]at h1;exact Option.some.inj h1
  exact item_listR pl.isList h0 Md (by rw[hj];simpa using ew) f6 hs
 .have hj:(i+(its.toArray.size:Int)).toNat=j:=by
   rw[Ww Md h4]at h1;rw[HK,<-hl];exact Option.some.inj h1
  exact Wu (x:=w) pl.isList.typeIs slot_list_getitem.lookup
   (wpAny_getItem_list_neg (Q:=λr s'=>r=w/\EP X pins σ Q r s') pl.isList Md (by rw[HK]<;>lia) Md (by rw[hj];simpa using ew) #[rfl,f6]) hs
def ix_tup:IxR X (rIxT X.K):=by
 intro value slice pins s σ H x y v u Q I rx ry h hs;let#[p,xs,i,z,rfl,rfl,hq,he,q]:=h;cases rx;let#[t,rfl]:=ry;let#[its,r,pl,hz]:=I.tuple hq;let#[j,h1,h2,h3,h4,h5]:=atI_get he;let#[w,ew,j6]:=r.get h2;have hl:=r.length;have hn:=line63;have f6:EP X pins σ Q w s:=#[z,H,I,j6,q];exact Wu (x:=w) pl.typeIs slot_tuple_getitem.lookup
  (getItem_tuple (j:=j) (Q:=λr s'=>r=w/\EP X pins σ Q r s') pl Md Md (by rw[HK,<-hl];exact h1) (by simpa using ew) #[rfl,f6]) hs
def yQ:IxR X rIxS:=by
 intro value slice pins s σ H x y v u Q I rx ry h hs;let#[z,i,c,rfl,rfl,hz,he,q]:=h;let#[t,rfl]:=rx;let#[t',rfl]:=ry;let#[j,h1,h2,h3,h4,h5]:=atI_get he;have hl:z.cps.toList.length=z.length:=by simp[Str.length]
 rw[hl]at h1 h4 h5;have hn:=line63;exact tail_any (WQ s z t) slot_str_getitem.lookup (getItem_str (c:=c) (by
  have e1:decide (i< -(2^63:Int))=false:=decide_eq_false Md;have e2:decide (i>=2^63)=false:=decide_eq_false Md;rw[e1,e2,Bool.or_false]) (by rw[h1];simpa using h2) #[.str #[[c].toArray],H,I.tok _,#[_,rfl],q]) hs
def rIx(K:Ex):R2:=λx y H Q=>rIxL K x y H Q\/rIxT K x y H Q\/rIxS x y H Q
def qT:IxR X (rIx X.K):=ix_list.or (ix_tup.or yQ)
def yR(its:List Os)(n j:Nat)(u:Os):Obj.mapSeq (·.setIfInBounds j u) {cls:=.type "list",data:=.seq its.toArray n}={cls:=.type "list",data:=.seq (its.set j u).toArray n}:=by
 simp[Obj.mapSeq]
def Inv.lst{pins:List (Pi×Vk)}{σ:St}{H:Hp}{s:SB}{p:Pi}{xs:List V}(I:Inv X pins σ H s)(h:H p=be (.lst xs)):
  ∃(its:List Os) (n:Nat),Vals xs its/\s.heap.get? p=be {cls:=.type "list",data:=.seq its.toArray n}/\xs.length<=sizeLine:=by
 let#[z,its,n,r,e]:=I.hok p _ h;exact#[its,n,r,e,z]
variable{pins:List (Pi×Vk)}{s:SB}
def Inv.lstUpd{σ:St}{H:Hp}{p:Pi}{xs ys:List V}{its its':List Os}{n n':Nat}{f:Vk->Vk}(I:Inv X pins σ H s)(h:H p=be (.lst xs))
  (ho:s.heap.get? p=be {cls:=.type "list",data:=.seq its.toArray n}) (hf:f {cls:=.type "list",data:=.seq its.toArray n}={cls:=.type "list",data:=.seq its'.toArray n'}) (r:Vals ys its') (hz:ys.length<=sizeLine) (t:Nat):
  Inv X pins σ (upd H p (.lst ys)) {s with heap:=s.heap.update p f,toks:=t}:=by
 have e:(s.heap.update p f).get? p=be {cls:=.type "list",data:=.seq its'.toArray n'}:=by
  rw[Heap.get?_update_self f ho (by rw[hf]<;>rfl),hf]
 refine I.write (x:=p) (e:=p) (by rw[h];trivial) (.inl rfl) (λb u hb q=>(Heap.get?_update_other _ _ (Ne.symm hb)).trans q) #[_,e] ?_;exact#[hz,its',n',r,e]
def yT:V->V->V->Hp->(Hp->Prop)->Prop:=λo i v H Q=>∃p xs k j,o=.ref p/\i=.int k/\H p=be (.lst xs)/\ixN xs.length k=be j/\Q (upd H p (.lst (xs.set j v)))
def qU:PSet X yT:=by
 intro pins s σ H o i v ov iv u Q I ro ri rv h;let#[p,xs,k,j,rfl,rfl,hp,hj,q]:=h;cases ro;let#[t,rfl]:=ri;let#[its,n,r,ho,hz]:=I.lst hp;let#[h1,h2,h3,h4]:=qS hj;have hl:=r.length;have hn:=line63;have I':Inv X pins σ (upd H p (.lst (xs.set j v))) {s with heap:=s.heap.update p (Obj.mapSeq (·.setIfInBounds j u))}:=
  I.lstUpd hp ho (yR its n j u) (r.set rv j) (by rw[IC];exact hz) s.toks
 by_cases h0:0<=k
 .have hk:k.toNat=j:=by
   rw[WG h0 h4]at h1;exact Option.some.inj h1
  exact ki_setAt ho h0 Md (by rw[HK,<-hl];exact h4) (by rw[hk];exact#[_,I',q])
 .have hk:(k+(its.toArray.size:Int)).toNat=j:=by
   rw[Ww Md h3]at h1;rw[HK,<-hl];exact Option.some.inj h1
  exact ki_setBack ho Md (by rw[HK,<-hl];exact h3) Md (by rw[hk];exact#[_,I',q])
def yU(lo hi:Option Int)(n:Nat):(VG lo hi w6 n).1=((HT.sIx n 0 lo:Nat):Int)/\(VG lo hi w6 n).2.1=((HT.sIx n n hi:Nat):Int)/\(VG lo hi w6 n).2.2=1:=by
 refine#[?_,?_,rfl]
 .cases lo with
  |none=>simp[VG,HT.sIx]
  |some i=>
   simp only[VG,HT.sIx,Ks,show(1:Int)>0 by decide,if_true];by_cases h:i<0
   .simp only[h,if_true]<;>lia
   .simp only[h,if_false]<;>lia
 .cases hi with
  |none=>simp[VG,HT.sIx]
  |some i=>
   simp only[VG,HT.sIx,Ks,show(1:Int)>0 by decide,if_true];by_cases h:i<0
   .simp only[h,if_true]<;>lia
   .simp only[h,if_false]<;>lia
def yV(its:List Os)(lo hi:Option Int):slicePick its.toArray lo hi w6=((its.drop (HT.sIx its.length 0 lo)).take (HT.sIx its.length its.length hi-HT.sIx its.length 0 lo)).toArray:=by
 let#[h1,h2,h3]:=yU lo hi its.toArray.size;unfold slicePick;rw[h1,h2,h3];simp only[sliceRange_one,pick_run,HK]<;>rfl
def rSlL(K:Ex):V->Option Int->Option Int->Hp->VK->Prop:=λx lo hi H Q=>∃a xs,x=.ref a/\SqL K H a xs/\∀p,H p=w6->Q (.ref p) (upd H p (.lst (cutV xs lo hi)))
def gZ:SlR X (rSlL X.K):=by
 intro pins s σ H x v vl vu lo hi sl Q I rx hs pl pu h;let#[a,xs,rfl,hx,q]:=h;cases rx;let#[its,r,ht,hz]:=I.list hx;have b9:=r.length;refine#["list",_,slot_list_getitem.lookup,ht.isList.typeIs,?_];refine wpAny_getItem_list_slice ht.isList hs pl pu .none Mn ?_ (by rw[HK]<;>lia);rw[yV,<-b9];refine#[.ref s.heap.objs.size,_,I.laid (t':=s.toks) (o:=.lst (cutV xs lo hi)) (λb ob q=>Heap.get?_push_of_some _ q) (Hw _) ?_,rfl,q _ (I.hok.fresh (Hw _))];exact#[HG (qP xs lo hi) hz,_,0,(r.drop (HT.sIx xs.length 0 lo)).take (HT.sIx xs.length xs.length hi-HT.sIx xs.length 0 lo),Heap.get?_push_size _ rfl]
def bx:V->Bool
 |.non=>true
 |.bl _=>true
 |.int _=>true
 |.str _=>true
 |_=>false
def eqV:V->V->Bool
 |.non,.non=>true
 |.bl a,.bl b=>a==b
 |.bl a,.int b=>(if a then 1 else 0)==b
 |.int a,.bl b=>a==(if b then 1 else 0)
 |.int a,.int b=>a==b
 |.str a,.str b=>a==b
 |_,_=>false
variable{x:V}
def eqAt_V{A:U_}{y:V}{u v:Os}(ry:RelV y u)(rx:RelV x v)(fy:bx y=true)(fx:bx x=true):SeqAt.EqAt A s u v (eqV y x):=by
 cases y with
 |non=>
  cases ry;cases x with
  |non=>cases rx;exact SeqAt.EqAt.same _
  |bl b=>cases rx;exact SeqAt.EqAt.none_bool b
  |int b=>let#[t,rfl]:=rx;exact SeqAt.EqAt.none_int b t
  |str b=>let#[t,rfl]:=rx;exact SeqAt.EqAt.none_str b t
  |_=>exact absurd (show false=true from fx) HH
 |bl a=>
  cases ry;cases x with
  |non=>cases rx;exact SeqAt.EqAt.bool_none a
  |bl b=>cases rx;exact SeqAt.EqAt.bool_bool a b
  |int b=>let#[t,rfl]:=rx;exact SeqAt.EqAt.bool_int a b t
  |str b=>let#[t,rfl]:=rx;exact SeqAt.EqAt.bool_str a b t
  |_=>exact absurd (show false=true from fx) HH
 |int a=>
  let#[t',rfl]:=ry;cases x with
  |non=>cases rx;exact SeqAt.EqAt.int_none a t'
  |bl b=>cases rx;exact SeqAt.EqAt.int_bool a t' b
  |int b=>let#[t,rfl]:=rx;exact SeqAt.EqAt.int_int a t' b t
  |str b=>let#[t,rfl]:=rx;exact SeqAt.EqAt.int_str a t' b t
  |_=>exact absurd (show false=true from fx) HH
 |str a=>
  let#[t',rfl]:=ry;cases x with
  |non=>cases rx;exact SeqAt.EqAt.str_none a t'
  |bl b=>cases rx;exact SeqAt.EqAt.str_bool a t' b
  |int b=>let#[t,rfl]:=rx;exact SeqAt.EqAt.str_int a t' b t
  |str b=>let#[t,rfl]:=rx;exact SeqAt.EqAt.str_str a t' b t
  |_=>exact absurd (show false=true from fx) HH
 |_=>exact absurd (show false=true from fy) HH
def eqU(x:V)(u:Os):Bool:=match u with
 |.none=>eqV .non x
 |.bool b=>eqV (.bl b) x
 |.int i _=>eqV (.int i) x
 |.str z _=>eqV (.str z) x
 |_=>false
def hU{y:V}{u:Os}(r:RelV y u)(f:bx y=true):eqU x u=eqV y x:=by
 cases y with
 |non=>cases r;rfl
 |bl b=>cases r;rfl
 |int i=>let#[t,rfl]:=r;rfl
 |str z=>let#[t,rfl]:=r;rfl
 |_=>exact absurd (show false=true from f) HH
def jV{x:V}:∀{xs:List V} {us:List Os},Vals xs us->xs.all bx=true->us.any (eqU x)=xs.any λy=>eqV y x
 |_,_,.nil,_=>rfl
 |y::xs,u::us,.cons r t,f=>by
  rw[Il,HV]at f;rw[Jy,Jy,hU r f.1,jV t f.2]
def mem_eqAt{A:U_}{s:SB}{x:V}{v:Os}(rx:RelV x v)(fx:bx x=true):∀{xs:List V} {us:List Os},Vals xs us->xs.all bx=true->∀u∈us,SeqAt.EqAt A s u v (eqU x u)
 |_,_,.nil,_=>λu hu=>by cases hu
 |y::xs,u::us,.cons r t,f=>λu' hu=>by
  rw[Il,HV]at f;rcases Hx.mp hu with rfl|hu
  .rw[hU r f.1];exact eqAt_V r rx f.1 fx
  .exact mem_eqAt rx fx t f.2 u' hu
def inV(x:V)(xs:List V):Bool:=xs.any λy=>eqV y x
def rIn(K:Ex)(neg:Bool):R2:=λx y H Q=>∃p xs,y=.ref p/\(SqL K H p xs\/SqT K H p xs)/\bx x=true/\xs.all bx=true/\Q (.bl (if neg then !inV x xs else inV x xs)) H
def yY:OpR X (Vo .NotIn) (rIn X.K true):=by
 intro pins s σ H x y v u Q I rx ry h;let#[p,xs,rfl,hq,fx,fs,q]:=h;cases ry;rcases hq with hq|hq
 .obtain⟨its,r,pl,hz⟩:=I.list hq;refine SeqAt.notIn_listAt (eqU x) pl.isList (λw hw=>mem_eqAt rx fx r fs w (by simpa using hw)) #[.bl _,H,I,rfl,?_];rw[show its.toArray.any (eqU x)=its.any (eqU x)by simp,jV r fs];exact q
 .obtain⟨its,r,pl,hz⟩:=I.tuple hq;refine SeqAt.notIn_tupleAt (eqU x) pl (λw hw=>mem_eqAt rx fx r fs w (by simpa using hw)) #[.bl _,H,I,rfl,?_];rw[show its.toArray.any (eqU x)=its.any (eqU x)by simp,jV r fs];exact q
def yZ:OpR X (Vo .NotIn) (λx y H Q=>∃i j,x=.str i/\y=.str j/\Q (.bl (!(!(Builtin.Str.occurrences j i 0 j.length 1).isEmpty))) H):=by
 intro pins s σ H x y v u Q I rx ry h;let#[i,j,rfl,rfl,q]:=h;let#[t,rfl]:=rx;let#[t',rfl]:=ry;exact notIn_str #[.bl _,H,I,rfl,q]
def za:bI X (.type "list") (λxs H Q=>∃p ys,xs=[.ref p]/\(SqL X.K H p ys\/SqT X.K H p ys)/\∀l,H l=w6->Q (.ref l) (upd H l (.lst ys))):=by
 intro pins s σ H xs us Q I r h;let#[p,ys,rfl,hq,q]:=h;let#[u,rfl,rx]:=vals1 r;cases rx;have f6:∀(its:List Os),Vals ys its->ys.length<=sizeLine->∀(h':Heap) (c':Nat),(∀b o',s.heap.get? b=be o'->h'.get? b=be o')->
   h'.get? s.heap.objs.size=be {cls:=.type "list",dict:=w6,data:=.seq its.toArray c',slots:=[].toArray}->EP X pins σ Q (.ref s.heap.objs.size) {s with heap:=h'}:=λits r' hz h' c' kp e=>
  #[.ref s.heap.objs.size,_,I.laid (t':=s.toks) kp (Hw _) (show ObjOk X.prog X.w _ h' _ (.lst ys)from#[hz,its,c',r',e]),rfl,q _ (I.hok.fresh (Hw _))]
 rcases hq with hq|hq
 .obtain⟨its,r',pl,hz⟩:=I.list hq;have b9:=r'.length;let#[o,ho,hc,n,hd]:=pl.isList;exact call_list_seq p (.inl rfl) ho hc hd (λh' c' kp e=>f6 its r' hz h' c' kp e) (by simp only[HK]<;>lia)
 .obtain⟨its,r',pl,hz⟩:=I.tuple hq;have b9:=r'.length;let#[o,ho,hc,n,hd]:=pl;exact call_list_seq p (.inr rfl) ho hc hd (λh' c' kp e=>f6 its r' hz h' c' kp e) (by simp only[HK]<;>lia)
def tyV(K:Ex)(T:String)(x:V)(H:Hp):Prop:=match x with
 |.str _=>T="str"
 |.int _=>T="int"
 | .ref p=>(T="list"/\∃xs,SqL K H p xs)\/(T="tuple"/\∃o,K.lookup p=be o/\o.cls=.type "tuple"/\o.dict=w6)\/
   (T="dict"/\((∃a_,H p=be (.dK a_))\/∃a_,H p=be (.dT a_)))\/(T="set"/\∃S n,H p=be (.set S n))
 |_=>False
def zb{σ:St}{H:Hp}{T:String}{v:Os}(I:Inv X pins σ H s)(r:RelV x v)(ty:tyV X.K T x H):
  s.TypeIs v T/\∀a,v=.ref a->∃ob,s.heap.get? a=be ob/\ob.dict=none:=by
 cases x with
 |str z=>
  let#[t,rfl]:=r;cases(show T="str" from ty);exact#[WQ s z t,λ_ e=>nomatch e]
 |int i=>
  let#[t,rfl]:=r;cases(show T="int" from ty);exact#[typeIs_int s i t,λ_ e=>nomatch e]
 |ref p=>
  cases r;rcases ty with⟨rfl,xs,hq⟩|⟨rfl,o,hk,hc,hd⟩|⟨rfl,hk⟩|⟨rfl,S,n,hk⟩
  .obtain⟨its,_,pl,_⟩:=I.list hq;refine#[pl.isList.typeIs,λa e=>?_];cases e;let#[o,n,e,c,hd,_]:=pl;exact#[o,e,hd]
  .refine#[#[o,I.kIn p o hk,hc],λa e=>?_];cases e;exact#[o,I.kIn _ o hk,hd]
  .have z:∃o,s.heap.get? p=be o/\o.ExactDict:=by
    rcases hk with⟨a_,hk⟩|⟨a_,hk⟩
    .obtain⟨_,_,_,_,o,_,_,e,ex,_⟩:=I.hok p _ hk;exact#[o,e,ex]
    .obtain⟨_,_,_,_,o,_,_,e,ex,_⟩:=I.hok p _ hk;exact#[o,e,ex]
   let#[o,e,ex]:=z;refine#[#[o,e,ex.1],λa e2=>?_];cases e2;exact#[o,e,ex.2.1]
  .obtain⟨o,_,_,_,e,ex,_⟩:=I.hok p _ hk;refine#[#[o,e,ex.1],λa e2=>?_];cases e2;exact#[o,e,ex.2.1]
 |_=>exact False.elim ty
def tBM(K:Ex)(T:String)(r:V->List V->Hp->VK->Prop)(to:TE)(t:TA):TE:=λσ H Q=>to σ H λx H1=>tyV K T x H1/\t σ H1 λxs H2=>r x xs H2 Q
variable {o e:U7}{es:List U7}{to:TE}{t:TA}{name:Lq}{b7 a8:Vf}{T id:String}{r:V->List V->Hp->VK->Prop}
def du(pa:PlainAttrs T)(slot:Slot T name id)(O_:typeOf (.builtin id)=pure (.type "method_descriptor"))(hm:MtR X id r)(ho:PE X o to)(ha:PA X (e::es) t)
  (b_:(Vb o name X.env (Vc o X.env)=Vc o X.env)\zA0)
  (d_:((VC a8 (U9 (e::es) X.env)).all (λx=>!x.1)&&(V_ a8 (VT [] X.env)).all (λx=>x.1.isSome)
   && decide ((e::es).length+([]:List W0).length+(if([]:List W0).isEmpty then 0 else 1)<30))=true:=by rfl)
  (c9:((b7.endLine==a8.line)=true)\zA0) (hs:zSE X e es\zA0) (q_:zPL X a8 es\zA0):
  PE X (.Call (.Attribute o name b7) (e::es) [] a8) (tBM X.K T r to t):=by
 intro pins s σ H Q I h;refine wpAny_Call_method_late b_ d_ c9 rfl (thn (ho pins s σ H _ I h) λv s1 c7=>?_);let#[x,H1,I1,r1,ty,q1]:=c7;let#[h1,h2]:=zb I1 r1 ty;refine#[T,id,pa,slot,O_,h1,h2,?_];have hA:=ha a8 pins s1 σ H1 _ I1 q1;rw[hs]at hA ⊢;refine Calls.callWith_builtin (by show(false||(VC a8 (U9 es X.env)).any (·.1))=false;rw[q_]<;>rfl) (Calls.evalArgs_plain ?_);exact thn hA λus s2 ⟨vs,H2,I2,r2,q2⟩=>hm pins s2 σ H2 x vs v us Q I2 r1 r2 q2
end
def MtM(X:Cx)(id:String)(r:V->List V->Hp->VK->Prop):Prop:=
 ∀(pins:List (Pi×Vk)) (s:SB) (σ:St) (H:Hp) (x:V) (xs:List V) (v:Os) (us:List Os) (Q:VK),Inv X pins σ H s->RelV x v->Vals xs us->r x xs H Q->
  U8 (U4 X.prog X.w) X.A (call (.builtin id) (v::us)) (EP X pins σ Q) X.xe s
def Vals.one:∀{x:V} {us:List Os},Vals [x] us->∃u,us=[u]/\RelV x u:=by
 intro x us h;cases h with
 |cons r h=>cases h;exact#[_,rfl,r]
section
variable {X:Cx}{pins:List (Pi×Vk)}{σ:St}{H:Hp}{s:SB}{l b:Pi}{xs ys zs:List V}
variable{its:List Os}
def Inv.lset{its':List Os}{n:Nat}{f:Array Os->Array Os}{t':Nat}(I:Inv X pins σ H s)(hH:H l=be (.lst xs))
  (e:s.heap.get? l=be {cls:=.type "list",data:=.seq its.toArray n}) (hf:f its.toArray=its'.toArray) (hv:Vals ys its') (hz:ys.length<=sizeLine):
  Inv X pins σ (upd H l (.lst ys)) {s with heap:=s.heap.update l (Obj.mapSeq f),toks:=t'}:=by
 have q:=PySem.IsL.update e f;rw[hf]at q;refine I.write (x:=l) (e:=l) (by rw[hH];exact trivial) (.inl rfl) (λb' u hb hu=>(Heap.get?_update_other s.heap (Obj.mapSeq f) (Ne.symm hb)).trans hu) #[_,q] ?_;exact#[hz,its',_,hv,q]
def Inv.lnew{t':Nat}(I:Inv X pins σ H s)(hv:Vals ys its)(hz:ys.length<=sizeLine):
  Inv X pins σ (upd H s.heap.objs.size (.lst ys)) {s with heap:=s.heap.push {cls:=.type "list",data:=.seq its.toArray},toks:=t'}:=
 I.laid (λ_ _ q=>Heap.get?_push_of_some _ q) (Hw _) #[hz,its,0,hv,Heap.get?_push_size _ rfl]
def Inv.fresh(I:Inv X pins σ H s):H s.heap.objs.size=none:=I.hok.fresh (Hw _)
def Inv.lstM(I:Inv X pins σ H s)(hH:H l=be (.lst xs)):xs.length<=sizeLine/\∃(its:List Os) (n:Nat),Vals xs its/\xs.length=its.length/\s.heap.get? l=be {cls:=.type "list",data:=.seq its.toArray n}:=by
 let#[z,its,n,r,e]:=I.hok l _ hH;exact#[z,its,n,r,r.length,e]
end
section
variable {X:Cx}
def zc:V->List V->Hp->VK->Prop:=λx vs H Q=>∃l xs y,x=.ref l/\vs=[y]/\H l=be (.lst xs)/\xs.length<sizeLine/\Q .non (upd H l (.lst (xs++[y])))
def jW:MtM X "list.append" zc:=by
 intro pins s σ H x vs v us Q I rx rv h;let#[l,xs,y,rfl,rfl,hH,hz,q]:=h;cases rx;let#[u,rfl,ru]:=rv.one;let#[z,its,n,r,hl,e]:=I.lstM hH;refine WS F.slot_list_append #[_,e,rfl] F.entry_list_append (F.args_list_append_2 _ _) (PySem.list_append l its.toArray n u (by rw[HK];lia)) #[e,?_];refine#[.non,_,I.lset (its':=its++[u]) hH e Mn (r.append (.cons ru .nil)) ?_,rfl,q];rw[HF,JP];lia
def rCat:R2:=λx y H Q=>∃l b xs zs,x=.ref l/\y=.ref b/\H l=be (.lst xs)/\H b=be (.lst zs)/\xs.length+zs.length<=sizeLine/\∀p,H p=w6->Q (.ref p) (upd H p (.lst (xs++zs)))
def qV:OpR X (Vr .Add) rCat:=by
 intro pins s σ H x y v u Q I rx ry h;let#[l,b,xs,zs,rfl,rfl,hH,hB,hz,q]:=h;cases rx;cases ry;let#[z,its,n,r,hl,e]:=I.lstM hH;let#[z2,Lu,n2,r2,Me,e2]:=I.lstM hB;refine PySem.P.add_list e e2 ?_ (by rw[HK,HK];lia);have ea:its.toArray++Lu.toArray=(its++Lu).toArray:=Mn
 rw[ea];exact#[.ref _,_,I.lnew (t':=s.toks) (r.append r2) (by rw[HF];lia),rfl,q _ I.fresh]
end
end L2
namespace RI
open PySem PySem.W PySem.Calls PyProof.Rows
variable{P:Params}
def zd{h:Heap}:∀(ns:List Int) (vs:List Os),WellAll P h vs (ns.map WData.int)->WC vs ns:=by
 intro ns;induction ns with
 |nil=>
  intro vs w;rw[IT]at w;cases w;exact .nil
 |cons n ns ih=>
  intro vs w;rw[HR]at w;cases w with
  |cons a b=>
   cases a;exact .cons _ _ (ih _ b)
variable{l:OpenLaw}
def ze{n:Nat}(hn:l.most=be n){h:Heap}{args:List WData}{Mf:List Os}
  (Lv:l.row.toRowW.claim.pre args=true) (Pa:WellAll P h Mf args):
  ∃a vs ns,Mf=[Value.ref a]/\args=[WData.list (ns.map WData.int)]/\h.get? a=be {cls:=.type "list",data:=.seq vs.toArray}/\WC vs ns/\ns.length<=n:=by
 have SS:WShape.hasAll [] args [.list .int]=true:=(pre_splitW Lv).1;have hc:l.pre.holds [] {args:=args}=true:=(pre_splitW Lv).2;let#[d,r,rfl,h1,h2]:=hasAllW_cons SS;obtain rfl:=hasAllW_nil h2;let#[xs,rfl,h3]:=hasW_list h1;let#[ns,rfl]:=items_int h3;have b9:ns.length<=n:=by
  unfold OpenLaw.pre at hc;have h4:(WTm.not (.lt (.lit (.int (n:Int))) (.len (.arg 0)))).holds [] {args:=[.list (ns.map .int)]}=true:=by
   have h4:=(holds_andW hc).1;rw[hn]at h4;exact h4
  have h5:=condW_of h4 (w_not (w_lt w_lit (w_len_list (w_arg rfl))));rw[HE]at h5;refine JQ λq=>?_;have q':(n:Int)<((ns.length:Nat):Int):=Md
  first
   |(rw[decide_eq_true q']at h5;exact absurd h5 Mh)
   |(simp at h5;lia)
 cases Pa with
 |cons w1 w2=>
  cases w2;cases w1 with
  |list ho Lw=>exact#[_,_,ns,rfl,rfl,ho,zd ns _ Lw,b9]
def zf(l:OpenLaw)(args:List WData):l.row.toRowW.claim.post args (.bool true) args=true:=
 postW_of (r:=l.row.toRowW) (X:=(true==true))
  (show WShape.has [] (.bool true) .bool=true by first|rfl|decide|simp[WShape.has,WShape.arms,WShape.armsAll])
  (show(WTm.eq .res (.lit (.bool true))).value [] {args:=args,res:=be (.bool true),after:=args}=be (.bool (true==true))from w_eq_bool (w_res rfl) w_lit) rfl
def attach_call{n:Nat}{q:U5}{m7:List Lq}{XP:(Lq->Option Os)->Heap->Prop}{YP:U'->Heap->Prop}{d:DefRec}
  (hn:l.most=be n) (Nn:d.params.defaults=[])
  (call:∀(w:U') (s₀ s₁:SB) (mg mb:Lq->Option Os) (fa:Pi) (o:Vk) (pm cd doc:Os) (a:Pi) (vs:List Os) (ns:List Int),
   Ground q m7 [] XP w s₀ mg mb s₁.heap->YP w s₁.heap->
   s₁.heap.get? fa=be o->o.data=.func (docDef d.name d.params d.body d.scope pm cd doc)->s₁.heap.CodeRec cd d.name->mg d.name=be (.ref fa)->
   s₁.heap.get? a=be {cls:=.type "list",data:=.seq vs.toArray}->WC vs ns->ns.length<=n->s₁.gens=[].toArray->
   V6 (U4 l.prog w) V' (.call (.ref fa) #[[.ref a],[]]) (λr s'=>r=.ok (.ret (.bool true))/\OldK s₁.heap s'.heap/\s'.os=s₁.os/\VU s'.gens) s₁):
  WalkO q m7 XP YP l.row.toRowW d [] (λf vs=>PySem.call f vs):=by
 intro w s₀ s₁ mg mb G Y fa o pm cd doc dV kV ho hd h_ hD l_ hg args Mf as Lv SU Uy Pa Uz;obtain rfl:dV=.none:=Dflts.none hD Nn;obtain rfl:kV=.none:=Dflts.noKw hD;let#[a,vs,ns,rfl,rfl,Mg,z9,b9]:=ze hn Lv Pa;refine enter_call (Vx (call w s₀ s₁ mg mb fa o pm cd doc a vs ns G Y ho (fd_plain hd) h_ l_ Mg z9 b9 hg) λr s' hq=>?_);let#[rfl,h2,h3,h4]:=hq;exact#[.inl #[.bool true,.bool true,[],rfl,λ_=>rfl,.bool true,zf l _,λ_=>#[List.Pairwise.nil,λ_ hm=>(nomatch hm)]],h2,h3,h4]
end RI
namespace L2
open PySem PySem.Spec PyProof.Rows
def qW:∀{vs:List Os} {ns:List Int},WC vs ns->Vals (ns.map V.int) vs
 |_,_,.nil=>.nil
 |_,_,.cons n t h=>.cons #[t,rfl] (qW h)
def Only(H:Hp):Prop:=∀b,H b=w6\/∃o xs,H b=be (.frz o (.lst xs))
variable{k:Nat}
def zg{P:U5}{w:U'}{K:Ex}{mg mb:Lq->Option Os}{CX:CXT}{fa a:Pi}{fd:Vd}{x:Lq}{sp:Sp}{s₁:SB}{vs:List Os}{ns:List Int}
  (KX:K.In s₁.heap) (hns:s₁.heap.Ns SL mg) (hb:s₁.heap.Ns WT mb) (SV:∀x:Lq,x≠"__name__"->mb x=Vl x) (Pb:s₁.heap.NoLimit) (hg:s₁.gens=[].toArray)
  (ha:s₁.heap.get? a=be {cls:=.type "list",data:=.seq vs.toArray}) (hi:WC vs ns) (hl:ns.length<=sizeLine) (hr:Room k V')
  (F:∀base:Heap,K.In base->base.Ns SL mg->FnOk P w K mg base CX k fa fd [x] sp) (No:∀(s:SB) (u:Os),VY s fd #[[u],[]] [(x,u)])
  (z8:∀H:Hp,Only H->SqL K H a (ns.map V.int)->sp [.ref a] H (λv _=>v=.bl true) λ_ _ _=>False)
  (Pc:∀H e s',CX [] H s₁ (λ_ _ _=>False) e s'->False):
  V6 (U4 P w) V' (.call (.ref fa) #[[.ref a],[]]) (λr s'=>r=.ok (.ret (.bool true))/\OldK s₁.heap s'.heap/\s'.os=s₁.os/\VU s'.gens) s₁:=by
 have rv:=qW hi;have Pd:=hi.length;have Nq:∀H:Hp,Only H->SqL K H a (ns.map V.int)->HOk P w H s₁.heap->(∀b,H b≠w6->b=a)->(H a≠w6->K.lookup a=w6)->
   V6 (U4 P w) V' (.call (.ref fa) #[[.ref a],[]]) (λr s'=>r=.ok (.ret (.bool true))/\OldK s₁.heap s'.heap/\s'.os=s₁.os/\VU s'.gens) s₁:=by
  intro H hO hS hok hA hK;have t9:∀{b:Pi} {o:Vk},s₁.heap.get? b=be o->H b=w6->(hidT s₁.heap H).get? b=be o:=λe n=>xr e n;have Nl:∀{b:Pi} {o:Vk} {es:Array DictEntry} {ep:Nat},s₁.heap.get? b=be o->o.data=.dict es ep->H b=none:=λ{b o es ep} e d=>by
   cases q:H b with
   |none=>rfl
   |some u=>
    have e':b=a:=hA b (by rw[q];simp);subst e';rw[ha]at e;cases e;have d':Data.seq vs.toArray _=Data.dict es ep:=d;cases d'
  have Ox:∀{b:Pi} {m:Lq->Option Os},s₁.heap.Ns b m->(hidT s₁.heap H).Ns b m:=λ{b m} ⟨o,es,ep,e,d,r⟩=>#[o,es,ep,t9 e (Nl e d),d,r];have RK:K.In (hidT s₁.heap H):=λb o e=>t9 (KX b o e) (by
   cases q:H b with
   |none=>rfl
   |some u=>
    have e':b=a:=hA b (by rw[q];simp);subst e';rw[hK (by rw[q];simp)]at e;cases e)
  have hM:Mod K mg (hidT s₁.heap H):=#[RK,Ox hns,#[mb,Ox hb,SV],let ⟨mc,h1,h2⟩:=Pb;#[mc,Ox h1,h2]];have e0:Env0 P w K mg (hidT s₁.heap H) V' [] s₁ H:=#[rfl,hM,λb o e=>xt e,Jv (xq _ _),trivial,λb hb=>absurd (show b∈([]:List Pi)from hb) Mn,hok,.of_eq hg];refine Vx ((F _ RK (Ox hns)).run V' [] s₁ H #[[.ref a],[]] [.ref a] [.ref a] _ _ hr e0 (No s₁ (.ref a)) (.cons rfl .nil) (z8 H hO hS)) λr s' h=>?_;cases r with
  |error e=>exact(Pc H e s' h).elim
  |ok fl=>
   cases fl with
   |next=>exact False.elim h
   |brk=>exact False.elim h
   |cont=>exact False.elim h
   |ret u=>
    let#[v,H',os,bare,un,Pe,r',q]:=h;have q':v=.bl true:=q;subst q';obtain rfl:u=Value.bool true:=r';refine#[rfl,OldK.of_keep λb o e=>?_,os,bare];cases q:H b with
    |none=>exact un.keep b o e q (by intro z;exact absurd (show b∈([]:List Pi)from z) Mn) Mn
    |some u=>
     rcases hO b with z|⟨ob,xs,z⟩
     .rw[q]at z;cases z
     .have z2:=un.frzs b ob _ z;let#[e1,_]:=hok b _ z;let#[e2,_]:=Pe b _ z2;rw[e]at e1;cases e1;exact e2
 cases hk:K.lookup a with
 |some o=>
  have e:=KX a o hk;rw[ha]at e;cases e;refine Nq (λ_=>w6) (λ_=>.inl rfl) (.inr #[_,vs.toArray,_,hk,rfl,rfl,rfl,by rw[HK,Pd];exact hl,by simpa using rv]) (λb u z=>by have z':(w6:Option HO)=be u:=z;cases z') (λb z=>absurd rfl z) λz=>absurd rfl z
 |none=>
  refine Nq (λb=>if b=a then be (.frz {cls:=.type "list",data:=.seq vs.toArray} (.lst (ns.map V.int)))else w6) (λb=>?_) (.inl (.inr #[{cls:=.type "list",data:=.seq vs.toArray},if_pos rfl])) (λb u z=>?_) (λb z=>?_) λ_=>hk
  .by_cases hb:b=a
   .exact .inr #[_,_,if_pos hb]
   .exact .inl (if_neg hb)
  .by_cases hb:b=a
   .have z':=(if_pos hb).symm.trans z;cases z';subst hb;exact#[ha,by rw[HE];exact hl,vs,_,rv,ha]
   .have z':=(if_neg hb).symm.trans z;cases z'
  .by_cases hb:b=a
   .exact hb
   .exact absurd (if_neg hb) z
def walk_of{l:JR}{n:Nat}{q:U5}{m7:List Lq}{XP:(Lq->Option Os)->Heap->Prop}{YP:U'->Heap->Prop}{d:DefRec}{K:Params->Ex}{CX:U'->CXT}{sp:U'->Sp}{x:Lq}
  (hn:l.most=be n) (Lf:n<=sizeLine) (Nn:d.params.defaults=[]) (hr:Room k V')
  (hY:∀(w:U') (h:Heap),YP w h->(K w.params).In h)
  (F:∀(w:U') (mg:Lq->Option Os) (fa:Pi) (h:Heap),(K w.params).In h->h.Ns SL mg->mg d.name=be (.ref fa)->
   ∃fd:Vd,(∀(s:SB) (u:Os),VY s fd #[[u],[]] [(x,u)])/\
    ∀base:Heap,(K w.params).In base->base.Ns SL mg->FnOk l.prog w (K w.params) mg base (CX w) k fa fd [x] (sp w))
  (z8:∀(w:U') (H:Hp) (a:Pi) (ns:List Int),ns.length<=n->Only H->SqL (K w.params) H a (ns.map V.int)->sp w [.ref a] H (λv _=>v=.bl true) λ_ _ _=>False)
  (Pc:∀(w:U') (H:Hp) (s:SB) (e:Os) (s':SB),CX w [] H s (λ_ _ _=>False) e s'->False):
  Kt q m7 XP YP l.row.toRowW d [] (λf vs=>PySem.call f vs):=by
 refine RI.attach_call hn Nn λw s₀ s₁ mg mb fa o pm cd doc a vs ns G Y ho hd h_ l_ Mg z9 b9 hg=>?_;have KX:=hY w _ Y;let#[fd,hb,hF]:=F w mg fa _ KX G.T.g l_;exact zg KX G.T.g G.T.b G.T.builtins G.T.nolimit hg Mg z9 (HG b9 Lf) hr hF hb (λH hO hS=>z8 w H a ns b9 hO hS) λH e s'=>Pc w H s₁ e s'
def aT(s:U6)(j:Nat):U6:=match s with
 |.ClassDef _ _ _ body _ _ _ _ _ _ _=>body.getD j (.Pass #[0,0,0,0])
 |_=>.Pass #[0,0,0,0]
def bB(s:U6):Arguments:=match s with
 |.FunctionDef _ a _ _ _ _ _ _ _ _=>a
 |_=>{posonlyargs:=[],args:=[],vararg:=w6,kwonlyargs:=[],kw_defaults:=[],kwarg:=w6,defaults:=[]}
def aJ(s:U6):List U6:=match s with
 |.FunctionDef _ _ b _ _ _ _ _ _ _=>b
 |_=>[]
def ag(s:U6):Vy:=match s with
 |.FunctionDef _ _ _ _ _ _ sc _ _ _=>sc
 |_=>{kind:=.function,names:=[],isGenerator:=false,isCoroutine:=false}
abbrev E0:XK:=λ_ _ _=>False
structure FunG(K:Ex)(dV:Os)(x qual:Str)(st:U6)(f:Pi)(fd:Vd):Prop where
 ex:∃(oc:Os) (od:Option Pi) (kV doc pm:Os) (an:Option Pi) (cdv ct:Os) (osl:Array (Option Os)),
  fd=fnOf x qual (bB st) (aJ st) (ag st) dV kV doc pm an cdv ct/\K.lookup f=be #[oc,od,.func fd,osl]/\codeIn K cdv qual=true
 kp:keepIn K (.ref f)=true
abbrev Fun(K:Ex):Lq->Lq->U6->Pi->Vd->Prop:=FunG K .none
section
variable {P:U5}{w:U'}{K:Ex}{mg:Lq->Option Os}{base:Heap}
def Fun.binds{x qual:Lq}{st:U6}{f:Pi}{fd:Vd}{ps:List Lq}(F:Fun K x qual st f fd)
  (h:∀(kV doc pm:Os) (an:Option Pi) (cdv ct:Os) (us:List Os),us.length=ps.length->VI (fnOf x qual (bB st) (aJ st) (ag st) .none kV doc pm an cdv ct) #[us,[]]=pure (ps.zip us)):Binds K fd ps []:=by
 let#[oc,od,kV,doc,pm,an,cdv,ct,osl,rfl,lk,h_]:=F.ex;exact .all (h kV doc pm an cdv ct)
def hV{x qual:Lq}{st:U6}{f:Pi}{oc:Os}{od an:Option Pi}{osl:Array (Option Os)}{kV doc pm cdv ct:Os}(l:K.lookup f=be #[oc,od,.func (fnOf x qual (bB st) (aJ st) (ag st) .none kV doc pm an cdv ct),osl])
  (c:codeIn K cdv qual=true) (k:keepIn K (.ref f)=true):Fun K x qual st f (fnOf x qual (bB st) (aJ st) (ag st) .none kV doc pm an cdv ct):=#[#[oc,od,kV,doc,pm,an,cdv,ct,osl,rfl,l,c],k]
end
def jX{A:U_}(hr:Room k A):A.units+1<Wd:=Ku (Nat.add_le_add_left (Mh:1<=64) _) hr.units
def zh{n:Nat}(h:n<=1000):n<sizeLine:=Ku h Mh
variable{A B:Prop}
def iteF(h:B):if false=true then A else B:=by
 rw[if_neg HH];exact h
def iteT(h:A):if true=true then A else B:=by
 rw[if_pos rfl];exact h
def ite2{c:Prop}[Decidable c](h1:c->A)(h2:¬c->B):if c then A else B:=by
 by_cases h:c
 .rw[if_pos h];exact h1 h
 .rw[if_neg h];exact h2 h
def Same(H H':Hp):Prop:=∀b o,H b=be o->H' b=be o
def Same.refl(H:Hp):Same H H:=λ_ _ h=>h
variable{H:Hp}
def Same.trans{H1 H2:Hp}(a:Same H H1)(b:Same H1 H2):Same H H2:=λc o h=>b c o (a c o h)
def Same.free{H':Hp}(e:Same H H'){l:Pi}(h:H' l=Option.none):H l=Option.none:=by
 cases q:H l with
 |none=>rfl
 |some o=>
  rw[e l o q]at h;cases h
def Same.seq{K:Ex}{H':Hp}{a:Pi}{xs:List V}(e:Same H H')(h:SqL K H a xs):SqL K H' a xs:=by
 rcases h with(h|⟨o,h⟩)|h
 .exact .inl (.inl (e _ _ h))
 .exact .inl (.inr #[o,e _ _ h])
 .exact .inr h
end L2
end
section
open PySem PySem.Spec PyProof.Rows L2
namespace Exc
open PySem PySem.Spec PyProof.Rows PySem.W L2
def excMro:List Os->Bool
 |.ref _::r=>excMro r
 |l=>l==[.type "ValueError",.type "Exception",.type "BaseException",.type "object"]
def qX(self:Os):∀{l:List Os},excMro l=true->refuseLoop self "__setattr__" l=pure ()
 |.ref c::r,e=>by rw[refuseLoop_ref];exact qX self (by unfold excMro at e;exact e)
 |[],e=>by simp[excMro]at e
 |.type n::r,e=>by
  have e':(Value.type n::r)=[.type "ValueError",.type "Exception",.type "BaseException",.type "object"]:=by simpa[excMro]using e
  rw[e'];exact PySem.F.store_ValueError.passes self
 |.none::r,e=>by simp[excMro]at e
 |.bool _::r,e=>by simp[excMro]at e
 |.int _ _::r,e=>by simp[excMro]at e
 |.float _ _::r,e=>by simp[excMro]at e
 |.str _ _::r,e=>by simp[excMro]at e
 |.bytes _ _::r,e=>by simp[excMro]at e
 |.builtin _::r,e=>by simp[excMro]at e
def exc_has{T:String}(hT:[Value.type "ValueError",.type "Exception",.type "BaseException",.type "object"].contains (.type T)=true):∀{l:List Os},excMro l=true->l.contains (.type T)=true
 |.ref c::r,e=>by rw[JS,exc_has hT (l:=r) (by unfold excMro at e;exact e),Jz]
 |[],e=>by simp[excMro]at e
 |.type n::r,e=>by
  have e':(Value.type n::r)=[.type "ValueError",.type "Exception",.type "BaseException",.type "object"]:=by simpa[excMro]using e
  rw[e'];exact hT
 |.none::r,e=>by simp[excMro]at e
 |.bool _::r,e=>by simp[excMro]at e
 |.int _ _::r,e=>by simp[excMro]at e
 |.float _ _::r,e=>by simp[excMro]at e
 |.str _ _::r,e=>by simp[excMro]at e
 |.bytes _ _::r,e=>by simp[excMro]at e
 |.builtin _::r,e=>by simp[excMro]at e
section
variable {prog:U5}{w:U'}{A:U_}{E:Os->SB->Prop}{s:SB}{K:Ex}{x C:Pi}{ox:Vk}{cd:VX}{name:Lq}{v:Os}{vs:Array Os}
def zi{Q:Unit->SB->Prop}(X:K.In s.heap)(hx:s.heap.get? x=be ox)(k8:ox.cls=.ref C)(Mi:ox.data=.fields vs)(hd:ox.dict=w6)(hc:clsIn K C=be cd)(hm:excMro cd.mro=true)(hh:cd.hasDict=true)
  (hs:findIn K (.ref C) "__setattr__"=be (be (.builtin "object.__setattr__"))) (hf:findIn K (.ref C) name=be w6)
  (h:∀h',h'.get? x=be {ox with dict:=be s.heap.objs.size}->h'.Ns1 s.heap.objs.size (λy=>if y=name then be v else w6)->(∀b o,b≠x->s.heap.get? b=be o->h'.get? b=be o)->∀tk,Q () {s with heap:=h',toks:=tk}):
  U8 (U4 prog w) A (setAttr (.ref x) name v) Q E s:=by
 have hn:notCls ox=true:=by unfold notCls;rw[Mi]
 have I:InstAt s.heap x ox C none:=#[hx,k8,hn,by rw[hd];trivial];refine set_plain X I hs ?_;have SF:=PySem.F.store_object;have ne:cd.mro.isEmpty=false:=Ow
 have sub:Looks (U4 prog w) s.heap (V7 (.ref x) (.type "object")) true:=I.type.andThen (looks_mroIn X RJ);refine VH SF.slot.plain SF.entry (@check_slot (U4 prog w) _ _ _ "object.__setattr__" "object" "__setattr__" (.ref x) [.str name s.toks,v] [] _ SF.kind SF.split sub (SF.args (.ref x) (.str name s.toks) v) ?_);have Nt:Looks (U4 prog w) s.heap (mroOf (.ref C)) cd.mro:=(looks_clsIn X hc).andThen .now;rw[osa_eq,refuse_eq];refine P3 (P3 (I.type.here (s:={s with toks:=s.toks+1}) (P3 (Nt.here (s:={s with toks:=s.toks+1}) ?_))));rw[qX _ hm];refine SZ (P3 (I.type.here (s:={s with toks:=s.toks+1}) (P3 ((looks_findIn X hf).here (s:={s with toks:=s.toks+1}) (P3 (Looks.now.here (s:={s with toks:=s.toks+1}) ?_))))));let#[oc,SW,SX,osl]:=ox;dsimp only at k8 hd Mi;subst k8 hd Mi;refine P3 (SZ (P3 (P3 (Wi hx (P3 ((looks_clsIn X hc).here (s:={s with toks:=s.toks+1}) ?_))))));rw[hh];rw[if_neg Mh];have hx₁:(s.heap.push {cls:=.type "dict",data:=.dict [].toArray}).get? x=be #[.ref C,w6,.fields vs,osl]:=Heap.get?_push_of_some _ hx;have RL:x≠s.heap.objs.size:=HD (Heap.lt_size hx);show U8 _ _ (do
  let d <-alloc {cls:=Value.type "dict",data:=Data.dict [].toArray}
  update x λo=>{cls:=o.cls,dict:=be d,data:=o.data,slots:=o.slots}
  dictMade (.ref C) x d) _ _ _
 refine P3 (wpAny_alloc' ?_);refine P3 (wpAny_update' hx₁ ?_);refine SZ ?_;have SY:((s.heap.push {cls:=.type "dict",data:=.dict [].toArray}).update x λo=>{cls:=o.cls,dict:=be s.heap.objs.size,data:=o.data,slots:=o.slots}).get? s.heap.objs.size
   =be {cls:=.type "dict",data:=.dict [].toArray}:=
  (Heap.get?_update_ne _ _ _ _ RL.symm).trans (Heap.get?_push_at rfl rfl)
 have S1:((s.heap.push {cls:=.type "dict",data:=.dict [].toArray}).update x λo=>{cls:=o.cls,dict:=be s.heap.objs.size,data:=o.data,slots:=o.slots}).Ns s.heap.objs.size (λ_=>w6):=
  #[_,[].toArray,_,SY,rfl,λe he=>absurd he Mn,λ_=>rfl]
 show U8 _ _ (Builtin.ObjectAttr.storeInDict s.heap.objs.size (.str name s.toks) name v) _ _ _;unfold Builtin.ObjectAttr.storeInDict Builtin.ObjectAttr.newKeyGuard;refine P3 (SZ (P3 (wpAny_nsSet1 (Heap.Ns1.of_empty S1) λh' i_ hs=>?_)));let#[oD,SK,SM,O6,O7,O8]:=i_.count (Within.cons name v Within.nil);refine P3 (wpAny_lookBehind O6 (by rw[O7];exact pastItsLine_dict (HG O8 (by rw[HA,Jj,V2];lia))) ?_);refine SZ (h h' ?_ i_ (λb o hb q=>?_) _)
 .exact(hs.2 x RL).trans (Heap.get?_update_self _ hx₁ rfl)
 .exact(hs.2 b (HD (Heap.lt_size q))).trans ((Heap.get?_update_ne _ _ _ _ hb).trans (Heap.get?_push_of_some _ q))
variable{Q:Os->SB->Prop}
def zj{od:Vk}{z7:Bool}(X:K.In s.heap)(I:InstAt s.heap x ox C (be od))(hc:clsIn K C=be cd)(hm:excMro cd.mro=true)
  (Pf:findIn K (.ref C) "__getattribute__"=be (be (.builtin "BaseException.__getattribute__"))) (Pg:findIn K (.ref C) "__getattr__"=be w6)
  (hf:findObj K C (be od) name=be (.value v)) (hh:handedIn v=true) (h:∀tk,Q v {s with toks:=tk}):U8 (U4 prog w) A (Wy (.ref x) name z7) Q E s:=by
 have FB:=PySem.F.attr_ValueError;let#[hp,g,d,t,os]:=s;have L0:=I.type (M:=U4 prog w);have L1:=looks_findIn (M:=U4 prog w) X Pf;have L2:=looks_findIn (M:=U4 prog w) X Pg;have L3:=looks_find (M:=U4 prog w) X I hf;have f3:=FB.ga.bind (.ref x);have ne:cd.mro.isEmpty=false:=Ow
 have sub:Looks (U4 prog w) hp (V7 (.ref x) (.type "BaseException")) true:=I.type.andThen (looks_mroIn X RJ);unfold Wy getAttrBy;refine P3 (wpAny_mkText (Vh (P3 (L0.at (P3 (L1.at ?_))))));dsimp only;have LV:(V4 (Value.ref C)&&Value.builtin "BaseException.__getattribute__"==Value.builtin "object.__getattribute__")=false:=by
  have p9:(Value.builtin "BaseException.__getattribute__"==Value.builtin "object.__getattribute__")=false:=KK
  rw[p9];rfl
 have S2:(z7&&V4 (Value.builtin "BaseException.__getattribute__"))=false:=by cases z7<;>rfl
 rw[LV,if_neg HH];unfold getAttrByItsOwn hookBefore;rw[show V4 (Value.ref C)=true from rfl,if_pos rfl];refine P3 (L2.at ?_);unfold callGetattribute;rw[S2,if_neg HH];unfold boundAndCalled;refine P3 (Wp (Vh (P3 (VS f3 ?_))));refine Vs (VH FB.ga.plain PySem.F.entry_bexc_ga (@check_slot (U4 prog w) _ _ _ "BaseException.__getattribute__" "BaseException" "__getattribute__" (.ref x) [.str name t] [] _ KK KK sub (PySem.F.args_bexc_ga _ _) ?_));unfold Builtin.«object.__getattribute__»;refine P3 (VS (a:=(Value.ref x,[Value.str name t])) rfl ?_);refine P3 (VS (a:=name) rfl ?_);refine P3 (L0.at (P3 (L3.at ?_)));refine SZ ?_;show U8 _ _ (handedOut v) _ _ _;rw[handedOut_of hh];exact SZ (h _)
def zk{rest:List Os}{t0:Pi}{a1 a2 a3 a4 a5:Os}(X:K.In s.heap)(hx:s.heap.get? x=be ox)(k8:ox.cls=.ref C)(Mi:ox.data=.fields [.ref t0,a1,a2,a3,a4,a5].toArray)(hc:clsIn K C=be cd)(hm:excMro cd.mro=true)(hl:rest.length<=sizeLine)
  (h:∀h',h'.get? x=be {ox with data:=.fields [.ref s.heap.objs.size,a1,a2,a3,a4,a5].toArray}->(∀b o,b≠x->s.heap.get? b=be o->h'.get? b=be o)->Q .none {s with heap:=h'}):
  U8 (U4 prog w) A (call (.builtin "ValueError.__init__") (.ref x::rest)) Q E s:=by
 have F:=PySem.F.excBase_ValueError;have hn:notCls ox=true:=by unfold notCls;rw[Mi]
 have ht:Looks (U4 prog w) s.heap (typeOf (.ref x)) (.ref C):=k8 ▸ (Looks.ld hx).andThen .now;have ne:cd.mro.isEmpty=false:=Ow
 have sub:Looks (U4 prog w) s.heap (V7 (.ref x) (.type "ValueError")) true:=ht.andThen (looks_mroIn X RJ);have S3:∀{Q:Unit->SB->Prop} {E:Os->SB->Prop} {A:U_},Q () s->U8 (U4 prog w) A (checkBuiltinCall "ValueError.__init__" #[.ref x::rest,[]]) Q E s:=λ{Q E A} hq=>by
  have Ph:=F.noStar;simp only[checkBuiltinCall,F.initKind,F.initSplit,F.initRow];refine P3 (sub.here ?_);let#[hp,g,d,t,os]:=s;have Lc:=looks_clsIn (M:=U4 prog w) X hc
  repeat(first|(with_reducible refine Vm hx ?_;rw[k8])|(with_reducible refine Lc.here ?_)|wp_step)
  refine wpAny_onRaise ?_;rw[show ∀(a b:String) (n:Nat),Bind.check #[.positional,"*","ValueError",.self,[#["args",.varPos,false]]] a b n (JA (λx=>x.fst) ({pos:=Value.ref x::rest}:Args).kw)=pure ()from
   λa b n=>check_star_args _ _ _ _ _ _]
  exact SZ hq
 refine Vs (VH F.init.plain F.initEntry (S3 ?_));let#[hp,g,d,t,os]:=s;let#[oc,SW,SX,osl]:=ox;dsimp only at k8 Mi hx h;subst k8 Mi
 wp_walk
 have hx₁:=Heap.get?_push_of_some {cls:=Value.type "tuple",data:=Data.seq rest.toArray} hx;refine h _ ?_ (λb o hb q=>?_)
 .rw[Heap.get?_update_self _ hx₁ rfl];rfl
 .rw[Heap.get?_update_other _ _ (Ne.symm hb)];exact Heap.get?_push_of_some _ q
end
abbrev veLine:List Os:=[.type "ValueError",.type "Exception",.type "BaseException",.type "object"]
section
variable {prog:U5}{w:U'}{A:U_}{E:Os->SB->Prop}{h:Heap}{g:Array WJ}{d:Drawn}{t:Nat}{os:OsState}{K:Ex}
variable {nm q:Lq}{C N fI:Pi}{bs bm:List Os}{hdct:Bool}{sn:List Lq}{sub:List Os}{ab:Bool}{col:Option Bool}{dd:Option Pi}{k0 k1 k2 k3 k5:Option Os}{rest:List Os}
def zl{Q:Fin->SB->Prop}(X:K.In h)(T:OwnTail h veLine bm)(hC:h.get? C=be (Vq nm q C N bs bm hdct sn sub ab col dd k0 k1 k2 k3 k5 "ValueError.__new__"))
  (hi:findIn K (.ref C) "__init__"=be (be (.ref fI))) (hf:typeIn K (.ref fI)=be (.type "function"))
  (hq:∀h' e,Heap.MadeExcOf h h' e (.ref C) rest->U8 (U4 prog w) A (call (.ref fI) (.ref e::rest)) (λr s'=>r=.none/\Q (.done (.ret (.ref e))) s') E #[h',g,d,t,os]) (hl:rest.length<=sizeLine):
  U8 (U4 prog w) A (Builtin.«type.__call__» #[.ref C::rest,[]]) Q E #[h,g,d,t,os]:=by
 have F:=PySem.F.excBase_ValueError
 repeat(first|(with_reducible refine Vm hC ?_)|(with_reducible refine wpAny_madeBy_exc hC ?_)|wp_step)
 refine codeAny_call_builtin_code (Code.quiet_builtin _ F.quiet) (wpAny_check_new_subT F T hC (codeAny_exc_new_subT F T hC ?_ hl));have kp:∀b o,h.get? b=be o->((h.push {cls:=.type "tuple",data:=.seq rest.toArray}).push {cls:=.ref C,data:=.fields [.ref h.objs.size,.none,.none,.none,.bool false,.none].toArray}).get? b=be o:=λb o e=>Heap.get?_push_of_some _ (Heap.get?_push_of_some _ e);have S4:=kp _ _ hC;have X1:K.In _:=X.keeps kp;have he:((h.push {cls:=.type "tuple",data:=.seq rest.toArray}).push {cls:=.ref C,data:=.fields [.ref h.objs.size,.none,.none,.none,.bool false,.none].toArray}).get? (h.objs.size+1)=be {cls:=.ref C,data:=.fields [.ref h.objs.size,.none,.none,.none,.bool false,.none].toArray}:=by heap_get
 have S5:(Value.ref C::bm).contains (.ref C)=true:=Mn
 have L1:=looks_findIn (M:=U4 prog w) X1 hi;have L2:=bind_fn (M:=U4 prog w) X1 (.ref (h.objs.size+1)) hf;show U8 _ _ _ _ _ _;unfold V7
 repeat(first|(with_reducible refine Vm he ?_)|(with_reducible refine VN S4 ?_;rw[S5])|wp_step)
 refine L1.at ?_;refine Vh (P3 (L2.at ?_));refine P3 (Vj (hq _ (h.objs.size+1) #[kp,Heap.get?_none_of_le (Iz _),h.objs.size,he,Heap.get?_none_of_le (Hw _),Heap.get?_push_of_some _ (Heap.get?_push_at rfl rfl)]) (λr s' hr=>?_) λ_ _ x=>x);let#[rfl,hQ]:=hr;refine SZ ?_;exact SZ hQ
def zm{Q:Os->SB->Prop}(X:K.In h)(T:OwnTail h veLine bm)(hC:h.get? C=be (Vq nm q C N bs bm hdct sn sub ab col dd k0 k1 k2 k3 k5 "ValueError.__new__"))
  (hi:findIn K (.ref C) "__init__"=be (be (.ref fI))) (hf:typeIn K (.ref fI)=be (.type "function"))
  (hq:∀h' e,Heap.MadeExcOf h h' e (.ref C) rest->U8 (U4 prog w) (A.under (.builtin "type.__call__" #[.ref C::rest,[]])) (call (.ref fI) (.ref e::rest)) (λr s'=>r=.none/\Q (.ref e) s') E #[h',g,d,t,os]) (hl:rest.length<=sizeLine):
  U8 (U4 prog w) A (call (.ref C) rest) Q E #[h,g,d,t,os]:=by
 have f1:=tc_lookup;have f2:=tc_bind (.ref C);have hT:(#[h,g,d,t,os]:SB).TypeIs (.ref C) "type":=#[_,hC,rfl];refine Vs (codeAny_of_tree ?_);show U8 _ _ (callAny (.ref C) _) _ _ _
 repeat(any_goals (first|(with_reducible refine Vm hC ?_)|assumption|wp_step))
 exact#[rfl,codeAny_call_builtin_at (Code.quiet_builtin _ KK) entry_typeCall (wpAny_check_type_call_sub hC (zl X T hC hi hf (λh' e hm=>hq h' e hm) hl))]
end
section
variable {prog:U5}{w:U'}{A:U_}{E:Os->SB->Prop}{s:SB}{env:VP}
variable {nm q:Lq}{C N:Pi}{bs bm:List Os}{hdct:Bool}{sn:List Lq}{sub:List Os}{ab:Bool}{col:Option Bool}{dd:Option Pi}{k0 k1 k2 k3 k5:Option Os}{newId:String}
variable{Q:Flow->SB->Prop}
def zn{x:WB Os}(b_:bm.contains (.type "BaseException")=true)(hh:A.handled=w6)
  (h:U8 (U4 prog w) A x (λv s₁=>∃e t od sl,v=.ref e/\s₁.heap.get? C=be (Vq nm q C N bs bm hdct sn sub ab col dd k0 k1 k2 k3 k5 newId)/\
   s₁.heap.get? e=be #[.ref C,od,.fields [.ref t,.none,.none,.none,.bool false,.none].toArray,sl]/\E (.ref e) s₁) E s):
  U8 (U4 prog w) A (raiseStmt env (be x) w6) Q E s:=by
 have Pj:(Value.ref C::bm).contains (.type "BaseException")=true:=by rw[JS,b_,Jz]
 unfold raiseStmt;refine P3 (Vj h (λv s₁ h₁=>?_) λ_ _ x=>x);let#[e,t,od,sl,rfl,hC,he,hE]:=h₁;let#[hp,g,d,tk,os]:=s₁
 repeat(first|(with_reducible refine Vm he ?_)|(with_reducible refine Vm hC ?_)|(with_reducible refine VN hC ?_;rw[Pj])|wp_step)
 exact wpAny_raiseNew_none hh hE
def jY{x:U7}{pos:Vf}(b_:bm.contains (.type "BaseException")=true)(hh:A.handled=w6)
  (h:U8 (U4 prog w) A (Vc x env) (λv s₁=>∃e t od sl,v=.ref e/\s₁.heap.get? C=be (Vq nm q C N bs bm hdct sn sub ab col dd k0 k1 k2 k3 k5 newId)/\
   s₁.heap.get? e=be #[.ref C,od,.fields [.ref t,.none,.none,.none,.bool false,.none].toArray,sl]/\E (.ref e) s₁) E s):
  U8 (U4 prog w) A (exec (.Raise (be x) w6 pos) env) Q E s:=by
 rw[arm_exec_Raise];show U8 (U4 prog w) A (do VO pos;raiseStmt env (be (do let v <-Vc x env;VO pos;pure v)) w6) Q E s;exact P3 (Vz (zn b_ hh (P3 (Vj h (λv s₁ h₁=>P3 (Vz (SZ h₁))) λ_ _ x=>x))))
end
def ExAt(h:Heap)(e C:Pi)(od:Option Pi)(T:Pi)(fl:Os):Prop:=
 ∃sl vs oT ts,h.get? e=be #[.ref C,od,.fields vs,sl]/\vs[1]?=be (.ref T)/\T≠e/\h.get? T=be oT/\oT.data=.fields ts/\ts[3]?=be fl
structure Stay(fs ex:List Pi)(h h':Heap):Prop where
 keep:∀b o,h.get? b=be o->b∉ex->b∉fs->h'.get? b=be o
 slot:∀b o,h.get? b=be o->b∉ex->∃sl,h'.get? b=be {o with slots:=sl}
 there:∀b o,h.get? b=be o->∃o',h'.get? b=be o'
variable{fs ex:List Pi}{h:Heap}
def Stay.refl:Stay fs ex h h:=#[λ_ _ e _ _=>e,λ_ o e _=>#[o.slots,e],λ_ o e=>#[o,e]]
section
variable {M:WI}{A:U_}{E:Os->SB->Prop}{s:SB}{env:VP}{outer:List VP}{base:Heap}{L e C T:Pi}{od:Option Pi}
variable{Q:Unit->SB->Prop}
def qY{sl:Array (Option Os)}{vs:Array Os}(n6:A.frames=be (env::outer))(hl:s.heap.FunFrames base (env::outer))(hf:env.frame=be L)
  (he:s.heap.get? e=be #[.ref C,od,.fields vs,sl]) (h1:vs[1]?=be .none)
  (h:∀h' T,ExAt h' e C od T (V3 L)->s.heap.objs.size<=T->Stay (frs (env::outer)) [e] s.heap h'->Q () {s with heap:=h'}):U8 M A (VW (.ref e) env) Q E s:=by
 have m6:1<vs.size:=(JB.mp h1).1;have Mj:e∉(env::outer).filterMap (·.frame):=λhm=>by
  let#[_,o,ho,hnf]:=hl.mem hm;rw[he]at ho;injection ho with ho;subst ho;exact hnf vs rfl
 unfold VW;simp only[hf];refine P3 (VF he rfl h1 ?_);rw[if_neg Mh];refine P3 (WU n6 hl hf λh₁ hs₁=>P3 (WN λpl c_=>?_));unfold EntryCells.newEntry newFields;refine P3 (Vi ?_ (c_.sizeOk5 _ _ _ _ _));have he₁:h₁.get? e=be #[.ref C,od,.fields vs,sl]:=(hs₁.2.1 e Mj).trans he;have fresh:h₁.get? h₁.objs.size=none:=Heap.get?_none_of_le (Hw _);generalize Nu:({cls:=.type "traceback",dict:=w6,data:=.fields ([Value.none,.ref L,.none,V3 L,.none]++(if pl.isEmpty then IB 6 Value.none else pl)).toArray}:Vk)=oT;have he₂:=Heap.get?_push_of_some (h:=h₁) oT he₁;have u_:h₁.objs.size≠e:=Ix (Heap.lt_size he₁);refine V1 he₂ rfl m6 (h _ h₁.objs.size ?_ ?_ ?_)
 .refine#[sl,vs.setIfInBounds 1 (.ref h₁.objs.size),oT,([Value.none,.ref L,.none,V3 L,.none]++(if pl.isEmpty then IB 6 Value.none else pl)).toArray,?_,by simp[m6],u_,?_,by rw[<-Nu],Mn]
  .rw[Heap.get?_update_self _ he₂ rfl];rfl
  .rw[Heap.get?_update_other _ _ (Ne.symm u_)];exact Heap.get?_push_size h₁ (by rw[<-Nu];rfl)
 .exact Jv hs₁.1.symm
 .have kp:∀b o,b≠e->h₁.get? b=be o->((h₁.push oT).update e (Obj.mapFields (·.setIfInBounds 1 (Value.ref h₁.objs.size)))).get? b=be o:=λb o hb z=>by
   rw[Heap.get?_update_other _ _ (Ne.symm hb)];exact Heap.get?_push_of_some _ z
  refine#[λb o q n m=>kp b o (λz=>n (by simp[z])) ((hs₁.2.1 b m).trans q),λb o q n=>?_,λb o q=>?_]
  .obtain⟨n9,z⟩:=hs₁.2.2 b o q;exact#[n9,kp b _ (λz=>n (by simp[z])) z]
  .by_cases hb:b=e
   .subst hb;exact#[_,Heap.get?_update_self _ he₂ rfl]
   .obtain⟨n9,z⟩:=hs₁.2.2 b o q;exact#[_,kp b _ hb z]
def qZ{fl:Os}(n6:A.frames=be (env::outer))(hl:s.heap.FunFrames base (env::outer))(hf:env.frame=be L)(hx:ExAt s.heap e C od T fl)
  (h:∀h' T',ExAt h' e C od T' (V3 L)->T'=T\/s.heap.objs.size<=T'->Stay (frs (env::outer)) [T,e] s.heap h'->Q () {s with heap:=h'}):U8 M A (VW (.ref e) env) Q E s:=by
 let#[sl,vs,oT,ts,he,h1,u_,hT,m8,h3]:=hx;have m6:1<vs.size:=(JB.mp h1).1;have Oy:3<ts.size:=(JB.mp h3).1;have Mj:e∉(env::outer).filterMap (·.frame):=λhm=>by
  let#[_,o,ho,hnf]:=hl.mem hm;rw[he]at ho;injection ho with ho;subst ho;exact hnf vs rfl
 unfold VW;simp only[hf];refine P3 (VF he rfl h1 ?_);rw[if_pos (show(Value.ref T !=Value.none)=true from Mn)];refine P3 (VF hT m8 h3 ?_);by_cases hq:(fl==V3 L)=true
 .rw[if_pos hq];exact SZ (h s.heap T #[sl,vs,oT,ts,he,h1,u_,hT,m8,by rw[<-eq_of_beq hq];exact h3] (.inl rfl) Stay.refl)
 rw[if_neg hq];refine P3 (V1 hT m8 Oy ?_);have other:∀b,b≠T->(s.heap.update T (Obj.mapFields (·.setIfInBounds 3 Value.none))).get? b=s.heap.get? b:=λb hb=>Heap.get?_update_other _ _ (Ne.symm hb);have nT:∀b o,s.heap.get? b=be o->(∀vs,o.data≠.fields vs)->b≠T:=λb o hb hnf q=>by
  rw[q,hT]at hb;injection hb with hb;subst hb;exact hnf ts m8
 have Pk:(s.heap.update T (Obj.mapFields (·.setIfInBounds 3 Value.none))).FunFrames base (env::outer):=hl.of_keeps λb o hb hnf=>#[o,(other b (nT b o hb hnf)).trans hb,rfl];have S6:∃o',(s.heap.update T (Obj.mapFields (·.setIfInBounds 3 Value.none))).get? T=be o':=#[_,Heap.get?_update_self _ hT (Obj.isFreed_of_fields (Obj.data_mapFields m8 _))];refine P3 (WU n6 Pk hf λh₁ hs₁=>P3 (WN λpl c_=>?_));unfold EntryCells.newEntry newFields;refine P3 (Vi ?_ (c_.sizeOk5 _ _ _ _ _));have he₁:h₁.get? e=be #[.ref C,od,.fields vs,sl]:=(hs₁.2.1 e Mj).trans ((other e (Ne.symm u_)).trans he);have fresh:h₁.get? h₁.objs.size=none:=Heap.get?_none_of_le (Hw _);generalize Nu:({cls:=.type "traceback",dict:=w6,data:=.fields ([Value.ref T,.ref L,.none,V3 L,.none]++(if pl.isEmpty then IB 6 Value.none else pl)).toArray}:Vk)=Pl;have he₂:=Heap.get?_push_of_some (h:=h₁) Pl he₁;have Nv:h₁.objs.size≠e:=Ix (Heap.lt_size he₁);refine V1 he₂ rfl m6 (h _ h₁.objs.size ?_ (.inr ?_) ?_)
 .refine#[sl,vs.setIfInBounds 1 (.ref h₁.objs.size),Pl,([Value.ref T,.ref L,.none,V3 L,.none]++(if pl.isEmpty then IB 6 Value.none else pl)).toArray,?_,by simp[m6],Nv,?_,by rw[<-Nu],Mn]
  .rw[Heap.get?_update_self _ he₂ rfl];rfl
  .rw[Heap.get?_update_other _ _ (Ne.symm Nv)];exact Heap.get?_push_size h₁ (by rw[<-Nu];rfl)
 .exact Jv (hs₁.1.trans (Heap.size_after_update _ _ _)).symm
 .have kp:∀b o,b≠e->h₁.get? b=be o->((h₁.push Pl).update e (Obj.mapFields (·.setIfInBounds 1 (Value.ref h₁.objs.size)))).get? b=be o:=λb o hb z=>by
   rw[Heap.get?_update_other _ _ (Ne.symm hb)];exact Heap.get?_push_of_some _ z
  refine#[λb o q n m=>kp b o (λz=>n (by simp[z])) ((hs₁.2.1 b m).trans ((other b (λz=>n (by simp[z]))).trans q)),λb o q n=>?_,λb o q=>?_]
  .obtain⟨n9,z⟩:=hs₁.2.2 b o ((other b (λz=>n (by simp[z]))).trans q);exact#[n9,kp b _ (λz=>n (by simp[z])) z]
  .by_cases hb:b=e
   .subst hb;exact#[_,Heap.get?_update_self _ he₂ rfl]
   .have:∃o',(s.heap.update T (Obj.mapFields (·.setIfInBounds 3 Value.none))).get? b=be o':=by
     by_cases hb:b=T
     .rw[hb];exact S6
     .exact#[o,(other _ hb).trans q]
    let#[o',q']:=this;let#[n9,z]:=hs₁.2.2 b o' q';exact#[_,kp b _ hb z]
def fW{fl:Os}(hx:ExAt s.heap e C od T fl)(h:∀h',ExAt h' e C od T .none->Stay [] [T] s.heap h'->Q () {s with heap:=h'}):U8 M A (Wb (.ref e) w6) Q E s:=by
 let#[sl,vs,oT,ts,he,h1,u_,hT,m8,h3]:=hx;have Oy:3<ts.size:=(JB.mp h3).1;unfold Wb;refine P3 (VF he rfl h1 ?_);rw[if_pos (show(Value.ref T !=Value.none)=true from Mn)];refine V1 hT m8 Oy (h _ ?_ ?_)
 .exact#[sl,vs,_,_,(Heap.get?_update_other _ _ u_).trans he,h1,u_,Heap.get?_update_self _ hT (Obj.isFreed_of_fields (Obj.data_mapFields m8 _)),Obj.data_mapFields m8 _,by simp[Oy]]
 .have other:∀b o,b∉[T]->s.heap.get? b=be o->(s.heap.update T (Obj.mapFields (·.setIfInBounds 3 ((w6:Option Pi).elim Value.none λf=>V3 f)))).get? b=be o:=λb o hb q=>(Heap.get?_update_other _ _ (λz=>hb (by simp[z]))).trans q;refine#[λb o q n _=>other b o n q,λb o q n=>#[o.slots,other b o n q],λb o q=>?_];by_cases hb:b=T
  .subst hb;exact#[_,Heap.get?_update_self _ hT (Obj.isFreed_of_fields (Obj.data_mapFields m8 _))]
  .exact#[o,other b o (by simp[hb]) q]
end
def CX1(P:U5)(w:U'):CXT:=λouter H s E ev s'=>∃e C od T H',ev=.ref e/\s'.os=s.os/\VU s'.gens/\Un (frs outer) [] H H' s.heap s'.heap/\HOk P w H' s'.heap/\ExAt s'.heap e C od T .none/\s.heap.get? e=w6/\s.heap.get? T=w6/\H' e=w6/\H' T=w6/\E (.ref C) od H'
def fX{P:U5}{w:U'}{H:Hp}{h':Heap}(x:HOk P w H h)(st:Stay fs ex h h')(hf:∀b∈fs,H b=w6)(he:∀b∈ex,H b=w6):HOk P w H h':=λa o q=>
 (x a o q).stay (λb u hb r=>by
  have hn:H b≠none:=by
   rcases hb with rfl|hb
   .rw[q];exact λz=>nomatch z
   .rw[hb];exact λz=>nomatch z
  exact st.keep b u r (λz=>hn (he b z)) (λz=>hn (hf b z))) (λ_ q=>q) λ_ _ q=>q
def hZ{n5:List Pi}{H H':Hp}{h1 h2:Heap}(u:Un fs [] H H' h h1)(st:Stay n5 ex h1 h2)(f9:∀b∈ex,h.get? b=w6)(Oz:∀b∈n5,b∈fs\/h.get? b=w6):Un fs [] H H' h h2 where
 keep:=λb o q n hb hx=>st.keep b o (u.keep b o q n hb hx) (λz=>by rw[f9 b z]at q;cases q) (λz=>(Oz b z).elim hb λy=>by rw[y]at q;cases q)
 slot:=λb o q n hb hx=>by
  let#[sl,e1]:=u.slot b o q n hb hx;let#[n9,e2]:=st.slot b _ e1 (λz=>by rw[f9 b z]at q;cases q);exact#[n9,e2]
 free:=u.free
 there:=λb o q hx=>by
  let#[o1,e1]:=u.there b o q hx;exact st.there b o1 e1
 tups:=u.tups
 frzs:=u.frzs
 tbls:=u.tbls
section
variable {P:U5}{w:U'}{K:Ex}{mg:Lq->Option Os}{base:Heap}{N:List Lq}{qual:Lq}{scope:Vy}{f:Pi}{cd:Os}{A:U_}{outer:List VP}{s:SB}{H:Hp}{E E':XK}
def ra{b:Pi}(hb:b∈frs (Vg qual scope s.heap.objs.size f cd::outer)):b∈frs outer\/s.heap.get? b=none:=by
 unfold frs at hb;rw[Jr]at hb;rcases Hx.mp (show b∈s.heap.objs.size::outer.filterMap (·.frame)from hb)with e|e
 .rw[e];exact .inr (Heap.get?_none_of_le (Hw _))
 .exact .inl e
def jZ{pins:List (Pi×Vk)}{σ:L2.St}{H1:Hp}{s1:SB}{e C:Pi}{od:Option Pi}{sl:Array (Option Os)}{vs:Array Os}(I:Inv (cxOf (CX1 P w) P w K mg base N qual scope f cd A outer s H E') pins σ H1 s1)
  (he:s1.heap.get? e=be #[.ref C,od,.fields vs,sl]) (h1:vs[1]?=be .none) (He:H1 e=w6) (ne:s.heap.get? e=w6) (hE:E' (.ref C) od H1):(cxOf (CX1 P w) P w K mg base N qual scope f cd A outer s H E').xe (.ref e) s1:=by
 show U8 _ _ (Wx _ _) _ _ _;unfold Wx;refine P3 (qY I.ok.frames I.stack rfl he h1 λh2 T2 p9 Lg u8=>fW (s:={s1 with heap:=h2}) p9 λh3 Nw Le=>?_);have MI:s1.heap.get? T2=none:=Heap.get?_none_of_le Lg;have f1:∀b,s1.heap.get? b=w6->s.heap.get? b=none:=λb q=>by
  cases z:s.heap.get? b with
  |none=>rfl
  |some o=>
   let#[o',z']:=I.base.there b o z (by exact λy=>absurd (show b∈([]:List Pi)from y) Mn);rw[q]at z';cases z'
 have hok:HOk P w H1 s1.heap:=I.hok;have Ny:H1 T2=none:=hok.fresh Lg;have u2:Un (frs outer) [] H H1 s.heap h2:=hZ (show Un (frs outer) [] H H1 s.heap s1.heap from I.base) u8 (λb hb=>by rw[Hv.mp hb];exact ne) λb hb=>ra hb;have u3:Un (frs outer) [] H H1 s.heap h3:=hZ u2 Le (λb hb=>by rw[Hv.mp hb];exact f1 T2 MI) λb hb=>by cases hb
 have k2:=fX hok u8 (λb hb=>I.stkFree b hb) (λb hb=>by rw[Hv.mp hb];exact He);have k3:=fX k2 Le (λb hb=>by cases hb) (λb hb=>by rw[Hv.mp hb];exact Ny);exact#[e,C,od,T2,H1,rfl,I.os,I.bare,u3,k3,Nw,ne,f1 T2 MI,He,Ny,hE]
end
end Exc
namespace L2
def Same.tup{K:Ex}{H H':Hp}{a:Pi}{xs:List V}(e:Same H H')(h:SqT K H a xs):SqT K H' a xs:=by
 rcases h with(h|⟨o,h⟩)|h
 .exact .inl (.inl (e _ _ h))
 .exact .inl (.inr #[o,e _ _ h])
 .exact .inr h
end L2
namespace My
def le_b{a b:Nat}(h:Nat.ble a b=true):a<=b:=JT h
def fY{X:Cx}:fV (Exc.CX1 X.prog X.w) X E0:=λ_ _ _ _ _ _ _ h=>by
 let#[e,C,od,T,H',_,_,_,_,_,_,_,_,_,_,h]:=h;exact h.elim
def Fun.okC{P:U5}{w:U'}{K:Ex}{mg:Lq->Option Os}{base:Heap}{CX:CXT}{x qual:Lq}{st:U6}{f:Pi}{fd:Vd}{N ps:List Lq}{k:Nat}{sp:Sp}{dV:Os}(F:FunG K dV x qual st f fd)(S:FnScope N ps (ag st))(len:∀vs H Q E,sp vs H Q E->vs.length=ps.length)
  (a9:∀(cdv:Os) (A:U_) (outer:List VP) (s:SB) (H:Hp) (vs:List V) (Q:VK) (E:XK),Room k (A.deeper (Vg qual (ag st) s.heap.objs.size f cdv))->sp vs H Q E->
   ∃t,PSs (cxOf CX P w K mg base N qual (ag st) f cdv A outer s H E) (aJ st) t/\t {nx:=λ_ H'=>Q .non H',rt:=Q} (start N vs) H):FnOk P w K mg base CX (k+1) f fd ps sp:=by
 let#[oc,od,kV,doc,pm,an,cdv,ct,osl,rfl,lk,h_]:=F.ex;refine yF lk h_ S len λA outer s H vs Q E hr z8=>?_;exact a9 cdv A outer s H vs Q E hr z8
def Cal(P:U5)(w:U')(K:Ex)(mg:Lq->Option Os)(base:Heap)(n:Nat)(x:Lq)(ps:List Lq)(sp:Sp):Prop:=
 ∃f fd,FnOk P w K mg base (Exc.CX1 P w) n f fd ps sp/\Binds K fd ps []/\keepIn K (.ref f)=true/\mg x=be (.ref f)
def Tx(K:Ex)(mg:Lq->Option Os)(x:Lq)(st:U6)(ps:List Lq):Prop:=
 ∃f fd,Fun K x x st f fd/\Binds K fd ps []/\mg x=be (.ref f)
section
variable {X:Cx}{n m:Nat}{ps:List Lq}{sp:Sp}{x:Lq}{p pos:Vf}{e:U7}{es:List U7}{t:TA}
def zo(C:Cal X.prog X.w X.K X.mg X.base n x ps sp)(hr:Room m X.A)(ha:PA X (e::es) t)(hg:Gl X x\zA0)(hn:(n<=m)\zA1)(d6:zND x\zA1)
  (he:zSE X e es\zA0) (c_:zPL X pos es\zA0):
  PE X (.Call (.Name x p) (e::es) [] pos) (qJ sp [] E0 t):=by
 let#[f,fd,F,hb,hk,hm]:=C;exact yz F (hr.mono hn) hg hm hk hb .nil fY ha d6 he c_
end
def aR{H:Hp}{p:Pi}(h:H p=w6)(o:HO):Same H (upd H p o):=λb u q=>by rw[ar (bH q h)];exact q
def sz{n:Nat}(h:n<=1000):n<=sizeLine:=Jq (zh h)
end My
namespace L2
section
variable {X:Cx}
variable{e:U7}
def PE.anti{t t':TE}(h:PE X e t)(a:∀s H Q,t' s H Q->t s H Q):PE X e t':=λpins s σ H Q I q=>h pins s σ H Q I (a _ _ _ q)
def PT.anti{t t':TT}(h:PT X e t)(a:∀s H Q,t' s H Q->t s H Q):PT X e t':=λpins s σ H Q I q=>h pins s σ H Q I (a _ _ _ q)
def PW.anti{t t':TT}(h:PW X e t)(a:∀s H Q,t' s H Q->t s H Q):PW X e t':=λwh pins s σ H Q I q=>h wh pins s σ H Q I (a _ _ _ q)
def PA.anti{e:List U7}{t t':TA}(h:PA X e t)(a:∀s H Q,t' s H Q->t s H Q):PA X e t':=λp pins s σ H Q I q=>h p pins s σ H Q I (a _ _ _ q)
def PS.anti{e:U6}{t t':TS}(h:PS X e t)(a:∀E s H,t' E s H->t E s H):PS X e t':=λpins s σ H Q I q=>h pins s σ H Q I (a _ _ _ q)
def PSs.anti{e:List U6}{t t':TS}(h:PSs X e t)(a:∀E s H,t' E s H->t E s H):PSs X e t':=λpins s σ H Q I q=>h pins s σ H Q I (a _ _ _ q)
end
end L2
namespace My
inductive D where
 |non|bl (b:Bool)|int (i:Int)|str (x:Str)|tup (xs:List D)|lst (xs:List D)
  |rol (xs:List D)
  |obj (x:Lq) (fs:List (Lq×D))
  |exc (x:Lq) (fs:List (Lq×D))
  |own (xs:List D)
  |ptr (a:Pi)
  |dti (a_:List ((Int×Int)×Int))
def dtiV(a_:List ((Int×Int)×Int)):List (List Key×V):=a_.map λe=>([.inl e.1.1,.inl e.1.2],.int e.2)
def XO(e C:Pi)(od:Option Pi):HO:=.ext λh=>∃vs sl,h.get? e=be #[.ref C,od,.fields vs,sl]
mutual
def Rep(K:Ex)(H:Hp):D->V->Prop
 |.non,v=>v=.non
 |.bl b,v=>v=.bl b
 |.int i,v=>v=.int i
 |.str x,v=>v=.str x
 |.tup ds,v=>∃a vs,v=.ref a/\H a=be (.tup vs)/\Reps K H ds vs
 |.lst ds,v=>∃a vs,v=.ref a/\H a=be (.lst vs)/\Reps K H ds vs
 |.rol ds,v=>∃a vs,v=.ref a/\SqL K H a vs/\Reps K H ds vs
 |.obj x fs,v=>∃a C dx vs,v=.ref a/\nsIn K SL x=be (be (.ref C))/\H a=be (.ins C dx vs)/\RepF K H fs vs
 |.exc x fs,v=>∃a C od vs,v=.ref a/\nsIn K SL x=be (be (.ref C))/\H a=be (XO a C od)/\RepF K H fs vs/\((od=w6/\vs=[])\/∃b,od=be b/\H b=be (.xd vs))
 |.own _,_=>False
 |.ptr a,v=>v=.ref a
 |.dti a_,v=>∃a,v=.ref a/\H a=be (.dT (dtiV a_))
def RepF(K:Ex)(H:Hp):List (Lq×D)->List (Lq×V)->Prop
 |[],vs=>vs=[]
 |(f,d)::ds,vs=>∃v r,vs=(f,v)::r/\Rep K H d v/\RepF K H ds r
def Reps(K:Ex)(H:Hp):List D->List V->Prop
 |[],vs=>vs=[]
 |d::ds,vs=>∃v r,vs=v::r/\Rep K H d v/\Reps K H ds r
end
mutual
def Rep.mono{K:Ex}{H H':Hp}(g:Same H H'):∀(d:D) (v:V),Rep K H d v->Rep K H' d v
 |.non,v,h=>by unfold Rep at h ⊢;exact h
 |.bl b,v,h=>by unfold Rep at h ⊢;exact h
 |.int b,v,h=>by unfold Rep at h ⊢;exact h
 |.str b,v,h=>by unfold Rep at h ⊢;exact h
 |.tup ds,v,h=>by
  unfold Rep at h ⊢;let#[a,vs,e,q,r]:=h;exact#[a,vs,e,g _ _ q,Reps.mono g ds vs r]
 |.lst ds,v,h=>by
  unfold Rep at h ⊢;let#[a,vs,e,q,r]:=h;exact#[a,vs,e,g _ _ q,Reps.mono g ds vs r]
 |.rol ds,v,h=>by
  unfold Rep at h ⊢;let#[a,vs,e,q,r]:=h;exact#[a,vs,e,g.seq q,Reps.mono g ds vs r]
 |.obj C fs,v,h=>by
  unfold Rep at h ⊢;let#[a,C,dx,vs,e,n,q,r]:=h;exact#[a,C,dx,vs,e,n,g _ _ q,RepF.mono g fs vs r]
 |.exc C fs,v,h=>by
  unfold Rep at h ⊢;let#[a,C,od,vs,e,n,q,r,d]:=h;exact#[a,C,od,vs,e,n,g _ _ q,RepF.mono g fs vs r,d.imp id λ⟨b,h1,h2⟩=>#[b,h1,g _ _ h2]]
 |.own ds,v,h=>by
  unfold Rep at h ⊢;exact h
 |.ptr a,v,h=>by unfold Rep at h ⊢;exact h
 |.dti a_,v,h=>by
  unfold Rep at h ⊢;let#[a,e,q]:=h;exact#[a,e,g _ _ q]
def RepF.mono{K:Ex}{H H':Hp}(g:Same H H'):∀(ds:List (Lq×D)) (vs:List (Lq×V)),RepF K H ds vs->RepF K H' ds vs
 |[],vs,h=>by unfold RepF at h ⊢;exact h
 |(f,d)::ds,vs,h=>by
  unfold RepF at h ⊢;let#[v,r,e,q1,q2]:=h;exact#[v,r,e,Rep.mono g d v q1,RepF.mono g ds r q2]
def Reps.mono{K:Ex}{H H':Hp}(g:Same H H'):∀(ds:List D) (vs:List V),Reps K H ds vs->Reps K H' ds vs
 |[],vs,h=>by unfold Reps at h ⊢;exact h
 |d::ds,vs,h=>by
  unfold Reps at h ⊢;let#[v,r,e,q1,q2]:=h;exact#[v,r,e,Rep.mono g d v q1,Reps.mono g ds r q2]
end
section
variable {K:Ex}{H:Hp}
variable{v:V}
def rep_non:Rep K H .non v↔v=.non:=by unfold Rep;exact Iff.rfl
def rep_bl{b:Bool}:Rep K H (.bl b) v↔v=.bl b:=by unfold Rep;exact Iff.rfl
def rep_int{i:Int}:Rep K H (.int i) v↔v=.int i:=by unfold Rep;exact Iff.rfl
variable{x:Lq}
def rep_str:Rep K H (.str x) v↔v=.str x:=by unfold Rep;exact Iff.rfl
variable{ds:List My.D}
def rep_tupS:Rep K H (.tup ds) v↔∃a vs,v=.ref a/\H a=be (.tup vs)/\Reps K H ds vs:=by
 constructor
 .intro h;unfold Rep at h;exact h
 .intro h;unfold Rep;exact h
def rep_tup_mp(h:Rep K H (.tup ds) v):∃a vs,v=.ref a/\SqT K H a vs/\Reps K H ds vs:=by
 let#[a,vs,e,q,r]:=rep_tupS.mp h;exact#[a,vs,e,SqT.of q,r]
def rep_ptr{a:Pi}:Rep K H (.ptr a) v↔v=.ref a:=by unfold Rep;exact Iff.rfl
def rep_dti{a_:List ((Int×Int)×Int)}:Rep K H (.dti a_) v↔∃a,v=.ref a/\H a=be (.dT (dtiV a_)):=by
 constructor
 .intro h;unfold Rep at h;exact h
 .intro h;unfold Rep;exact h
def rep_lst:Rep K H (.lst ds) v↔∃a vs,v=.ref a/\H a=be (.lst vs)/\Reps K H ds vs:=by
 constructor
 .intro h;unfold Rep at h;exact h
 .intro h;unfold Rep;exact h
def rep_rol:Rep K H (.rol ds) v↔∃a vs,v=.ref a/\SqL K H a vs/\Reps K H ds vs:=by
 constructor
 .intro h;unfold Rep at h;exact h
 .intro h;unfold Rep;exact h
variable{fs:List (Lq×My.D)}
def rep_obj:Rep K H (.obj x fs) v↔∃a C dx vs,v=.ref a/\nsIn K SL x=be (be (.ref C))/\H a=be (.ins C dx vs)/\RepF K H fs vs:=by
 constructor
 .intro h;unfold Rep at h;exact h
 .intro h;unfold Rep;exact h
def rep_exc:Rep K H (.exc x fs) v↔∃a C od vs,v=.ref a/\nsIn K SL x=be (be (.ref C))/\H a=be (XO a C od)/\RepF K H fs vs/\((od=w6/\vs=[])\/∃b,od=be b/\H b=be (.xd vs)):=by
 constructor
 .intro h;unfold Rep at h;exact h
 .intro h;unfold Rep;exact h
def rep_own:¬Rep K H (.own ds) v:=by intro h;unfold Rep at h;exact h
variable{vs:List (Lq×V)}
def repf_nil:RepF K H [] vs↔vs=[]:=by unfold RepF;exact Iff.rfl
def repf_cons{f:Lq}{d:D}{ds:List (Lq×D)}:RepF K H ((f,d)::ds) vs↔∃v r,vs=(f,v)::r/\Rep K H d v/\RepF K H ds r:=by
 constructor
 .intro h;unfold RepF at h;exact h
 .intro h;unfold RepF;exact h
def RepF.look{f:Lq}{d:D}:∀{fs:List (Lq×D)} {vs:List (Lq×V)},RepF K H fs vs->fs.lookup f=be d->∃v,vs.lookup f=be v/\Rep K H d v
 |[],_,_,e=>by cases e
 |(g,x)::fs,vs,h,e=>by
  let#[v,r,rfl,h1,h2]:=repf_cons.mp h;rw[HM]at e ⊢;split at e
  .cases e;exact#[v,rfl,h1]
  .exact RepF.look h2 e
def RepF.none{f:Lq}:∀{fs:List (Lq×D)} {vs:List (Lq×V)},RepF K H fs vs->fs.lookup f=Option.none->vs.lookup f=Option.none
 |[],vs,h,_=>by rw[repf_nil.mp h];rfl
 |(g,x)::fs,vs,h,e=>by
  let#[v,r,rfl,h1,h2]:=repf_cons.mp h;rw[HM]at e ⊢;split at e
  .cases e
  .exact RepF.none h2 e
def reps_nil{vs:List V}:Reps K H [] vs↔vs=[]:=by unfold Reps;exact Iff.rfl
def reps_cons{d:D}{vs:List V}:Reps K H (d::ds) vs↔∃v r,vs=v::r/\Rep K H d v/\Reps K H ds r:=by
 constructor
 .intro h;unfold Reps at h;exact h
 .intro h;unfold Reps;exact h
def Reps.length:∀{ds:List D} {vs:List V},Reps K H ds vs->vs.length=ds.length
 |[],vs,h=>by rw[reps_nil.mp h];rfl
 |d::ds,vs,h=>by
  let#[v,r,rfl,_,h2]:=reps_cons.mp h;rw[HA,HA,Reps.length h2]
def Reps.get:∀{ds:List D} {vs:List V} {i:Nat} {d:D},Reps K H ds vs->ds[i]?=be d->∃v,vs[i]?=be v/\Rep K H d v
 |[],_,_,_,_,e=>by simp at e
 |x::ds,vs,0,d,h,e=>by
  let#[v,r,rfl,h1,_]:=reps_cons.mp h;simp at e;subst e;exact#[v,rfl,h1]
 |x::ds,vs,i+1,d,h,e=>by
  let#[v,r,rfl,_,h2]:=reps_cons.mp h;let#[u,q1,q2]:=Reps.get (i:=i) h2 (by simpa using e);exact#[u,by simpa using q1,q2]
def Reps.ints:∀{ns:List Int} {vs:List V},Reps K H (ns.map D.int) vs↔vs=ns.map V.int
 |[],vs=>reps_nil
 |n::ns,vs=>by
  rw[HR,reps_cons,HR];constructor
  .rintro⟨v,r,rfl,h1,h2⟩;rw[rep_int.mp h1,Reps.ints.mp h2]
  .rintro rfl;exact#[_,_,rfl,rep_int.mpr rfl,Reps.ints.mpr rfl]
end
abbrev SD:=List (Option D)
def ia:D->Bool|.own _=>true|_=>false
structure RepS(K:Ex)(B F H:Hp)(t:SD)(s:L2.St):Prop where
 len:s.length=t.length
 val:∀(i:Nat) d,t[i]?=be (be d)->ia d=false->∃v,s[i]?=be (be v)/\Rep K F d v
 own:∀(i:Nat) ds,t[i]?=be (be (.own ds))->∃a vs,s[i]?=be (be (.ref a))/\H a=be (.lst vs)/\B a=w6/\F a=w6/\Reps K F ds vs
 apart:∀(i j:Nat) di dj a,t[i]?=be (be (.own di))->t[j]?=be (be (.own dj))->s[i]?=be (be (.ref a))->s[j]?=be (be (.ref a))->i=j
structure Grow(F H F' H':Hp):Prop where
 ff:Same F F'
 fh:Same F' H'
 hh:Same H H'
 out:∀b,F b=w6->H b≠w6->F' b=w6
variable{F H:Hp}
def Grow.refl(h:Same F H):Grow F H F H:=#[Same.refl F,h,Same.refl H,λ_ h _=>h]
def Grow.trans{F1 H1 F2 H2:Hp}(g:Grow F H F1 H1)(k:Grow F1 H1 F2 H2):Grow F H F2 H2:=
 ⟨g.ff.trans k.ff,k.fh,g.hh.trans k.hh,λb h1 h2=>k.out b (g.out b h1 h2) (by
  cases e:H b with
  |none=>exact absurd e h2
  |some o=>rw[g.hh b o e];exact λz=>nomatch z)⟩
def Grow.new{p:Pi}(h:Same F H)(hp:H p=w6)(o:HO):Grow F H (upd F p o) (upd H p o):=by
 have fp:F p=none:=h.free hp;refine#[aR fp o,λb u e=>?_,aR hp o,λb h1 h2=>?_]
 .by_cases hb:b=p
  .subst hb;rw[aC]at e ⊢;exact e
  .rw[ar hb]at e ⊢;exact h b u e
 .by_cases hb:b=p
  .subst hb;exact absurd hp h2
  .rw[ar hb];exact h1
class Jx where
 B:Hp
 F0:Hp
 RX:SD->Lq->List (Lq×D)->Prop
structure Kept[J:Jx](B F0 F H:Hp):Prop where
 bh:Same B H
 fh:Same F H
 f0:Same F0 F
 out:∀b,F0 b=w6->B b≠w6->F b=w6
 eb:B=J.B
 jf:Same J.F0 F0
 jo:∀b,J.F0 b=w6->B b≠w6->F0 b=w6
variable{B:Hp}
def Kept.kf[J:Jx]{F0:Hp}(k:Kept B F0 F H):Kept B J.F0 F H:=#[k.bh,k.fh,k.jf.trans k.f0,λb h1 h2=>k.out b (k.jo b h1 h2) h2,k.eb,Same.refl _,λ_ h _=>h]
def Kept.grow[Jx]{F0 F' H':Hp}(k:Kept B F0 F H)(g:Grow F H F' H'):Kept B F0 F' H':=
 ⟨k.bh.trans g.hh,g.fh,k.f0.trans g.ff,λb h1 h2=>g.out b (k.out b h1 h2) (by
  cases e:B b with
  |none=>exact absurd e h2
  |some o=>rw[k.bh b o e];exact λz=>nomatch z),k.eb,k.jf,k.jo⟩
section
variable {K:Ex}{B F H F' H':Hp}{t:SD}{s:L2.St}
def RepS.grow(g:Grow F H F' H')(h:RepS K B F H t s):RepS K B F' H' t s where
 len:=h.len
 val:=λi d e no=>let ⟨v,q1,q2⟩:=h.val i d e no;#[v,q1,q2.mono g.ff]
 own:=λi ds e=>by
  let#[a,vs,q1,q2,q3,q4,q5]:=h.own i ds e;exact#[a,vs,q1,g.hh a _ q2,q3,g.out a q4 (by rw[q2];exact λz=>nomatch z),q5.mono g.ff]
 apart:=h.apart
variable{i:Nat}
def RepS.set{d:D}{v:V}(h:RepS K B F H t s)(r:Rep K F d v):RepS K B F H (t.set i (be d)) (s.set i (be v)):=by
 have no:ia d=false:=by
  cases d with
  |own ds=>exact absurd r rep_own
  |_=>rfl
 have get:∀{j:Nat} {x:D},(t.set i (be d))[j]?=be (be x)->(j=i/\x=d/\i<t.length)\/(j≠i/\t[j]?=be (be x)):=λ{j x} e=>by
  by_cases hj:i=j
  .subst hj;rw[IN]at e;simp at e;exact .inl #[rfl,e.2.symm,e.1]
  .rw[HL hj]at e;exact .inr #[λz=>hj z.symm,e]
 refine#[by rw[IC,IC];exact h.len,λj x e nx=>?_,λj ds e=>?_,λj k dj dk a e1 e2 e3 e4=>?_]
 .rcases get e with⟨rfl,rfl,hl⟩|⟨hj,e⟩
  .exact#[v,by rw[Ij (by rw[h.len];exact hl)],r]
  .obtain⟨u,q1,q2⟩:=h.val j x e nx;exact#[u,by rw[HL (λz=>hj z.symm)];exact q1,q2]
 .rcases get e with⟨rfl,rfl,hl⟩|⟨hj,e⟩
  .cases no
  .obtain⟨a,vs,q1,q⟩:=h.own j ds e;exact#[a,vs,by rw[HL (λz=>hj z.symm)];exact q1,q]
 .rcases get e1 with⟨rfl,rfl,hl⟩|⟨hj,e1⟩
  .cases no
  .rcases get e2 with⟨rfl,rfl,hl⟩|⟨hk,e2⟩
   .cases no
   .rw[HL (λz=>hj z.symm)]at e3;rw[HL (λz=>hk z.symm)]at e4;exact h.apart j k dj dk a e1 e2 e3 e4
variable{ds:List My.D}
def RepS.setOwn{a:Pi}{vs:List V}(h:RepS K B F H t s)(hB:B a=w6)(hF:F a=w6)(r:Reps K F ds vs)
  (free:∀(j:Nat) dj,j≠i->t[j]?=be (be (.own dj))->s[j]?≠be (be (.ref a))):RepS K B F (upd H a (.lst vs)) (t.set i (be (.own ds))) (s.set i (be (.ref a))):=by
 have get:∀{j:Nat} {x:D},(t.set i (be (.own ds)))[j]?=be (be x)->(j=i/\x=.own ds/\i<t.length)\/(j≠i/\t[j]?=be (be x)):=λ{j x} e=>by
  by_cases hj:i=j
  .subst hj;rw[IN]at e;simp at e;exact .inl #[rfl,e.2.symm,e.1]
  .rw[HL hj]at e;exact .inr #[λz=>hj z.symm,e]
 refine#[by rw[IC,IC];exact h.len,λj x e nx=>?_,λj dj e=>?_,λj k dj dk b e1 e2 e3 e4=>?_]
 .rcases get e with⟨rfl,rfl,hl⟩|⟨hj,e⟩
  .cases nx
  .obtain⟨u,q1,q2⟩:=h.val j x e nx;exact#[u,by rw[HL (λz=>hj z.symm)];exact q1,q2]
 .rcases get e with⟨rfl,e,hl⟩|⟨hj,e⟩
  .cases e;exact#[a,vs,by rw[Ij (by rw[h.len];exact hl)],aC,hB,hF,r]
  .obtain⟨b,us,q1,q2,q⟩:=h.own j dj e;have ne:b≠a:=λz=>free j dj hj e (z ▸ q1);exact#[b,us,by rw[HL (λz=>hj z.symm)];exact q1,by rw[ar ne];exact q2,q]
 .rcases get e1 with⟨hj,c1,hl⟩|⟨hj,f1⟩
  .rcases get e2 with⟨hk,c2,Me⟩|⟨hk,f2⟩
   .rw[hj,hk]
   .rw[hj,Ij (by rw[h.len];exact hl)]at e3;rw[HL (λz=>hk z.symm)]at e4;cases e3;exact absurd e4 (free k dk hk f2)
  .rcases get e2 with⟨hk,c2,Me⟩|⟨hk,f2⟩
   .rw[hk,Ij (by rw[h.len];exact Me)]at e4;rw[HL (λz=>hj z.symm)]at e3;cases e4;exact absurd e3 (free j dj hj f1)
   .rw[HL (λz=>hj z.symm)]at e3;rw[HL (λz=>hk z.symm)]at e4;exact h.apart j k dj dk b f1 f2 e3 e4
def RepS.freeze[Jx]{F0:Hp}(h:RepS K B F H t s)(k:Kept B F0 F H)(e:t[i]?=be (be (.own ds))):∃F',Kept B F0 F' H/\RepS K B F' H (t.set i (be (.lst ds))) s:=by
 let#[a,vs,q1,q2,q3,q4,q5]:=h.own i ds e;have hl:i<t.length:=(HJ.mp e).1;have g:Same F (upd F a (.lst vs)):=aR q4 _;have get:∀{j:Nat} {x:D},(t.set i (be (.lst ds)))[j]?=be (be x)->(j=i/\x=.lst ds)\/(j≠i/\t[j]?=be (be x)):=λ{j x} e=>by
  by_cases hj:i=j
  .subst hj;rw[IN]at e;simp at e;exact .inl #[rfl,e.2.symm]
  .rw[HL hj]at e;exact .inr #[λz=>hj z.symm,e]
 refine#[upd F a (.lst vs),#[k.bh,λb o z=>?_,k.f0.trans g,λb h1 h2=>?_,k.eb,k.jf,k.jo],#[by rw[IC];exact h.len,λj x e' nx=>?_,λj dj e'=>?_,λj l dj dl b e1 e2 e3 e4=>?_]]
 .by_cases hb:b=a
  .subst hb;rw[aC]at z;cases z;exact q2
  .rw[ar hb]at z;exact k.fh b o z
 .by_cases hb:b=a
  .subst hb;exact absurd q3 h2
  .rw[ar hb];exact k.out b h1 h2
 .rcases get e' with⟨rfl,rfl⟩|⟨hj,e'⟩
  .exact#[.ref a,q1,rep_lst.mpr #[a,vs,rfl,aC,q5.mono g]]
  .obtain⟨u,p1,p2⟩:=h.val j x e' nx;exact#[u,p1,p2.mono g]
 .rcases get e' with⟨rfl,c⟩|⟨hj,e'⟩
  .cases c
  .obtain⟨b,us,p1,p2,p3,p4,p5⟩:=h.own j dj e';have ne:b≠a:=λz=>hj (h.apart j i dj ds a e' e (z ▸ p1) q1);exact#[b,us,p1,p2,p3,by rw[ar ne];exact p4,p5.mono g]
 .rcases get e1 with⟨rfl,c⟩|⟨hj,e1⟩
  .cases c
  .rcases get e2 with⟨rfl,c⟩|⟨hk,e2⟩
   .cases c
   .exact h.apart j l dj dl b e1 e2 e3 e4
end
def startD(N:List Lq)(ds:List D):SD:=ds.map be++IB (N.length-ds.length) w6
variable{K:Ex}
def Rep.noown{d:D}{v:V}(r:Rep K F d v):ia d=false:=by
 cases d with
 |own ds=>exact absurd r rep_own
 |_=>rfl
def dS{N:List Lq}{ds:List D}{vs:List V}(h:Reps K F ds vs):RepS K B F H (startD N ds) (L2.start N vs):=by
 have hl:=h.length;have get:∀(i:Nat) d,(startD N ds)[i]?=be (be d)->∃v,(L2.start N vs)[i]?=be (be v)/\Rep K F d v:=λi d e=>by
  unfold startD at e;unfold L2.start;by_cases hi:i<ds.length
  .rw[Ik (by simpa using hi),HI]at e;cases q:ds[i]? with
   |none=>rw[q]at e;cases e
   |some x=>
    rw[q]at e;cases e;let#[v,q1,q2]:=h.get q;exact#[v,by rw[Ik (by simpa[hl]using hi),HI,q1];rfl,q2]
  .rw[IL (by simpa using hi),JN]at e;split at e<;>cases e
 refine#[by unfold startD L2.start;simp[hl],λi d e _=>get i d e,λi d e=>?_,λi j di dj a e=>?_]
 .obtain⟨v,_,r⟩:=get i _ e;exact absurd r rep_own
 .obtain⟨v,_,r⟩:=get i _ e;exact absurd r rep_own
abbrev TD:=SD->(D->Prop)->Prop
abbrev TDT:=SD->(Bool->Prop)->Prop
abbrev TDA:=SD->(List D->Prop)->Prop
structure EndsD where
 nx:SD->Prop
 rt:D->Prop
 bk:SD->Prop:=λ_=>False
 ct:SD->Prop:=λ_=>False
abbrev TSD:=EndsD->SD->Prop
def lE(K:Ex)[J:Jx](t:TD):TE:=λs H Q=>∃B F z,Kept B J.F0 F H/\RepS K B F H z s/\∃R:D->Prop,t z R/\∀d v F' H',Grow F H F' H'->R d->Rep K F' d v->Q v H'
def lT(K:Ex)[J:Jx](t:TDT):TT:=λs H Q=>∃B F z,Kept B J.F0 F H/\RepS K B F H z s/\∃R:Bool->Prop,t z R/\∀b F' H',Grow F H F' H'->R b->Q b H'
def lA(K:Ex)[J:Jx](t:TDA):TA:=λs H Q=>∃B F z,Kept B J.F0 F H/\RepS K B F H z s/\∃R:List D->Prop,t z R/\∀ds vs F' H',Grow F H F' H'->R ds->Reps K F' ds vs->Q vs H'
structure EndsOk[Jx](K:Ex)(B F0:Hp)(ED:EndsD)(E:Ends):Prop where
 nx:∀z' s' F' H',Kept B F0 F' H'->ED.nx z'->RepS K B F' H' z' s'->E.nx s' H'
 rt:∀d v F' H',Kept B F0 F' H'->ED.rt d->Rep K F' d v->E.rt v H'
 bk:∀z' s' F' H',Kept B F0 F' H'->ED.bk z'->RepS K B F' H' z' s'->E.bk s' H'
 ct:∀z' s' F' H',Kept B F0 F' H'->ED.ct z'->RepS K B F' H' z' s'->E.ct s' H'
def lS(K:Ex)[Jx](t:TSD):TS:=λE s H=>∃B F0 F z,Kept B F0 F H/\RepS K B F H z s/\∃ED:EndsD,t ED z/\EndsOk K B F0 ED E
abbrev DE(X:Cx)[Jx](e:U7)(t:TD):Prop:=PE X e (lE X.K t)
abbrev DT(X:Cx)[Jx](e:U7)(t:TDT):Prop:=PT X e (lT X.K t)
abbrev DW(X:Cx)[Jx](e:U7)(t:TDT):Prop:=PW X e (lT X.K t)
abbrev DA(X:Cx)[Jx](es:List U7)(t:TDA):Prop:=PA X es (lA X.K t)
abbrev DS(X:Cx)[Jx](st:U6)(t:TSD):Prop:=PS X st (lS X.K t)
abbrev DSs(X:Cx)[Jx](st:List U6)(t:TSD):Prop:=PSs X st (lS X.K t)
structure WDE(X:Cx)[Jx](e:U7)(t:TD):Prop where
 out:DE X e t
structure WDT(X:Cx)[Jx](e:U7)(t:TDT):Prop where
 out:DT X e t
structure WDW(X:Cx)[Jx](e:U7)(t:TDT):Prop where
 out:DW X e t
structure WDA(X:Cx)[Jx](es:List U7)(t:TDA):Prop where
 out:DA X es t
structure WDS(X:Cx)[Jx](st:U6)(t:TSD):Prop where
 out:DS X st t
structure WDSs(X:Cx)[Jx](st:List U6)(t:TSD):Prop where
 out:DSs X st t
section
variable {X:Cx}
def okR(R:D->Prop):D->Prop|.own _=>False|d=>R d
def dVar(i:Nat):TD:=λz R=>match z[i]? with|some (be d)=>okR R d|_=>False
def dC(d:D):TD:=λ_ R=>R d
variable{x:Lq}
def aa[Jx](i:Nat){pos:Vf}(hN:(X.N[i]?=be x)\zA0)(hv:Vis X.env.scope x\zA5)(hd:zND x\zA1)
  (h_:zNC x\zA1):WDE X (.Name x pos) (dVar i):=⟨(dm hN hv hd h_).anti λs H Q h=>by
 let#[B,F,z,kf,r,R,h1,h2]:=h;have fh:=kf.fh;unfold dVar at h1;split at h1
 .rename_i d e;have no:ia d=false:=by
   cases d with
   |own ds=>exact False.elim h1
   |_=>rfl
  have S7:R d:=by
   cases d with
   |own ds=>exact False.elim h1
   |_=>exact h1
  let#[v,q1,q2]:=r.val i d e no;exact#[v,q1,h2 d v F H (Grow.refl fh) S7 q2]
 .exact h1.elim⟩
variable{e:U7}{d:My.D}
def de_c[Jx]{v:V}(h:PE X e (tC v))(r:∀H,Rep X.K H d v):DE X e (dC d):=h.anti λs H Q q=>by
 let#[B,F,z,kf,_,R,h1,h2]:=q;have fh:=kf.fh;exact h2 d v F H (Grow.refl fh) h1 (r F)
def ad[Jx]{i j pos}:WDE X (.Constant (.int i) j pos) (dC (.int i)):=#[de_c xu λ_=>rep_int.mpr rfl]
def bz[Jx]{b j pos}:WDE X (.Constant (.bool b) j pos) (dC (.bl b)):=#[de_c xw λ_=>rep_bl.mpr rfl]
def cN[Jx]{j pos}:WDE X (.Constant .none j pos) (dC .non):=#[de_c xx λ_=>rep_non.mpr rfl]
def aq[Jx]{x j pos}:WDE X (.Constant (.str x) j pos) (dC (.str x)):=#[de_c pY λ_=>rep_str.mpr rfl]
abbrev RD2:=D->D->(D->Prop)->Prop
def dOp(r:RD2)(ta tb:TD):TD:=λz R=>ta z λx=>tb z λy=>r x y R
def bc(K:Ex)(r:R2)(rd:RD2):Prop:=∀x y u v F H R Q,Same F H->rd x y R->Rep K F x u->Rep K F y v->(∀d w F' H',Grow F H F' H'->R d->Rep K F' d w->Q w H')->r u v H Q
variable{r:R2}{rd:RD2}
def kd[Jx]{ta tb:TD}(L:bc X.K r rd)(h:PE X e (tOp r (lE X.K ta) (lE X.K tb))):DE X e (dOp rd ta tb):=h.anti λs H Q q=>by
 let#[B,F,z,kf,rs,R,h1,h2]:=q;have fh:=kf.fh;refine#[B,F,z,kf,rs,_,h1,λx u F1 H1 g1 hx rx=>?_];refine#[B,F1,z,kf.grow g1,rs.grow g1,_,hx,λy v F2 H2 g2 hy ry=>?_];exact L x y u v F2 H2 R Q g2.fh hy (rx.mono g2.ff) ry λd w F' H' g3=>h2 d w F' H' (g1.trans (g2.trans g3))
variable {a b c:U7}{ta tb tc:TD}{pos:Vf}
def dU[Jx]{op:Wn}(ho:OpR X (Vr op) r)(L:bc X.K r rd)(ha:DE X a ta)(hb:DE X b tb):DE X (.BinOp a op b pos) (dOp rd ta tb):=kd L (jK ho ha hb)
def rb[Jx]{op:W1}(ho:OpR X (Vo op) r)(L:bc X.K r rd)(ha:DE X a ta)(hb:DE X b tb)(hm:Vu op b=false):DE X (.Compare a [op] [b] pos) (dOp rd ta tb):=kd L (yd ho ha hb hm)
def zp[Jx](hr:IxR X r)(L:bc X.K r rd)(ha:DE X a ta)(hb:DE X b tb)(hs:eY b\zA6):DE X (.Subscript a b pos) (dOp rd ta tb):=kd L (pe_ix hr ha hb hs)
def kdI(d:D)(k:Int->Prop):Prop:=match d with|.int i=>k i|_=>False
def kdB(d:D)(k:Bool->Prop):Prop:=match d with|.bl i=>k i|_=>False
def kdS(d:D)(k:Lq->Prop):Prop:=match d with|.str i=>k i|_=>False
def kdL(d:D)(k:List D->Prop):Prop:=match d with|.lst i=>k i|_=>False
def kdT(d:D)(k:List D->Prop):Prop:=match d with|.tup i=>k i|_=>False
def kdN(d:D)(p:Prop):Prop:=match d with|.non=>p|_=>False
def kd1(ds:List D)(k:D->Prop):Prop:=match ds with|[x]=>k x|_=>False
def kd2(ds:List D)(k:D->D->Prop):Prop:=match ds with|[x,y]=>k x y|_=>False
def kdI.of{k:Int->Prop}(h:kdI d k):∃i,d=.int i/\k i:=NA
def kdB.of{k:Bool->Prop}(h:kdB d k):∃i,d=.bl i/\k i:=NA
def kdS.of{k:Lq->Prop}(h:kdS d k):∃i,d=.str i/\k i:=NA
variable{k:List My.D->Prop}
def kdL.of(h:kdL d k):∃i,d=.lst i/\k i:=NA
def kdT.of(h:kdT d k):∃i,d=.tup i/\k i:=NA
def kdP(d:D)(k:Pi->Prop):Prop:=match d with|.ptr i=>k i|_=>False
def kdP.of{k:Pi->Prop}(h:kdP d k):∃i,d=.ptr i/\k i:=NA
def kdN.of{p:Prop}(h:kdN d p):d=.non/\p:=by cases d<;>first|exact#[rfl,h]|exact False.elim h
variable{ds:List My.D}
def kd1.of{k:D->Prop}(h:kd1 ds k):∃x,ds=[x]/\k x:=by
 cases ds with
 |nil=>exact False.elim h
 |cons x r=>cases r with
  |nil=>exact#[x,rfl,h]
  |cons=>exact False.elim h
def kd2.of{k:D->D->Prop}(h:kd2 ds k):∃x y,ds=[x,y]/\k x y:=by
 cases ds with
 |nil=>exact False.elim h
 |cons x r=>cases r with
  |nil=>exact False.elim h
  |cons y r=>cases r with
   |nil=>exact#[x,y,rfl,h]
   |cons=>exact False.elim h
def rdI0(f:Int->Int->D):RD2:=λx y R=>kdI x λi=>kdI y λj=>R (f i j)
def rdI1(C:Int->Int->Prop)(f:Int->Int->D):RD2:=λx y R=>kdI x λi=>kdI y λj=>C i j/\R (f i j)
variable{K:Ex}{f:Int->Int->My.D}{g:Int->Int->V}
def fZ(k:∀F i j,Rep K F (f i j) (g i j)):bc K (rI0 g) (rdI0 f):=by
 intro x y u v F H R Q fh h rx ry q;replace h:=kdI.of h;let#[i,rfl,h]:=h;replace h:=kdI.of h;let#[j,rfl,h]:=h;exact#[i,j,rep_int.mp rx,rep_int.mp ry,q _ _ F H (Grow.refl fh) h (k F i j)]
def gc{C:Int->Int->Prop}(k:∀F i j,Rep K F (f i j) (g i j)):bc K (rI C g) (rdI1 C f):=by
 intro x y u v F H R Q fh h rx ry q;replace h:=kdI.of h;let#[i,rfl,h]:=h;replace h:=kdI.of h;let#[j,rfl,h]:=h;exact#[i,j,rep_int.mp rx,rep_int.mp ry,h.1,q _ _ F H (Grow.refl fh) h.2 (k F i j)]
def ke:RD2:=λx y R=>match x with
 |.int i=>kdI y λj=>R (.int (i+j))
 |.str i=>kdS y λj=>i.length+j.length<=1000000/\R (.str (i++j))
 |.lst xs=>kdL y λys=>xs.length+ys.length<=1000000/\R (.lst (xs++ys))
 |.tup xs=>kdT y λys=>(xs≠[]/\ys≠[]/\xs.length+ys.length<=1000000)/\R (.tup (xs++ys))
 |_=>False
def re(K:Ex):R2:=λx y H Q=>rI0 (λi j=>.int (i+j)) x y H Q\/((λx y H Q=>∃i j,x=.str i/\y=.str j/\i.length+j.length<=sizeLine/\Q (.str (i++j)) H) x y H Q\/(rCat x y H Q\/qR K x y H Q))
def rg:OpR X (Vr .Add) (re X.K):=OpR.or xV (OpR.or yh (OpR.or qV yO))
def Reps.append{K:Ex}{F:Hp}:∀{xs ys:List D} {us vs:List V},Reps K F xs us->Reps K F ys vs->Reps K F (xs++ys) (us++vs)
 |[],ys,us,vs,r1,r2=>by rw[reps_nil.mp r1];exact r2
 |x::xs,ys,us,vs,r1,r2=>by
  let#[u,ur,rfl,a1,a2]:=reps_cons.mp r1;exact reps_cons.mpr #[u,ur++vs,rfl,a1,Reps.append a2 r2]
def Reps.ne_nil{F:Hp}{xs:List D}{us:List V}(r:Reps K F xs us)(h:xs≠[]):us≠[]:=by
 cases xs with
 |nil=>exact absurd rfl h
 |cons x xs=>let#[u,ur,rfl,_]:=reps_cons.mp r;exact λz=>nomatch z
def rh:bc K (re K) ke:=by
 intro x y u v F H R Q fh h rx ry q;cases x with
 |int i=>
  replace h:=kdI.of h;let#[j,rfl,h]:=h;exact .inl #[_,_,rep_int.mp rx,rep_int.mp ry,q _ _ F H (Grow.refl fh) h (rep_int.mpr rfl)]
 |str i=>
  replace h:=kdS.of h;let#[j,rfl,h]:=h;exact .inr (.inl #[_,_,rep_str.mp rx,rep_str.mp ry,HG h.1 Mh,q _ _ F H (Grow.refl fh) h.2 (rep_str.mpr rfl)])
 |lst xs=>
  replace h:=kdL.of h;let#[ys,rfl,h]:=h;let#[a,us,rfl,hq,rr]:=rep_lst.mp rx;let#[b,vs,rfl,o6,Lx]:=rep_lst.mp ry;refine .inr (.inr (.inl #[a,b,us,vs,rfl,rfl,fh _ _ hq,fh _ _ o6,by rw[rr.length,Lx.length];exact HG h.1 Mh,λp hp=>?_]));exact q _ _ _ _ (Grow.new fh hp _) h.2 (rep_lst.mpr #[p,_,rfl,aC,(rr.append Lx).mono (aR (fh.free hp) _)])
 |tup xs=>
  replace h:=kdT.of h;let#[ys,rfl,h]:=h;let#[a,us,rfl,hq,rr]:=rep_tup_mp rx;let#[b,vs,rfl,o6,Lx]:=rep_tup_mp ry;let#[#[n1,n2,hz],h]:=h;refine .inr (.inr (.inr #[a,b,us,vs,rfl,rfl,fh.tup hq,fh.tup o6,rr.ne_nil n1,by rw[rr.length,Lx.length];exact HG hz Mh,λz=>absurd z (Lx.ne_nil n2),λ_ p hp=>?_]));exact q _ _ _ _ (Grow.new fh hp _) h (rep_tupS.mpr #[p,_,rfl,aC,(rr.append Lx).mono (aR (fh.free hp) _)])
 |_=>exact False.elim h
def aj[Jx](ha:WDE X a ta)(hb:WDE X b tb):WDE X (.BinOp a .Add b pos) (dOp ke ta tb):=#[dU rg rh ha.out hb.out]
def kg:RD2:=rdI0 λi j=>.int (i-j)
def rj:bc K (rI0 λi j=>.int (i-j)) kg:=fZ λ_ _ _=>rep_int.mpr rfl
def bv[Jx](ha:WDE X a ta)(hb:WDE X b tb):WDE X (.BinOp a .Sub b pos) (dOp kg ta tb):=#[dU qp rj ha.out hb.out]
def rk:RD2:=λx y R=>kdI x λi=>kdI y λj=>CMul i j/\R (.int (i*j))
def zq:bc K (rI CMul λi j=>.int (i*j)) rk:=gc λ_ _ _=>rep_int.mpr rfl
def ay[Jx](ha:WDE X a ta)(hb:WDE X b tb):WDE X (.BinOp a .Mult b pos) (dOp rk ta tb):=#[dU xW zq ha.out hb.out]
def rl:RD2:=λx y R=>kdI x λi=>kdI y λj=>(0<j/\j<1073741824)/\R (.int (i/j))
def zr:bc K (rI CDiv λi j=>.int (i/j)) rl:=gc λ_ _ _=>rep_int.mpr rfl
def bb[Jx](ha:WDE X a ta)(hb:WDE X b tb):WDE X (.BinOp a .FloorDiv b pos) (dOp rl ta tb):=#[dU xX zr ha.out hb.out]
def rn(i j:Int):Prop:=j≠0/\j.natAbs<4611686018427387904
def zt:OpR X (Vr .FloorDiv) (rI rn λi j=>.int (i.fdiv j)):=opI λ_ j _ _ _ _ _ hc q=>floordiv_int hc.1 q (.inl (PyProof.noPylong_of_log2 (Kv ((Kw (λz=>hc.1 (Kx.mp z))).mpr (show j.natAbs<2^62 from hc.2)) Mh)))
def rq:RD2:=λx y R=>kdI x λi=>kdI y λj=>(j≠0/\j.natAbs<4611686018427387904)/\R (.int (i.fdiv j))
def zu:bc K (rI rn λi j=>.int (i.fdiv j)) rq:=gc λ_ _ _=>rep_int.mpr rfl
def zv[Jx](ha:WDE X a ta)(hb:WDE X b tb):WDE X (.BinOp a .FloorDiv b pos) (dOp rq ta tb):=#[dU zt zu ha.out hb.out]
def rA:RD2:=λx y R=>kdI x λi=>kdI y λj=>0<j/\R (.int (i%j))
def zw:bc K (rI (λ_ j=>0<j) λi j=>.int (i%j)) rA:=gc λ_ _ _=>rep_int.mpr rfl
def aA[Jx](ha:WDE X a ta)(hb:WDE X b tb):WDE X (.BinOp a .Mod b pos) (dOp rA ta tb):=#[dU xY zw ha.out hb.out]
def rB:RD2:=λx y R=>kdI x λi=>kdI y λj=>j≠0/\R (.int (i.fmod j))
def zx:bc K (rI (λ_ j=>j≠0) λi j=>.int (i.fmod j)) rB:=gc λ_ _ _=>rep_int.mpr rfl
def rC[Jx](ha:WDE X a ta)(hb:WDE X b tb):WDE X (.BinOp a .Mod b pos) (dOp rB ta tb):=#[dU xZ zx ha.out hb.out]
def rdLt:RD2:=rdI0 λi j=>.bl (decide (i<j))
def rD:bc K (rI0 λi j=>.bl (decide (i<j))) rdLt:=fZ λ_ _ _=>rep_bl.mpr rfl
def rdLe:RD2:=rdI0 λi j=>.bl (decide (i<=j))
def zy:bc K (rI0 λi j=>.bl (decide (i<=j))) rdLe:=fZ λ_ _ _=>rep_bl.mpr rfl
def rdGt:RD2:=rdI0 λi j=>.bl (decide (j<i))
def kh:bc K (rI0 λi j=>.bl (decide (j<i))) rdGt:=fZ λ_ _ _=>rep_bl.mpr rfl
def zz[Jx](ha:WDE X a ta)(hb:WDE X b tb):WDE X (.Compare a [.Gt] [b] pos) (dOp rdGt ta tb):=#[rb jM kh ha.out hb.out (nomark _)]
def rdGe:RD2:=rdI0 λi j=>.bl (decide (j<=i))
def zA:bc K (rI0 λi j=>.bl (decide (j<=i))) rdGe:=fZ λ_ _ _=>rep_bl.mpr rfl
def rdEq:RD2:=λx y R=>match x with
 |.int i=>kdI y λj=>R (.bl (decide (i=j)))
 |.bl i=>kdB y λj=>R (.bl (decide (i=j)))
 |.str i=>kdS y λj=>R (.bl (decide (i=j)))
 |.non=>kdN y (R (.bl true))
 |_=>False
def rdNe:RD2:=λx y R=>match x with
 |.int i=>kdI y λj=>R (.bl (!decide (i=j)))
 |.bl i=>kdB y λj=>R (.bl (!decide (i=j)))
 |.str i=>kdS y λj=>R (.bl (!decide (i=j)))
 |.non=>kdN y (R (.bl false))
 |_=>False
def ki:bc K rEq rdEq:=by
 intro x y u v F H R Q fh h rx ry q;cases x with
 |int i=>
  replace h:=kdI.of h;let#[j,rfl,h]:=h;rw[rep_int.mp rx,rep_int.mp ry];exact#[rfl,q _ _ F H (Grow.refl fh) h (rep_bl.mpr Mn)]
 |bl i=>
  replace h:=kdB.of h;let#[j,rfl,h]:=h;rw[rep_bl.mp rx,rep_bl.mp ry];exact#[rfl,q _ _ F H (Grow.refl fh) h (rep_bl.mpr Mn)]
 |str i=>
  replace h:=kdS.of h;let#[j,rfl,h]:=h;rw[rep_str.mp rx,rep_str.mp ry];exact#[rfl,q _ _ F H (Grow.refl fh) h (rep_bl.mpr Mn)]
 |non=>
  replace h:=kdN.of h;let#[rfl,h]:=h;rw[rep_non.mp rx,rep_non.mp ry];exact#[rfl,q _ _ F H (Grow.refl fh) h (rep_bl.mpr Mn)]
 |_=>exact False.elim h
def rE:bc K rNe rdNe:=by
 intro x y u v F H R Q fh h rx ry q;cases x with
 |int i=>
  replace h:=kdI.of h;let#[j,rfl,h]:=h;rw[rep_int.mp rx,rep_int.mp ry];exact#[rfl,q _ _ F H (Grow.refl fh) h (rep_bl.mpr Mn)]
 |bl i=>
  replace h:=kdB.of h;let#[j,rfl,h]:=h;rw[rep_bl.mp rx,rep_bl.mp ry];exact#[rfl,q _ _ F H (Grow.refl fh) h (rep_bl.mpr Mn)]
 |str i=>
  replace h:=kdS.of h;let#[j,rfl,h]:=h;rw[rep_str.mp rx,rep_str.mp ry];exact#[rfl,q _ _ F H (Grow.refl fh) h (rep_bl.mpr Mn)]
 |non=>
  replace h:=kdN.of h;let#[rfl,h]:=h;rw[rep_non.mp rx,rep_non.mp ry];exact#[rfl,q _ _ F H (Grow.refl fh) h (rep_bl.mpr Mn)]
 |_=>exact False.elim h
def dv[Jx](ha:WDE X a ta)(hb:WDE X b tb):WDE X (.Compare a [.Eq] [b] pos) (dOp rdEq ta tb):=#[rb jL ki ha.out hb.out (nomark _)]
def rF:D->Bool|.non=>true|_=>false
def rdIs(f:Bool->Bool):RD2:=λx y R=>kdN y (R (.bl (f (rF x))))
def zB{H:Hp}{x:D}{u:V}(r:Rep K H x u):decide (u=.non)=rF x:=by
 cases x with
 |non=>rw[rep_non.mp r];rfl
 |bl b=>rw[rep_bl.mp r];rfl
 |int b=>rw[rep_int.mp r];rfl
 |str b=>rw[rep_str.mp r];rfl
 |tup b=>let#[a,vs,rfl,_]:=rep_tup_mp r;rfl
 |lst b=>let#[a,vs,rfl,_]:=rep_lst.mp r;rfl
 |rol b=>let#[a,vs,rfl,_]:=rep_rol.mp r;rfl
 |obj C b=>let#[a,C,dx,vs,rfl,_]:=rep_obj.mp r;rfl
 |exc C b=>let#[a,C,od,vs,rfl,_]:=rep_exc.mp r;rfl
 |own b=>exact absurd r rep_own
 |ptr b=>rw[rep_ptr.mp r];rfl
 |dti b=>let#[a,rfl,_]:=rep_dti.mp r;rfl
def rG:bc K (λx y H Q=>y=.non/\Q (.bl (decide (x=.non))) H) (rdIs id):=by
 intro x y u v F H R Q fh h rx ry q;replace h:=kdN.of h;let#[rfl,h]:=h;exact#[rep_non.mp ry,q _ _ F H (Grow.refl fh) h (rep_bl.mpr (by rw[zB rx];rfl))]
def rdIx:RD2:=λx y R=>kdI y λi=>match x with
 |.tup ds=>∃d,atI ds i=be d/\R d
 |.lst ds=>∃d,atI ds i=be d/\R d
 |.rol ds=>∃d,atI ds i=be d/\R d
 |.str x=>∃c,(x.length<=1000000/\atI x.cps.toList i=be c)/\R (.str #[[c].toArray])
 |_=>False
def Reps.at{H:Hp}{vs:List V}{i:Int}(r:Reps K H ds vs)(e:atI ds i=be d):∃v,atI vs i=be v/\Rep K H d v:=by
 unfold atI at e ⊢;rw[r.length];cases q:ixN ds.length i with
 |none=>rw[q]at e;cases e
 |some j=>
  rw[q]at e;exact r.get e
def rH:bc K (rIx K) rdIx:=by
 intro x y u v F H R Q fh h rx ry q;replace h:=kdI.of h;let#[i,rfl,h]:=h;cases x with
 |tup ds=>
  let#[d,e,h]:=h;let#[a,vs,e1,hq,rs]:=rep_tup_mp rx;let#[w,e2,j6]:=rs.at e;exact .inr (.inl #[a,vs,_,w,e1,rep_int.mp ry,fh.tup hq,e2,q d w F H (Grow.refl fh) h j6])
 |lst ds=>
  let#[d,e,h]:=h;let#[a,vs,e1,hq,rs]:=rep_lst.mp rx;let#[w,e2,j6]:=rs.at e;exact .inl #[a,vs,_,w,e1,rep_int.mp ry,fh.seq (SqL.of hq),e2,q d w F H (Grow.refl fh) h j6]
 |rol ds=>
  let#[d,e,h]:=h;let#[a,vs,e1,hq,rs]:=rep_rol.mp rx;let#[w,e2,j6]:=rs.at e;exact .inl #[a,vs,_,w,e1,rep_int.mp ry,fh.seq hq,e2,q d w F H (Grow.refl fh) h j6]
 |str x=>
  let#[c,#[hz,e],h]:=h;exact .inr (.inr #[_,_,c,rep_str.mp rx,rep_int.mp ry,HG hz Mh,e,q _ _ F H (Grow.refl fh) h (rep_str.mpr rfl)])
 |_=>exact False.elim h
def af[Jx](ha:WDE X a ta)(hb:WDE X b tb)(hs:eY b\zA6):WDE X (.Subscript a b pos) (dOp rdIx ta tb):=#[zp qT rH ha.out hb.out hs]
def dUn(r:D->(D->Prop)->Prop)(ta:TD):TD:=λz R=>ta z λx=>r x R
def rJ:D->(D->Prop)->Prop:=λx R=>match x with|.int i=>R (.int (-i))|_=>False
def bU[Jx](ha:WDE X a ta):WDE X (.UnaryOp .USub a pos) (dUn rJ ta):=⟨(xU ya ha.out).anti λs H Q h=>by
 let#[B,F,z,kf,rs,R,h1,h2]:=h;have fh:=kf.fh;refine#[B,F,z,kf,rs,_,h1,λx u F1 H1 g1 hx rx=>?_];unfold rJ at hx;split at hx
 .exact#[_,rep_int.mp rx,h2 _ _ F1 H1 g1 hx (rep_int.mpr rfl)]
 .exact hx.elim⟩
def dNil:TDA:=λ_ R=>R []
def zC(ta:TD)(tr:TDA):TDA:=λz R=>ta z λx=>tr z λxs=>R (x::xs)
def ae[Jx]:WDA X [] dNil:=⟨pa_nil.anti λs H Q h=>by
 let#[B,F,z,kf,rs,R,h1,h2]:=h;have fh:=kf.fh;exact h2 [] [] F H (Grow.refl fh) h1 (reps_nil.mpr rfl)⟩
variable{es:List U7}{t:TDA}
def ac[Jx]{te:TD}(ha:WDE X e te)(hr:WDA X es t)(hs:zSE X e es\zA0):WDA X (e::es) (zC te t):=⟨(bt ha.out hr.out hs).anti λs H Q h=>by
 let#[B,F,z,kf,rs,R,h1,h2]:=h;have fh:=kf.fh;refine#[B,F,z,kf,rs,_,h1,λx u F1 H1 g1 hx rx=>?_];refine#[B,F1,z,kf.grow g1,rs.grow g1,_,hx,λxs us F2 H2 g2 hy ry=>?_];exact h2 _ _ F2 H2 (g1.trans g2) hy (reps_cons.mpr #[_,_,rfl,rx.mono g2.ff,ry])⟩
def dTup(t:TDA):TD:=λz R=>t z λxs=>xs.length<=1000/\R (.tup xs)
def dLst(t:TDA):TD:=λz R=>t z λxs=>xs.length<=1000/\R (.lst xs)
def aI[Jx]{x1}(h:WDA X es t):WDE X (.Tuple es x1 pos) (dTup t):=⟨(qI h.out).anti λs H Q q=>by
 let#[B,F,z,kf,rs,R,h1,h2]:=q;have fh:=kf.fh;refine#[B,F,z,kf,rs,_,h1,λds vs F1 H1 g1 hx rx=>?_];have hl:=rx.length;refine#[sz (by rw[hl];exact hx.1),λp hp=>?_];exact h2 _ _ _ _ (g1.trans (Grow.new g1.fh hp _)) hx.2 (rep_tupS.mpr #[p,vs,rfl,aC,rx.mono (aR (g1.fh.free hp) _)])⟩
def aU[Jx](h:WDA X es t):WDE X (.List es pos) (dLst t):=⟨(jR h.out).anti λs H Q q=>by
 let#[B,F,z,kf,rs,R,h1,h2]:=q;have fh:=kf.fh;refine#[B,F,z,kf,rs,_,h1,λds vs F1 H1 g1 hx rx=>?_];have hl:=rx.length;refine#[sz (by rw[hl];exact hx.1),λp hp=>?_];exact h2 _ _ _ _ (g1.trans (Grow.new g1.fh hp _)) hx.2 (rep_lst.mpr #[p,vs,rfl,aC,rx.mono (aR (g1.fh.free hp) _)])⟩
abbrev SpD:=List D->(D->Prop)->Prop
def lSp(K:Ex)(S:SpD):Sp:=λvs H Q _=>∃F ds,Same F H/\Reps K F ds vs/\∃R:D->Prop,S ds R/\∀d v F' H',Grow F H F' H'->R d->Rep K F' d v->Q v H'
def zD(S:SpD)(t:TDA):TD:=λz R=>t z λds=>S ds R
abbrev CalD(P:U5)(w:U')(K:Ex)(mg:Lq->Option Os)(base:Heap)(n:Nat)(x:Lq)(ps:List Lq)(S:SpD):Prop:=Cal P w K mg base n x ps (lSp K S)
variable{p:Vf}
def aD[Jx]{n m:Nat}{ps:List Lq}{S:SpD}(C:CalD X.prog X.w X.K X.mg X.base n x ps S)(hr:Room m X.A)(ha:WDA X (e::es) t)(hg:Gl X x\zA0)(hn:(n<=m)\zA1)(d6:zND x\zA1)
  (he:zSE X e es\zA0) (c_:zPL X pos es\zA0):WDE X (.Call (.Name x p) (e::es) [] pos) (zD S t):=⟨(zo C hr ha.out hg hn d6 he c_).anti λs H Q h=>by
 let#[B,F,z,kf,rs,R,h1,h2]:=h;have fh:=kf.fh;refine#[B,F,z,kf,rs,_,h1,λds vs F1 H1 g1 hx rx=>?_];exact#[F1,ds,g1.fh,by rw[H9];exact rx,R,hx,λd v F' H' g=>h2 d v F' H' (g1.trans g)]⟩
abbrev RDn:=List D->(D->Prop)->Prop
def cz(K:Ex)(r:List V->Hp->VK->Prop)(rd:RDn):Prop:=∀ds vs F H R Q,Same F H->rd ds R->Reps K F ds vs->(∀d w F' H',Grow F H F' H'->R d->Rep K F' d w->Q w H')->r vs H Q
def dCB(r:RDn)(t:TDA):TD:=λz R=>t z λds=>r ds R
def ib[Jx]{id:String}{r:List V->Hp->VK->Prop}{rd:RDn}(hc:bI X (.builtin id) r)(L:cz X.K r rd)(hm:X.mg x=w6)(hv:Vl x=be (.builtin id))(ha:DA X (e::es) t)(hg:Gl X x\zA0)(hn:(x≠"__name__")\zA1)(d6:zND x\zA1)
  (he:zSE X e es\zA0) (c_:zPL X pos es\zA0):DE X (.Call (.Name x p) (e::es) [] pos) (dCB rd t):=(eX hc hg hm hv ha hn d6 he c_).anti λs H Q h=>by
 let#[B,F,z,kf,rs,R,h1,h2]:=h;have fh:=kf.fh;refine#[B,F,z,kf,rs,_,h1,λds vs F1 H1 g1 hx rx=>?_];exact L ds vs F1 H1 R Q g1.fh hx rx λd w F' H' g=>h2 d w F' H' (g1.trans g)
def kj:RDn:=λds R=>kd1 ds λx=>match x with
 |.tup xs=>R (.int xs.length)
 |.lst xs=>R (.int xs.length)
 |.rol xs=>R (.int xs.length)
 |.str x=>x.length<=1000000/\R (.int x.length)
 |_=>False
def rK:cz K (λxs H Q=>∃x n,xs=[x]/\LenV K x H n/\Q (.int n) H) kj:=by
 intro ds vs F H R Q fh h rx q;replace h:=kd1.of h;let#[x,rfl,h]:=h;let#[v,r,rfl,h1,h2]:=reps_cons.mp rx;rw[reps_nil.mp h2];cases x with
 |tup xs=>
  let#[a,us,rfl,hq,rs]:=rep_tup_mp h1;exact#[.ref a,us.length,rfl,.inr #[us,fh.tup hq,rfl],q _ _ F H (Grow.refl fh) h (rep_int.mpr (by rw[rs.length]))]
 |lst xs=>
  let#[a,us,rfl,hq,rs]:=rep_lst.mp h1;exact#[.ref a,us.length,rfl,.inl #[us,fh.seq (SqL.of hq),rfl],q _ _ F H (Grow.refl fh) h (rep_int.mpr (by rw[rs.length]))]
 |rol xs=>
  let#[a,us,rfl,hq,rs]:=rep_rol.mp h1;exact#[.ref a,us.length,rfl,.inl #[us,fh.seq hq,rfl],q _ _ F H (Grow.refl fh) h (rep_int.mpr (by rw[rs.length]))]
 |str x=>
  rw[rep_str.mp h1];exact#[.str _,_,rfl,#[HG h.1 Mh,rfl],q _ _ F H (Grow.refl fh) h.2 (rep_int.mpr rfl)]
 |_=>exact False.elim h
def bJ[Jx](hm:X.mg "len"=w6)(ha:WDA X [e] t)(hg:Gl X "len"\zA0)(he:zSE X e []\zA0):WDE X (.Call (.Name "len" p) [e] [] pos) (dCB kj t):=#[ib jN rK hm PySem.boot_len ha.out hg Mh Mh he]
def rL:RDn:=λds R=>kd1 ds λx=>kdI x λi=>R (.int (if i<0 then -i else i))
def zE:cz K (λxs H Q=>∃i,xs=[.int i]/\Q (.int (if i<0 then -i else i)) H) rL:=by
 intro ds vs F H R Q fh h rx q;replace h:=kd1.of h;let#[x,rfl,h]:=h;replace h:=kdI.of h;let#[i,rfl,h]:=h;let#[v,r,rfl,h1,h2]:=reps_cons.mp rx;rw[reps_nil.mp h2,rep_int.mp h1];exact#[_,rfl,q _ _ F H (Grow.refl fh) h (rep_int.mpr rfl)]
def eZ[Jx](hm:X.mg "abs"=w6)(ha:WDA X [e] t)(hg:Gl X "abs"\zA0)(he:zSE X e []\zA0):WDE X (.Call (.Name "abs" p) [e] [] pos) (dCB rL t):=#[ib yi zE hm PyProof.Rows.boot_abs ha.out hg Mh Mh he]
end
section
variable {X:Cx}{a b c e:U7}{ta tb tc te:TD}{pos:Vf}
def dTst(t:TD):TDT:=λz R=>t z λx=>match x with|.bl k=>R k|_=>False
def dW[Jx]{op:W1}{r:R2}{rd:RD2}(ho:OpR X (Vo op) r)(L:bc X.K r rd)(ha:DE X a ta)(hb:DE X b tb)(hm:Vu op b=false):DT X (.Compare a [op] [b] pos) (dTst (dOp rd ta tb)):=(qz ho ha hb hm).anti λs H Q q=>by
 let#[B,F,z,kf,rs,R,h1,h2]:=q;have fh:=kf.fh;refine#[B,F,z,kf,rs,_,h1,λx u F1 H1 g1 hx rx=>?_];refine#[B,F1,z,kf.grow g1,rs.grow g1,_,hx,λy v F2 H2 g2 hy ry=>?_];refine L x y u v F2 H2 _ _ g2.fh hy (rx.mono g2.ff) ry λd w F' H' g3 hd rd=>?_;split at hd
 .exact#[_,rep_bl.mp rd,h2 _ F' H' (g1.trans (g2.trans g3)) hd]
 .exact hd.elim
def gf[Jx](ha:WDE X a ta)(hb:WDE X b tb):WDT X (.Compare a [.Lt] [b] pos) (dTst (dOp rdLt ta tb)):=#[dW qw rD ha.out hb.out (nomark _)]
def zF[Jx](ha:WDE X a ta)(hb:WDE X b tb):WDT X (.Compare a [.LtE] [b] pos) (dTst (dOp rdLe ta tb)):=#[dW yb zy ha.out hb.out (nomark _)]
def km[Jx](ha:WDE X a ta)(hb:WDE X b tb):WDT X (.Compare a [.Gt] [b] pos) (dTst (dOp rdGt ta tb)):=#[dW jM kh ha.out hb.out (nomark _)]
def ko[Jx](ha:WDE X a ta)(hb:WDE X b tb):WDT X (.Compare a [.GtE] [b] pos) (dTst (dOp rdGe ta tb)):=#[dW yc zA ha.out hb.out (nomark _)]
def bg[Jx](ha:WDE X a ta)(hb:WDE X b tb):WDT X (.Compare a [.Eq] [b] pos) (dTst (dOp rdEq ta tb)):=#[dW jL ki ha.out hb.out (nomark _)]
def cE[Jx](ha:WDE X a ta)(hb:WDE X b tb):WDT X (.Compare a [.NotEq] [b] pos) (dTst (dOp rdNe ta tb)):=#[dW qv rE ha.out hb.out (nomark _)]
def rM[Jx](ha:WDE X a ta)(hb:WDE X b tb):WDT X (.Compare a [.Is] [b] pos) (dTst (dOp (rdIs id) ta tb)):=#[dW qy rG ha.out hb.out (nomark _)]
def dTru(t:TD):TDT:=λz R=>t z λx=>match x with
 |.non=>R false
 |.bl k=>R k
 |.int i=>R (i !=0)
 |.str y=>y.length<=1000/\R ((y.length:Int) !=0)
 |.tup xs=>R (!xs.isEmpty)
 |.lst xs=>R (!xs.isEmpty)
 |.rol xs=>R (!xs.isEmpty)
 |_=>False
variable{K:Ex}
def Reps.isEmpty{H:Hp}{ds:List D}{vs:List V}(r:Reps K H ds vs):vs.isEmpty=ds.isEmpty:=by
 cases ds with
 |nil=>rw[reps_nil.mp r];rfl
 |cons d ds=>let#[v,r',rfl,_]:=reps_cons.mp r;rfl
def cm[Jx](ha:WDE X a ta)(he:(∀g5,isTrue a X.env g5=(do let v <-g5;VO a.pos;Vv [v] (truthy v)))\zA3):WDT X a (dTru ta):=⟨(qA ha.out he).anti λs H Q q=>by
 let#[B,F,z,kf,rs,R,h1,h2]:=q;have fh:=kf.fh;refine#[B,F,z,kf,rs,_,h1,λx u F1 H1 g1 hx rx=>?_];split at hx
 .rw[rep_non.mp rx];exact#[false,rfl,h2 _ F1 H1 g1 hx]
 .rw[rep_bl.mp rx];exact#[_,rfl,h2 _ F1 H1 g1 hx]
 .rw[rep_int.mp rx];exact#[_,rfl,h2 _ F1 H1 g1 hx]
 .rw[rep_str.mp rx];exact#[_,#[sz hx.1,rfl],h2 _ F1 H1 g1 hx.2]
 .obtain⟨p,vs,rfl,hq,rr⟩:=rep_tup_mp rx;exact#[_,.inr (.inl #[vs,g1.fh.tup hq,by rw[rr.isEmpty]]),h2 _ F1 H1 g1 hx]
 .obtain⟨p,vs,rfl,hq,rr⟩:=rep_lst.mp rx;exact#[_,.inl #[vs,g1.fh.seq (SqL.of hq),by rw[rr.isEmpty]],h2 _ F1 H1 g1 hx]
 .obtain⟨p,vs,rfl,hq,rr⟩:=rep_rol.mp rx;exact#[_,.inl #[vs,g1.fh.seq hq,by rw[rr.isEmpty]],h2 _ F1 H1 g1 hx]
 .exact hx.elim⟩
variable {tA Ln:TDT}{rest:List U7}
def dAnd(t u:TDT):TDT:=λz R=>t z λc=>if c=true then u z R else R false
def dOr(t u:TDT):TDT:=λz R=>t z λc=>if c=true then R true else u z R
def dNot(t:TDT):TDT:=λz R=>t z λc=>R (!c)
def kq[Jx](ha:WDT X a tA):WDW X (.BoolOp .And [a] pos) tA:=#[qc ha.out]
def fb[Jx](ha:WDT X a tA):WDW X (.BoolOp .Or [a] pos) tA:=#[qd ha.out]
def kr[Jx](ha:WDT X a tA)(hb:WDW X (.BoolOp .And (b::rest) pos) Ln):WDW X (.BoolOp .And (a::b::rest) pos) (dAnd tA Ln):=⟨(qe ha.out hb.out).anti λs H Q q=>by
 let#[B,F,z,kf,rs,R,h1,h2]:=q;have fh:=kf.fh;refine#[B,F,z,kf,rs,_,h1,λk F1 H1 g1 hx=>?_];cases k with
 |true=>exact#[B,F1,z,kf.grow g1,rs.grow g1,R,hx,λb F' H' g=>h2 b F' H' (g1.trans g)]
 |false=>exact h2 _ F1 H1 g1 hx⟩
def fg[Jx](ha:WDT X a tA)(hb:WDW X (.BoolOp .Or (b::rest) pos) Ln):WDW X (.BoolOp .Or (a::b::rest) pos) (dOr tA Ln):=⟨(qf ha.out hb.out).anti λs H Q q=>by
 let#[B,F,z,kf,rs,R,h1,h2]:=q;have fh:=kf.fh;refine#[B,F,z,kf,rs,_,h1,λk F1 H1 g1 hx=>?_];cases k with
 |false=>exact#[B,F1,z,kf.grow g1,rs.grow g1,R,hx,λb F' H' g=>h2 b F' H' (g1.trans g)]
 |true=>exact h2 _ F1 H1 g1 hx⟩
def cO[Jx](h:WDW X a tA):WDT X a tA:=#[PW.pt h.out]
def fj[Jx](ha:WDT X a tA):WDT X (.UnaryOp .Not a pos) (dNot tA):=⟨(qg ha.out).anti λs H Q q=>by
 let#[B,F,z,kf,rs,R,h1,h2]:=q;have fh:=kf.fh;exact#[B,F,z,kf,rs,_,h1,λk F1 H1 g1 hx=>h2 _ F1 H1 g1 hx]⟩
def zG(ta tb:TD):TD:=λz R=>ta z λx=>match x with|.bl k=>if k=true then tb z R else R (.bl false)|_=>False
def zH(ta:TD):TD:=λz R=>ta z λx=>match x with|.bl k=>R (.bl (!k))|_=>False
def gh[Jx]{op}(h:WDE X a ta):WDE X (.BoolOp op [a] pos) ta:=#[xA h.out]
def gj[Jx](ha:WDE X a ta)(hb:WDE X (.BoolOp .And (b::rest) pos) tb):WDE X (.BoolOp .And (a::b::rest) pos) (zG ta tb):=⟨(xB ha.out hb.out).anti λs H Q q=>by
 let#[B,F,z,kf,rs,R,h1,h2]:=q;have fh:=kf.fh;refine#[B,F,z,kf,rs,_,h1,λx u F1 H1 g1 hx rx=>?_];split at hx
 .rename_i k;refine#[k,rep_bl.mp rx,?_];cases k with
  |true=>exact#[B,F1,z,kf.grow g1,rs.grow g1,R,hx,λd v F' H' g=>h2 d v F' H' (g1.trans g)]
  |false=>exact h2 _ _ F1 H1 g1 hx (rep_bl.mpr rfl)
 .exact hx.elim⟩
def rN[Jx](ha:WDE X a ta):WDE X (.UnaryOp .Not a pos) (zH ta):=⟨(xC ha.out).anti λs H Q q=>by
 let#[B,F,z,kf,rs,R,h1,h2]:=q;have fh:=kf.fh;refine#[B,F,z,kf,rs,_,h1,λx u F1 H1 g1 hx rx=>?_];split at hx
 .exact#[_,rep_bl.mp rx,h2 _ _ F1 H1 g1 hx (rep_bl.mpr rfl)]
 .exact hx.elim⟩
def tyD:D->String
 |.non=>"NoneType"|.bl _=>"bool"|.int _=>"int"|.str _=>"str"|.tup _=>"tuple"|.lst _=>"list"|.rol _=>"list"|.obj _ _=>"object"|.exc _ _=>"object"|.own _=>"list"|.ptr _=>"object"|.dti _=>"dict"
def cP(t:String)(x:D):Bool:=tyD x==t||(tyD x=="bool" && t=="int")
def TyQ(K:Ex)(H:Hp)(x:V)(t:String):Prop:=TyOf K H x (.type t)\/(t="tuple"/\∃a xs,x=.ref a/\SqT K H a xs)\/(t="list"/\∃a xs,x=.ref a/\SqL K H a xs)
def rO:bI X (.builtin "isinstance") (λxs H Q=>∃x t c k,xs=[x,.ty c]/\TyQ X.K H x t/\kitOne X.K (.type t) (.type c)=be k/\Q (.bl k) H):=by
 intro pins s σ H xs us Q I r h;let#[x,t,c,k,rfl,ty,e,q]:=h;let#[u,u',rfl,rx,rc]:=vals2 r;cases(show u'=Value.type c from rc);rcases ty with ty|⟨rfl,a,ys,rfl,hq⟩|⟨rfl,a,ys,rfl,hq⟩
 .exact yt I rx ty e λtk=>#[.bl k,H,I.tok _,rfl,q]
 .cases(show u=Value.ref a from rx);let#[its,_,#[o,h1,h2,_],_]:=I.tuple hq;exact kia_one kitx_tuple I.kIn #[o,h1,h2] e (λz=>nomatch z) λtk=>#[.bl k,H,I.tok _,rfl,q]
 .cases(show u=Value.ref a from rx);let#[its,_,pl,_]:=I.list hq;let#[o,n,h1,h2,_]:=pl;exact kia_one kitx_list I.kIn #[o,h1,h2] e (λz=>nomatch z) λtk=>#[.bl k,H,I.tok _,rfl,q]
def cQ:D->Bool|.obj _ _=>false|.exc _ _=>false|.ptr _=>false|.dti _=>false|_=>true
def rP{F H:Hp}{x:D}{u:V}(fh:Same F H)(r:Rep K F x u)(no:cQ x=true):TyQ K H u (tyD x):=by
 cases x with
 |non=>rw[rep_non.mp r];exact .inl .non
 |bl b=>rw[rep_bl.mp r];exact .inl (.bl b)
 |int b=>rw[rep_int.mp r];exact .inl (.int b)
 |str b=>rw[rep_str.mp r];exact .inl (.str b)
 |tup b=>let#[a,vs,rfl,hq,_]:=rep_tup_mp r;exact .inr (.inl #[rfl,a,vs,rfl,fh.tup hq])
 |lst b=>let#[a,vs,rfl,hq,_]:=rep_lst.mp r;exact .inr (.inr #[rfl,a,vs,rfl,fh.seq (SqL.of hq)])
 |rol b=>let#[a,vs,rfl,hq,_]:=rep_rol.mp r;exact .inr (.inr #[rfl,a,vs,rfl,fh.seq hq])
 |obj C b=>cases no
 |exc C b=>cases no
 |ptr b=>cases no
 |dti b=>cases no
 |own b=>exact absurd r rep_own
def ku(t:String):D->(D->Prop)->Prop:=λx R=>match x with|.obj _ _=>False|.exc _ _=>False|.ptr _=>False|.dti _=>False|x=>R (.bl (cP t x))
def gk[Jx]{p p2:Vf}{y:Lq}{t:String}(hm:X.mg "isinstance"=w6)(Nz:X.mg y=w6)(ha:WDE X a ta)(hv:Vl y=be (.type t))
  (hk:∀x:D,cQ x=true->kitOne X.K (.type (tyD x)) (.type t)=be (cP t x)) (hg:Gl X "isinstance"\zA0) (Ml:Gl X y\zA0) (hn:(y≠"__name__")\zA1) (d6:zND y\zA1)
  (j7:(U9 [a,.Name y p2] X.env=(false,Vc a X.env)::U9 [.Name y p2] X.env)\zA0) (j_:(U9 [.Name y p2] X.env=(false,Vc (.Name y p2) X.env)::U9 [] X.env)\zA0) (c_:((VC pos (U9 [.Name y p2] X.env)).any (·.1)=false)\zA0):WDE X (.Call (.Name "isinstance" p) [a,.Name y p2] [] pos) (dUn (ku t) ta):=⟨(eX rO hg hm PyProof.Rows.boot_isinstance (bt ha.out (bt (jB (v:=.ty t) Ml Nz hv rfl hn d6) pa_nil j_) j7) Mh Mh j7 c_).anti λs H Q q=>by
 let#[B,F,z,kf,rs,R,h1,h2]:=q;have fh:=kf.fh;refine#[B,F,z,kf,rs,_,h1,λx u F1 H1 g1 hx rx=>?_];have no:cQ x=true:=by
  cases x with
  |obj C b=>exact False.elim hx
  |exc C b=>exact False.elim hx
  |ptr b=>exact False.elim hx
  |dti b=>exact False.elim hx
  |_=>rfl
 have i8:R (.bl (cP t x)):=by
  cases x with
  |obj C b=>exact False.elim hx
  |exc C b=>exact False.elim hx
  |ptr b=>exact False.elim hx
  |dti b=>exact False.elim hx
  |_=>exact hx
 exact#[u,tyD x,t,_,rfl,rP g1.fh rx no,hk x no,h2 _ _ F1 H1 g1 i8 (rep_bl.mpr rfl)]⟩
def zI:∀x:D,cQ x=true->kitOne K (.type (tyD x)) (.type "int")=be (cP "int" x):=by intro x no;cases x<;>first|rfl|cases no
def kit_bool:∀x:D,cQ x=true->kitOne K (.type (tyD x)) (.type "bool")=be (cP "bool" x):=by intro x no;cases x<;>first|rfl|cases no
def kit_list:∀x:D,cQ x=true->kitOne K (.type (tyD x)) (.type "list")=be (cP "list" x):=by intro x no;cases x<;>first|rfl|cases no
def kit_str:∀x:D,cQ x=true->kitOne K (.type (tyD x)) (.type "str")=be (cP "str" x):=by intro x no;cases x<;>first|rfl|cases no
def toV:D->Option V
 |.non=>be .non|.bl b=>be (.bl b)|.int i=>be (.int i)|.str x=>be (.str x)|_=>w6
def bj(d:D):Bool:=(toV d).isSome
def eqF:D->D->Bool
 |.non,.non=>true
 |.bl a,.bl b=>a==b
 |.bl a,.int b=>(if a then 1 else 0)==b
 |.int a,.bl b=>a==(if b then 1 else 0)
 |.int a,.int b=>a==b
 |.str a,.str b=>a==b
 |_,_=>false
def eqFs:List D->List D->Bool
 |[],[]=>true
 |x::xs,y::ys=>eqF x y&&eqFs xs ys
 |_,_=>false
end
section
variable {X:Cx}{a b:U7}{ta tb:TD}{pos:Vf}
def eqVs:List V->List V->Bool
 |[],[]=>true
 |x::xs,y::ys=>eqV x y&&eqVs xs ys
 |_,_=>false
def rQ:∀(xs ys:List V),((HC (min xs.length ys.length)).all (λj=>eqV (xs.getD j .non) (ys.getD j .non))&&xs.length==ys.length)=eqVs xs ys
 |[],[]=>rfl
 |[],_::_=>by simp[eqVs]
 |_::_,[]=>by simp[eqVs]
 |x::xs,y::ys=>by
  have ih:=rQ xs ys;rw[eqVs,<-ih];have e:min (x::xs).length (y::ys).length=min xs.length ys.length+1:=by simp only[HA];lia
  rw[e,List.range_succ_eq_map,Il,List.all_map];have e2:((x::xs).length==(y::ys).length)=(xs.length==ys.length):=Mn
  rw[e2,Bool.and_assoc];rfl
variable{xs:List V}
def Vals.getD{us:List Os}{j:Nat}(r:Vals xs us)(h:j<us.length):RelV (xs.getD j .non) us[j]:=by
 have hl:=L2.Vals.length r;let#[u,q1,q2]:=L2.Vals.get (i:=j) (x:=xs.getD j .non) r (by rw[HP Md];simp[ID,HP (show j<xs.length by lia)]);rw[HP h]at q1;cases q1;exact q2
def flat_getD{j:Nat}(h:xs.all bx=true):bx (xs.getD j .non)=true:=by
 by_cases hj:j<xs.length
 .have q:=Ir.mp h xs[j] (Im hj);simpa[ID,HP hj]using q
 .simp[ID,Io (JQ hj),bx]
def ic{K:Ex}{H:Hp}{x y:D}{u v:V}(rx:Rep K H x u)(ry:Rep K H y v)(fx:bj x=true)(fy:bj y=true):eqV u v=eqF x y:=by
 cases x with
 |tup _=>cases fx
 |lst _=>cases fx
 |rol _=>cases fx
 |obj _ _=>cases fx
 |exc _ _=>cases fx
 |ptr _=>cases fx
 |dti _=>cases fx
 |own _=>cases fx
 |non=>rw[rep_non.mp rx];cases y with
  |tup _=>cases fy
  |lst _=>cases fy
  |rol _=>cases fy
  |obj _ _=>cases fy
  |exc _ _=>cases fy
  |ptr _=>cases fy
  |dti _=>cases fy
  |own _=>cases fy
  |non=>rw[rep_non.mp ry];rfl
  |bl _=>rw[rep_bl.mp ry];rfl
  |int _=>rw[rep_int.mp ry];rfl
  |str _=>rw[rep_str.mp ry];rfl
 |bl _=>rw[rep_bl.mp rx];cases y with
  |tup _=>cases fy
  |lst _=>cases fy
  |rol _=>cases fy
  |obj _ _=>cases fy
  |exc _ _=>cases fy
  |ptr _=>cases fy
  |dti _=>cases fy
  |own _=>cases fy
  |non=>rw[rep_non.mp ry];rfl
  |bl _=>rw[rep_bl.mp ry];rfl
  |int _=>rw[rep_int.mp ry];rfl
  |str _=>rw[rep_str.mp ry];rfl
 |int _=>rw[rep_int.mp rx];cases y with
  |tup _=>cases fy
  |lst _=>cases fy
  |rol _=>cases fy
  |obj _ _=>cases fy
  |exc _ _=>cases fy
  |ptr _=>cases fy
  |dti _=>cases fy
  |own _=>cases fy
  |non=>rw[rep_non.mp ry];rfl
  |bl _=>rw[rep_bl.mp ry];rfl
  |int _=>rw[rep_int.mp ry];rfl
  |str _=>rw[rep_str.mp ry];rfl
 |str _=>rw[rep_str.mp rx];cases y with
  |tup _=>cases fy
  |lst _=>cases fy
  |rol _=>cases fy
  |obj _ _=>cases fy
  |exc _ _=>cases fy
  |ptr _=>cases fy
  |dti _=>cases fy
  |own _=>cases fy
  |non=>rw[rep_non.mp ry];rfl
  |bl _=>rw[rep_bl.mp ry];rfl
  |int _=>rw[rep_int.mp ry];rfl
  |str _=>rw[rep_str.mp ry];rfl
def fk{K:Ex}{H:Hp}{x:D}{u:V}(rx:Rep K H x u)(fx:bj x=true):bx u=true:=by
 cases x with
 |tup _=>cases fx
 |lst _=>cases fx
 |rol _=>cases fx
 |obj _ _=>cases fx
 |exc _ _=>cases fx
 |ptr _=>cases fx
 |dti _=>cases fx
 |own _=>cases fx
 |non=>rw[rep_non.mp rx];rfl
 |bl _=>rw[rep_bl.mp rx];rfl
 |int _=>rw[rep_int.mp rx];rfl
 |str _=>rw[rep_str.mp rx];rfl
def dz{K:Ex}{H:Hp}:∀{xs:List D} {us:List V},Reps K H xs us->xs.all bj=true->us.all bx=true
 |[],us,r,_=>by rw[reps_nil.mp r];rfl
 |x::xs,us,r,f=>by
  let#[v,vr,rfl,r1,r2]:=reps_cons.mp r;rw[Il,HV]at f ⊢;exact#[fk r1 f.1,dz r2 f.2]
def rR{K:Ex}{H:Hp}:∀{xs ys:List D} {us vs:List V},Reps K H xs us->Reps K H ys vs->xs.all bj=true->ys.all bj=true->eqVs us vs=eqFs xs ys
 |[],[],us,vs,r1,r2,_,_=>by rw[reps_nil.mp r1,reps_nil.mp r2];rfl
 |[],y::ys,us,vs,r1,r2,_,_=>by
  let#[v,vr,rfl,_,_]:=reps_cons.mp r2;rw[reps_nil.mp r1];rfl
 |x::xs,[],us,vs,r1,r2,_,_=>by
  let#[v,vr,rfl,_,_]:=reps_cons.mp r1;rw[reps_nil.mp r2];rfl
 |x::xs,y::ys,us,vs,r1,r2,f1,f2=>by
  let#[u,ur,rfl,a1,a2]:=reps_cons.mp r1;let#[v,vr,rfl,b1,b2]:=reps_cons.mp r2;rw[Il,HV]at f1 f2;rw[eqVs,eqFs,ic a1 b1 f1.1 f2.1,rR a2 b2 f1.2 f2.2]
end
section
variable {X:Cx}{a b c e:U7}{ta tb tc te:TD}{pos:Vf}{st:U6}{rest:List U6}{t u:TSD}
def zJ:TSD:=λE z=>E.nx z
def dSeq(t u:TSD):TSD:=λE z=>t {E with nx:=u E} z
def aW[Jx]:WDSs X [] zJ:=⟨pss_nil.anti λE s H q=>by
 let#[B,F0,F,z,k,rs,ED,h,e]:=q;exact e.nx z s F H k h rs⟩
def ai[Jx](h1:WDS X st t)(h2:WDSs X rest u):WDSs X (st::rest) (dSeq t u):=⟨(fT h1.out h2.out).anti λE s H q=>by
 let#[B,F0,F,z,k,rs,ED,h,e]:=q;exact#[B,F0,F,z,k,rs,{ED with nx:=u ED},h,#[λz' s' F' H' k' hz r'=>#[B,F0,F',z',k',r',ED,hz,e],e.rt,e.bk,e.ct]]⟩
def ao[Jx](h1:WDS X st t):WDSs X [st] t:=#[qh h1.out]
def dFrz(i:Nat)(t:TSD):TSD:=λE z=>match z[i]? with|some (be (.own ds))=>t E (z.set i (be (.lst ds)))|_=>False
def dX[Jx](i:Nat){Mm:List U6}(h:WDSs X Mm t):WDSs X Mm (dFrz i t):=⟨have h:=h.out;PSs.anti h λE s H q=>by
 let#[B,F0,F,z,k,rs,ED,h,e]:=q;unfold dFrz at h;split at h
 .rename_i ds ez;let#[F',k',r']:=rs.freeze k ez;exact#[B,F0,F',_,k',r',ED,h,e]
 .exact h.elim⟩
def dRet(te:TD):TSD:=λE z=>te z E.rt
def aB[Jx](he:WDE X e te):WDS X (.Return (be e) pos) (dRet te):=⟨(qi he.out).anti λE s H q=>by
 let#[B,F0,F,z,k,rs,ED,h,e]:=q;exact#[B,F,z,k.kf,rs,_,h,λd v F' H' g hd rd=>e.rt d v F' H' (k.grow g) hd rd]⟩
def zK(te:TD):TSD:=λE z=>te z λ_=>E.nx z
def rS[Jx](he:WDE X e te)(hs:(Vn e w6 pos.line X.env=pure false)\zA0):WDS X (.Expr e pos) (zK te):=⟨(jC he.out hs).anti λE s H q=>by
 let#[B,F0,F,z,k,rs,ED,h,e]:=q;exact#[B,F,z,k.kf,rs,_,h,λd v F' H' g hd rd=>e.nx z s F' H' (k.grow g) hd (rs.grow g)]⟩
def dIfS(c:TDT)(t u:TSD):TSD:=λE z=>c z λb=>if b=true then t E z else u E z
variable{l r:List U6}
def rT[Jx]{c:U7}{tc:TDT}(hc:DT X c tc)(ha:DSs X l t)(hb:DSs X r u):DS X (.If c l r pos) (dIfS tc t u):=(qj hc ha hb).anti λE s H q=>by
 let#[B,F0,F,z,k,rs,ED,h,e]:=q;refine#[B,F,z,k.kf,rs,_,h,λb F1 H1 g hk=>?_];cases b with
 |true=>exact#[B,F0,F1,z,k.grow g,rs.grow g,ED,hk,e]
 |false=>exact#[B,F0,F1,z,k.grow g,rs.grow g,ED,hk,e]
def dIfJ(c:TDT)(t u:TSD):TSD:=λE z=>∃J:SD->Prop,(c z λb=>if b=true then t {E with nx:=J} z else u {E with nx:=J} z)/\∀z',J z'->E.nx z'
def dY[Jx]{c:U7}{tc:TDT}(hc:WDT X c tc)(ha:WDSs X l t)(hb:WDSs X r u):WDS X (.If c l r pos) (dIfJ tc t u):=⟨(rT hc.out ha.out hb.out).anti λE s H q=>by
 let#[B,F0,F,z,k,rs,ED,#[J,h,j],e]:=q;exact#[B,F0,F,z,k,rs,{ED with nx:=J},h,#[λz' s' F' H' k' hz r'=>e.nx z' s' F' H' k' (j z' hz) r',e.rt,e.bk,e.ct]]⟩
def dSet(i:Nat)(te:TD):TSD:=λE z=>∃P:D->Prop,te z P/\∀d,P d->E.nx (z.set i (be d))
variable{x:Lq}
def am[Jx](i:Nat){d7:Vf}(hN:X.N.Nodup)(he:WDE X e te)(hi:(X.N[i]?=be x)\zA0)(hx:Loc X.env.scope x\zA4)(hs:(Vn e (be (.Name x d7)) pos.line X.env=pure false)\zA0)
  (hf:zFN X x\zA2):WDS X (.Assign [.Name x d7] e pos) (dSet i te):=⟨(jE hN hi hx he.out hs hf).anti λE s H q=>by
 let#[B,F0,F,z,k,rs,ED,#[P,h,j],e]:=q;exact#[B,F,z,k.kf,rs,P,h,λd v F' H' g hd rd=>e.nx _ _ F' H' (k.grow g) (j d hd) ((rs.grow g).set rd)]⟩
def dNew(i:Nat)(ta:TDA):TSD:=λE z=>ta z λds=>ds.length<=1000/\E.nx (z.set i (be (.own ds)))
variable{es:List U7}
def gm[Jx](i:Nat){d7 p2:Vf}{ta:TDA}(hN:X.N.Nodup)(he:WDA X es ta)(hi:(X.N[i]?=be x)\zA0)(hx:Loc X.env.scope x\zA4)(hs:(Vn (.List es p2) (be (.Name x d7)) pos.line X.env=pure false)\zA0)
  (hf:zFN X x\zA2):WDS X (.Assign [.Name x d7] (.List es p2) pos) (dNew i ta):=⟨(jE hN hi hx (jR he.out) hs hf).anti λE s H q=>by
 let#[B,F0,F,z,k,rs,ED,h,e]:=q;refine#[B,F,z,k.kf,rs,_,h,λds vs F1 H1 g hd rd=>?_];have hl:=rd.length;refine#[sz (by rw[hl];exact hd.1),λp hp=>?_];have k1:=k.grow g;have r1:=rs.grow g;have hB:B p=none:=k1.bh.free hp;have hF:F1 p=none:=k1.fh.free hp;refine e.nx _ _ F1 _ #[k1.bh.trans (aR hp _),k1.fh.trans (aR hp _),k1.f0,k1.out,k1.eb,k1.jf,k1.jo] hd.2 (r1.setOwn hB hF rd λj dj hj e1 e2=>?_);let#[a,us,q1,q2,_]:=r1.own j dj e1;rw[e2]at q1;cases q1;rw[hp]at q2;cases q2⟩
def dApp(i:Nat)(te:TD):TSD:=λE z=>match z[i]? with|some (be (.own ds))=>(te z λd=>ds.length<=100000/\E.nx (z.set i (be (.own (ds++[d])))))|_=>False
def fo{K:Ex}{F:Hp}{d:D}{v:V}(r:Rep K F d v):Reps K F [d] [v]:=reps_cons.mpr #[v,[],rfl,r,reps_nil.mpr rfl]
def gp[Jx](i:Nat){p1 b7 a8:Vf}(he:WDE X e te)(hN:(X.N[i]?=be x)\zA0)(hv:Vis X.env.scope x\zA5)(hd:zND x\zA1)
  (h_:zNC x\zA1) (j7:zSE X e []\zA0)
  (b_:(Vb (.Name x p1) "append" X.env (Vc (.Name x p1) X.env)=Vc (.Name x p1) X.env)\zA0)
  (d_:zHF X a8 [e]\zA0)
  (c9:((b7.endLine==a8.line)=true)\zA0) (Ly:(Vn (.Call (.Attribute (.Name x p1) "append" b7) [e] [] a8) w6 pos.line X.env=pure false)\zA0):WDS X (.Expr (.Call (.Attribute (.Name x p1) "append" b7) [e] [] a8) pos) (dApp i te):=⟨(jC (du PySem.F.plainAttrs_list PySem.F.slot_list_append PySem.F.type_list_append jW (dm hN hv hd h_) (bt he.out pa_nil j7) b_ d_ c9 j7) Ly).anti λE s H q=>by
 let#[B,F0,F,z,k,rs,ED,h,e]:=q;unfold dApp at h;split at h
 .rename_i ds ez;let#[a,vs,q1,q2,q3,q4,q5]:=rs.own i ds ez;refine#[.ref a,q1,.inl #[rfl,vs,SqL.of q2],?_];refine#[B,F,z,k.kf,rs,_,h,λd v F1 H1 g hd rd=>?_];have k1:=k.grow g;have r1:=rs.grow g;have a1:H1 a=be (.lst vs):=g.hh a _ q2;have f1:F1 a=none:=g.out a q4 (by rw[q2];exact λz=>nomatch z);have hl:vs.length=ds.length:=q5.length;have hz:vs.length<sizeLine:=by
   have h1:ds.length<=100000:=hd.1;have h2:(100000:Nat)<sizeLine:=Mh
   lia
  refine#[a,vs,v,rfl,rfl,a1,hz,?_];have same:∀{G:Hp},G a=w6->Same G H1->Same G (upd H1 a (.lst (vs++[v]))):=λ{G} ga gs b o eb=>by
   have ne:b≠a:=λz=>by rw[z,ga]at eb;cases eb
   rw[ar ne];exact gs b o eb
  have r2:=r1.setOwn (i:=i) (a:=a) (vs:=vs++[v]) (ds:=ds++[d]) q3 f1 ((q5.mono g.ff).append (fo rd)) (λj dj hj e1 e2=>hj (rs.apart j i dj ds a e1 ez e2 q1));have es:s.set i (be (.ref a))=s:=by
   apply IU;intro n;by_cases hn:i=n
   .subst hn;rw[Ij (HJ.mp q1).1,q1]
   .rw[HL hn]
  rw[es]at r2;exact e.nx _ s F1 _ #[same q3 k1.bh,same f1 k1.fh,k1.f0,k1.out,k1.eb,k1.jf,k1.jo] hd.2 r2
 .exact h.elim⟩
def cn:List Nat->List D->SD->SD
 |i::is,d::ds,z=>cn is ds (z.set i (be d))
 |_,_,z=>z
def DGs(X:Cx)(ts:List U7)(is:List Nat):Prop:=∃u:TGs,PGs X ts u/\∀(ds:List D) (vs:List V) (z:SD) (s:L2.St) (B F H:Hp) (Q:L2.St->Hp->Prop),ds.length=is.length->Reps X.K F ds vs->RepS X.K B F H z s->(∀s',RepS X.K B F H (cn is ds z) s'->Q s' H)->u vs s H Q
def dZ[Jx]:DGs X [] []:=⟨_,xH,λds vs z s B F H Q hl r rs q=>by
 cases ds with
 |nil=>exact#[reps_nil.mp r,q s rs]
 |cons _ _=>cases hl⟩
variable{p:Vf}{is:List Nat}
def dg_cons[Jx](i:Nat)(hN:X.N.Nodup)(h2:DGs X es is)(hi:(X.N[i]?=be x)\zA0)(hx:Loc X.env.scope x\zA4)(hf:zFN X x\zA2)
  (hs:((Va (.Name x p::es) X.env).map (·.2)=VM (.Name x p) X.env::(Va es X.env).map (·.2))\zA0):DGs X (.Name x p::es) (i::is):=by
 let#[u,hu,k]:=h2;refine#[_,xI (dR hN hi hx hf) hu hs,λds vs z s B F H Q hl r rs q=>?_];cases ds with
 |nil=>cases hl
 |cons d ds=>
  let#[v,vr,rfl,r1,r2]:=reps_cons.mp r;exact#[v,vr,rfl,k ds vr _ _ B F H Q (Nat.succ.inj hl) r2 (rs.set r1) q]
def zL(is:List Nat)(te:TD):TSD:=λE z=>te z λx=>match x with|.tup ds=>ds.length=is.length/\E.nx (cn is ds z)|_=>False
def rV[Jx]{k:Nat}(hc:X.calm=true)(he:WDE X e te)(hg:DGs X es is)(hn:((Va es X.env).length=is.length)\zA0)(p_:((Va es X.env).findIdx? (·.1)=none)\zA0)
  (hs:(VD [.Tuple es k p] e pos.line X.env=pure false)\zA0) (hw:(VE [.Tuple es k p] e X.env=pure none)\zA0) (h1:((Va [.Tuple es k p] X.env).map (·.2)=[VM (.Tuple es k p) X.env])\zA0):WDS X (.Assign [.Tuple es k p] e pos) (zL is te):=⟨by
 have he:=he.out;let#[u,hu,kk]:=hg;refine(jD he (gU hc hu hn p_) hs hw h1).anti λE s H q=>?_;let#[B,F0,F,z,k,rs,ED,h,e]:=q;refine#[B,F,z,k.kf,rs,_,h,λd v F' H' g hd rd=>?_];split at hd
 .obtain⟨p,vs,rfl,hq,rr⟩:=rep_tup_mp rd;exact#[p,vs,rfl,g.fh.tup hq,by rw[rr.length];exact hd.1,kk _ vs z s B F' H' _ hd.1 rr (rs.grow g) λs' r'=>e.nx _ _ F' H' (k.grow g) hd.2 r']
 .exact hd.elim⟩
def dPar(i j:Nat)(ta:TDA):TSD:=λE z=>ta z λds=>match ds with|[x,y]=>E.nx ((z.set i (be x)).set j (be y))|_=>False
def zM[Jx](i j:Nat){y:Lq}{t:TDA}{px py pt:Vf}{kt k2 Mc}(hc:X.calm=true)(hN:X.N.Nodup)(ha:WDA X [a,b] t)(hi:(X.N[i]?=be x)\zA0)(hj:(X.N[j]?=be y)\zA0)(O4:(i≠j)\zA1)
  (hx:(X.env.scope.names.lookup x=be .local)\zA0) (hy:(X.env.scope.names.lookup y=be .local)\zA0)
  (hw:(VE [.Tuple [.Name x px,.Name y py] kt pt] (.Tuple [a,b] k2 Mc) X.env=pure (be [x,y]))\zA0)
  (hs:(VD [.Tuple [.Name x px,.Name y py] kt pt] (.Tuple [a,b] k2 Mc) pos.line X.env=pure false)\zA0):WDS X (.Assign [.Tuple [.Name x px,.Name y py] kt pt] (.Tuple [a,b] k2 Mc) pos) (dPar i j t):=⟨(xK hc hN hi hj O4 hx hy ha.out hw hs).anti λE s H q=>by
 let#[B,F0,F,z,k,rs,ED,h,e]:=q;refine#[B,F,z,k.kf,rs,_,h,λds vs F' H' g hd rd=>?_];split at hd
 .obtain⟨v,r,rfl,r1,r2⟩:=reps_cons.mp rd;let#[w,r,rfl,r3,r4]:=reps_cons.mp r2;rw[reps_nil.mp r4];exact#[v,w,rfl,e.nx _ _ F' H' (k.grow g) hd (((rs.grow g).set r1).set r3)]
 .exact hd.elim⟩
def zN(c:TDT)(tb:TSD):TSD:=λE z=>∃W:Nat->SD->Prop,(∃m,W m z)/\∀m z,W m z->
 c z λb=>if b=true then tb {E with nx:=λz'=>∃m',m'<m/\W m' z',ct:=λz'=>∃m',m'<m/\W m' z',bk:=E.nx} z else E.nx z
variable{body:List U6}
def gq[Jx]{c:U7}{tc:TDT}{tb:TSD}(hp:Vp (U4 X.prog X.w) X.A X.env X.xe)(hc:WDT X c tc)(hb:WDSs X body tb):WDS X (.While c body [] pos) (zN tc tb):=⟨(qk hp hc.out hb.out).anti λE s H q=>by
 let#[B,F0,F,z,k,rs,ED,#[W,#[m0,w0],d5],e]:=q;refine#[λm s' H'=>∃F' z',Kept B F0 F' H'/\RepS X.K B F' H' z' s'/\W m z',#[m0,F,z,k,rs,w0],?_];intro m s1 H1#[F1,z1,k1,r1,w1];refine#[B,F1,z1,k1.kf,r1,_,d5 m z1 w1,λb F2 H2 g2 hk=>?_];cases b with
 |true=>
  refine#[λs3 H3=>∃F3 z3,Kept B F0 F3 H3/\RepS X.K B F3 H3 z3 s3/\∃m',m'<m/\W m' z3,λs3 H3 ⟨F3,z3,k3,r3,m',l,w3⟩=>#[m',l,F3,z3,k3,r3,w3],?_];exact#[B,F0,F2,z1,k1.grow g2,r1.grow g2,_,hk,#[λz3 s3 F3 H3 k3 h3 r3=>#[F3,z3,k3,r3,h3],e.rt,e.nx,λz3 s3 F3 H3 k3 h3 r3=>#[F3,z3,k3,r3,h3]]]
 |false=>exact e.nx z1 s1 F2 H2 (k1.grow g2) hk (r1.grow g2)⟩
abbrev TDI:=SD->(List D->Prop)->Prop
def dItL(t:TD):TDI:=λz R=>t z λx=>match x with|.lst ds=>R ds|.rol ds=>R ds|_=>False
def dItR(t:TD):TDI:=λz R=>t z λx=>match x with|.int n=>(0<=n/\n<2^62)/\R ((HC n.toNat).map λk=>D.int ((k:Nat):Int))|_=>False
def dFor(i:Nat)(ti:TDI)(tb:TSD):TSD:=λE z=>ti z λds=>∃W:Nat->SD->Prop,W 0 z/\(∀k x z,ds[k]?=be x->W k z->tb {E with nx:=W (k+1),ct:=W (k+1),bk:=E.nx} (z.set i (be x)))/\∀z,W ds.length z->E.nx z
def Reps.get'{K:Ex}{H:Hp}{ds:List D}{vs:List V}{k:Nat}{v:V}(r:Reps K H ds vs)(e:vs[k]?=be v):∃d,ds[k]?=be d/\Rep K H d v:=by
 have hk:k<ds.length:=by rw[<-r.length];exact(HJ.mp e).1
 let#[u,q1,q2]:=r.get (HP hk);rw[e]at q1;cases q1;exact#[_,HP hk,q2]
def ie[Jx](i:Nat){tb:TSD}(hp:Vp (U4 X.prog X.w) X.A X.env X.xe)(hc:X.calm=true)(hN:X.N.Nodup)(he:WDE X e te)(hb:WDSs X body tb)(hi:(X.N[i]?=be x)\zA0)(hx:Loc X.env.scope x\zA4)
  (hf:zFN X x\zA2) (hs:(∀y,zFS X e y)\zA3):WDS X (.For (.Name x p) e body [] pos) (dFor i (dItL te) tb):=⟨(cM hp hc (jG he.out) (dR hN hi hx hf) hb.out hs).anti λE s H q=>by
 let#[B,F0,F,z,kp,rs,ED,h,e]:=q;refine#[B,F,z,kp.kf,rs,_,h,λd v F1 H1 g1 hd rd=>?_];split at hd
 .obtain⟨p,vs,rfl,hq,rr⟩:=rep_lst.mp rd;let#[W,w0,d5,out]:=hd;refine#[p,rfl,#[vs,g1.fh.seq (SqL.of hq)],jI (K:=X.K) (a:=p) (xs:=vs) (λk s' H'=>∃F' z',Kept B F0 F' H'/\Same F1 F'/\RepS X.K B F' H' z' s'/\W k z') #[F1,z,kp.grow g1,Same.refl F1,rs.grow g1,w0] (λk s' H' _ ⟨F',z',k',g',r',w'⟩=>k'.fh.seq (g'.seq (SqL.of hq))) ?_ ?_]
  .rintro k y s' H' hk⟨F',z',k',g',r',w'⟩;let#[d,hd,ry]:=rr.get' hk;refine#[B,F',F',_,#[k'.bh,k'.fh,Same.refl F',λb h1 _=>h1,k'.eb,k'.jf.trans k'.f0,λb h1 h2=>k'.out b (k'.jo b h1 h2) h2],r'.set (ry.mono g'),_,d5 k d z' hd w',?_];have up:∀{F2 H2:Hp},Kept B F' F2 H2->Kept B F0 F2 H2:=λk2=>#[k2.bh,k2.fh,k'.f0.trans k2.f0,λb h1 h2=>k2.out b (k'.out b h1 h2) h2,k'.eb,k'.jf,k'.jo];exact#[λz3 s3 F3 H3 k3 h3 r3=>#[F3,z3,up k3,g'.trans k3.f0,r3,h3],λd v F3 H3 k3=>e.rt d v F3 H3 (up k3),λz3 s3 F3 H3 k3=>e.nx z3 s3 F3 H3 (up k3),λz3 s3 F3 H3 k3 h3 r3=>#[F3,z3,up k3,g'.trans k3.f0,r3,h3]]
  .rintro s' H'⟨F',z',k',g',r',w'⟩;exact e.nx z' s' F' H' k' (out z' (by rw[<-rr.length];exact w')) r'
 .obtain⟨p,vs,rfl,hq,rr⟩:=rep_rol.mp rd;let#[W,w0,d5,out]:=hd;refine#[p,rfl,#[vs,g1.fh.seq hq],jI (K:=X.K) (a:=p) (xs:=vs) (λk s' H'=>∃F' z',Kept B F0 F' H'/\Same F1 F'/\RepS X.K B F' H' z' s'/\W k z') #[F1,z,kp.grow g1,Same.refl F1,rs.grow g1,w0] (λk s' H' _ ⟨F',z',k',g',r',w'⟩=>k'.fh.seq (g'.seq hq)) ?_ ?_]
  .rintro k y s' H' hk⟨F',z',k',g',r',w'⟩;let#[d,hd,ry]:=rr.get' hk;refine#[B,F',F',_,#[k'.bh,k'.fh,Same.refl F',λb h1 _=>h1,k'.eb,k'.jf.trans k'.f0,λb h1 h2=>k'.out b (k'.jo b h1 h2) h2],r'.set (ry.mono g'),_,d5 k d z' hd w',?_];have up:∀{F2 H2:Hp},Kept B F' F2 H2->Kept B F0 F2 H2:=λk2=>#[k2.bh,k2.fh,k'.f0.trans k2.f0,λb h1 h2=>k2.out b (k'.out b h1 h2) h2,k'.eb,k'.jf,k'.jo];exact#[λz3 s3 F3 H3 k3 h3 r3=>#[F3,z3,up k3,g'.trans k3.f0,r3,h3],λd v F3 H3 k3=>e.rt d v F3 H3 (up k3),λz3 s3 F3 H3 k3=>e.nx z3 s3 F3 H3 (up k3),λz3 s3 F3 H3 k3 h3 r3=>#[F3,z3,up k3,g'.trans k3.f0,r3,h3]]
  .rintro s' H'⟨F',z',k',g',r',w'⟩;exact e.nx z' s' F' H' k' (out z' (by rw[<-rr.length];exact w')) r'
 .exact hd.elim⟩
def cF[Jx](i:Nat){p1 p2:Vf}{tb:TSD}(hp:Vp (U4 X.prog X.w) X.A X.env X.xe)(hc:X.calm=true)(hN:X.N.Nodup)(hm:X.mg "range"=w6)(he:WDE X e te)(hb:WDSs X body tb)(hg:Gl X "range"\zA0)(hi:(X.N[i]?=be x)\zA0)(hx:Loc X.env.scope x\zA4)
  (hf:zFN X x\zA2) (hs:(∀y,zFS X (.Call (.Name "range" p1) [e] [] p2) y)\zA3) (v3:zSE X e []\zA0) (i9:(U9 [e] X.env=[(false,Vc e X.env)])\zA0):WDS X (.For (.Name x p) (.Call (.Name "range" p1) [e] [] p2) body [] pos) (dFor i (dItR te) tb):=⟨(cM hp hc (jH hg hm (bt he.out pa_nil v3) i9) (dR hN hi hx hf) hb.out hs).anti λE s H q=>by
 let#[B,F0,F,z,kp,rs,ED,h,e]:=q;refine#[B,F,z,kp.kf,rs,_,h,λd v F1 H1 g1 hd rd=>?_];split at hd
 .rename_i n;let#[#[b1,b2],W,w0,d5,out]:=hd;have hl:((HC n.toNat).map λk=>D.int ((k:Nat):Int)).length=n.toNat:=by simp
  refine#[n,by rw[rep_int.mp rd],Md,b2,jJ (lo:=0) (n:=n.toNat) (λk s' H'=>∃F' z',Kept B F0 F' H'/\RepS X.K B F' H' z' s'/\W k z') #[F1,z,kp.grow g1,rs.grow g1,w0] ?_ ?_]
  .rintro k s' H' hk⟨F',z',k',r',w'⟩;have e1:(0:Int)+(k:Int)=(k:Int):=by lia
   exact#[B,F0,F',_,k',r'.set (d:=.int (k:Int)) (rep_int.mpr (by rw[e1])),_,d5 k (.int (k:Int)) z' (by simp[hk]) w',#[λz3 s3 F3 H3 k3 h3 r3=>#[F3,z3,k3,r3,h3],e.rt,e.nx,λz3 s3 F3 H3 k3 h3 r3=>#[F3,z3,k3,r3,h3]]]
  .rintro s' H'⟨F',z',k',r',w'⟩;exact e.nx z' s' F' H' k' (out z' (by rw[hl];exact w')) r'
 .exact hd.elim⟩
end
section
variable {P:U5}{w:U'}{K:Ex}{mg:Lq->Option Os}{base:Heap}
variable{N ps:List Lq}
def _root_.L2.Fun.okD{x qual:Lq}{st:U6}{f:Pi}{fd:Vd}{k:Nat}{S:SpD}(T:Fun K x qual st f fd)(F:FnScope N ps (ag st))(len:∀ds R,S ds R->ds.length=ps.length)
  (a9:∀(cdv:Os) (A:U_) (outer:List VP) (s:SB) (H:Hp) (E:XK) (J:Jx),Room k (A.deeper (Vg qual (ag st) s.heap.objs.size f cdv))->
   ∃t,DSs (cxOf (Exc.CX1 P w) P w K mg base N qual (ag st) f cdv A outer s H E).nox (aJ st) t/\∀ds R,S ds R->t {nx:=λ_=>R .non,rt:=R} (startD N ds)):FnOk P w K mg base (Exc.CX1 P w) (k+1) f fd ps (lSp K S):=by
 refine Fun.okC T F (λvs H Q E h=>?_) (λcdv A outer s H vs Q E hr h=>?_)
 .obtain⟨F,ds,fh,rs,R,h,_⟩:=h;rw[rs.length];exact len ds R h
 .obtain⟨F,ds,fh,rs,R,h,q⟩:=h
  letI:Jx:=#[H,F,λ_ _ _=>False]
  let#[t,ht,hq]:=a9 cdv A outer s H E inferInstance hr;refine#[_,ht.nox,H,F,F,startD N ds,#[Same.refl H,fh,Same.refl F,λ_ h _=>h,rfl,Same.refl F,λ_ h _=>h],dS rs,_,hq ds R h,#[λz' s' F' H' k hn _=>q _ _ F' H' #[k.f0,k.fh,k.bh,k.out] hn (rep_non.mpr rfl),λd v F' H' k hd rd=>q d v F' H' #[k.f0,k.fh,k.bh,k.out] hd rd,λ_ _ _ _ _ h _=>h.elim,λ_ _ _ _ _ h _=>h.elim]]
def Tx.okD{x:Lq}{st:U6}{k:Nat}{S:SpD}(T:Tx K mg x st ps)(F:FnScope N ps (ag st))(len:∀ds R,S ds R->ds.length=ps.length)
  (a9:∀(f:Pi) (cdv:Os) (A:U_) (outer:List VP) (s:SB) (H:Hp) (E:XK) (J:Jx),Room k (A.deeper (Vg x (ag st) s.heap.objs.size f cdv))->
   ∃t,DSs (cxOf (Exc.CX1 P w) P w K mg base N x (ag st) f cdv A outer s H E).nox (aJ st) t/\∀ds R,S ds R->t {nx:=λ_=>R .non,rt:=R} (startD N ds)):CalD P w K mg base (k+1) x ps S:=by
 let#[f,fd,T,hb,hm]:=T;exact#[f,fd,T.okD F len λcdv A outer s H E J hr=>a9 f cdv A outer s H E J hr,hb,T.kp,hm]
end
def fq:SpD:=λds R=>∃ns:List Int,ds=[.rol (ns.map D.int)]/\ns.length<=63/\R (.bl true)
def zO{a:Pi}{ns:List Int}(hl:ns.length<=63)(hS:SqL K H a (ns.map V.int)){E:XK}:lSp K fq [.ref a] H (λv _=>v=.bl true) E:=
 #[H,[.rol (ns.map D.int)],Same.refl H,reps_cons.mpr #[_,_,rfl,rep_rol.mpr #[a,_,rfl,hS,Reps.ints.mpr rfl],reps_nil.mpr rfl],λd=>d=.bl true,#[ns,rfl,hl,rfl],λd v F' H' _ hd rd=>by subst hd;exact rep_bl.mp rd]
section
variable {X:Cx}{a b c e:U7}{ta tb tc te:TD}{pos:Vf}
variable{p:Vf}{es:List U7}{t:TDA}
def ky[Jx]{x:Lq}{T:String}{r:List V->Hp->VK->Prop}{rd:RDn}(hc:bI X (.type T) r)(L:cz X.K r rd)(hm:X.mg x=w6)(hv:Vl x=be (.type T))(ha:DA X (e::es) t)(hg:Gl X x\zA0)(hn:(x≠"__name__")\zA1)(d6:zND x\zA1)
  (he:zSE X e es\zA0) (c_:zPL X pos es\zA0):DE X (.Call (.Name x p) (e::es) [] pos) (dCB rd t):=(qM hc hg hm hv ha hn d6 he c_).anti λs H Q h=>by
 let#[B,F,z,kf,rs,R,h1,h2]:=h;have fh:=kf.fh;refine#[B,F,z,kf,rs,_,h1,λds vs F1 H1 g1 hx rx=>?_];exact L ds vs F1 H1 R Q g1.fh hx rx λd w F' H' g=>h2 d w F' H' (g1.trans g)
def rdStr:RDn:=λds R=>match ds with|[.int i]=>i.natAbs<18446744073709551616/\R (.str (toString i))|_=>False
variable{K:Ex}
def zP:cz K (λxs H Q=>∃i,xs=[.int i]/\i.natAbs.log2<1920/\Q (.str (toString i)) H) rdStr:=by
 intro ds vs F H R Q fh h rx q;unfold rdStr at h;split at h
 .obtain⟨v,r,rfl,h1,h2⟩:=reps_cons.mp rx;rw[reps_nil.mp h2,rep_int.mp h1];refine#[_,rfl,?_,q _ _ F H (Grow.refl fh) h.2 (rep_str.mpr rfl)];rename_i i;by_cases h0:i.natAbs=0
  .rw[h0];decide
  .have:=(Kw h0).mpr (show i.natAbs<2^64 from h.1);lia
 .exact h.elim
def cR[Jx](hm:X.mg "str"=w6)(ha:WDA X [e] t)(hg:Gl X "str"\zA0)(he:zSE X e []\zA0):WDE X (.Call (.Name "str" p) [e] [] pos) (dCB rdStr t):=#[ky ym zP hm PyProof.Rows.boot_str ha.out hg Mh Mh he]
def kz:RDn:=λds R=>kd1 ds λx=>match x with
 |.int i=>R (.int i)
 |.bl k=>R (.int (if k then 1 else 0))
 |.str x=>∃n,(PySem.intText? x=be n/\x.length<=640)/\R (.int n)
 |_=>False
def rW:bI X (.type "int") (λxs H Q=>((∃i,xs=[.int i]/\Q (.int i) H)\/∃k,xs=[.bl k]/\Q (.int (if k then 1 else 0)) H)\/∃x n,xs=[.str x]/\PySem.intText? x=be n/\x.length<=640/\Q (.int n) H):=by
 intro pins s σ H xs us Q I r h;rcases h with h|⟨x,n,rfl,h1,h2,q⟩
 .exact yl pins s σ H xs us Q I r h
 .obtain⟨u,rfl,t,rfl⟩:=vals1 r;exact PySem.W.KIN.call_text h1 h2 #[.int n,H,I.tok _,#[_,rfl],q]
def rX:cz K (λxs H Q=>((∃i,xs=[.int i]/\Q (.int i) H)\/∃k,xs=[.bl k]/\Q (.int (if k then 1 else 0)) H)\/∃x n,xs=[.str x]/\PySem.intText? x=be n/\x.length<=640/\Q (.int n) H) kz:=by
 intro ds vs F H R Q fh h rx q;replace h:=kd1.of h;let#[x,rfl,h]:=h;let#[v,r,rfl,h1,h2]:=reps_cons.mp rx;rw[reps_nil.mp h2];cases x with
 |int i=>
  rw[rep_int.mp h1];exact .inl (.inl #[_,rfl,q _ _ F H (Grow.refl fh) h (rep_int.mpr rfl)])
 |bl k=>
  rw[rep_bl.mp h1];exact .inl (.inr #[_,rfl,q _ _ F H (Grow.refl fh) h (rep_int.mpr rfl)])
 |str x=>
  rw[rep_str.mp h1];let#[n,#[e1,e2],h]:=h;exact .inr #[_,n,rfl,e1,e2,q _ _ F H (Grow.refl fh) h (rep_int.mpr rfl)]
 |_=>exact False.elim h
def gu[Jx](hm:X.mg "int"=w6)(ha:WDA X [e] t)(hg:Gl X "int"\zA0)(he:zSE X e []\zA0):WDE X (.Call (.Name "int" p) [e] [] pos) (dCB kz t):=#[ky rW rX hm PyProof.Rows.boot_int ha.out hg Mh Mh he]
def rY:RDn:=λds R=>kd1 ds λx=>match x with|.lst xs=>R (.lst xs)|.tup xs=>R (.lst xs)|.rol xs=>R (.lst xs)|_=>False
def zQ:cz K (λxs H Q=>∃p ys,xs=[.ref p]/\(SqL K H p ys\/SqT K H p ys)/\∀l,H l=w6->Q (.ref l) (upd H l (.lst ys))) rY:=by
 intro ds vs F H R Q fh h rx q;replace h:=kd1.of h;let#[x,rfl,h]:=h;let#[v,r,rfl,h1,h2]:=reps_cons.mp rx;rw[reps_nil.mp h2];cases x with
 |lst xs=>
  let#[a,us,rfl,hq,rs]:=rep_lst.mp h1;exact#[a,us,rfl,.inl (fh.seq (SqL.of hq)),λl hl=>q _ _ _ _ (Grow.new fh hl _) h (rep_lst.mpr #[l,us,rfl,aC,rs.mono (aR (fh.free hl) _)])]
 |tup xs=>
  let#[a,us,rfl,hq,rs]:=rep_tup_mp h1;exact#[a,us,rfl,.inr (fh.tup hq),λl hl=>q _ _ _ _ (Grow.new fh hl _) h (rep_lst.mpr #[l,us,rfl,aC,rs.mono (aR (fh.free hl) _)])]
 |rol xs=>
  let#[a,us,rfl,hq,rs]:=rep_rol.mp h1;exact#[a,us,rfl,.inl (fh.seq hq),λl hl=>q _ _ _ _ (Grow.new fh hl _) h (rep_lst.mpr #[l,us,rfl,aC,rs.mono (aR (fh.free hl) _)])]
 |_=>exact False.elim h
def zR[Jx](hm:X.mg "list"=w6)(ha:WDA X [e] t)(hg:Gl X "list"\zA0)(he:zSE X e []\zA0):WDE X (.Call (.Name "list" p) [e] [] pos) (dCB rY t):=#[ky za zQ hm PyProof.Rows.boot_list ha.out hg Mh Mh he]
def rZ:RDn:=λds R=>kd2 ds λx y=>kdI x λi=>kdI y λj=>R (.int (if j>i then j else i))
def se:RDn:=λds R=>kd2 ds λx y=>kdI x λi=>kdI y λj=>R (.int (if j<i then j else i))
def zS:cz K (λxs H Q=>∃i j,xs=[.int i,.int j]/\Q (.int (if j>i then j else i)) H) rZ:=by
 intro ds vs F H R Q fh h rx q;replace h:=kd2.of h;let#[x,y,rfl,h]:=h;replace h:=kdI.of h;let#[i,rfl,h]:=h;replace h:=kdI.of h;let#[j,rfl,h]:=h;let#[v,r,rfl,h1,h2]:=reps_cons.mp rx;let#[v',r',rfl,h3,h4]:=reps_cons.mp h2;rw[reps_nil.mp h4,rep_int.mp h1,rep_int.mp h3];exact#[_,_,rfl,q _ _ F H (Grow.refl fh) h (rep_int.mpr rfl)]
def zT:cz K (λxs H Q=>∃i j,xs=[.int i,.int j]/\Q (.int (if j<i then j else i)) H) se:=by
 intro ds vs F H R Q fh h rx q;replace h:=kd2.of h;let#[x,y,rfl,h]:=h;replace h:=kdI.of h;let#[i,rfl,h]:=h;replace h:=kdI.of h;let#[j,rfl,h]:=h;let#[v,r,rfl,h1,h2]:=reps_cons.mp rx;let#[v',r',rfl,h3,h4]:=reps_cons.mp h2;rw[reps_nil.mp h4,rep_int.mp h1,rep_int.mp h3];exact#[_,_,rfl,q _ _ F H (Grow.refl fh) h (rep_int.mpr rfl)]
def gv[Jx](hc:X.calm=true)(hm:X.mg "max"=w6)(ha:WDA X [e,a] t)(hg:Gl X "max"\zA0)(he:zSE X e [a]\zA0)(c_:zPL X pos [a]\zA0):WDE X (.Call (.Name "max" p) [e,a] [] pos) (dCB rZ t):=#[ib (yj hc) zS hm PyProof.Rows.boot_max ha.out hg Mh Mh he c_]
def zU[Jx](hc:X.calm=true)(hm:X.mg "min"=w6)(ha:WDA X [e,a] t)(hg:Gl X "min"\zA0)(he:zSE X e [a]\zA0)(c_:zPL X pos [a]\zA0):WDE X (.Call (.Name "min" p) [e,a] [] pos) (dCB se t):=#[ib (yk hc) zT hm PyProof.Rows.boot_min ha.out hg Mh Mh he c_]
def cS:List D->Option (List Lq)
 |[]=>be []
 |.str x::r=>(cS r).map (x::·)
 |_=>w6
def sf{K:Ex}{F:Hp}:∀{ds:List D} {xs:List Lq} {vs:List V} {us:List Os},cS ds=be xs->Reps K F ds vs->Vals vs us->StrsAre us xs
 |[],xs,vs,us,e,r,q=>by
  cases e;rw[reps_nil.mp r]at q;cases q;exact .nil
 | .str x::ds,xs,vs,us,e,r,q=>by
  let#[v,r',rfl,h1,h2]:=reps_cons.mp r;rw[rep_str.mp h1]at q;cases q with
  |cons q1 q2=>
   let#[t,rfl]:=q1;cases e2:cS ds with
   |none=>simp[cS,e2]at e
   |some ys=>
    simp[cS,e2]at e;subst e;exact .cons x t (sf e2 h2 q2)
def zV:V->List V->Hp->VK->Prop:=λx vs H Q=>∃t_ l xs ys,x=.str t_/\vs=[.ref l]/\H l=be (.lst xs)/\(∀us,Vals xs us->StrsAre us ys)/\(ys.map (·.length)).sum+ys.length*t_.length<=16777216/\Q (.str (Txt.join t_ ys)) H
def zW:MtR X "str.join" zV:=by
 intro pins s σ H x vs v us Q I rx rv h;let#[t_,l,xs,ys,rfl,rfl,hl,hs,hz,q]:=h;let#[t,rfl]:=rx;let#[u,rfl,ru]:=vals1 rv;cases ru;let#[its,r,pl,_]:=I.list (SqL.of hl);exact PyProof.Rows.join_list pl.isList (by simpa using hs its r) hz λt' k=>#[.str _,H,I.tok _,#[_,rfl],q]
def zX(t_:Lq)(te:TD):TD:=λz R=>te z λx=>match x with
 |.lst ds=>∃ys,cS ds=be ys/\(ys.map (·.length)).sum+ys.length*t_.length<=1000000/\R (.str (Txt.join t_ ys))
 |_=>False
variable{k:Nat}
def kA[Jx]{t_:Lq}{p1 b7 a8:Vf}(he:WDE X e te)(j7:zSE X e []\zA0)
  (b_:(Vb (.Constant (.str t_) k p1) "join" X.env (Vc (.Constant (.str t_) k p1) X.env)=Vc (.Constant (.str t_) k p1) X.env)\zA0)
  (d_:zHF X a8 [e]\zA0)
  (c9:((b7.endLine==a8.line)=true)\zA0):WDE X (.Call (.Attribute (.Constant (.str t_) k p1) "join" b7) [e] [] a8) (zX t_ te):=⟨(du PySem.F.plainAttrs_str PySem.F.slot_str_join PySem.F.type_str_join zW pY (bt he.out pa_nil j7) b_ d_ c9 j7).anti λs H Q q=>by
 let#[B,F,z,kf,rs,R,h1,h2]:=q;have fh:=kf.fh;refine#[rfl,?_];refine#[B,F,z,kf,rs,_,h1,λx u F1 H1 g1 hx rx=>?_];split at hx
 .obtain⟨ys,e1,e2,hx⟩:=hx;let#[l,vs,rfl,hq,rr]:=rep_lst.mp rx;exact#[t_,l,vs,ys,rfl,rfl,g1.fh _ _ hq,λus q=>sf e1 rr q,HG e2 Mh,h2 _ _ F1 H1 g1 hx (rep_str.mpr rfl)]
 .exact hx.elim⟩
def dOix(i:Nat)(tb:TD):TD:=λz R=>match z[i]? with
 |some (be (.own ds))=>tb z λy=>match y with|.int k=>∃d,atI ds k=be d/\R d|_=>False
 |_=>False
def zY[Jx](i:Nat){x:Lq}(hb:WDE X b tb)(hN:(X.N[i]?=be x)\zA0)(hv:Vis X.env.scope x\zA5)(hd:zND x\zA1)
  (h_:zNC x\zA1) (hs:eY b\zA6):WDE X (.Subscript (.Name x p) b pos) (dOix i tb):=⟨(pe_ix ix_list (dm hN hv hd h_) hb.out hs).anti λs H Q q=>by
 let#[B,F,z,kf,rs,R,h1,h2]:=q;have fh:=kf.fh;unfold dOix at h1;split at h1
 .rename_i ds ez;let#[a,vs,q1,q2,q3,q4,q5]:=rs.own i ds ez;refine#[.ref a,q1,B,F,z,kf,rs,_,h1,λy v F1 H1 g1 hy ry=>?_];split at hy
  .obtain⟨d,e1,hR⟩:=hy;let#[w,e2,j6]:=(q5.mono g1.ff).at e1;exact#[a,vs,_,w,rfl,rep_int.mp ry,SqL.of (g1.hh _ _ q2),e2,h2 d w F1 H1 g1 hR j6]
  .exact hy.elim
 .exact h1.elim⟩
def cutD(xs:List D)(lo hi:Option Int):List D:=(xs.drop (HT.sIx xs.length 0 lo)).take (HT.sIx xs.length xs.length hi-HT.sIx xs.length 0 lo)
def Reps.drop{K:Ex}{F:Hp}:∀(n:Nat) {xs:List D} {us:List V},Reps K F xs us->Reps K F (xs.drop n) (us.drop n)
 |0,_,_,r=>r
 |n+1,[],us,r=>by rw[reps_nil.mp r];exact reps_nil.mpr rfl
 |n+1,x::xs,us,r=>by
  let#[u,ur,rfl,_,a2]:=reps_cons.mp r;exact Reps.drop n a2
def Reps.take{K:Ex}{F:Hp}:∀(n:Nat) {xs:List D} {us:List V},Reps K F xs us->Reps K F (xs.take n) (us.take n)
 |0,_,_,_=>reps_nil.mpr rfl
 |n+1,[],us,r=>by rw[reps_nil.mp r];exact reps_nil.mpr rfl
 |n+1,x::xs,us,r=>by
  let#[u,ur,rfl,a1,a2]:=reps_cons.mp r;exact reps_cons.mpr #[u,_,rfl,a1,Reps.take n a2]
def Reps.cut{F:Hp}{xs:List D}{us:List V}(r:Reps K F xs us)(lo hi:Option Int):Reps K F (cutD xs lo hi) (cutV us lo hi):=by
 unfold cutD cutV;rw[r.length];exact(r.drop _).take _
def zZ(ta tb:TD):TD:=λz R=>ta z λx=>tb z λy=>match x,y with|.lst xs,.int i=>R (.lst (cutD xs (be i) w6))|_,_=>False
def Aa[Jx]{p2:Vf}(ha:WDE X a ta)(hb:WDE X b tb):WDE X (.Subscript a (.Slice (be b) w6 w6 p2) pos) (zZ ta tb):=⟨(gY gZ ha.out (jU hb.out) jT).anti λs H Q q=>by
 let#[B,F,z,kf,rs,R,h1,h2]:=q;have fh:=kf.fh;refine#[B,F,z,kf,rs,_,h1,λx u F1 H1 g1 hx rx=>?_];refine#[B,F1,z,kf.grow g1,rs.grow g1,_,hx,λy v F2 H2 g2 hy ry=>?_];split at hy
 .refine#[_,rep_int.mp ry,?_];let#[l,vs,rfl,hq,rr]:=rep_lst.mp (rx.mono g2.ff);refine#[l,vs,rfl,SqL.of (g2.fh _ _ hq),λp hp=>?_];exact h2 _ _ _ _ (g1.trans (g2.trans (Grow.new g2.fh hp _))) hy (rep_lst.mpr #[p,_,rfl,aC,(rr.cut _ _).mono (aR (g2.fh.free hp) _)])
 .exact hy.elim⟩
def Ab{t:TGs}{n:Nat}(hc:X.calm=true)(h:PGs X es t)(hn:((Va es X.env).length=n)\zA0)(p_:((Va es X.env).findIdx? (·.1)=none)\zA0):
  PG X (.Tuple es k pos) (λv σ H Q=>∃a xs,v=.ref a/\SqL X.K H a xs/\xs.length=n/\t xs σ H Q):=by
 intro pins s σ H v u Q I r hw;let#[a,xs,e1,hq,hl,hw]:=hw;subst e1;cases r;let#[its,rv,pl,hz]:=I.list hq;have e2:(Va es X.env).length=its.toArray.size:=by simp[hn,<-hl,rv.length]
 rw[PyProof.Rows.assign_Tuple];refine P3 (Vz ?_);unfold unpack;rw[e2,p_];refine P3 (Vh (kun_itemsOf (I.ok.hd hc) pl.isList λh' hx=>?_));have I1:Inv X pins σ H {s with heap:=h'}:=I.kept (t':=s.toks) λb o e=>hx b o (HD (Heap.lt_size e)) e;exact h pins _ σ H xs _ Q I1 (by simpa using rv) hw
def Ac(is:List Nat)(te:TD):TSD:=λE z=>te z λx=>match x with|.lst ds=>ds.length=is.length/\E.nx (cn is ds z)|_=>False
def si[Jx]{is:List Nat}(hc:X.calm=true)(he:WDE X e te)(hg:DGs X es is)(hn:((Va es X.env).length=is.length)\zA0)(p_:((Va es X.env).findIdx? (·.1)=none)\zA0)
  (hs:(VD [.Tuple es k p] e pos.line X.env=pure false)\zA0) (hw:(VE [.Tuple es k p] e X.env=pure none)\zA0) (h1:((Va [.Tuple es k p] X.env).map (·.2)=[VM (.Tuple es k p) X.env])\zA0):WDS X (.Assign [.Tuple es k p] e pos) (Ac is te):=⟨by
 have he:=he.out;let#[u,hu,kk]:=hg;refine(jD he (Ab hc hu hn p_) hs hw h1).anti λE s H q=>?_;let#[B,F0,F,z,k,rs,ED,h,e]:=q;refine#[B,F,z,k.kf,rs,_,h,λd v F' H' g hd rd=>?_];split at hd
 .obtain⟨p,vs,rfl,hq,rr⟩:=rep_lst.mp rd;exact#[p,vs,rfl,SqL.of (g.fh _ _ hq),by rw[rr.length];exact hd.1,kk _ vs z s B F' H' _ hd.1 rr (rs.grow g) λs' r'=>e.nx _ _ F' H' (k.grow g) hd.2 r']
 .exact hd.elim⟩
end
end My
namespace L2
def kB{env:VP}:∀(names:List (Lq×VJ)) (w9:List (Lq×Pi)),(∀n,(n,NameKind.free)∈names->∃c,env.cells.lookup n=be c)->
  ∃cl,(forIn (m:=WB) names w9 λx r=>match x with
     |(name,kind)=>if(kind==NameKind.free)=true then(do let a <-cellOf env name;pure (ForInStep.yield ((name,a)::r)))else pure (ForInStep.yield r))=(pure cl:WB (List (Lq×Pi)))/\
   (∀n c,cl.lookup n=be c->env.cells.lookup n=be c\/w9.lookup n=be c)/\(∀n,(n,NameKind.free)∈names->∃c,cl.lookup n=be c)/\∀n c,w9.lookup n=be c->∃c',cl.lookup n=be c'
 |[],w9,_=>#[w9,rfl,(λ_ _ h=>.inr h),(λ_ h=>by cases h),(λ_ c h=>#[c,h])]
 |(name,kind)::r,w9,h=>by
  by_cases hk:(kind==NameKind.free)=true
  .have ek:kind=.free:=by simpa using hk
   subst ek;let#[c,hc]:=h name Hy;let#[cl,e,p1,p2,p3]:=kB r ((name,c)::w9) λn q=>h n (Hz _ q);refine#[cl,?_,λn c' q=>?_,λn q=>?_,λn c' q=>?_]
   .rw[JU];have ec:cellOf env name=pure c:=by unfold cellOf;rw[hc]
    simp only[hk,if_true,ec];exact e
   .rcases p1 n c' q with z|z
    .exact .inl z
    .rw[HM]at z;split at z
     .rename_i q2;have en:n=name:=by simpa using q2
      cases z;exact .inl (en ▸ hc)
     .exact .inr z
   .rcases Hx.mp q with z|z
    .cases z;exact p3 _ c (by rw[HM];simp)
    .exact p2 n z
   .by_cases hn:n=name
    .subst hn;exact p3 n c (by rw[HM];simp)
    .exact p3 n c' (by rw[HM,beq_eq_false_iff_ne.mpr hn];exact q)
  .obtain⟨cl,e,p1,p2,p3⟩:=kB r w9 λn q=>h n (Hz _ q);refine#[cl,?_,p1,λn q=>?_,p3]
   .rw[JU];simp only[hk];exact e
   .rcases Hx.mp q with z|z
    .cases z;exact absurd rfl hk
    .exact p2 n z
def closure_is{env:VP}{scope:Vy}(h:∀n,(n,NameKind.free)∈scope.names->∃c,env.cells.lookup n=be c):
  ∃cl,closureFor scope env=pure cl/\(∀n c,cl.lookup n=be c->env.cells.lookup n=be c)/\∀n,(n,NameKind.free)∈scope.names->∃c,cl.lookup n=be c:=by
 let#[cl,e,p1,p2,_]:=kB scope.names [] h;refine#[cl,?_,λn c q=>(p1 n c q).elim id (λz=>nomatch z),p2];unfold closureFor;show(forIn (m:=WB) scope.names [] _>>=λs=>pure s)=pure cl;rw[e];rfl
def ig{env:VP}:∀{names:List (Lq×VJ)} {n:Lq} {k:VJ},(∀y∈names,y.2≠.cell)->k=.cell\/k=.free->
  (names.map λ(n,k)=>if(k==NameKind.free&&env.scope.kind== .function&&env.kindOf n==be .cell)then(n,NameKind.cell)else(n,k)).lookup n=be k->(n,NameKind.free)∈names
 |[],_,_,_,_,h=>by simp at h
 |(a,b)::r,n,k,hc,hk,h=>by
  rw[HR]at h;by_cases hb:(b==NameKind.free&&env.scope.kind== .function&&env.kindOf a==be .cell)=true
  .have eb:b=.free:=by
    have:=(HV _ _ ▸ ((HV _ _ ▸ hb).1)).1;simpa using this
   simp only[hb,if_true]at h;rw[HM]at h;split at h
   .rename_i q;have en:n=a:=by simpa using q
    subst en eb;exact Hy
   .exact Hz _ (ig (λy q=>hc y (Hz _ q)) hk h)
  .simp only[hb]at h;rw[if_neg Mn,HM]at h;split at h
   .rename_i q;have en:n=a:=by simpa using q
    cases h;subst en;rcases hk with z|z
    .exact absurd z (hc _ Hy)
    .rw[z];exact Hy
   .exact Hz _ (ig (λy q=>hc y (Hz _ q)) hk h)
section
variable {prog:U5}{w:U'}{A:U_}{R:Result->SB->Prop}{s:SB}
abbrev sj(k9:List U7)(env:VP):WB Bool:=forIn k9 true λc r=>if r=true then do let ok <-isTrue c env (Vc c env);pure (ForInStep.yield ok)else pure (ForInStep.yield r)
def Ad{j5 i6 iter:U7}{k9:List U7}{scope:Vy}{pos:Vf}{it w9:Os}{env:VP}(I:Nat->SB->Prop)
  (d5:∀n s,I n s->U8 (U4 prog w) A (pyNext it) (λr s₁=>match r with
   |none=>R (.ok .next) s₁
   |some v=>U8 (U4 prog w) A (V0 i6 it v) (λ_ s₁'=>U8 (U4 prog w) A (VM i6 env v) (λ_ s₂=>U8 (U4 prog w) A (sj k9 env) (λok s₂'=>if ok=true then U8 (U4 prog w) A (Vc j5 env) (λx s₃=>
     U8 (U4 prog w) A (call (.builtin "list.append") [w9,x]) (λ_ s₄=>∃m,m<n/\I m s₄) (λ_ _=>False) s₃)
     (λ_ _=>False) s₂' else ∃m,m<n/\I m s₂') (λ_ _=>False) s₂) (λ_ _=>False) s₁') (λ_ _=>False) s₁) (λ_ _=>False) s)
  (n:Nat) (h:I n s):
  V6 (U4 prog w) A (.compLoop (.ListComp j5 [#[i6,iter,k9,0]] scope pos) 0 it w9 env) R s:=by
 refine codeAny_loop rfl I (λn s hI=>?_) n h;show U8 _ _ ((compTurn (.ListComp j5 [#[i6,iter,k9,0]] scope pos) 0 it w9 env).onRaise (λx=>do VW x env;theTreesLotGoes x)) _ _ s;refine wpAny_noted ?_;rw[compTurn_list];refine P3 (Vz (P3 (Vj (d5 n s hI) (λr s₁ h₁=>?_) λ_ _ h'=>h'.elim)));cases r with
 |none=>exact SZ h₁
 |some v=>
  refine P3 (Vj h₁ (λ_ s₁' h₁'=>P3 (Vj h₁' (λ_ s₂ h₂=>P3 (Vj h₂ (λok s₃ h₃=>?_) λ_ _ h'=>h'.elim)) λ_ _ h'=>h'.elim)) λ_ _ h'=>h'.elim);cases ok with
  |false=>exact SZ #[rfl,h₃]
  |true=>
   exact P3 (P3 (Vj h₃ (λx s₄ h₄=>P3 (Vj h₄ (λ_ s₅ h₅=>SZ (SZ #[rfl,h₅])) λ_ _ h'=>h'.elim)) λ_ _ h'=>h'.elim))
end
def ca(X:Cx)(scope:Vy)(cl:List (Lq×Pi))(x:Lq)(s₀:SB)(H₀:Hp)(fp:List Pi):Cx where
 prog:=X.prog
 w:=X.w
 K:=X.K
 mg:=X.mg
 base:=X.base
 A:=X.A
 N:=X.N.map (λn=>if n=x then("":Lq)else n)++[x]
 s₀:=s₀
 H₀:=H₀
 env:=compEnvC scope cl s₀.heap.objs.size X.env
 outer:=X.stack
 stack:=X.stack
 ex:=fp
 fn:=λ_=>false
 calm:=X.calm
 pn:=[]
 xe:=λ_ _=>False
structure CompScope(X:Cx)(scope:Vy)(x:Str):Prop where
 kind:scope.kind=.function
 nocell:∀y∈scope.names,y.2≠.cell
 names:∀y∈scope.names,y.2=.local->scope.names.lookup y.1=be .local
 own:scope.names.lookup x=be .local
 free:∀n,(n,NameKind.free)∈scope.names->X.env.kindOf n=be .cell
 vis:∀n∈X.N,n≠x->Vis (WW scope X.env) n->(n,NameKind.free)∈scope.names
 empty:¬Vis (WW scope X.env) ("":Lq)
 cells:∀n,(n,NameKind.free)∈scope.names->(WW scope X.env).names.lookup n=be .cell
 nd:(X.N.map (λn=>if n=x then("":Lq)else n)++[x]).Nodup
section
variable {X:Cx}{pins:List (Pi×Vk)}{σ:St}{H:Hp}{s:SB}{scope:Vy}{cl:List (Lq×Pi)}{x:Lq}{fp:List Pi}
def sk(I:Inv X pins σ H s)(S:CompScope X scope x)(c1:∀n c,cl.lookup n=be c->X.env.cells.lookup n=be c)(c2:∀n,(n,NameKind.free)∈scope.names->∃c,cl.lookup n=be c)
  (hf:∀b∈fp,FpOk X pins H b) (hl:∀b∈fp,b<s.heap.objs.size):(ca X scope cl x s H fp).Ok where
 mod:=I.ok.mod
 kind:=S.kind
 glob:=I.ok.glob
 blt:=I.ok.blt
 above:=Hw _
 inj:=λy z c h1 h2=>I.ok.inj y z c (c1 y c h1) (c1 z c h2)
 has:=λn hn=>by
  rcases hn with hn|hn
  .exact c2 n (ig S.nocell (.inl rfl) hn)
  .exact c2 n (ig S.nocell (.inr rfl) hn)
 cab:=λ_ _ h=>nomatch h
 hd:=I.ok.hd
 frames:=I.ok.frames
 stk:=.inl rfl
 exf:=λb hb=>#[HD (hl b hb),λy c h=>(hf b hb).2.2.2.2.1 y c (c1 y c h)]
 bs:=I.bs
 bsz:=HG I.ok.bsz I.sz
 noex:=λb o e hb=>by
  have h1:=I.ok.noex b o e;rcases(hf b hb).2.2.2.1 with z|z
  .exact h1 z
  .exact absurd (HQ (Heap.lt_size e) (HG I.ok.bsz z)) (IJ _)
 exfs:=λb hb hs=>by
  rcases Hx.mp (I.stkSub b hs)with z|z
  .exact(hf b hb).2.1 z
  .exact(hf b hb).2.2.1 z
 funs:=I.stack
 frf:=I.stkFree
def so{h':Heap}{t':Nat}(I:Inv X pins σ H s)(S:CompScope X scope x)(c1:∀n c,cl.lookup n=be c->X.env.cells.lookup n=be c)(c2:∀n,(n,NameKind.free)∈scope.names->∃c,cl.lookup n=be c)
  (hf:∀b∈fp,FpOk X pins H b) (hl:∀b∈fp,b<s.heap.objs.size) {m:Lq->Option Os} (hn:h'.Ns s.heap.objs.size m) (k:∀b o,s.heap.get? b=be o->h'.get? b=be o):
  Inv (ca X scope cl x s H fp) [] (σ++[w6]) H {s with heap:=h',toks:=t'}:=by
 refine#[sk I S c1 c2 hf hl,rfl,I.bare,Un.kept k,#[m,hn,λi n v e1 e2 e3=>?_],λn c e=>?_,I.hok.fresh (Hw _),λn c e=>I.freeC n c (c1 n c e),λp hp=>absurd (show p∈([]:List (Pi×Vk))from hp) Mn,I.hok.kept k,?_]
 .have hi:i<σ.length:=by
   rcases IV i σ.length with q|q
   .exact q
   .rw[IL q]at e2;cases hz:i-σ.length with
    |zero=>rw[hz]at e2;simp at e2
    |succ z=>rw[hz]at e2;simp at e2
  rw[Ik hi]at e2;have OA:i<X.N.length:=by rw[<-I.len];exact hi
  have MJ:(X.N.map (λn=>if n=x then("":Lq)else n)++[x])[i]?=be n:=e1;rw[Ik (by simpa using OA),HI,HP OA]at MJ;simp only[Option.map_some,Option.some.injEq]at MJ;by_cases hx:X.N[i]=x
  .rw[if_pos hx]at MJ;subst MJ;exact absurd e3 S.empty
  .rw[if_neg hx]at MJ;subst MJ;have m5:=S.vis _ (Im OA) hx e3;have n_:=S.free _ m5;let#[c,hc]:=c2 _ m5;let#[mX,UC,S8]:=I.loc;let#[u,ru,lk]:=S8 i X.N[i] v (HP OA) e2 (.inr (.inl n_));refine#[u,ru,.inr #[?_,c,hc,?_]]
   .exact .inl (S.cells _ m5)
   .rcases lk with⟨kl,_⟩|⟨_,c',Ld,k8⟩
    .rw[n_]at kl;cases kl
    .have:c=c':=by
      have:=c1 _ c hc;rw[Ld]at this;exact(Option.some.inj this).symm
     subst this;let#[o,ho,hd]:=k8;exact#[o,k _ _ ho,hd]
 .obtain⟨v,o,ho,hd⟩:=I.cell n c (c1 n c e);exact#[v,o,k _ _ ho,hd]
 .show(σ++[w6]).length=(X.N.map _++[x]).length;rw[HF,HF,HE,I.len];rfl
end
def gx(wi:TI)(tt:TT)(j8:TE):TE:=λσ H Q=>wi σ H λJ H1=>∀D,H1 D=w6->∃W:Nat->Nat->Hp->Prop,(∃m,W 0 m (upd H1 D (.lst [])))/\∀i m H,W i m H->
 (J.stop i H/\Q (.ref D) H)\/(J.go i H/\∀x H',J.yld i H x H'->tt (σ++[be x]) H' λb H1=>if b=true then j8 (σ++[be x]) H1 λy H''=>∃vs,H'' D=be (.lst vs)/\vs.length<sizeLine/\∃m',m'<m/\W (i+1) m' (upd H'' D (.lst (vs++[y])))else ∃m',m'<m/\W (i+1) m' H1)
def PIf(X:Cx)(k9:List U7)(t:TT):Prop:=
 ∀(pins:List (Pi×Vk)) (s:SB) (σ:St) (H:Hp) (Q:Bool->Hp->Prop),Inv X pins σ H s->t σ H Q->U8 (U4 X.prog X.w) X.A (sj k9 X.env) (TP X pins σ Q) X.xe s
def pif_nil{X:Cx}:PIf X [] (λ_ H Q=>Q true H):=λpins s σ H Q I q=>wpAny_tests_nil #[H,I,q]
def PIf.anti{X:Cx}{e:List U7}{t t':TT}(h:PIf X e t)(a:∀s H Q,t' s H Q->t s H Q):PIf X e t':=λpins s σ H Q I q=>h pins s σ H Q I (a _ _ _ q)
section
variable {X:Cx}
variable{j5 iter:U7}{k9:List U7}{x:Lq}{px pos:Vf}{scope:Vy}{tt:TT}{j8:TE}
def sq{pins:List (Pi×Vk)}{s2:SB}{σ:St}{H1:Hp}{cl:List (Lq×Pi)}{it:Pi}{fp:List Pi}{tn:Nat->Heap->Prop}{J:It}{Qs:Hp->Prop}{R:Result->SB->Prop}{W:Nat->Nat->Hp->Prop}{m0:Nat}{h₁:Heap}(hc:X.calm=true)(S:CompScope X scope x)
  (hq:∀cl s₀ H₀ fp,PIf (ca X scope cl x s₀ H₀ fp) k9 tt) (he:∀cl s₀ H₀ fp,PE (ca X scope cl x s₀ H₀ fp) j5 j8) (c1:∀n c,cl.lookup n=be c->X.env.cells.lookup n=be c) (c2:∀n,(n,NameKind.free)∈scope.names->∃c,cl.lookup n=be c)
  (I1:Inv X pins σ H1 s2) (T:Turn X.prog X.w X.K (.Name x px) J fp it tn) (st:tn 0 s2.heap) (f1:∀b∈fp,FpOk X pins H1 b) (w0:W 0 m0 (upd H1 s2.heap.objs.size (.lst [])))
  (step:∀i m H,W i m H->(J.stop i H/\Qs H)\/(J.go i H/\∀x H',J.yld i H x H'->tt (σ++[be x]) H' λb H1=>if b=true then j8 (σ++[be x]) H1 λy H''=>∃vs,H'' s2.heap.objs.size=be (.lst vs)/\vs.length<sizeLine/\∃m',m'<m/\W (i+1) m' (upd H'' s2.heap.objs.size (.lst (vs++[y])))else ∃m',m'<m/\W (i+1) m' H1))
  (I4:Inv (ca X scope cl x {s2 with heap:=s2.heap.push {cls:=.type "list",data:=.seq ([]:List Os).toArray},toks:=s2.toks} (upd H1 s2.heap.objs.size (.lst [])) fp) [] (σ++[w6]) (upd H1 s2.heap.objs.size (.lst [])) {s2 with heap:=h₁,toks:=s2.toks+([]:List (Lq×Os)).length}) (t0:tn 0 h₁)
  (Pn:∀H' s4 m,Inv X pins σ H' s4->s4.heap.Ns (s2.heap.push {cls:=.type "list",data:=.seq ([]:List Os).toArray}).objs.size m->H' (s2.heap.push {cls:=.type "list",data:=.seq ([]:List Os).toArray}).objs.size=w6->Qs H'->R (.ok .next) s4):
  V6 (U4 X.prog X.w) X.A (.compLoop (.ListComp j5 [#[.Name x px,iter,k9,0]] scope pos) 0 (.ref it) (.ref s2.heap.objs.size) (compEnvC scope cl (s2.heap.push {cls:=.type "list",data:=.seq ([]:List Os).toArray}).objs.size X.env)) R {s2 with heap:=h₁,toks:=s2.toks+([]:List (Lq×Os)).length}:=by
 have ge:∀b∈fp,b<s2.heap.objs.size:=λb hb=>by
  let#[o,ho,_]:=T.obj _ _ st b hb;exact Heap.lt_size ho
 have I3:Inv X pins σ (upd H1 s2.heap.objs.size (.lst [])) {s2 with heap:=s2.heap.push {cls:=.type "list",data:=.seq ([]:List Os).toArray},toks:=s2.toks}:=I1.lnew (its:=[]) (ys:=[]) .nil (HS _);have m6:∀b∈fp,b<(s2.heap.push {cls:=.type "list",data:=.seq ([]:List Os).toArray}).objs.size:=λb hb=>by
  rw[Heap.size_push];exact JV (ge b hb)
 have Lh:∀b∈fp,FpOk X pins (upd H1 s2.heap.objs.size (.lst [])) b:=λb hb=>#[by rw[ar (HD (ge b hb))];exact(f1 b hb).1,(f1 b hb).2];have OB:=sk (x:=x) (fp:=fp) I3 S c1 c2 Lh m6;generalize hY:ca X scope cl x {s2 with heap:=s2.heap.push {cls:=.type "list",data:=.seq ([]:List Os).toArray},toks:=s2.toks} (upd H1 s2.heap.objs.size (.lst [])) fp=Y at I4 OB;have yP:Y.prog=X.prog:=Pm
 have yW:Y.w=X.w:=Pm
 have yK:Y.K=X.K:=Pm
 have yA:Y.A=X.A:=Pm
 have yN:Y.N=X.N.map (λn=>if n=x then("":Lq)else n)++[x]:=Pm
 have yE:Y.env=compEnvC scope cl (s2.heap.push {cls:=.type "list",data:=.seq ([]:List Os).toArray}).objs.size X.env:=Pm
 have yX:Y.xe=λ_ _=>False:=Pm
 have yC:Y.calm=true:=by rw[<-hY];exact hc
 have RN:Y.ex=fp:=Pm
 have S9:Y.pn=[]:=Pm
 have S':Y.fs=frs X.stack:=Pm
 have S_:Y.H₀=upd H1 s2.heap.objs.size (.lst []):=Pm
 have RO:Y.s₀={s2 with heap:=s2.heap.push {cls:=.type "list",data:=.seq ([]:List Os).toArray},toks:=s2.toks}:=Pm
 have Ta:PE Y j5 j8:=by rw[<-hY];exact he _ _ _ _
 have Tb:PIf Y k9 tt:=by rw[<-hY];exact hq _ _ _ _
 have q8:∀{H':Hp},(∀b∈fp,H' b=w6)->∀b∈fp,FpOk Y [] H' b:=λ{H'} hn b hb=>by
  have g6:b∈Y.ex:=by rw[RN];exact hb
  exact#[hn b hb,(OB.exf b g6).1,OB.exfs b g6,.inl g6,λn c e=>(OB.exf b g6).2 n c e,by rw[S9];simp]
 have NB:Y.env.scope.names.lookup x=be .local:=by rw[yE];exact lookup_relabel_local S.own
 have Po:Y.N[X.N.length]?=be x:=by rw[yN];simp
 have Tc:Y.N.Nodup:=by rw[yN];exact S.nd
 have Pp:Y.env.locals=(s2.heap.push {cls:=.type "list",data:=.seq ([]:List Os).toArray}).objs.size:=by rw[yE];rfl
 have f6:∀(o:Option V) (H':Hp) (s':SB),Inv Y [] (σ++[o]) H' s'->Inv X pins σ H' s':=λo H' s' I'=>by
  have bs:=I'.base;rw[S',RN,S_,RO]at bs;refine I3.call' (ch:=fp) ?_ bs ?_ I'.bare ?_
  .have:=I'.os;rw[RO]at this;exact this
  .have:=I'.hok;rw[yP,yW]at this;exact this
  .exact λb hb=>#[(Lh b hb).2.2.2.1,(Lh b hb).2.1,(Lh b hb).2.2.2.2.1,(Lh b hb).2.2.2.2.2]
 refine Ad (λn s'=>∃i o H',Inv Y [] (σ++[o]) H' s'/\tn i s'.heap/\(∀b∈fp,H' b=w6)/\W i n H') ?_ m0 #[0,w6,_,I4,t0,λb hb=>(Lh b hb).1,w0];intro n s3#[i,o,H3,I5,t3,f3,w3];rcases step i n H3 w3 with⟨stop,q⟩|⟨go,q⟩
 .have dn:=T.done Y yP yW yK yC i [] s3 _ H3 (λ_ _=>False) I5 (q8 f3) t3 stop;rw[yA]at dn;refine thn dn λr s4 c7=>?_;let#[hr,I6]:=c7;subst hr;let#[m,hn,_]:=I6.loc;have n6:=I6.free;rw[Pp]at hn n6;exact Pn H3 s4 m (f6 o H3 s4 I6) hn n6 q
 .have RQ:=T.item Y yP yW yK yC i [] s3 _ H3 (λ_ _=>False) I5 (q8 f3) t3 go;rw[yA]at RQ;refine thn RQ λr s4 c7=>?_;let#[u,hr,h4]:=c7;subst hr;refine thn h4 λ_ s5 c7=>?_;let#[xv,H5,I6,r5,y5,Lr,O5]:=c7;have Tf:=I6.pinned (q8 O5) (T.obj _ _ Lr);rw[<-yE];refine V9 (eU Tf Tc Po (.inl NB) r5 (λs6 I7=>?_) (.inr NB));have Pq:(σ++[o]).set X.N.length (be xv)=σ++[be xv]:=by
   rw[<-I1.len];simp
  rw[Pq]at I7;have tv:=Tb _ s6 _ H5 _ I7 (q xv H5 y5);rw[yP,yW,yA,yX]at tv;refine thn tv λb Tg c7=>?_;let#[Th,OC,qb]:=c7;cases b with
  |false=>
   let#[m',hm,w7]:=qb;refine#[m',hm,i+1,be xv,_,OC.unpinned,T.keep _ _ _ Lr λb hb ob e=>(OC.pin (b,ob) (HU _ (HU _ (eV hb e)))).1,λb hb=>?_,w7];let#[ob,e,d]:=T.obj _ _ Lr b hb;exact(OC.pin (b,ob) (HU _ (HU _ (eV hb e)))).2.1
  |true=>
  have ev:=Ta _ Tg _ Th _ OC qb;rw[yP,yW,yA,yX]at ev;refine thn ev λyv s7 c7=>?_;let#[y,H6,I8,ry,vs,Tj,b9,m',hm,w7]:=c7;have ap:=jW (X:=Y) _ s7 _ H6 (.ref s2.heap.objs.size) [y] (.ref s2.heap.objs.size) [yv] (λ_ H7=>H7=upd H6 s2.heap.objs.size (.lst (vs++[y]))) I8 rfl (.cons ry .nil) #[_,vs,y,rfl,rfl,Tj,b9,rfl];rw[yP,yW,yA,yX]at ap;refine thn ap λ_ s8 c7=>?_;let#[_,H7,I9,_,e7]:=c7;subst e7;refine#[m',hm,i+1,be xv,_,I9.unpinned,T.keep _ _ _ Lr λb hb ob e=>(I9.pin (b,ob) (HU _ (HU _ (eV hb e)))).1,λb hb=>?_,w7];let#[ob,e,d]:=T.obj _ _ Lr b hb;exact(I9.pin (b,ob) (HU _ (HU _ (eV hb e)))).2.1
def Ae{wi:TI}(hc:X.calm=true)(S:CompScope X scope x)(hi:PI X (.Name x px) iter wi)
  (hq:∀cl s₀ H₀ fp,PIf (ca X scope cl x s₀ H₀ fp) k9 tt) (he:∀cl s₀ H₀ fp,PE (ca X scope cl x s₀ H₀ fp) j5 j8) (hs:(∀y,zFS X iter y)\zA3):
  PE X (.ListComp j5 [#[.Name x px,iter,k9,0]] scope pos) (gx wi tt j8):=by
 intro pins s σ H Q I h;let#[cl,k8,c1,c2]:=closure_is (env:=X.env) (scope:=scope) (λn q=>I.ok.has n (.inl (S.free n q)));rw[eval_ListComp];refine Wo (use:=w6) rfl hs k8 S.kind S.names (thn (hi pins s σ H _ I h) λv s1 h1=>thn h1 λOq s2 h2=>?_);let#[it,fp,tn,J,H1,e,I1,T,st,f1,hr]:=h2;subst e;have ge:∀b∈fp,b<s2.heap.objs.size:=λb hb=>by
  let#[o,ho,_]:=T.obj _ _ st b hb;exact Heap.lt_size ho
 have hD:H1 s2.heap.objs.size=none:=I1.hok.fresh (Hw _);let#[W,#[m0,w0],step]:=hr _ hD;refine Vi (WE S.nocell (by intro y hy;simp at hy) (λh₁ hns₁ hsb₁=>?_) S.kind);have I3:Inv X pins σ (upd H1 s2.heap.objs.size (.lst [])) {s2 with heap:=s2.heap.push {cls:=.type "list",data:=.seq ([]:List Os).toArray},toks:=s2.toks}:=I1.lnew (its:=[]) (ys:=[]) .nil (HS _);have m6:∀b∈fp,b<(s2.heap.push {cls:=.type "list",data:=.seq ([]:List Os).toArray}).objs.size:=λb hb=>by
  rw[Heap.size_push];exact JV (ge b hb)
 have Lh:∀b∈fp,FpOk X pins (upd H1 s2.heap.objs.size (.lst [])) b:=λb hb=>#[by rw[ar (HD (ge b hb))];exact(f1 b hb).1,(f1 b hb).2];have kp:∀b o,(s2.heap.push {cls:=.type "list",data:=.seq ([]:List Os).toArray}).get? b=be o->h₁.get? b=be o:=λb o e=>
  (hsb₁.2 b (HD (Heap.lt_size e))).trans (Heap.get?_push_of_some _ e)
 have I4:=so (x:=x) (fp:=fp) (t':=s2.toks+([]:List (Lq×Os)).length) I3 S c1 c2 Lh m6 hns₁ kp;have Lz:(s2.heap.push {cls:=.type "list",data:=.seq ([]:List Os).toArray}).objs.size≠X.env.locals:=Ix I3.lt;have LA:∀z c,X.env.cells.lookup z=be c->c≠(s2.heap.push {cls:=.type "list",data:=.seq ([]:List Os).toArray}).objs.size:=λz c e=>by
  let#[vv,oo,ho,_]:=I3.cell z c e;exact HD (Heap.lt_size ho)
 have Mp:∀p∈X.pn++pins,p.1≠(s2.heap.push {cls:=.type "list",data:=.seq ([]:List Os).toArray}).objs.size:=λp hp=>HD (Heap.lt_size (I3.pin p hp).1);have u9:=sq (pos:=pos) (iter:=iter) (R:=compPost (U4 X.prog X.w) X.A X.xe w6 (EP X pins σ Q) (.ref s2.heap.objs.size) (s2.heap.push {cls:=.type "list",data:=.seq ([]:List Os).toArray}).objs.size) hc S hq he c1 c2 I1 T st f1 w0 step I4 (T.keep _ _ _ st (λb hb ob e=>kp b ob (Heap.get?_push_of_some _ e))) λH' s4 m IX hn n6 q=>
  #[m,hn,λh' hsb=>#[.ref s2.heap.objs.size,H',IX.turned (t':=s4.toks) (it:=(s2.heap.push {cls:=.type "list",data:=.seq ([]:List Os).toArray}).objs.size) (λb ob hb e=>(hsb.2 b hb).trans e) n6 Lz (.inr I3.sz) LA Mp,rfl,q]]
 exact Wz u9 (T.self _ _ _ _ _ (T.keep _ _ _ st (λb hb ob e=>kp b ob (Heap.get?_push_of_some _ e))) u9)
def sr{y:Lq}{py o7:Vf}{wi:TI}{ix:Nat}(hc:X.calm=true)(S:CompScope X scope x)(hi:PI X (.Name x px) iter wi)
  (hq:∀cl s₀ H₀ fp,PIf (ca X scope cl x s₀ H₀ fp) k9 tt) (he:∀cl s₀ H₀ fp,PE (ca X scope cl x s₀ H₀ fp) j5 j8) (hN:X.N.Nodup) (NC:X.N[ix]?=be y) (hy:Loc X.env.scope y) (hf:zFN X y)
  (Ly:Vn (.ListComp j5 [#[.Name x px,iter,k9,0]] scope pos) (be (.Name y py)) o7.line X.env=pure true) (hs:(∀y,zFS X iter y)\zA3):
  PS X (.Assign [.Name y py] (.ListComp j5 [#[.Name x px,iter,k9,0]] scope pos) o7) (tAsg (gx wi tt j8) (fU ix)):=by
 intro pins s σ H DE I h;have h:wi σ H λJ H1=>∀D,H1 D=w6->∃W:Nat->Nat->Hp->Prop,(∃m,W 0 m (upd H1 D (.lst [])))/\∀i m H,W i m H->
  (J.stop i H/\DE.nx (σ.set ix (be (.ref D))) H)\/(J.go i H/\∀x H',J.yld i H x H'->tt (σ++[be x]) H' λb H1=>if b=true then j8 (σ++[be x]) H1 λy H''=>∃vs,H'' D=be (.lst vs)/\vs.length<sizeLine/\∃m',m'<m/\W (i+1) m' (upd H'' D (.lst (vs++[y])))else ∃m',m'<m/\W (i+1) m' H1):=h
 let#[cl,k8,c1,c2]:=closure_is (env:=X.env) (scope:=scope) (λn q=>I.ok.has n (.inl (S.free n q)));rw[exec_Assign_Name_used _ _ _ _ Ly];refine P3 (Vz (P3 ?_));show U8 _ X.A (do let _ <-comprehension (.ListComp j5 [#[.Name x px,iter,k9,0]] scope pos) scope X.env _ (newList []) false (Vc iter X.env) (be (VM (.Name y py) X.env))) _ _ s;refine P3 (Vj (Wo (use:=be (VM (.Name y py) X.env)) (Q:=λ_ s'=>SP X pins DE .next s') rfl hs k8 S.kind S.names
  (thn (hi pins s σ H _ I h) λv s1 h1=>thn h1 λOq s2 h2=>?_)) (λ_ s' hq=>SZ (SZ hq)) λ_ _ e=>e)
 let#[it,fp,tn,J,H1,e,I1,T,st,f1,hr]:=h2;subst e;have ge:∀b∈fp,b<s2.heap.objs.size:=λb hb=>by
  let#[o,ho,_]:=T.obj _ _ st b hb;exact Heap.lt_size ho
 have hD:H1 s2.heap.objs.size=none:=I1.hok.fresh (Hw _);let#[W,#[m0,w0],step]:=hr _ hD;refine Vi (WE S.nocell (by intro y hy;simp at hy) (λh₁ hns₁ hsb₁=>?_) S.kind);have I3:Inv X pins σ (upd H1 s2.heap.objs.size (.lst [])) {s2 with heap:=s2.heap.push {cls:=.type "list",data:=.seq ([]:List Os).toArray},toks:=s2.toks}:=I1.lnew (its:=[]) (ys:=[]) .nil (HS _);have m6:∀b∈fp,b<(s2.heap.push {cls:=.type "list",data:=.seq ([]:List Os).toArray}).objs.size:=λb hb=>by
  rw[Heap.size_push];exact JV (ge b hb)
 have Lh:∀b∈fp,FpOk X pins (upd H1 s2.heap.objs.size (.lst [])) b:=λb hb=>#[by rw[ar (HD (ge b hb))];exact(f1 b hb).1,(f1 b hb).2];have kp:∀b o,(s2.heap.push {cls:=.type "list",data:=.seq ([]:List Os).toArray}).get? b=be o->h₁.get? b=be o:=λb o e=>
  (hsb₁.2 b (HD (Heap.lt_size e))).trans (Heap.get?_push_of_some _ e)
 have I4:=so (x:=x) (fp:=fp) (t':=s2.toks+([]:List (Lq×Os)).length) I3 S c1 c2 Lh m6 hns₁ kp;have Lz:(s2.heap.push {cls:=.type "list",data:=.seq ([]:List Os).toArray}).objs.size≠X.env.locals:=Ix I3.lt;have LA:∀z c,X.env.cells.lookup z=be c->c≠(s2.heap.push {cls:=.type "list",data:=.seq ([]:List Os).toArray}).objs.size:=λz c e=>by
  let#[vv,oo,ho,_]:=I3.cell z c e;exact HD (Heap.lt_size ho)
 have Mp:∀p∈X.pn++pins,p.1≠(s2.heap.push {cls:=.type "list",data:=.seq ([]:List Os).toArray}).objs.size:=λp hp=>HD (Heap.lt_size (I3.pin p hp).1);have u9:=sq (pos:=pos) (iter:=iter) (R:=compPost (U4 X.prog X.w) X.A X.xe (be (VM (.Name y py) X.env)) (λ_ s'=>SP X pins DE .next s') (.ref s2.heap.objs.size) (s2.heap.push {cls:=.type "list",data:=.seq ([]:List Os).toArray}).objs.size) hc S hq he c1 c2 I1 T st f1 w0 step I4 (T.keep _ _ _ st (λb hb ob e=>kp b ob (Heap.get?_push_of_some _ e))) λH' s4 m IX hn n6 q=>by
  show U8 _ X.A (VM (.Name y py) X.env (.ref s2.heap.objs.size)) _ _ s4;refine V9 (pX IX hN NC hy (v:=.ref s2.heap.objs.size) rfl (λs5 I7 ⟨a,hsb,ha⟩=>?_) hf);have Pr:(s2.heap.push {cls:=.type "list",data:=.seq ([]:List Os).toArray}).objs.size≠a:=by
   rcases ha with e|e
   .rw[e];exact Lz
   .exact λz=>LA y a e z.symm
  exact#[m,hn.sameBut hsb Pr,λh' MK=>#[_,H',I7.turned (t':=s5.toks) (it:=(s2.heap.push {cls:=.type "list",data:=.seq ([]:List Os).toArray}).objs.size) (λb ob hb e=>(MK.2 b hb).trans e) n6 Lz (.inr I3.sz) LA Mp,q]]
 exact Wz u9 (T.self _ _ _ _ _ (T.keep _ _ _ st (λb hb ob e=>kp b ob (Heap.get?_push_of_some _ e))) u9)
end
end L2
namespace My
def RepS.snoc{K:Ex}{B F H:Hp}{z:SD}{s:L2.St}{d:D}{v:V}(h:RepS K B F H z s)(r:Rep K F d v):RepS K B F H (z++[be d]) (s++[be v]):=by
 have no:=r.noown;have get:∀{j:Nat} {x:D},(z++[be d])[j]?=be (be x)->(j<z.length/\z[j]?=be (be x))\/(j=z.length/\x=d):=λ{j x} e=>by
  rcases IV j z.length with q|q
  .rw[Ik q]at e;exact .inl #[q,e]
  .rw[IL q]at e;cases hz:j-z.length with
   |zero=>rw[hz]at e;simp at e;exact .inr #[Md,e.symm]
   |succ n=>rw[hz]at e;simp at e
 have lt:∀{j:Nat},j<z.length->(s++[be v])[j]?=s[j]?:=λ{j} q=>Ik (by rw[h.len];exact q);refine#[by rw[HF,HF,h.len];rfl,λj x e nx=>?_,λj ds e=>?_,λj k dj dk a e1 e2 e3 e4=>?_]
 .rcases get e with⟨q,e⟩|⟨q,rfl⟩
  .rw[lt q];exact h.val j x e nx
  .exact#[v,by rw[q,IL (by rw[h.len];exact Hw _),h.len];simp,r]
 .rcases get e with⟨q,e⟩|⟨q,e⟩
  .rw[lt q];exact h.own j ds e
  .rw[<-e]at no;cases no
 .rcases get e1 with⟨q,e1⟩|⟨q,e1⟩
  .rcases get e2 with⟨q2,e2⟩|⟨q2,e2⟩
   .rw[lt q]at e3;rw[lt q2]at e4;exact h.apart j k dj dk a e1 e2 e3 e4
   .rw[<-e2]at no;cases no
  .rw[<-e1]at no;cases no
def okB:Bool->Bool->Prop->Prop->Prop
 |_,true,A,_=>A
 |false,false,_,B=>B
 |true,false,_,_=>False
def cmpG(nf:Bool)(tt:TDT)(te:TD)(z:SD)(R:D->Prop)(items:List D):Prop:=items.length<=100000/\∃W:Nat->List D->Prop,W 0 []/\(∀k x ys,items[k]?=be x->(nf=true->ys.length=k)->W k ys->tt (z++[be x]) λb=>okB nf b (te (z++[be x]) λy=>W (k+1) (ys++[y])) (W (k+1) ys))/\∀ys,(nf=true->ys.length=items.length)->W items.length ys->R (.lst ys)
def cmpP(te:TD)(z:SD)(R:D->Prop)(items:List D):Prop:=items.length<=100000/\∃W:Nat->List D->Prop,W 0 []/\(∀k x ys,items[k]?=be x->ys.length=k->W k ys->te (z++[be x]) λy=>W (k+1) (ys++[y]))/\∀ys,ys.length=items.length->W items.length ys->R (.lst ys)
def kC(ti:TDI)(te:TD):TD:=λz R=>ti z (cmpP te z R)
def dT1:TDT:=λ_ R=>R true
abbrev DIf(X:Cx)[Jx](k9:List U7)(t:TDT):Prop:=PIf X k9 (lT X.K t)
variable{X:Cx}
def kD[Jx]:DIf X [] dT1:=pif_nil.anti λs H Q q=>by
 let#[B,F,z,kf,rs,R,h1,h2]:=q;exact h2 true F H (Grow.refl kf.fh) h1
structure ItIs(K:Ex)(J:It)(F1 H1:Hp)(items:List D):Prop where
 go:∀k F' H',Grow F1 H1 F' H'->k<items.length->J.go k H'
 yld:∀k F' H' x H'',Grow F1 H1 F' H'->k<items.length->J.yld k H' x H''->H''=H'/\∃d,items[k]?=be d/\Rep K F' d x
 stop:∀F' H',Grow F1 H1 F' H'->J.stop items.length H'
def ItOk[Jx](K:Ex)(wi:TI)(ti:TDI):Prop:=∀{s:L2.St} {H B F:Hp} {z:SD} {P:List D->Prop} {Q:It->Hp->Prop},Kept B Jx.F0 F H->RepS K B F H z s->ti z P->(∀items J F1 H1,Grow F H F1 H1->P items->ItIs K J F1 H1 items->Q J H1)->wi s H Q
section
variable {X:Cx}
variable{K:Ex}{H:Hp}{s:L2.St}{R:My.D->Prop}{items:List My.D}
def ss[Jx]{B F F1 H1:Hp}{z:SD}{Q:VK}{nf:Bool}{tt:TDT}{te:TD}{J:It}(kf:Kept B Jx.F0 F H)(g1:Grow F H F1 H1)(rs:RepS K B F H z s)(h2:∀D ys us F' H',H D=w6->F' D=w6->Grow F H F' H'->H' D=be (.lst us)->Reps K F' ys us->R (.lst ys)->Q (.ref D) H')
    (it:ItIs K J F1 H1 items) (hd:cmpG nf tt te z R items):
    ∀D,H1 D=w6->∃W:Nat->Nat->Hp->Prop,(∃m,W 0 m (upd H1 D (.lst [])))/\∀i m H,W i m H->
      (J.stop i H/\Q (.ref D) H)\/(J.go i H/\∀x H',J.yld i H x H'->lT K tt (s++[be x]) H' λb H1=>if b=true then lE K te (s++[be x]) H1 λy H''=>∃vs,H'' D=be (.lst vs)/\vs.length<sizeLine/\∃m',m'<m/\W (i+1) m' (upd H'' D (.lst (vs++[y])))else ∃m',m'<m/\W (i+1) m' H1):=by
  intro D hD;let#[hz,W,w0,d5,out]:=hd;have Tk:F1 D=none:=g1.fh.free hD;have hH:H D=none:=g1.hh.free hD;refine⟨λk m H'=>m=items.length-k/\k<=items.length/\∃F' ys us,Grow F1 H1 F' H'/\H' D=be (.lst us)/\F' D=w6/\Reps K F' ys us/\(ys.length<=k/\(nf=true->ys.length=k))/\W k ys,
    #[items.length,Mn,HS _,F1,[],[],#[Same.refl F1,g1.fh.trans (aR hD _),aR hD _,λb h _=>h],aC,Tk,reps_nil.mpr rfl,#[Hw _,λ_=>rfl],w0],?_⟩
  intro k m H'#[rfl,hk,F',ys,us,G,hu,hF,ry,hl,w];by_cases ge:k<items.length
  . refine .inr #[it.go k F' H' G ge,λx H'' hy=>?_];let#[e,d,hd,rd]:=it.yld k F' H' x H'' G ge hy;subst e;refine#[B,F',z++[be d],kf.grow (g1.trans G),(rs.grow (g1.trans G)).snoc rd,_,d5 k d ys hd hl.2 w,λb F3 H3 g3 hb=>?_];have Ps:H3 D=be (.lst us):=g3.hh D _ hu;have OD:F3 D=none:=g3.out D hF (by rw[hu];exact λq=>nomatch q);cases b with
    |false=>
      cases nf with
      |true=>exact hb.elim
      |false=>exact#[items.length-(k+1),Md,rfl,Md,F3,ys,us,G.trans g3,Ps,OD,ry.mono g3.ff,#[Md,λz=>nomatch z],hb]
    |true=>
    refine#[B,F3,z++[be d],(kf.grow (g1.trans G)).grow g3,((rs.grow (g1.trans G)).snoc rd).grow g3,_,(show te _ _ from by cases nf<;>exact hb),λy yv F2 H2 g2 hw rv=>?_];have Tl:H2 D=be (.lst us):=g2.hh D _ Ps;have LB:F2 D=none:=g2.out D OD (by rw[Ps];exact λq=>nomatch q);have UD:us.length<=k:=by rw[ry.length];exact hl.1
    refine⟨us,Tl,by     have:(100000:Nat)<sizeLine:=by decide
                        lia,items.length-(k+1),Md,rfl,Md,F2,ys++[y],us++[yv],?_,aC,LB,((ry.mono g3.ff).mono g2.ff).append (fo rv),#[Qu,λz=>by simp[hl.2 z]],hw⟩
    have GG:=(G.trans g3).trans g2;refine#[GG.ff,λb o e=>?_,λb o e=>?_,GG.out]
    . have ne:b≠D:=λq=>by rw[q,LB]at e;cases e
      rw[ar ne];exact GG.fh b o e
    . have ne:b≠D:=λq=>by rw[q,hD]at e;cases e
      rw[ar ne];exact GG.hh b o e
  . have ek:k=items.length:=by lia
    subst ek;exact .inl #[it.stop F' H' G,h2 D ys us F' H' hH hF (g1.trans G) hu ry (out ys hl.2 w)]
def Af{F F' H':Hp}{D:Pi}{us:List V}(GG:Grow F H F' H')(hu:H' D=be (.lst us))(hF:F' D=w6)(hH:H D=w6):Grow F H (upd F' D (.lst us)) H':=by
 refine#[GG.ff.trans (aR hF _),λb o e=>?_,GG.hh,λb h1 h3=>?_]
 .by_cases hb:b=D
  .subst hb;rw[aC]at e;cases e;exact hu
  .rw[ar hb]at e;exact GG.fh b o e
 .have ne:b≠D:=λq=>h3 (q ▸ hH);rw[ar ne];exact GG.out b h1 h3
variable {j5 iter:U7}{k9:List U7}{x:Lq}{px pos:Vf}{scope:Vy}{ti te:TD}{tt:TDT}{wi:TI}{LC:TDI}
def su[Jx]{nf:Bool}{G:SD->(D->Prop)->List D->Prop}(hG:∀z R items,G z R items->cmpG nf tt te z R items)(hI:ItOk K wi LC){Q:VK}(q:lE K (λz R=>LC z (G z R)) s H Q):gx wi (lT K tt) (lE K te) s H Q:=by
 let#[B,F,z,kf,rs,R,h1,h2]:=q;exact hI kf rs h1 λitems J F1 H1 g1 hg it=>ss kf g1 rs (λD ys us F' H' hH hF GG hu ry hR=>h2 (.lst ys) (.ref D) _ H' (Af GG hu hF hH) hR (rep_lst.mpr #[D,us,rfl,aC,ry.mono (aR hF _)])) it (hG _ _ _ hg)
def cmpP.g{z:SD}(h:cmpP te z R items):cmpG true dT1 te z R items:=
 let ⟨hz,W,w0,d5,out⟩:=h
 #[hz,W,w0,λk x ys e l w=>d5 k x ys e (l rfl) w,λys l w=>out ys (l rfl) w]
def itL[Jx]:ItOk K (ql K (lE K ti)) (dItL ti):=λ{s H B F z P Q} kf rs h1 h2=>by
 refine#[B,F,z,kf,rs,_,h1,λd v F1 H1 g1 hd rd=>?_];have key:∀(items:List D) (p:Pi) (vs:List V),SqL K F1 p vs->Reps K F1 items vs->P items->∃a,V.ref p=.ref a/\(∃xs,SqL K H1 a xs)/\Q (Itl K a) H1:=λitems p vs hq rr hd=>by
  refine#[p,rfl,#[vs,g1.fh.seq hq],h2 items _ F1 H1 g1 hd #[λk F' H' G hk=>?_,λk F' H' x H'' G hk hy=>?_,λF' H' G=>?_]]
  .have r_:k<vs.length:=by rw[rr.length];exact hk
   exact#[vs,vs[k],G.hh.seq (g1.fh.seq hq),by simp[r_]]
  .obtain⟨e,hy⟩:=hy;let#[d,e2,r2]:=rr.get' (hy vs (G.hh.seq (g1.fh.seq hq)));exact#[e,d,e2,r2.mono G.ff]
  .exact#[vs,G.hh.seq (g1.fh.seq hq),by rw[rr.length];exact Hw _]
 split at hd
 .obtain⟨p,vs,rfl,hq,rr⟩:=rep_lst.mp rd;exact key _ p vs (SqL.of hq) rr hd
 .obtain⟨p,vs,rfl,hq,rr⟩:=rep_rol.mp rd;exact key _ p vs hq rr hd
 .exact hd.elim
def itR[Jx]:ItOk K (qo (qH (lE K ti) tNil)) (dItR ti):=λ{s H B F z P Q} kf rs h1 h2=>by
 refine#[B,F,z,kf,rs,_,h1,λd v F1 H1 g1 hd rd=>?_];split at hd
 .rename_i n;let#[#[b1,b2],hd]:=hd;have hl:((HC n.toNat).map λk=>D.int ((k:Nat):Int)).length=n.toNat:=by simp
  refine#[n,by rw[rep_int.mp rd],Md,b2,h2 _ _ F1 H1 g1 hd #[λk F' H' G hk=>by rw[hl]at hk;exact hk,λk F' H' x H'' G hk hy=>?_,λF' H' G=>by show n.toNat<=_;rw[hl];exact Hw _]];rw[hl]at hk;let#[e,rfl]:=hy;exact#[e,.int (k:Int),by simp[hk],rep_int.mpr (by congr 1;lia)]
 .exact hd.elim
def ii[Jx]{p1 p2:Vf}(hc:X.calm=true)(S:CompScope X scope x)(hm:X.mg "range"=w6)(hi:WDE X iter ti)(he:∀cl s₀ H₀ fp,WDE (ca X scope cl x s₀ H₀ fp) j5 te)(hg:Gl X "range"\zA0)
  (hs:(∀y,zFS X (.Call (.Name "range" p1) [iter] [] p2) y)\zA3) (v3:zSE X iter []\zA0) (i9:(U9 [iter] X.env=[(false,Vc iter X.env)])\zA0):WDE X (.ListComp j5 [#[.Name x px,.Call (.Name "range" p1) [iter] [] p2,[],0]] scope pos) (kC (dItR ti) te):=#[have he:=λcl s₀ H₀ fp=>(he cl s₀ H₀ fp).out;(Ae hc S (jH hg hm (bt hi.out pa_nil v3) i9) (λ_ _ _ _=>kD) he hs).anti λs H Q q=>su (λ_ _ _=>cmpP.g) itR q]
def Ag[Jx]{E:Ends}{ix:Nat}(hI:ItOk K wi LC)(q:lS K (dSet ix (kC LC te)) E s H):tAsg (gx wi (lT K dT1) (lE K te)) (fU ix) E s H:=by
 let#[B,F0,F,z,k,rs,ED,#[P,h,j],e]:=q;exact su (λ_ _ _=>cmpP.g) hI #[B,F,z,k.kf,rs,P,h,λd v F' H' g hd rd=>e.nx _ _ F' H' (k.grow g) (j d hd) ((rs.grow g).set rd)]
def Ah[Jx](ix:Nat){y:Lq}{py o7:Vf}(hc:X.calm=true)(S:CompScope X scope x)(hN:X.N.Nodup)(hi:WDE X iter ti)(he:∀cl s₀ H₀ fp,WDE (ca X scope cl x s₀ H₀ fp) j5 te)(NC:(X.N[ix]?=be y)\zA0)(hy:Loc X.env.scope y\zA4)
  (hf:zFN X y\zA2) (Ly:(Vn (.ListComp j5 [#[.Name x px,iter,[],0]] scope pos) (be (.Name y py)) o7.line X.env=pure true)\zA0) (hs:(∀y,zFS X iter y)\zA3):WDS X (.Assign [.Name y py] (.ListComp j5 [#[.Name x px,iter,[],0]] scope pos) o7) (dSet ix (kC (dItL ti) te)):=#[have he:=λcl s₀ H₀ fp=>(he cl s₀ H₀ fp).out;(sr hc S (jG hi.out) (λ_ _ _ _=>kD) he hN NC hy hf Ly hs).anti λE s H q=>Ag itL q]
end
def fu(scope fsc:Vy):List (Lq×VJ):=scope.names.map λ(n,k)=>if(k==NameKind.free&&fsc.kind== .function&&fsc.names.lookup n==be .cell)then(n,NameKind.cell)else(n,k)
def visB(l:List (Lq×VJ))(n:Lq):Bool:=l.lookup n==be .local||l.lookup n==be .cell||l.lookup n==be .free
def dA(scope fsc:Vy)(N:List Lq)(x:Lq):Bool:=
 scope.kind== .function&&scope.names.all (λy=>!(y.2== .cell))&&scope.names.all (λy=>!(y.2== .local)||scope.names.lookup y.1==be .local)&&scope.names.lookup x==be .local &&
 scope.names.all (λy=>!(y.2== .free)||fsc.names.lookup y.1==be .cell)&&N.all (λn=>decide (n=x)||!visB (fu scope fsc) n||scope.names.any (λy=>decide (y=(n,NameKind.free))))&&!visB (fu scope fsc) "" &&
 scope.names.all (λy=>!(y.2== .free)||(fu scope fsc).lookup y.1==be .cell)&&decide (N.map (λn=>if n=x then("":Lq)else n)++[x]).Nodup
def sy{l:List (Lq×VJ)}{n:Lq}(h:l.lookup n=be .local\/l.lookup n=be .cell\/l.lookup n=be .free):visB l n=true:=by
 unfold visB;rcases h with h|h|h<;>rw[h]<;>rfl
def compScope{scope:Vy}{x:Lq}(h:dA scope X.env.scope X.N x=true):CompScope X scope x:=by
 unfold dA at h;simp only[HV]at h;let#[#[#[#[#[#[#[#[h1,h2],h3],h4],h5],h6],h7],h8],h9]:=h;have er:(WW scope X.env).names=fu scope X.env.scope:=rfl;refine#[by simpa using h1,λy hy=>?_,λy hy e=>?_,by simpa using h4,λn hn=>?_,λn hn ne v=>?_,λv=>?_,λn hn=>?_,of_decide_eq_true h9]
 .have:=Ir.mp h2 y hy;simpa using this
 .have:=Ir.mp h3 y hy;rw[e]at this;simpa using this
 .have:=Ir.mp h5 _ hn;show X.env.scope.names.lookup n=be .cell;simpa using this
 .have:=Ir.mp h6 n hn;have v':visB (fu scope X.env.scope) n=true:=sy v;rw[v']at this;simp[ne]at this;exact this
 .have v':visB (fu scope X.env.scope) ""=true:=sy v;rw[v']at h7;cases h7
 .have:=Ir.mp h8 _ hn;rw[er];simpa using this
def putD(f:Lq)(v:D):List (Lq×D)->List (Lq×D)
 |[]=>[(f,v)]
 |(g,x)::r=>if g=f then(g,v)::r else(g,x)::putD f v r
def RepF.put{K:Ex}{F:Hp}{f:Lq}{d:D}{v:V}(r:Rep K F d v):∀{fs:List (Lq×D)} {ws:List (Lq×V)},RepF K F fs ws->RepF K F (putD f d fs) (putF f v ws)
 |[],ws,h=>by
  rw[repf_nil.mp h];exact repf_cons.mpr #[v,[],rfl,r,repf_nil.mpr rfl]
 |(g,x)::fs,ws,h=>by
  let#[w,Mq,rfl,h1,h2]:=repf_cons.mp h;unfold putD putF;by_cases e:g=f
  .rw[if_pos e,if_pos e];exact repf_cons.mpr #[v,Mq,rfl,r,h2]
  .rw[if_neg e,if_neg e];exact repf_cons.mpr #[w,_,rfl,h1,RepF.put r h2]
def RepF.length{K:Ex}{F:Hp}:∀{fs:List (Lq×D)} {ws:List (Lq×V)},RepF K F fs ws->ws.length=fs.length
 |[],ws,h=>by rw[repf_nil.mp h];rfl
 |(g,x)::fs,ws,h=>by
  let#[w,Mq,rfl,h1,h2]:=repf_cons.mp h;rw[HA,HA,RepF.length h2]
def ClsA(K:Ex)(x f:Lq):Prop:=∃C,nsIn K SL x=be (be (.ref C))/\Cls K C/\NoAttr K C f
section
variable {X:Cx}{a b c e:U7}{ta tb tc te:TD}{pos:Vf}
def dFld(x f:Lq)(te:TD):TD:=λz R=>te z λd=>match d with|.obj y fs=>y=x/\∃d,fs.lookup f=be d/\R d|_=>False
variable{x:Lq}
def fv[Jx]{f:Lq}(h:ClsA X.K x f)(he:WDE X e te)(hb:(Vb e f X.env (Vc e X.env)=Vc e X.env)\zA0):WDE X (.Attribute e f pos) (dFld x f te):=⟨(qF he.out hb).anti λs H Q q=>by
 let#[C,hn,hc,hf]:=h;let#[B,F,z,kf,rs,R,h1,h2]:=q;have fh:=kf.fh;refine#[B,F,z,kf,rs,_,h1,λd u F1 H1 g1 hx rx=>?_];split at hx
 .obtain⟨rfl,d,hl,hR⟩:=hx;let#[a,C',dx,vs,rfl,i_,q,r]:=rep_obj.mp rx;rw[hn]at i_;cases i_;let#[v,l,rv]:=r.look hl;exact#[a,C,dx,vs,v,rfl,g1.fh _ _ q,hc,hf,l,h2 d v F1 H1 g1 hR rv]
 .exact hx.elim⟩
def sA[Jx]{d:D}{v:V}{u:Os}(hm:X.mg x=be u)(r:RelV v u)(rd:∀H,Rep X.K H d v)(hg:Gl X x\zA0)(hd:zND x\zA1):DE X (.Name x pos) (dC d):=de_c (pZ hg hm r hd) rd
def fw[Jx]{i:Int}(h:∃t,X.mg x=be (.int i t))(hg:Gl X x\zA0)(hd:zND x\zA1):WDE X (.Name x pos) (dC (.int i)):=⟨by
 let#[t,h]:=h;exact sA (v:=.int i) h #[t,rfl] (λ_=>rep_int.mpr rfl) hg hd⟩
def fz[Jx]{y:Lq}(h:∃t,X.mg x=be (.str y t))(hg:Gl X x\zA0)(hd:zND x\zA1):WDE X (.Name x pos) (dC (.str y)):=⟨by
 let#[t,h]:=h;exact sA (v:=.str y) h #[t,rfl] (λ_=>rep_str.mpr rfl) hg hd⟩
end
abbrev SiD:=List D->(List (Lq×D)->Prop)->Prop
def lSi(K:Ex)(C:Pi)(S:SiD):Sp:=λvs H Q _=>∃a dx us H1 F ds,vs=.ref a::us/\H=upd (upd H1 dx (.own a)) a (.ins C dx [])/\H1 a=w6/\H1 dx=w6/\dx≠a/\Same F H1/\Reps K F ds us/\
 ∃R:List (Lq×D)->Prop,S ds R/\∀fs ws LD F' H',Grow F H1 F' H'->R fs->H' a=be (.ins C LD ws)->F' a=w6->RepF K F' fs ws->Q .non H'
def CalM(P:U5)(w:U')(K:Ex)(mg:Lq->Option Os)(base:Heap)(n:Nat)(x:Lq)(ps:List Lq)(S:SiD):Prop:=
 ∃C f fd,nsIn K SL x=be (be (.ref C))/\mg x=be (.ref C)/\Mk K C f/\FnOk P w K mg base (Exc.CX1 P w) n f fd ps (lSi K C S)/\Binds K fd ps []
def Ai(x:Lq)(S:SiD)(t:TDA):TD:=λz R=>t z λds=>S ds λfs=>R (.obj x fs)
def kE[Jx]{pos:Vf}{n m:Nat}{ps:List Lq}{S:SiD}{x:Lq}{p:Vf}{e:U7}{es:List U7}{t:TDA}(M:CalM X.prog X.w X.K X.mg X.base n x ps S)(hr:Room m X.A)(ha:WDA X (e::es) t)(hg:Gl X x\zA0)(hn:(n+1<=m)\zA1)(d6:zND x\zA1)
  (he:zSE X e es\zA0) (c_:zPL X pos es\zA0):WDE X (.Call (.Name x p) (e::es) [] pos) (Ai x S t):=⟨by
 have ha:=ha.out;let#[C,f,fd,hns,l_,mk,F,hb]:=M;refine(jS mk F (hr.mono hn) hg l_ hb .nil fY ha d6 he c_).anti λs H Q q=>?_;let#[B,F,z,kf,rs,R,h1,h2]:=q;have fh:=kf.fh;refine#[B,F,z,kf,rs,_,h1,λds vs F1 H1 g1 hx rx=>?_];intro a dx ha s9 k_;refine#[a,dx,vs,H1,F1,ds,by rw[H9],rfl,ha,s9,k_,g1.fh,rx,_,hx,λfs ws LD F' H' g hR g7 l9 rf=>#[rfl,?_]];have s1:Same F' (upd F' a (.ins C LD ws)):=aR l9 _;refine h2 (.obj x fs) (.ref a) (upd F' a (.ins C LD ws)) H' #[(g1.ff.trans g.ff).trans s1,λb o q=>?_,g1.hh.trans g.hh,λb q1 q2=>?_] hR (rep_obj.mpr #[a,C,LD,ws,rfl,hns,aC,RepF.mono s1 fs ws rf])
 .by_cases hb:b=a
  .subst hb;rw[aC]at q;cases q;exact g7
  .rw[ar hb]at q;exact g.fh b o q
 .by_cases hb:b=a
  .subst hb;exact absurd (g1.hh.free ha) q2
  .rw[ar hb];exact(g1.trans g).out b q1 q2⟩
abbrev TID:=SD->List (Lq×D)->(List (Lq×D)->Prop)->Prop
def lI(K:Ex)[J:Jx](x:Lq)(t:TID):TS:=λE σ H=>∃C a dx ws F z fs,nsIn K SL x=be (be (.ref C))/\σ[0]?=be (be (.ref a))/\H a=be (.ins C dx ws)/\J.B a=w6/\F a=w6/\Kept J.B J.F0 F H/\RepS K J.B F H z σ/\RepF K F fs ws/\
 ∃R:List (Lq×D)->Prop,t z fs R/\∀n5 Mq F' H',Kept J.B J.F0 F' H'->R n5->H' a=be (.ins C dx Mq)->F' a=w6->RepF K F' n5 Mq->E.nx σ H'
abbrev DI(X:Cx)[Jx](x:Lq)(st:List U6)(t:TID):Prop:=PSs X st (lI X.K x t)
structure WDI(X:Cx)[Jx](x:Str)(st:List U6)(t:TID):Prop where
 out:DI X x st t
section
variable {X:Cx}{x f:Lq}{e:U7}{te:TD}{pos d7 p:Vf}{rest:List U6}{tr:TID}
def sB:TID:=λ_ fs R=>R fs
def Aj(f:Lq)(te:TD)(tr:TID):TID:=λz fs R=>te z λd=>fs.length<1000/\tr z (putD f d fs) R
def eg[Jx]:WDI X x [] sB:=⟨pss_nil.anti λE s H q=>by
 let#[C,a,dx,ws,F,z,fs,hn,h0,g7,o9,l9,g,rs,rf,R,hR,k]:=q;exact k fs ws F H g hR g7 l9 rf⟩
def RepS.other{K:Ex}{B F H:Hp}{z:SD}{σ:L2.St}{a:Pi}{o o':HO}(rs:RepS K B F H z σ)(h:H a=be o)(hl:∀vs,o≠.lst vs):RepS K B F (upd H a o') z σ:=
 ⟨rs.len,rs.val,λi ds e=>by
  let#[b,vs,q1,q2,q]:=rs.own i ds e;have ne:b≠a:=by
   intro rfl;rw[h]at q2;cases q2;exact hl vs rfl
  exact#[b,vs,q1,by rw[ar ne];exact q2,q],rs.apart⟩
def bN[J:Jx]{ps:Vf}{sx:Lq}(hA:ClsA X.K x f)(he:WDE X e te)(hr:WDI X x rest tr)(hN:(X.N[0]?=be sx)\zA0)(hv:Vis X.env.scope sx\zA5)(hd:zND sx\zA1)
  (h_:zNC sx\zA1) (hs:(Vn e (be (.Attribute (.Name sx ps) f d7)) pos.line X.env=pure false)\zA0):WDI X x (.Assign [.Attribute (.Name sx ps) f d7] e pos::rest) (Aj f te tr):=⟨(fT (qG (dm (i:=0) hN hv hd h_) he.out hs) hr.out).anti λE s H q=>by
 let#[C,a,dx,ws,F,z,fs,hn,h0,g7,o9,l9,g,rs,rf,R,hR,k]:=q;let#[C',i_,hc,hf]:=hA;rw[hn]at i_;cases i_;refine#[_,F,z,g,rs,_,hR,λd v F2 H2 g2 hx rv=>?_];have k2:=g.grow g2;have RR:=g2.hh a _ g7;have LB:F2 a=none:=g2.out a l9 (by rw[g7];exact λz=>nomatch z);refine#[.ref a,h0,a,C,dx,ws,rfl,RR,hc,hf,by rw[rf.length];exact hx.1,?_];have Tn:Same F2 (upd H2 a (.ins C dx (putF f v ws))):=λb o q=>by
  have ne:b≠a:=by intro rfl;rw[LB]at q;cases q
  rw[ar ne];exact g2.fh b o q
 have Li:Same J.B (upd H2 a (.ins C dx (putF f v ws))):=λb o q=>by
  have ne:b≠a:=by intro rfl;rw[o9]at q;cases q
  rw[ar ne];exact k2.bh b o q
 exact#[C,a,dx,putF f v ws,F2,z,putD f d fs,hn,h0,aC,o9,LB,#[Li,Tn,k2.f0,k2.out,k2.eb,k2.jf,k2.jo],(rs.grow g2).other RR (λ_ z=>nomatch z),RepF.put rv (RepF.mono g2.ff fs ws rf),R,hx.2,k]⟩
end
section
variable {P:U5}{w:U'}{K:Ex}{mg:Lq->Option Os}{base:Heap}
def sC{K:Ex}{B F H:Hp}{z:SD}{σ:L2.St}{v:V}(rs:RepS K B F H z σ):RepS K B F H (w6::z) (be v::σ):=
  ⟨by rw[HA,HA,rs.len],λi d e no=>by
    cases i with
    |zero=>cases e
    |succ i=>exact rs.val i d e no,λi ds e=>by
    cases i with
    |zero=>cases e
    |succ i=>exact rs.own i ds e,λi j di dj a e1 e2 e3 e4=>by
    cases i with
    |zero=>cases e1
    |succ i=>
      cases j with
      |zero=>cases e2
      |succ j=>rw[rs.apart i j di dj a e1 e2 e3 e4]⟩
def Cls.okI{x qual:Lq}{st:U6}{f C:Pi}{fd:Vd}{N:List Lq}{p0:Lq}{ps:List Lq}{k:Nat}{S:SiD}(T:Fun K "__init__" qual st f fd)(hb:Binds K fd (p0::ps) [])(F:FnScope (p0::N) (p0::ps) (ag st))(len:∀ds R,S ds R->ds.length=ps.length)
  (hns:nsIn K SL x=be (be (.ref C))) (l_:mg x=be (.ref C)) (mk:Mk K C f)
  (a9:∀(cdv:Os) (A:U_) (outer:List VP) (s:SB) (H:Hp) (E:XK) (J:Jx),Room k (A.deeper (Vg qual (ag st) s.heap.objs.size f cdv))->
   ∃t,DI (cxOf (Exc.CX1 P w) P w K mg base (p0::N) qual (ag st) f cdv A outer s H E).nox x (aJ st) t/\∀ds R,S ds R->t (w6::startD N ds) [] R):CalM P w K mg base (k+1) x (p0::ps) S:=by
 refine#[C,f,fd,hns,l_,mk,Fun.okC T F (λvs H Q E h=>?_) (λcdv A outer s H vs Q E hr h=>?_),hb]
 .obtain⟨a,dx,us,H1,F,ds,rfl,_,_,_,_,_,rs,R,h,_⟩:=h;rw[HA,HA,rs.length,len ds R h]
 .obtain⟨a,dx,us,H1,F1,ds,rfl,rfl,ha,s9,k_,fh,rs,R,h,q⟩:=h
  letI:Jx:=#[H1,F1,λ_ _ _=>False]
  let#[t,ht,hq]:=a9 cdv A outer s _ E inferInstance hr;have Fa:F1 a=none:=fh.free ha;have hl:L2.start (p0::N) (.ref a::us)=be (.ref a)::L2.start N us:=by
   unfold L2.start;rw[HR,HA,HA,Ky];rfl
  have s1:Same H1 (upd (upd H1 dx (.own a)) a (.ins C dx [])):=(aR s9 _).trans (aR (by rw[ar (Ne.symm k_)];exact ha) _);refine#[_,ht.nox,C,a,dx,[],F1,w6::startD N ds,[],hns,by rw[hl];rfl,aC,ha,Fa,#[s1,fh.trans s1,Same.refl F1,λ_ h _=>h,rfl,Same.refl F1,λ_ h _=>h],?_,repf_nil.mpr rfl,R,hq ds R h,λn5 Mq F' H' g hR g7 l9 rf=>q n5 Mq dx F' H' #[g.f0,g.fh,g.bh,g.out] hR g7 l9 rf];rw[hl];exact sC (dS rs)
end
section
variable {X:Cx}{a b c e:U7}{ta tb tc te:TD}{pos:Vf}
def Ak(t u:TD):TDI:=λz R=>t z λx=>u z λy=>match x,y with|.int i,.int j=>(-(2^62)<=i/\i<2^62/\-(2^62)<=j/\j<2^62)/\R ((HC (j-i).toNat).map λk=>D.int (i+((k:Nat):Int)))|_,_=>False
def Al[Jx](i:Nat){x:Lq}{p p1 p2:Vf}{body:List U6}{RS:TSD}(hp:Vp (U4 X.prog X.w) X.A X.env X.xe)(hc:X.calm=true)(hN:X.N.Nodup)(hm:X.mg "range"=w6)(ha:WDE X a ta)(g6:WDE X b tb)(hb:WDSs X body RS)(hg:Gl X "range"\zA0)(hi:(X.N[i]?=be x)\zA0)(hx:Loc X.env.scope x\zA4)
  (hf:zFN X x\zA2) (hs:(∀y,zFS X (.Call (.Name "range" p1) [a,b] [] p2) y)\zA3) (v3:zSE X a [b]\zA0) (Pt:zSE X b []\zA0) (i9:(U9 [a,b] X.env=[(false,Vc a X.env),(false,Vc b X.env)])\zA0) (Pu:(U9 [b] X.env=[(false,Vc b X.env)])\zA0):WDS X (.For (.Name x p) (.Call (.Name "range" p1) [a,b] [] p2) body [] pos) (dFor i (Ak ta tb) RS):=⟨have g6:=g6.out;(cM hp hc (xS hg hm (bt ha.out (bt g6 pa_nil Pt) v3) i9 Pu) (dR hN hi hx hf) hb.out hs).anti λE s H q=>by
 let#[B,F0,F,z,kp,rs,ED,h,e]:=q;refine#[B,F,z,kp.kf,rs,_,h,λd1 v1 F1 H1 g1 h1 r1=>?_];refine#[B,F1,z,kp.kf.grow g1,rs.grow g1,_,h1,λd2 v2 F2 H2 g2 h2 r2=>?_];split at h2
 .rename_i lo z_;let#[bd,W,w0,d5,out]:=h2;have hl:((HC (z_-lo).toNat).map λk=>D.int (lo+((k:Nat):Int))).length=(z_-lo).toNat:=by simp
  refine#[lo,z_,by rw[rep_int.mp r1,rep_int.mp r2],bd,jJ (lo:=lo) (n:=(z_-lo).toNat) (λk s' H'=>∃F' z',Kept B F0 F' H'/\RepS X.K B F' H' z' s'/\W k z') #[F2,z,(kp.grow g1).grow g2,(rs.grow g1).grow g2,w0] ?_ ?_]
  .rintro k s' H' hk⟨F',z',k',r',w'⟩;exact#[B,F0,F',_,k',r'.set (d:=.int (lo+(k:Int))) (rep_int.mpr rfl),_,d5 k (.int (lo+(k:Int))) z' (by simp[hk]) w',#[λz3 s3 F3 H3 k3 h3 r3=>#[F3,z3,k3,r3,h3],e.rt,e.nx,λz3 s3 F3 H3 k3 h3 r3=>#[F3,z3,k3,r3,h3]]]
  .rintro s' H'⟨F',z',k',r',w'⟩;exact e.nx z' s' F' H' k' (out z' (by rw[hl];exact w')) r'
 .exact h2.elim⟩
def RepS.change[Jx]{K:Ex}{B F0 F H:Hp}{z:SD}{s:L2.St}{i:Nat}{ds Pw:List D}{a:Pi}{o_:List V}(rs:RepS K B F H z s)(k:Kept B F0 F H)(ez:z[i]?=be (be (.own ds)))(q1:s[i]?=be (be (.ref a)))(hB:B a=w6)(hF:F a=w6)(r:Reps K F Pw o_):
  Kept B F0 F (upd H a (.lst o_))/\RepS K B F (upd H a (.lst o_)) (z.set i (be (.own Pw))) s:=by
 have same:∀{G:Hp},G a=w6->Same G H->Same G (upd H a (.lst o_)):=λ{G} ga gs b o eb=>by
  have ne:b≠a:=λz=>by rw[z,ga]at eb;cases eb
  rw[ar ne];exact gs b o eb
 have r2:=rs.setOwn (i:=i) (a:=a) (vs:=o_) (ds:=Pw) hB hF r (λj dj hj e1 e2=>hj (rs.apart j i dj ds a e1 ez e2 q1));have es:s.set i (be (.ref a))=s:=by
  apply IU;intro n;by_cases hn:i=n
  .subst hn;rw[Ij (HJ.mp q1).1,q1]
  .rw[HL hn]
 rw[es]at r2;exact#[#[same hB k.bh,same hF k.fh,k.f0,k.out,k.eb,k.jf,k.jo],r2]
def Reps.put{K:Ex}{F:Hp}{d:D}{v:V}(r:Rep K F d v):∀{ds:List D} {vs:List V} (j:Nat),Reps K F ds vs->Reps K F (ds.set j d) (vs.set j v)
 |[],vs,j,h=>by rw[reps_nil.mp h];exact reps_nil.mpr rfl
 |x::ds,vs,0,h=>by
  let#[u,us,rfl,h1,h2]:=reps_cons.mp h;exact reps_cons.mpr #[v,us,rfl,r,h2]
 |x::ds,vs,j+1,h=>by
  let#[u,us,rfl,h1,h2]:=reps_cons.mp h;exact reps_cons.mpr #[u,_,rfl,h1,Reps.put r j h2]
def sE(i:Nat)(te ti:TD):TSD:=λE z=>match z[i]? with
 |some (be (.own ds))=>te z λd=>ti z λy=>match y with|.int k=>∃j,ixN ds.length k=be j/\E.nx (z.set i (be (.own (ds.set j d))))|_=>False
 |_=>False
def Am[Jx](i:Nat){x:Lq}{p1 p2:Vf}(he:WDE X e te)(hb:WDE X b tb)(hN:(X.N[i]?=be x)\zA0)(hv:Vis X.env.scope x\zA5)(hd:zND x\zA1)
  (h_:zNC x\zA1)
  (ha:∀v,VM (.Subscript (.Name x p1) b p2) X.env v=(do
   let ov <-Vv [v] (Vc (.Name x p1) X.env)
   let iv <-Vv [v,ov] (Vc b X.env)
   VO p2
   Vv [v,ov,iv] (Wv ov iv v)
   WV [v,ov,iv] []):=by intro _;rfl)
  (hs:(VD [.Subscript (.Name x p1) b p2] e pos.line X.env=pure false)\zA0) (hw:(VE [.Subscript (.Name x p1) b p2] e X.env=pure none)\zA0)
  (h1:((Va [.Subscript (.Name x p1) b p2] X.env).map (·.2)=[VM (.Subscript (.Name x p1) b p2) X.env])\zA0):WDS X (.Assign [.Subscript (.Name x p1) b p2] e pos) (sE i te tb):=⟨(jD he.out (xJ (dm hN hv hd h_) hb.out qU ha) hs hw h1).anti λE s H q=>by
 let#[B,F0,F,z,k,rs,ED,h,e]:=q;unfold sE at h;split at h
 .rename_i ds ez;refine#[B,F,z,k.kf,rs,_,h,λd v F1 H1 g1 hx rv=>?_];let#[a,vs,q1,q2,q3,q4,q5]:=(rs.grow g1).own i ds ez;refine#[.ref a,q1,B,F1,z,k.kf.grow g1,rs.grow g1,_,hx,λy w F2 H2 g2 hy ry=>?_];split at hy
  .obtain⟨j,ej,hn⟩:=hy;have r2:=(rs.grow g1).grow g2;have k2:=(k.grow g1).grow g2;have LB:F2 a=none:=g2.out a q4 (by rw[q2];exact λz=>nomatch z);refine#[a,vs,_,j,rfl,rep_int.mp ry,g2.hh _ _ q2,by rw[q5.length];exact ej,?_];let#[k3,r3]:=r2.change k2 ez q1 q3 LB (Reps.put (rv.mono g2.ff) j (q5.mono g2.ff));exact e.nx _ s F2 _ k3 hn r3
  .exact hy.elim
 .exact h.elim⟩
end
end My
namespace My
open Exc
abbrev XD:=Lq->List (Lq×D)->Prop
def ErrD(K:Ex)(F:Hp)(x:Lq)(fs:List (Lq×D))(C:Pi)(od:Option Pi):Prop:=
 nsIn K SL x=be (be (.ref C))/\∃vs,RepF K F fs vs/\((od=w6/\vs=[])\/∃b,od=be b/\F b=be (.xd vs))
abbrev SpX:=List D->(D->Prop)->XD->Prop
def lSpX(K:Ex)(S:SpX):Sp:=λvs H Q E=>∃F ds,Same F H/\Reps K F ds vs/\∃(R:D->Prop) (RX:XD),S ds R RX/\(∀d v F' H',Grow F H F' H'->R d->Rep K F' d v->Q v H')/\
 ∀x fs C od F' H',Grow F H F' H'->RX x fs->ErrD K F' x fs C od->E (.ref C) od H'
def Exd(X:Cx)(H:Hp)(s:SB)(e C:Pi)(od:Option Pi):Prop:=
  H e=w6/\X.s₀.heap.get? e=w6/\(∀p∈X.pn,p.1≠e)/\
  ((∃sl vs,s.heap.get? e=be #[.ref C,od,.fields vs,sl]/\vs[1]?=be .none)\/
    ∃T fl,ExAt s.heap e C od T fl/\X.s₀.heap.get? T=w6/\H T=w6/\∀p∈X.pn,p.1≠T)
def XOk(X:Cx)[J:Jx]:Prop:=∀(σ:L2.St) (z:SD) (F H:Hp) (s:SB) (e C:Pi) (od:Option Pi) (x:Lq) (fs:List (Lq×D)),Inv X [] σ H s->Kept J.B J.F0 F H->RepS X.K J.B F H z σ->J.RX z x fs->ErrD X.K F x fs C od->Exd X H s e C od->X.xe (.ref e) s
variable{X:Cx}{pins:List (Pi×Vk)}{σ:L2.St}{H:Hp}{s:SB}
def Inv.nopins(I:Inv X pins σ H s):Inv X [] σ H s:=I.pins_of λp hp=>by cases hp
section
variable {X:Cx}{k:Nat}{f:Pi}{fd:Vd}{ps:List Lq}{sp:Sp}{E:XK}
def ij{pins:List (Pi×Vk)}{σ:L2.St}{H:Hp}{s:SB}{Q:VK}{us:List Os}{vs:List V}(F:FnOk X.prog X.w X.K X.mg X.base (CX1 X.prog X.w) k f fd ps sp)(hr:Room k X.A)(hb:Binds X.K fd ps [])
  (hx:∀e s',CX1 X.prog X.w X.stack H s E e s'->X.xe e s') (I:Inv X pins σ H s) (r:Vals vs us) (h:sp vs H Q E):U8 (U4 X.prog X.w) X.A (call (.ref f) us) (EP X pins σ Q) X.xe s:=by
 have hl:us.length=ps.length:=by rw[<-L2.Vals.length r];exact F.len _ _ _ _ h
 have g6:=hb s us I.kIn (by rw[H9];exact hl);rw[H9]at g6;refine Vs (Vx (F.run X.A X.stack s H #[us,[]] us vs Q E hr I.env0 g6 r h) λr s' hq=>?_);cases r with
 |error e=>exact hx e s' hq
 |ok fl=>
  cases fl with
  |ret u=>exact I.after hq
  |next=>exact False.elim hq
  |brk=>exact False.elim hq
  |cont=>exact False.elim hq
end
variable{b:Pi}
def ex_free(I:Inv X pins σ H s)(f9:X.ex=[])(q:s.heap.get? b=w6):X.s₀.heap.get? b=none:=by
 cases z:X.s₀.heap.get? b with
 |none=>rfl
 |some o=>
  let#[o',z']:=I.base.there b o z (by rw[f9];simp);rw[q]at z';cases z'
def pn_free(I:Inv X pins σ H s)(q:s.heap.get? b=w6):∀p∈X.pn,p.1≠b:=λp hp z=>by
 have:=(I.pin p (IR _ hp)).1;rw[z,q]at this;cases this
def XOk.out[J:Jx](hx:XOk X)(f9:X.ex=[]){z:SD}{s':SB}{ev:Os}(I:Inv X pins σ H s)
  (h:CX1 X.prog X.w X.stack H s (λCv od H'=>∃x fs C F',Cv=.ref C/\Kept J.B J.F0 F' H'/\RepS X.K J.B F' H' z σ/\J.RX z x fs/\ErrD X.K F' x fs C od) ev s'):X.xe ev s':=by
 let#[e,C,od,T,H',rfl,Ls,hb,un,hok,Px,ne,nT,He,HT,x,fs,C',F',hC,kk,rr,hR,er]:=h;cases hC;have I':Inv X pins σ H' s':=I.call' Ls un hok hb (λb z=>absurd z Mn);exact hx σ z F' H' s' e C od x fs (Inv.nopins I') kk rr hR er #[He,ex_free I f9 ne,pn_free I ne,.inr #[T,.none,Px,ex_free I f9 nT,HT,pn_free I nT]]
abbrev CalX(P:U5)(w:U')(K:Ex)(mg:Lq->Option Os)(base:Heap)(n:Nat)(x:Lq)(ps:List Lq)(S:SpX):Prop:=Cal P w K mg base n x ps (lSpX K S)
def An[J:Jx](S:SpX)(t:TDA):TD:=λz R=>t z λds=>S ds R (J.RX z)
variable{ps:List Lq}{x:Lq}
def sF[J:Jx]{pos:Vf}{n m:Nat}{S:SpX}{p:Vf}{e:U7}{es:List U7}{t:TDA}(C:CalX X.prog X.w X.K X.mg X.base n x ps S)(hx:XOk X)(hr:Room m X.A)(ha:WDA X (e::es) t)(f9:(X.ex=[])\zA0)(hg:Gl X x\zA0)(hn:(n<=m)\zA1)(d6:zND x\zA1)
  (he:zSE X e es\zA0) (c_:zPL X pos es\zA0):WDE X (.Call (.Name x p) (e::es) [] pos) (An S t):=⟨by
 have ha:=ha.out;let#[f,fd,F,hb,hk,hm]:=C;intro pins s σ H Q I h;let#[B,Fr,z,kf,rs,R,h1,h2]:=h;obtain rfl:B=J.B:=kf.eb;refine Ve (ck I hg hm ?_ d6);refine callWith_K (h₀:=X.base) I.ok.mod.kin hk (thn (ha pos pins s σ H (λvs H1=>lSpX X.K S vs H1 Q (λCv od H'=>∃x fs C F',Cv=.ref C/\Kept J.B J.F0 F' H'/\RepS X.K J.B F' H' z σ/\J.RX z x fs/\ErrD X.K F' x fs C od)) I #[_,Fr,z,kf,rs,_,h1,λds vs F1 H1 g1 hx rx=>?_]) λus s1 ⟨vs,H1,I1,r,q⟩=>#[I1.kIn,?_]) he c_
 .exact#[F1,ds,g1.fh,rx,R,J.RX z,hx,λd v F' H' g=>h2 d v F' H' (g1.trans g),λx fs C od F' H' g hR er=>#[x,fs,C,F',rfl,(kf.grow g1).grow g,(rs.grow g1).grow g,hR,er]]
 .exact ij F (hr.mono hn) hb (λe s' hq=>hx.out f9 I1 hq) I1 r q⟩
section
variable {P:U5}{w:U'}{K:Ex}{mg:Lq->Option Os}{base:Heap}
variable{N:List Lq}
def kF{qual:Lq}{scope:Vy}{f:Pi}{cd:Os}{A:U_}{outer:List VP}{s:SB}{H:Hp}{E':XK}{pins:List (Pi×Vk)}{σ:L2.St}{H':Hp}{s':SB}{e C T:Pi}{od:Option Pi}{fl:Os}
  (I':Inv (cxOf (CX1 P w) P w K mg base N qual scope f cd A outer s H E') pins σ H' s') (hx:ExAt s'.heap e C od T fl) (ne:s.heap.get? e=w6) (nT:s.heap.get? T=w6) (He:H' e=w6) (HT:H' T=w6) (hE:E' (.ref C) od H'):
  (cxOf (CX1 P w) P w K mg base N qual scope f cd A outer s H E').xe (.ref e) s':=by
 show U8 _ _ (Wx _ _) _ _ _;unfold Wx;refine P3 (qZ I'.ok.frames I'.stack rfl hx λh2 T2 p9 Lg u8=>fW (s:={s' with heap:=h2}) p9 λh3 Nw Le=>?_);have f1:∀b,s'.heap.get? b=w6->s.heap.get? b=none:=λb q=>ex_free I' rfl q;have hok:HOk P w H' s'.heap:=I'.hok;have q2:s.heap.get? T2=w6/\H' T2=none:=Lg.elim (λz=>by rw[z];exact#[nT,HT]) λz=>#[f1 _ (Heap.get?_none_of_le z),hok.fresh z];have To:∀b∈[T,e],s.heap.get? b=none:=λb hb=>by
  rcases Hx.mp hb with z|z
  .rw[z];exact nT
  .rw[Hv.mp z];exact ne
 have u2:Un (frs outer) [] H H' s.heap h2:=hZ (show Un (frs outer) [] H H' s.heap s'.heap from I'.base) u8 To λb hb=>ra hb;have u3:Un (frs outer) [] H H' s.heap h3:=hZ u2 Le (λb hb=>by rw[Hv.mp hb];exact q2.1) λb hb=>by cases hb
 have k2:=fX hok u8 (λb hb=>I'.stkFree b hb) (λb hb=>by
  rcases Hx.mp hb with z|z
  .rw[z];exact HT
  .rw[Hv.mp z];exact He)
 have k3:=fX k2 Le (λb hb=>by cases hb) (λb hb=>by rw[Hv.mp hb];exact q2.2);exact#[e,C,od,T2,H',rfl,I'.os,I'.bare,u3,k3,Nw,ne,q2.1,He,q2.2,hE]
variable{ps:List Lq}
def _root_.L2.Fun.okX{x:Lq}{st:U6}{f:Pi}{fd:Vd}{k:Nat}{S:SpX}(T:Fun K x x st f fd)(F:FnScope N ps (ag st))(len:∀ds R RX,S ds R RX->ds.length=ps.length)
  (a9:∀(cdv:Os) (A:U_) (outer:List VP) (s:SB) (H:Hp) (E:XK) (J:Jx),Room k (A.deeper (Vg x (ag st) s.heap.objs.size f cdv))->XOk (cxOf (CX1 P w) P w K mg base N x (ag st) f cdv A outer s H E)->
   ∃t,DSs (cxOf (CX1 P w) P w K mg base N x (ag st) f cdv A outer s H E) (aJ st) t/\∀ds R RX,(∀z,J.RX z=RX)->S ds R RX->t {nx:=λ_=>R .non,rt:=R} (startD N ds)):FnOk P w K mg base (CX1 P w) (k+1) f fd ps (lSpX K S):=by
 refine Fun.okC T F (λvs H Q E h=>?_) (λcdv A outer s H vs Q E hr h=>?_)
 .obtain⟨F,ds,fh,rs,R,RX,h,_⟩:=h;rw[rs.length];exact len ds R RX h
 .obtain⟨F,ds,fh,rs,R,RX,h,q,qx⟩:=h
  letI:Jx:=#[H,F,λ_=>RX]
  have hx:XOk (cxOf (CX1 P w) P w K mg base N x (ag st) f cdv A outer s H E):=by
   intro σ z F' H' s' e C od y fs I kk rr hR er ⟨He,ne,_,hx⟩;have hE:E (.ref C) od H':=qx y fs C od F' H' #[kk.f0,kk.fh,kk.bh,kk.out] hR er;rcases hx with⟨sl,vs,h1,h2⟩|⟨T,fl,h1,h2,h3,_⟩
   .exact jZ I h1 h2 He ne hE
   .exact kF I h1 ne h2 He h3 hE
  let#[t,ht,hq]:=a9 cdv A outer s H E inferInstance hr hx;refine#[_,ht,H,F,F,startD N ds,#[Same.refl H,fh,Same.refl F,λ_ h _=>h,rfl,Same.refl F,λ_ h _=>h],dS rs,_,hq ds R RX (λ_=>rfl) h,#[λz' s' F' H' k hn _=>q _ _ F' H' #[k.f0,k.fh,k.bh,k.out] hn (rep_non.mpr rfl),λd v F' H' k hd rd=>q d v F' H' #[k.f0,k.fh,k.bh,k.out] hd rd,λ_ _ _ _ _ h _=>h.elim,λ_ _ _ _ _ h _=>h.elim]]
def Tx.okX{x:Lq}{st:U6}{k:Nat}{S:SpX}(T:Tx K mg x st ps)(F:FnScope N ps (ag st))(len:∀ds R RX,S ds R RX->ds.length=ps.length)
  (a9:∀(f:Pi) (cdv:Os) (A:U_) (outer:List VP) (s:SB) (H:Hp) (E:XK) (J:Jx),Room k (A.deeper (Vg x (ag st) s.heap.objs.size f cdv))->XOk (cxOf (CX1 P w) P w K mg base N x (ag st) f cdv A outer s H E)->
   ∃t,DSs (cxOf (CX1 P w) P w K mg base N x (ag st) f cdv A outer s H E) (aJ st) t/\∀ds R RX,(∀z,J.RX z=RX)->S ds R RX->t {nx:=λ_=>R .non,rt:=R} (startD N ds)):CalX P w K mg base (k+1) x ps S:=by
 let#[f,fd,T,hb,hm]:=T;exact#[f,fd,T.okX F len λcdv A outer s H E J hr hx=>a9 f cdv A outer s H E J hr hx,hb,T.kp,hm]
end
variable{P:U5}{w:U'}{h:Heap}
def ObjOk.there{a:Pi}{o:HO}(x:ObjOk P w H h a o):∃u,h.get? a=be u:=by
 cases o with
 |lst xs=>let#[_,_,_,_,e]:=x;exact#[_,e]
 |tup xs=>let#[_,_,_,o,e,_]:=x;exact#[_,e]
 |dK a_=>let#[_,_,_,_,o,_,_,e,_]:=x;exact#[_,e]
 |dT a_=>let#[_,_,_,_,o,_,_,e,_]:=x;exact#[_,e]
 |set S n=>let#[o,_,_,_,e,_]:=x;exact#[_,e]
 |ins C dx fs=>let#[_,_,_,e,_]:=x;exact#[_,e]
 |own y=>exact x
 |xd fs=>let#[_,#[_,_,_,e,_],_]:=x;exact#[_,e]
 |rng lo hi=>let#[_,_,_,e]:=x;exact#[_,e]
 |frz ob u=>let#[e,_]:=x;exact#[_,e]
 |tbl ps=>exact#[_,(show h.get? a=be _ from x)]
 |met f y=>exact#[_,(show h.get? a=be _ from x)]
 |ext φ=>let#[_,e,_]:=x;exact e
def gy{a:Pi}(x:HOk P w H h)(e:h.get? a=w6):H a=none:=by
 cases q:H a with
 |none=>rfl
 |some o=>
  let#[u,hu]:=ObjOk.there (x a o q);rw[e]at hu;cases hu
def del(H:Hp)(a:Pi):Hp:=λb=>if b=a then w6 else H b
def gz{a:Pi}:del H a a=none:=by unfold del;rw[if_pos rfl]
def cq{a:Pi}(h:b≠a):del H a b=H b:=by unfold del;rw[if_neg h]
section
variable {X:Cx}{pins:List (Pi×Vk)}{σ:L2.St}{H:Hp}{s:SB}{e:Pi}
variable{φ:Heap->Prop}
def Inv.drop(I:Inv X pins σ H s)(h:H e=be (.ext φ))(ne:X.s₀.heap.get? e=w6):Inv X pins σ (del H e) s:=by
 have nx:∀b o,H b=be o->(∀φ,o≠.ext φ)->b≠e:=λb o q n z=>by rw[z,h]at q;cases q;exact n φ rfl
 refine#[I.ok,I.os,I.bare,#[I.base.keep,I.base.slot,λb o q n hx=>?_,I.base.there,λb xs q=>?_,λb o u q=>?_,λb ps q=>?_],I.loc,I.cell,?_,λx c q=>?_,λp hp=>?_,λa o q=>?_,I.len]
 .have:b≠e:=λz=>by rw[z,ne]at q;cases q
  rw[cq this];exact I.base.free b o q n hx
 .have:=I.base.tups b xs q;rw[cq (nx b _ this λφ z=>nomatch z)];exact this
 .have:=I.base.frzs b o u q;rw[cq (nx b _ this λφ z=>nomatch z)];exact this
 .obtain⟨m,this⟩:=I.base.tbls b ps q;exact#[m,by rw[cq (nx b _ this λφ z=>nomatch z)];exact this]
 .by_cases z:X.env.locals=e
  .rw[z];exact gz
  .rw[cq z];exact I.free
 .by_cases z:c=e
  .rw[z];exact gz
  .rw[cq z];exact I.freeC x c q
 .obtain⟨h1,h2,h3⟩:=I.pin p hp;refine#[h1,?_,h3];by_cases z:p.1=e
  .rw[z];exact gz
  .rw[cq z];exact h2
 .by_cases z:a=e
  .rw[z,gz]at q;cases q
  .rw[cq z]at q;exact(I.hok a o q).stay (λb u _ r=>r) (λb r=>by rw[cq (nx b _ r λφ z=>nomatch z)];exact r) λb xs r=>by rw[cq (nx b _ r λφ z=>nomatch z)];exact r
def Inv.adopt(I:Inv X pins σ H s)(He:H e=w6)(ok:ObjOk X.prog X.w H s.heap e (.ext φ))(ne:X.s₀.heap.get? e=w6)(hl:e≠X.env.locals)(hc:∀x c,X.env.cells.lookup x=be c->c≠e)(hp:∀p∈X.pn++pins,p.1≠e):Inv X pins σ (upd H e (.ext φ)) s:=by
 refine#[I.ok,I.os,I.bare,#[I.base.keep,I.base.slot,λb o q n hx=>?_,I.base.there,λb xs q=>?_,λb o u q=>?_,λb ps q=>?_],I.loc,I.cell,?_,λx c q=>?_,λp ML=>?_,λa o q=>?_,I.len]
 .have:b≠e:=λz=>by rw[z,ne]at q;cases q
  rw[ar this];exact I.base.free b o q n hx
 .have:=I.base.tups b xs q;rw[ar (bH this He)];exact this
 .have:=I.base.frzs b o u q;rw[ar (bH this He)];exact this
 .obtain⟨m,this⟩:=I.base.tbls b ps q;exact#[m,by rw[ar (bH this He)];exact this]
 .rw[ar (Ne.symm hl)];exact I.free
 .rw[ar (hc x c q)];exact I.freeC x c q
 .obtain⟨h1,h2,h3⟩:=I.pin p ML;refine#[h1,?_,h3];rw[ar (hp p ML)];exact h2
 .by_cases z:a=e
  .rw[z,aC]at q;cases q;rw[z];exact ok
  .rw[ar z]at q;exact(I.hok a o q).stay (λb u _ r=>r) (λb r=>by rw[ar (bH r He)];exact r) λb xs r=>by rw[ar (bH r He)];exact r
end
structure ErrK(K:Ex)(mg:Str->Option Os)(x:Str)(C N:Pi)(bm:List Os):Prop where
 ns:nsIn K SL x=be (be (.ref C))
 mg:mg x=be (.ref C)
 kp:keepIn K (.ref C)=true
 obj:∃nm q bs sn sub ab col dd k0 k1 k2 k3 k5,K.lookup C=be (Vq nm q C N bs bm true sn sub ab col dd k0 k1 k2 k3 k5 "ValueError.__new__")
 tail:tailIn K veLine bm=true
structure ErrN(K:Ex)(N:Pi):Prop where
 ok:nsOkIn K N=true
 no:nsIn K N "__init__"=be w6
def ik{K:Ex}:∀{l:List Os},tailIn K veLine l=true->excMro l=true
 |[],e=>by simp[tailIn,veLine]at e
 |v::r,e=>by
  unfold tailIn at e;rcases Bool.or_eq_true_iff.mp e with q|q
  .rw[beq_iff_eq.mp q];decide+kernel
  .split at q
   .split at q
    .simp only[HV,beq_iff_eq]at q;unfold excMro;exact ik q.2
    .cases q
   .cases q
variable{K:Ex}{mg:Lq->Option Os}{C N:Pi}{bm:List Os}
def ErrK.base(k:ErrK K mg x C N bm):bm.contains (.type "BaseException")=true:=exc_has KK (ik k.tail)
section
variable {X:Cx}[J:Jx]{x:Lq}{C N:Pi}{bm:List Os}{e:U7}{es:List U7}{t:TDA}{p a8 pos:Vf}
def Ao(x:Lq)(t:TDA):TSD:=λ_ z=>t z λds=>ds.length<=1000/\J.RX z x []
def Ap(h:∃C N bm,ErrK X.K X.mg x C N bm/\ErrN X.K N)(hx:XOk X)(hc:X.calm=true)(ha:WDA X (e::es) t)(f9:(X.ex=[])\zA0)(hg:Gl X x\zA0)(d6:zND x\zA1)
  (he:zSE X e es\zA0) (c_:zPL X a8 es\zA0):WDS X (.Raise (be (.Call (.Name x p) (e::es) [] a8)) w6 pos) (Ao x t):=⟨by
 have ha:=ha.out;let#[C,N,bm,k,kn]:=h;intro pins s σ H D I h;let#[B,F0,F,z,kf,rs,ED,h,ee]:=h;obtain rfl:B=J.B:=kf.eb;let#[nm,q,bs,sn,sub,ab,col,dd,k0,k1,k2,k3,k5,lk]:=k.obj;refine jY (nm:=nm) (q:=q) (C:=C) (N:=N) (bs:=bs) (bm:=bm) (hdct:=true) (sn:=sn) (sub:=sub) (ab:=ab) (col:=col) (dd:=dd) (k0:=k0) (k1:=k1) (k2:=k2) (k3:=k3) (k5:=k5) (newId:="ValueError.__new__") k.base (I.ok.hd hc) ?_;refine Ve (ck I hg k.mg ?_ d6);refine callWith_K (h₀:=X.base) I.ok.mod.kin k.kp (thn (ha a8 pins s σ H (λvs H1=>∃F1,vs.length<=1000/\Grow F H F1 H1/\J.RX z x []) I #[_,F,z,kf.kf,rs,_,h,λds vs F1 H1 g1 hx rx=>#[F1,by rw[rx.length];exact hx.1,g1,hx.2]]) λus s1 hh=>#[hh.elim λ_ h=>h.elim λ_ h=>h.1.kIn,?_]) he c_;let#[vs,H1,I1,r,F1,hl,g1,hR]:=hh;have hC:=I1.kIn _ _ lk;let#[hp,gg,dr,tk,os]:=s1;refine WL PySem.F.excBase_ValueError (tail_of_in I1.kIn k.tail) hC (.of_isNs (isNs_of_in I1.kIn kn.ok)) (nsMap_none_of_in I1.kIn kn.ok kn.no) (λh' ea hm=>?_) (by show us.length<=_;rw[<-L2.Vals.length r];exact sz hl);let#[ta,h1,h2,h3]:=hm.there;have I2:Inv X pins σ H1 #[h',gg,dr,tk,os]:=I1.kept (t':=tk) hm.keeps;refine#[ea,ta,w6,[].toArray,rfl,hm.keeps _ _ hC,h1,?_];exact hx σ z F1 H1 _ ea C w6 x [] (Inv.nopins I2) (kf.kf.grow g1) (rs.grow g1) hR #[k.ns,[],repf_nil.mpr rfl,.inl #[rfl,rfl]] #[gy I1.hok hm.new,ex_free I1 f9 hm.new,pn_free I1 hm.new,.inl #[[].toArray,_,h1,rfl]]⟩
end
def XN(e C:Pi)(od:Option Pi):HO:=.ext λh=>∃t sl,h.get? e=be #[.ref C,od,.fields [.ref t,.none,.none,.none,.bool false,.none].toArray,sl]
variable{e:Pi}{od:Option Pi}{sl:Array (Option Os)}
def XN.ok{t:Pi}(q:h.get? e=be #[.ref C,od,.fields [.ref t,.none,.none,.none,.bool false,.none].toArray,sl]):ObjOk P w H h e (XN e C od):=
 #[#[t,sl,q],#[_,q],λh1 h2 ⟨t,sl,q⟩ k=>#[t,sl,k _ q]]
def XN.get(x:HOk P w H h)(q:H e=be (XN e C od)):∃t sl,h.get? e=be #[.ref C,od,.fields [.ref t,.none,.none,.none,.bool false,.none].toArray,sl]:=(x e _ q).1
def ErrF(K:Ex)(F:Hp)(fs:List (Lq×D))(od:Option Pi):Prop:=∃vs,RepF K F fs vs/\((od=w6/\vs=[])\/∃b,od=be b/\F b=be (.xd vs))
def lEi(K:Ex)(C:Pi)(S:SiD):Sp:=λvs H Q _=>∃e us H1 F ds,vs=.ref e::us/\H=upd H1 e (XN e C w6)/\H1 e=w6/\Same F H1/\Reps K F ds us/\
 ∃R:List (Lq×D)->Prop,S ds R/\∀fs od F' H',Grow F H1 F' H'->R fs->H' e=be (XN e C od)->F' e=w6->ErrF K F' fs od->Q .non H'
def CalE(P:U5)(w:U')(K:Ex)(mg:Lq->Option Os)(base:Heap)(n:Nat)(x:Lq)(ps:List Lq)(S:SiD):Prop:=
 ∃C N bm f fd,ErrK K mg x C N bm/\HB K (.ref C) "__init__"=be (be (.ref f))/\isFn K (.ref f)=true/\FnOk P w K mg base (CX1 P w) n f fd ps (lEi K C S)/\Binds K fd ps []
section
variable {X:Cx}{pins:List (Pi×Vk)}{σ:L2.St}{H:Hp}{s:SB}{e:Pi}
def Inv.newx{C:Pi}{h':Heap}{us:List Os}(I:Inv X pins σ H s)(f9:X.ex=[])(hm:Heap.MadeExcOf s.heap h' e (.ref C) us):Inv X pins σ (upd H e (XN e C w6)) {s with heap:=h'}:=by
 let#[ta,h1,h2,h3]:=hm.there;have I2:Inv X pins σ H {s with heap:=h'}:=I.kept (t':=s.toks) hm.keeps;refine Inv.adopt I2 (gy I.hok hm.new) (XN.ok h1) (ex_free I f9 hm.new) (λz=>?_) (λx c q z=>?_) λp hp z=>?_
 .obtain⟨m,⟨o,_,_,ho,_⟩,_⟩:=I.loc;rw[<-z,hm.new]at ho;cases ho
 .obtain⟨v,o,ho,_⟩:=I.cell x c q;rw[z,hm.new]at ho;cases ho
 .have:=(I.pin p hp).1;rw[z,hm.new]at this;cases this
end
structure BaseK(K:Ex)(mg:Str->Option Os)(y:Str)(M:Pi):Prop where
 mg:mg y=be (.ref M)
 rd:readsIn K M (.type "type")=true
 fc:findCls K (.ref M) (.type "type") "__init__"=be (.val (.builtin "ValueError.__init__"))
 sp:Iy K (.ref M) "__getattribute__"=be (be (.builtin "type.__getattribute__"))
structure ErrA(K:Ex)(x:Str)(C:Pi)(cd:VX):Prop where
 ns:nsIn K SL x=be (be (.ref C))
 cl:JC K C=be cd
 mro:excMro cd.mro=true
 hd:cd.hasDict=true
 sa:HB K (.ref C) "__setattr__"=be (be (.builtin "object.__setattr__"))
def ErrK.a(k:ErrK K mg x C N bm)(sa:HB K (.ref C) "__setattr__"=be (be (.builtin "object.__setattr__"))):∃cd,ErrA K x C cd:=by
 let#[nm,q,bs,sn,sub,ab,col,dd,k0,k1,k2,k3,k5,lk]:=k.obj;exact⟨_,k.ns,by unfold JC;rw[lk],by
  show excMro (.ref C::bm)=true;unfold excMro;exact ik k.tail,rfl,sa⟩
def lX(K:Ex)[J:Jx](x:Lq)(t:TID):TS:=λE σ H=>∃C e od ws F z fs,nsIn K SL x=be (be (.ref C))/\σ[0]?=be (be (.ref e))/\H e=be (XN e C od)/\J.B e=w6/\F e=w6/\Kept J.B J.F0 F H/\RepS K J.B F H z σ/\RepF K F fs ws/\
 ((od=w6/\ws=[])\/∃b,od=be b/\H b=be (.xd ws)/\J.B b=w6/\F b=w6/\b≠e/\ws≠[])/\
 ∃R:List (Lq×D)->Prop,t z fs R/\∀n5 OE F' H',Kept J.B J.F0 F' H'->R n5->H' e=be (XN e C OE)->F' e=w6->ErrF K F' n5 OE->E.nx σ H'
abbrev DX(X:Cx)[Jx](x:Lq)(st:List U6)(t:TID):Prop:=PSs X st (lX X.K x t)
structure WDX(X:Cx)[Jx](x:Str)(st:List U6)(t:TID):Prop where
 out:DX X x st t
def sG{a:Pi}{o:HO}(h:H a=be o):upd H a o=H:=by
 funext b;unfold upd;by_cases q:b=a
 .rw[if_pos q,q,h]
 .rw[if_neg q]
section
variable {X:Cx}[J:Jx]{x f:Lq}{e:U7}{te:TD}{ta:TDA}{pos d7 p:Vf}{rest:List U6}{tr:TID}
def sH:WDX X x [] sB:=⟨pss_nil.anti λE s H q=>by
 let#[C,a,od,ws,F,z,fs,hn,h0,g7,hB,l9,k,rs,rf,hd,R,hR,kk]:=q;rcases hd with⟨rfl,rfl⟩|⟨b,rfl,hb,OF,OG,ne,_⟩
 .exact kk fs w6 F H k hR g7 l9 #[[],rf,.inl #[rfl,rfl]]
 .have s1:Same F (upd F b (.xd ws)):=aR OG _;refine kk fs (be b) (upd F b (.xd ws)) H #[k.bh,λc o q=>?_,k.f0.trans s1,λc h1 h2=>?_,k.eb,k.jf,k.jo] hR g7 (by rw[ar (Ne.symm ne)];exact l9) #[ws,RepF.mono s1 fs ws rf,.inr #[b,rfl,aC]]
  .by_cases hc:c=b
   .subst hc;rw[aC]at q;cases q;exact hb
   .rw[ar hc]at q;exact k.fh c o q
  .have:c≠b:=λz=>h2 (z ▸ OF);rw[ar this];exact k.out c h1 h2⟩
def Aq(ta:TDA)(tr:TID):TID:=λz fs R=>ta z λds=>ds.length<=1000/\tr z fs R
def sI{y sx:Lq}{ps py b7 a8:Vf}{es:List U7}{pl:WB Bool}(hb:∃M,BaseK X.K X.mg y M)(hA:∃C cd,ErrA X.K x C cd)(ha:WDA X es ta)(hr:WDX X x rest tr)(hg:Gl X y\zA0)(hN:(X.N[0]?=be sx)\zA0)(hv:Vis X.env.scope sx\zA5)(hd:zND sx\zA1)
  (h_:zNC sx\zA1) (Tp:zND y\zA1)
  (he:(U9 (.Name sx ps::es) X.env=(false,Vc (.Name sx ps) X.env)::U9 es X.env)\zA0) (c_:zPL X a8 es\zA0)
  (ht:Vc (.Call (.Attribute (.Name y py) "__init__" b7) (.Name sx ps::es) [] a8) X.env=(do
   let ov <-Vc (.Name y py) X.env
   VO b7.atName
   let (f,first) <-Vv [ov] (V5 ov "__init__" pl)
   WH a8 f first (VC a8 (U9 (.Name sx ps::es) X.env)) (V_ a8 (VT [] X.env))):=by rfl)
  (hs:(Vn (.Call (.Attribute (.Name y py) "__init__" b7) (.Name sx ps::es) [] a8) w6 pos.line X.env=pure false)\zA0):WDX X x (.Expr (.Call (.Attribute (.Name y py) "__init__" b7) (.Name sx ps::es) [] a8) pos::rest) (Aq ta tr):=⟨by
 have ha:=ha.out;have hr:=hr.out;let#[M,bk]:=hb;let#[C,cd,er]:=hA;have step:PS X (.Expr (.Call (.Attribute (.Name y py) "__init__" b7) (.Name sx ps::es) [] a8) pos) (λE σ H=>∃C' e od,nsIn X.K SL x=be (be (.ref C'))/\σ[0]?=be (be (.ref e))/\
   lA X.K ta σ H (λvs H1=>H1 e=be (XN e C' od)/\vs.length<=1000/\E.nx σ H1)):=by
  intro pins s σ H D I h;let#[C',ea,od,hn,h0,h]:=h;rw[er.ns]at hn;cases hn;refine wpAny_Expr_any (methodCall_KW (pl:=pl) (ck I hg bk.mg ?_ Tp) ht) I.quiet hs;refine method_cls I.kIn bk.sp (cls_value I.kIn bk.rd bk.fc KK ?_);have I0:Inv X pins σ H {s with toks:=s.toks+1}:=I.tok _;let#[B,F,z,kf,rs,R,h1,h2]:=h;refine PyProof.Rows.callWith_builtin1 (thn (bt (dm (i:=0) hN hv hd h_) ha he a8 pins _ σ H (λvs H1=>∃us,vs=.ref ea::us/\H1 ea=be (XN ea C od)/\us.length<=1000/\D.nx σ H1) I0 #[.ref ea,h0,#[B,F,z,kf,rs,R,h1,λds vs F' H' g hx rx=>#[vs,rfl,h2 ds vs F' H' g hx rx]]]) λus s1 hh=>?_) he c_;let#[vs,H1,I1,r,UE,ev,A_,hl,ND]:=hh;subst ev;cases r with
  |cons r1 r2=>
   rename_i u0 UF;obtain rfl:u0=Value.ref ea:=r1;let#[t0,sl,j9]:=XN.get I1.hok A_;refine zk (K:=X.K) (C:=C) (cd:=cd) I1.kIn j9 rfl rfl er.cl er.mro (by rw[<-L2.Vals.length r2];exact sz hl) λh' g1 g2=>?_;refine#[σ,H1,?_,ND];have w:=I1.write (x:=ea) (e:=ea) (o:=XN ea C od) (h':=h') (t':=s1.toks) (by rw[A_];exact True.intro) (.inl rfl) (λb u hb q=>g2 b u hb q) #[_,g1] (XN.ok g1);rw[sG A_]at w;exact w
 refine(fT step hr).anti λE s H q=>?_;let#[C',a,od,ws,F,z,fs,hn,h0,g7,hB,l9,k,rs,rf,g_,R,hR,kk]:=q;refine#[C',a,od,hn,h0,_,F,z,k,rs,_,hR,λds vs F1 H1 g hx rx=>#[g.hh a _ g7,by rw[rx.length];exact hx.1,?_]];refine#[C',a,od,ws,F1,z,fs,hn,h0,g.hh a _ g7,hB,g.out a l9 (by rw[g7];exact λz=>nomatch z),k.grow g,rs.grow g,RepF.mono g.ff fs ws rf,?_,R,hx.2,kk];rcases g_ with g_|⟨b,h1,h2,h3,h4,h5⟩
 .exact .inl g_
 .exact .inr #[b,h1,g.hh b _ h2,h3,g.out b h4 (by rw[h2];exact λz=>nomatch z),h5]⟩
def Ar(f:Lq)(te:TD)(tr:TID):TID:=λz fs R=>fs=[]/\te z λd=>tr z [(f,d)] R
def sJ{sx:Lq}{ps:Vf}(hA:∃C cd,ErrA X.K x C cd)(hf:∀C,nsIn X.K SL x=be (be (.ref C))->HB X.K (.ref C) f=be w6)(he:WDE X e te)(hr:WDX X x rest tr)(hN:(X.N[0]?=be sx)\zA0)(hv:Vis X.env.scope sx\zA5)(hd:zND sx\zA1)
  (h_:zNC sx\zA1) (hs:(Vn e (be (.Attribute (.Name sx ps) f d7)) pos.line X.env=pure false)\zA0):WDX X x (.Assign [.Attribute (.Name sx ps) f d7] e pos::rest) (Ar f te tr):=⟨by
 have he:=he.out;have hr:=hr.out;let#[C,cd,er]:=hA;have NE:=hf C er.ns;have step:PS X (.Assign [.Attribute (.Name sx ps) f d7] e pos) (λE σ H=>∃e,σ[0]?=be (be (.ref e))/\
   lE X.K te σ H (λv H1=>H1 e=be (XN e C w6)/\∀b,H1 b=w6->b≠e->E.nx σ (upd (upd H1 b (.xd [(f,v)])) e (XN e C (be b))))):=by
  intro pins s σ H D I h;let#[ea,h0,h]:=h;refine Wa (thn (he pins s σ H _ I h) λu s1 ⟨y,H1,I1,ry,A_,ND⟩=>thn (dm (i:=0) hN hv hd h_ pins s1 σ H1 (λv H'=>v=.ref ea/\H'=H1) I1 #[.ref ea,h0,rfl,rfl]) λov s2 hh=>?_) hs;let#[v0,H2,I2,r0,e1,e2]:=hh;subst e1 e2;obtain rfl:ov=Value.ref ea:=r0;let#[t0,sl,j9]:=XN.get I2.hok A_;refine zi (K:=X.K) (C:=C) (cd:=cd) I2.kIn j9 rfl rfl rfl er.cl er.mro er.hd er.sa NE λh' g1 g2 g3 tk=>?_;have n6:H2 s2.heap.objs.size=none:=I2.hok.fresh (Hw _);have k_:s2.heap.objs.size≠ea:=Ix (Heap.lt_size j9);have Py:∀b o,s2.heap.get? b=be o->b≠s2.heap.objs.size:=λb o q=>HD (Heap.lt_size q);have Pz:∀b,H2 b=w6->b≠ea:=λb q z=>by rw[z,A_]at q;cases q
  refine#[σ,_,?_,ND _ n6 k_];have NF:∀b o,H2 b=be o->(∀φ,o≠.ext φ)->upd (upd H2 s2.heap.objs.size (.xd [(f,y)])) ea (XN ea C (be s2.heap.objs.size)) b=be o:=λb o q n=>by
   have n1:b≠ea:=λz=>by rw[z,A_]at q;cases q;exact n _ rfl
   rw[ar n1,ar (bH q n6)];exact q
  refine I2.un (h':=h') (t':=tk) #[λb o q n _ _=>g3 b o (Pz b n) q,λb o q n _ _=>#[o.slots,g3 b o (Pz b n) q],λb o q n _=>?_,λb o q _=>?_,λb xs q=>NF b _ q (λφ z=>nomatch z),λb o u q=>NF b _ q (λφ z=>nomatch z),λb ps q=>#[[].toArray,by rw[NF b _ q (λφ z=>nomatch z)];simp]] λa o q=>?_
  .rw[ar (Pz b n),ar (Py b o q)];exact n
  .by_cases hb:b=ea
   .rw[hb];exact#[_,g1]
   .exact#[o,g3 b o hb q]
  .by_cases ha:a=ea
   .subst ha;rw[aC]at q;cases q;exact XN.ok g1
   .rw[ar ha]at q;by_cases hb:a=s2.heap.objs.size
    .subst hb;rw[aC]at q;cases q;refine#[_,g2,λg=>?_];rw[HM];by_cases hg:g=f
     .subst hg;simp;exact ry
     .have:(g==f)=false:=by simpa using hg
      rw[this,if_neg hg];exact True.intro
    .rw[ar hb]at q;refine(I2.hok a o q).stay (λb u g6 r=>?_) (λb r=>NF b _ r (λφ z=>nomatch z)) λb xs r=>NF b _ r (λφ z=>nomatch z);refine g3 b u (λz=>?_) r;rcases g6 with e1|e1
     .exact ha (e1 ▸ z)
     .rw[z,A_]at e1;cases e1
 refine(fT step hr).anti λE s H q=>?_;let#[C',a,od,ws,F,z,fs,hn,h0,g7,hB,l9,k,rs,rf,g_,R,#[rfl,hR],kk]:=q;rw[er.ns]at hn;cases hn;have Tq:ws=[]:=repf_nil.mp rf;subst Tq;refine#[a,h0,_,F,z,k,rs,_,hR,λd v F1 H1 g hx rv=>?_];have NG:F1 a=none:=g.out a l9 (by rw[g7];exact λz=>nomatch z);have k1:=k.grow g;rcases g_ with⟨rfl,_⟩|⟨b,rfl,h1,h2,h3,h4⟩
 .refine#[g.hh a _ g7,λb hb k_=>?_];have OF:J.B b=none:=k1.bh.free hb;have OG:F1 b=none:=k1.fh.free hb;have same:∀{G:Hp},G a=w6->G b=w6->Same G H1->Same G (upd (upd H1 b (.xd [(f,v)])) a (XN a C (be b))):=λ{G} ga gb gs c o q=>by
   have n1:c≠a:=λz=>by rw[z,ga]at q;cases q
   have n2:c≠b:=λz=>by rw[z,gb]at q;cases q
   rw[ar n1,ar n2];exact gs c o q
  have w_:=rs.grow g;refine#[C,a,be b,[(f,v)],F1,z,[(f,d)],er.ns,h0,aC,hB,NG,#[same hB OF k1.bh,same NG OG k1.fh,k1.f0,k1.out,k1.eb,k1.jf,k1.jo],?_,repf_cons.mpr #[v,[],rfl,rv,repf_nil.mpr rfl],.inr #[b,rfl,by rw[ar k_];exact aC,OF,OG,k_,λz=>nomatch z],R,hx,kk];refine#[w_.len,w_.val,λi ds e'=>?_,w_.apart];let#[c,vs,q1,q2,q]:=w_.own i ds e';have n1:c≠a:=λz=>by rw[z,g.hh a _ g7]at q2;cases q2
  have n2:c≠b:=λz=>by rw[z,hb]at q2;cases q2
  exact#[c,vs,q1,by rw[ar n1,ar n2];exact q2,q]
 .exact absurd rfl h4.2⟩
end
section
variable {P:U5}{w:U'}{K:Ex}{mg:Lq->Option Os}{base:Heap}
def Cls.okE{x qual:Lq}{st:U6}{f C N0:Pi}{bm:List Os}{fd:Vd}{N:List Lq}{p0:Lq}{ps:List Lq}{k:Nat}{S:SiD}(T:Fun K "__init__" qual st f fd)(hb:Binds K fd (p0::ps) [])(F:FnScope (p0::N) (p0::ps) (ag st))(len:∀ds R,S ds R->ds.length=ps.length)
  (ek:ErrK K mg x C N0 bm) (hi:HB K (.ref C) "__init__"=be (be (.ref f))) (hf:isFn K (.ref f)=true)
  (a9:∀(cdv:Os) (A:U_) (outer:List VP) (s:SB) (H:Hp) (E:XK) (J:Jx),Room k (A.deeper (Vg qual (ag st) s.heap.objs.size f cdv))->
   ∃t,DX (cxOf (CX1 P w) P w K mg base (p0::N) qual (ag st) f cdv A outer s H E).nox x (aJ st) t/\∀ds R,S ds R->t (w6::startD N ds) [] R):CalE P w K mg base (k+1) x (p0::ps) S:=by
 refine#[C,N0,bm,f,fd,ek,hi,hf,Fun.okC T F (λvs H Q E h=>?_) (λcdv A outer s H vs Q E hr h=>?_),hb]
 .obtain⟨a,us,H1,F,ds,rfl,_,_,_,rs,R,h,_⟩:=h;rw[HA,HA,rs.length,len ds R h]
 .obtain⟨a,us,H1,F1,ds,rfl,rfl,ha,fh,rs,R,h,q⟩:=h
  letI:Jx:=#[H1,F1,λ_ _ _=>False]
  let#[t,ht,hq]:=a9 cdv A outer s _ E inferInstance hr;have Fa:F1 a=none:=fh.free ha;have hl:L2.start (p0::N) (.ref a::us)=be (.ref a)::L2.start N us:=by
   unfold L2.start;rw[HR,HA,HA,Ky];rfl
  have s1:Same H1 (upd H1 a (XN a C w6)):=aR ha _;refine#[_,ht.nox,C,a,w6,[],F1,w6::startD N ds,[],ek.ns,by rw[hl];rfl,aC,ha,Fa,#[s1,fh.trans s1,Same.refl F1,λ_ h _=>h,rfl,Same.refl F1,λ_ h _=>h],?_,repf_nil.mpr rfl,.inl #[rfl,rfl],R,hq ds R h,λn5 OE F' H' g hR g7 l9 er=>q n5 OE F' H' #[g.f0,g.fh,g.bh,g.out] hR g7 l9 er];rw[hl];exact sC (dS rs)
end
section
variable {M:WI}{A:U_}{E:Os->SB->Prop}{h:Heap}{g:Array WJ}{d:Drawn}{t:Nat}{os:OsState}
variable {nm q:Lq}{C N:Pi}{bs bm:List Os}{hdct:Bool}{sn:List Lq}{sub:List Os}{ab:Bool}{col:Option Bool}{dd:Option Pi}{k0 k1 k2 k3 k5:Option Os}{newId:String}
variable {PB q':Lq}{C' N':Pi}{PC NH:List Os}{NI:Bool}{PD:List Lq}{Mr:List Os}{PF:Bool}{Ms:Option Bool}{NJ:Option Pi}{PH PJ PK PL PM:Option Os}{Mt:String}
def sK{e:Pi}{oe:Vk}{b:Bool}{Q:Bool->SB->Prop}(hC:h.get? C=be (Vq nm q C N bs bm hdct sn sub ab col dd k0 k1 k2 k3 k5 newId))(hD:h.get? C'=be (Vq PB q' C' N' PC NH NI PD Mr PF Ms NJ PH PJ PK PL PM Mt))
  (he:h.get? e=be oe) (z6:oe.cls=.ref C) (b_:NH.contains (.type "BaseException")=true) (hb:(Value.ref C::bm).contains (.ref C')=b) (hq:Q b #[h,g,d,t,os]):U8 M A (excMatches (.ref e) (.ref C')) Q E #[h,g,d,t,os]:=by
 have Pj:(Value.ref C'::NH).contains (.type "BaseException")=true:=by rw[JS,b_,Jz]
 have f:=tc_notTuple;unfold excMatches
 repeat(first|(with_reducible refine Vm he ?_;rw[z6])|with_reducible refine Vm hD ?_|(with_reducible refine VN hD ?_;rw[Pj])|(with_reducible refine VN hC ?_;rw[hb])|wp_step)
 cases b with
 |true=>wp_walk;exact hq
 |false=>wp_walk;exact hq
end
abbrev _root_.L2.Cx.held(X:Cx)(e:Pi):Cx:={X with A:=X.A.mark (be (.ref e)),calm:=false,xe:=λ_ _=>False}
section
variable {X:Cx}{pins:List (Pi×Vk)}{σ:L2.St}{H:Hp}{s:SB}{e:Pi}
def Cx.Ok.held(ok:X.Ok):(X.held e).Ok:=
 #[ok.mod,ok.kind,ok.glob,ok.blt,ok.above,ok.inj,ok.has,ok.cab,(λz=>nomatch z),ok.frames,ok.stk,ok.exf,ok.bs,ok.bsz,ok.noex,ok.exfs,ok.funs,ok.frf]
def Inv.held(I:Inv X pins σ H s):Inv (X.held e) pins σ H s:=#[Cx.Ok.held I.ok,I.os,I.bare,I.base,I.loc,I.cell,I.free,I.freeC,I.pin,I.hok,I.len]
def Inv.unheld(ok:X.Ok)(I:Inv (X.held e) pins σ H s):Inv X pins σ H s:=#[ok,I.os,I.bare,I.base,I.loc,I.cell,I.free,I.freeC,I.pin,I.hok,I.len]
def SP.unheld{D:Ends}{f:Flow}{s':SB}(ok:X.Ok)(h:SP (X.held e) pins D f s'):SP X pins D f s':=by
 cases f with
 |next=>let#[σ',H',I,q]:=h;exact#[σ',H',Inv.unheld ok I,q]
 |brk=>let#[σ',H',I,q]:=h;exact#[σ',H',Inv.unheld ok I,q]
 |cont=>let#[σ',H',I,q]:=h;exact#[σ',H',Inv.unheld ok I,q]
 |ret u=>let#[v,σ',H',I,r,q]:=h;exact#[v,σ',H',Inv.unheld ok I,r,q]
def il{M:WI}{A:U_}{E:Os->SB->Prop}{i:Nat}{x:Lq}{pos:Vf}{Q:Unit->SB->Prop}(I:Inv X pins σ H s)(hN:X.N.Nodup)(hi:X.N[i]?=be x)(hk:X.env.scope.names.lookup x=be .local)
  (h:∀s',Inv X pins (σ.set i w6) H s'->Q () s'):U8 M A (do Wm X.env x .none;unbindBehindTheSuite X.env x pos) Q E s:=by
 let#[m,hn,hl]:=id I.loc;have z6:(X.env.scope.kind== .class||(X.env.scope.kind== .module&&X.env.locals !=X.env.globals))=false:=by rw[I.ok.kind];rfl
 have hiσ:i<σ.length:=by rw[I.len];exact(HJ.mp hi).1
 have cne:=I.cne;refine wpAny_nameGoes_keeps hk hn z6 λh' v i_ hs=>?_;let#[oL,_,_,Rx,_]:=id hn;have g9:HOk X.prog X.w H h':=λb ob e=>by
  refine(I.hok b ob e).stay (λc w' hc q=>(hs.2 c ?_).trans q) (λ_ q=>q) λ_ _ q=>q;intro rfl;rcases hc with rfl|hc
  .rw[I.free]at e;cases e
  .rw[I.free]at hc;cases hc
 refine h _ #[I.ok,I.os,I.bare,#[λb o e n hb hx=>?_,λb o e n hb hx=>?_,I.base.free,λb o e hx=>?_,I.base.tups,I.base.frzs,I.base.tbls],#[_,i_,λj y v' e1 e2 e3=>?_],λy c e=>?_,I.free,I.freeC,λp hp=>?_,g9,by simpa using I.len]
 .exact(hs.2 b (HD (HQ (Heap.lt_size e) I.ok.above))).trans (I.base.keep b o e n hb hx)
 .obtain⟨sl,e1⟩:=I.base.slot b o e n hb hx;exact#[sl,(hs.2 b (HD (HQ (Heap.lt_size e) I.ok.above))).trans e1]
 .obtain⟨o',e1⟩:=I.base.there b o e hx;exact#[o',(hs.2 b (HD (HQ (Heap.lt_size e) I.ok.above))).trans e1]
 .by_cases hj:j=i
  .subst hj;rw[Ij hiσ]at e2;cases e2
  .rw[HL (Ne.symm hj)]at e2;let#[u',r',q]:=hl j y v' e1 e2 e3;refine#[u',r',?_];rcases q with⟨k,e⟩|⟨k,c,e,z⟩
   .refine .inl #[k,?_];have:y≠x:=λe=>hj (jA hN e1 (e ▸ hi));simp[this,e]
   .exact .inr #[k,c,e,z.sameBut hs (cne y c e)]
 .obtain⟨w',z⟩:=I.cell y c e;exact#[w',z.sameBut hs (cne y c e)]
 .obtain⟨e,n,ne,nf,d⟩:=I.pin p hp;exact#[(hs.2 p.1 ne).trans e,n,ne,nf,d]
def Inv.stay{h':Heap}{n5 ex:List Pi}(I:Inv X pins σ H s)(st:Stay n5 ex s.heap h')(Oz:∀b∈n5,b∈frs X.stack)(hH:∀b∈ex,H b=w6)(h0:∀b∈ex,X.s₀.heap.get? b=w6)(hL:∀b∈ex,b≠X.env.locals)(hc:∀b∈ex,∀x c,X.env.cells.lookup x=be c->c≠b)
  (hp:∀b∈ex,∀p∈X.pn++pins,p.1≠b):Inv X pins σ H {s with heap:=h'}:=by
 have hok:HOk X.prog X.w H h':=fX I.hok st (λb hb=>I.stkFree b (Oz b hb)) hH;have sub:∀b∈n5,b=X.env.locals\/b∈X.fs:=λb hb=>Hx.mp (I.stkSub b (Oz b hb));have nL:∀b o,X.s₀.heap.get? b=be o->b≠X.env.locals:=λb o q=>HD (HQ (Heap.lt_size q) I.ok.above);have RT:∀b o,X.s₀.heap.get? b=be o->b∉ex:=λb o q z=>by rw[h0 b z]at q;cases q
 have n8:∀x c v,X.env.cells.lookup x=be c->s.heap.IsCell c v->h'.IsCell c v:=λx c v e ⟨o,ho,hd⟩=>by
  let#[sl,z]:=st.slot c o ho (λz=>hc c z x c e rfl);exact#[_,z,hd]
 refine#[I.ok,I.os,I.bare,#[λb o e n hb hx=>?_,λb o e n hb hx=>?_,I.base.free,λb o e hx=>?_,I.base.tups,I.base.frzs,I.base.tbls],?_,λy c e=>?_,I.free,I.freeC,λp ML=>?_,hok,I.len]
 .exact st.keep b o (I.base.keep b o e n hb hx) (RT b o e) (λz=>(sub b z).elim (nL b o e) hb)
 .obtain⟨sl,e1⟩:=I.base.slot b o e n hb hx;let#[n9,e2]:=st.slot b _ e1 (RT b o e);exact#[n9,e2]
 .obtain⟨o',e1⟩:=I.base.there b o e hx;exact st.there b o' e1
 .obtain⟨m,⟨o,es,ep,ho,r⟩,hl⟩:=I.loc;let#[sl,z]:=st.slot _ o ho (λz=>hL _ z rfl);refine#[m,#[_,es,ep,z,r],λj y v' e1 e2 e3=>?_];let#[u',r',q]:=hl j y v' e1 e2 e3;refine#[u',r',?_];rcases q with q|⟨k,c,e,z⟩
  .exact .inl q
  .exact .inr #[k,c,e,n8 y c _ e z]
 .obtain⟨w',z⟩:=I.cell y c e;exact#[w',n8 y c _ e z]
 .obtain⟨e,n,ne,nf,d⟩:=I.pin p ML;exact#[st.keep _ _ e (λz=>hp _ z p ML rfl) (λz=>(sub _ z).elim ne nf),n,ne,nf,d]
end
def subE(x c:Lq):Bool:=x==c||c=="MotifError"
structure ErrsK(K:Ex)(mg:Str->Option Os)(es:List Str):Prop where
 cls:∀x∈es,∃C N bm,ErrK K mg x C N bm
 sub:∀x∈es,∀y∈es,∀C C',nsIn K SL x=be (be (.ref C))->nsIn K SL y=be (be (.ref C'))->Ig K C (.ref C')=be (subE x y)
def ErrsK.has{es:List Lq}(k:ErrsK K mg es){y:Lq}{C' N':Pi}{NH:List Os}(hx:x∈es)(hy:y∈es)(a:ErrK K mg x C N bm)(b:ErrK K mg y C' N' NH):(Value.ref C::bm).contains (.ref C')=subE x y:=by
 have h:=k.sub x hx y hy C C' a.ns b.ns;let#[nm,q,bs,sn,sub,ab,col,dd,k0,k1,k2,k3,k5,lk]:=a.obj;unfold Ig JC at h;rw[lk]at h;simp only[Iq,List.isEmpty_cons,Bool.false_eq_true,if_false,Option.some.injEq]at h;exact h
structure Held(X:Cx)(pins:List (Pi×Vk))(H:Hp)(s:SB)(e C:Pi)(od:Option Pi)(T:Pi):Prop where
 ex:ExAt s.heap e C od T .none
 He:H e=w6
 HT:H T=w6
 e0:X.s₀.heap.get? e=w6
 T0:X.s₀.heap.get? T=w6
 eP:∀p∈X.pn++pins,p.1≠e
 TP:∀p∈X.pn++pins,p.1≠T
section
variable {X:Cx}{pins:List (Pi×Vk)}{σ:L2.St}{H:Hp}{s:SB}
variable{vs:Array Os}
def im{b:Pi}{o:Vk}(I:Inv X pins σ H s)(h:s.heap.get? b=be o)(hd:o.data=.fields vs):b≠X.env.locals:=λz=>by
 let#[m,#[o',es,ep,ho,g_,_],_]:=I.loc;rw[<-z,h]at ho;cases ho;rw[hd]at g_;cases g_
def fld_cell{b:Pi}{o:Vk}(I:Inv X pins σ H s)(h:s.heap.get? b=be o)(hd:o.data=.fields vs):∀x c,X.env.cells.lookup x=be c->c≠b:=λx c q z=>by
 let#[v,o',ho,g_]:=I.cell x c q;rw[z,h]at ho;cases ho;rw[hd]at g_;cases g_
variable{od:Option Pi}
def Held.flight{e C T:Pi}{h':Heap}(I:Inv X pins σ H s)(k:Held X pins H s e C od T)(hx:ExAt h' e C od T .none)(st:Stay [] [T] s.heap h'):Inv X pins σ H {s with heap:=h'}/\Held X pins H {s with heap:=h'} e C od T:=by
 let#[sl,vs,oT,ts,he,h1,u_,hT,m8,h3]:=k.ex;refine#[Inv.stay I st (λb hb=>by cases hb) (λb hb=>?_) (λb hb=>?_) (λb hb=>?_) (λb hb=>?_) (λb hb=>?_),#[hx,k.He,k.HT,k.e0,k.T0,k.eP,k.TP]]<;>rw[Hv.mp hb]
 .exact k.HT
 .exact k.T0
 .exact im I hT m8
 .exact fld_cell I hT m8
 .exact k.TP
def XO.ok{P:U5}{w:U'}{h:Heap}{e C:Pi}{sl:Array (Option Os)}(q:h.get? e=be #[.ref C,od,.fields vs,sl]):ObjOk P w H h e (XO e C od):=
 #[#[vs,sl,q],#[_,q],λh1 h2 ⟨vs,sl,q⟩ k=>#[vs,sl,k _ q]]
end
def RepS.unset{B F:Hp}{z:SD}{s:L2.St}{i:Nat}(h:RepS K B F H z s):RepS K B F H (z.set i w6) (s.set i w6):=by
 have get:∀{j:Nat} {x:D},(z.set i w6)[j]?=be (be x)->j≠i/\z[j]?=be (be x):=λ{j x} e=>by
  by_cases hj:i=j
  .subst hj;rw[IN]at e;simp at e
  .rw[HL hj]at e;exact#[λz=>hj z.symm,e]
 refine#[by rw[IC,IC];exact h.len,λj x e nx=>?_,λj ds e=>?_,λj k dj dk a e1 e2 e3 e4=>?_]
 .obtain⟨hj,e⟩:=get e;rw[HL (λz=>hj z.symm)];exact h.val j x e nx
 .obtain⟨hj,e⟩:=get e;rw[HL (λz=>hj z.symm)];exact h.own j ds e
 .obtain⟨hj,e1⟩:=get e1;let#[hk,e2]:=get e2;rw[HL (λz=>hj z.symm)]at e3;rw[HL (λz=>hk z.symm)]at e4;exact h.apart j k dj dk a e1 e2 e3 e4
abbrev TH:=Lq->List (Lq×D)->TSD
def DH(X:Cx)[J:Jx](hs:List VA)(th:TH):Prop:=
 ∀(pins:List (Pi×Vk)) (s:SB) (σ:L2.St) (H:Hp) (D:Ends) (e C:Pi) (od:Option Pi) (T:Pi) (x:Lq) (fs:List (Lq×My.D)) (B F0 F:Hp) (z:SD) (ED:EndsD),Inv X pins σ H s->Held X pins H s e C od T->Kept B F0 F H->RepS X.K B F H z σ->ErrD X.K F x fs C od->
  th x fs ED z->EndsOk X.K B F0 ED D->U8 (U4 X.prog X.w) X.A (Wk (.ref e) X.env hs) (SP X pins D) X.xe s
structure WDH(X:Cx)[Jx](hs:List VA)(th:TH):Prop where
 out:DH X hs th
section
variable {X:Cx}[J:Jx]{es:List Lq}{c:Lq}{b₀:U6}{u6:List U6}{pos pc:Vf}{rest:List VA}{t:TSD}{r:TH}
def As:TH:=λ_ _ _ _=>False
def Au(es:List Lq)(c:Lq)(t:TSD)(r:TH):TH:=λx fs E z=>(x∈es/\c∈es)/\if subE x c=true then t E z else r x fs E z
def dHas(es:List Lq)(c:Lq)(i:Nat)(t:TSD)(r:TH):TH:=λx fs E z=>(x∈es/\c∈es)/\if subE x c=true then t {nx:=λz'=>E.nx (z'.set i w6),rt:=E.rt,bk:=λz'=>E.bk (z'.set i w6),ct:=λz'=>E.ct (z'.set i w6)} (z.set i (be (.exc x fs)))else r x fs E z
def sL:WDH X [] As:=#[λ_ _ _ _ _ _ _ _ _ _ _ _ _ _ _ _ _ _ _ _ _ h _=>h.elim]
def Av(hE:ErrsK X.K X.mg es)(hs:∀e,WDSs (X.held e) (b₀::u6) t)(hr:WDH X rest r)(hg:Gl X c\zA0)(d6:zND c\zA1):WDH X (.ExceptHandler (be (.Name c pc)) w6 (b₀::u6) pos::rest) (Au es c t r):=⟨by
 have hs:=λe=>(hs e).out;have hr:=hr.out;intro pins s σ H D e C od T x fs B F0 F z ED I hd k rs er ht ee;let#[#[NK,NL],ht]:=ht;let#[Cc,Nc,Tr,kc]:=hE.cls c NL;let#[LF,Nx,Ts,kx]:=hE.cls x NK;obtain rfl:LF=C:=by have h1:=kx.ns;rw[er.1]at h1;cases h1;rfl
 have hb:=hE.has NK NL kx kc;let#[nm,q,bs,sn,sub,ab,col,dd,k0,k1,k2,k3,k5,lk]:=kx.obj;let#[PB,q',PC,PD,Mr,PF,Ms,NJ,PH,PJ,PK,PL,PM,PN]:=kc.obj;refine WK (WD (ck (X:=X.held e) (Inv.held I) hg kc.mg ?_ d6)) (by intro q;cases q);let#[sl,vs,oT,ts,he,h1,u_,hT,m8,h3]:=id hd.ex;refine sK (g:=s.gens) (d:=s.drawn) (t:=s.toks) (os:=s.os) (I.kIn _ _ lk) (I.kIn _ _ PN) he rfl kc.base hb ?_;cases B_:subE x c with
 |true=>
  rw[B_,if_pos rfl]at ht;refine codeAny_handlers_suite (fW hd.ex λh' i8 st'=>?_);let#[I',_]:=Held.flight I hd i8 st';exact Vj (hs e pins _ σ H D (Inv.held I') #[B,F0,F,z,k,rs,ED,ht,ee]) (λf s1 q=>SP.unheld I.ok q) λ_ _ z=>False.elim z
 |false=>
  rw[B_,if_neg HH]at ht;exact hr pins s σ H D e LF od T x fs B F0 F z ED I hd k rs er ht ee⟩
def Aw(i:Nat){n:Lq}(hE:ErrsK X.K X.mg es)(hN:X.N.Nodup)(hs:∀e,WDSs (X.held e) (b₀::u6) t)(hr:WDH X rest r)(hg:Gl X c\zA0)(hi:(X.N[i]?=be n)\zA0)(hk:(X.env.scope.names.lookup n=be .local)\zA0)(d6:zND c\zA1):WDH X (.ExceptHandler (be (.Name c pc)) (be n) (b₀::u6) pos::rest) (dHas es c i t r):=⟨by
 have hs:=λe=>(hs e).out;have hr:=hr.out;intro pins s σ H D e C od T x fs B F0 F z ED I hd k rs er ht ee;let#[#[NK,NL],ht]:=ht;let#[Cc,Nc,Tr,kc]:=hE.cls c NL;let#[LF,Nx,Ts,kx]:=hE.cls x NK;obtain rfl:LF=C:=by have h1:=kx.ns;rw[er.1]at h1;cases h1;rfl
 have hb:=hE.has NK NL kx kc;let#[nm,q,bs,sn,sub,ab,col,dd,k0,k1,k2,k3,k5,lk]:=kx.obj;let#[PB,q',PC,PD,Mr,PF,Ms,NJ,PH,PJ,PK,PL,PM,PN]:=kc.obj;refine WK (WD (ck (X:=X.held e) (Inv.held I) hg kc.mg ?_ d6)) (by intro q;cases q);let#[sl,vs,oT,ts,he,h1,u_,hT,m8,h3]:=id hd.ex;refine sK (g:=s.gens) (d:=s.drawn) (t:=s.toks) (os:=s.os) (I.kIn _ _ lk) (I.kIn _ _ PN) he rfl kc.base hb ?_;cases B_:subE x c with
 |true=>
  rw[B_,if_pos rfl]at ht;refine codeAny_handlers_suite_as (fW hd.ex λh' i8 st'=>?_);let#[I',g_]:=Held.flight I hd i8 st';let#[n9,o_,_,_,PP,_]:=id i8;have I2:Inv X pins σ (upd H e (XO e LF od)) {s with heap:=h'}:=Inv.adopt I' hd.He (XO.ok PP) hd.e0 (im I' PP rfl) (fld_cell I' PP rfl) hd.eP;refine eU (X:=X.held e) (v:=.ref e) (Inv.held I2) hN hi (.inl hk) rfl (λs2 I3=>?_) (.inr hk);have g:=Grow.new k.fh hd.He (XO e LF od);let#[ns,ws,rf,NM]:=er;have Tt:Rep X.K (upd F e (XO e LF od)) (.exc x fs) (.ref e):=rep_exc.mpr #[e,LF,od,ws,rfl,ns,aC,RepF.mono g.ff fs ws rf,NM.imp id λ⟨b,q1,q2⟩=>#[b,q1,g.ff _ _ q2]];have Tu:EndsOk X.K B F0 {nx:=λz'=>ED.nx (z'.set i w6),rt:=ED.rt,bk:=λz'=>ED.bk (z'.set i w6),ct:=λz'=>ED.ct (z'.set i w6)} {nx:=λσ' H'=>D.nx (σ'.set i w6) H',rt:=D.rt,bk:=λσ' H'=>D.bk (σ'.set i w6) H',ct:=λσ' H'=>D.ct (σ'.set i w6) H'}:=
   #[λz' s' F' H' k hz r=>ee.nx _ _ F' H' k hz (RepS.unset r),ee.rt,λz' s' F' H' k hz r=>ee.bk _ _ F' H' k hz (RepS.unset r),λz' s' F' H' k hz r=>ee.ct _ _ F' H' k hz (RepS.unset r)]
  refine Vj (hs e pins s2 _ _ _ I3 #[B,F0,_,_,k.grow g,(rs.grow g).set Tt,_,ht,Tu]) (λf s3 q=>?_) λ_ _ z=>False.elim z;have q':=SP.unheld I.ok q;cases f with
  |next=>let#[σ',H',I4,q4]:=q';exact il I4 hN hi hk λs5 I5=>#[_,H',I5,q4]
  |brk=>let#[σ',H',I4,q4]:=q';exact il I4 hN hi hk λs5 I5=>#[_,H',I5,q4]
  |cont=>let#[σ',H',I4,q4]:=q';exact il I4 hN hi hk λs5 I5=>#[_,H',I5,q4]
  |ret u=>let#[v,σ',H',I4,rv,q4]:=q';exact il I4 hN hi hk λs5 I5=>#[v,_,H',I5,rv,q4]
 |false=>
  rw[B_,if_neg HH]at ht;exact hr pins s σ H D e LF od T x fs B F0 F z ED I hd k rs er ht ee⟩
end
abbrev _root_.L2.Cx.tried(X:Cx)(pn:List (Pi×Vk))(xe:Os->SB->Prop):Cx:={X with pn:=pn,xe:=xe}
section
variable {X:Cx}{pn pins:List (Pi×Vk)}{xe:Os->SB->Prop}{σ:L2.St}{H:Hp}{s:SB}
def Cx.Ok.tried(ok:X.Ok):(X.tried pn xe).Ok:=#[ok.mod,ok.kind,ok.glob,ok.blt,ok.above,ok.inj,ok.has,ok.cab,ok.hd,ok.frames,ok.stk,ok.exf,ok.bs,ok.bsz,ok.noex,ok.exfs,ok.funs,ok.frf]
def Inv.tried(I:Inv X pins σ H s):Inv (X.tried (X.pn++pins) xe) [] σ H s:=#[Cx.Ok.tried I.ok,I.os,I.bare,I.base,I.loc,I.cell,I.free,I.freeC,λp hp=>I.pin p (by simpa using hp),I.hok,I.len]
def Inv.untried(ok:X.Ok)(I:Inv (X.tried (X.pn++pins) xe) [] σ H s):Inv X pins σ H s:=#[ok,I.os,I.bare,I.base,I.loc,I.cell,I.free,I.freeC,λp hp=>I.pin p (by simpa using hp),I.hok,I.len]
def SP.untried{D:Ends}{f:Flow}{s':SB}(ok:X.Ok)(h:SP (X.tried (X.pn++pins) xe) [] D f s'):SP X pins D f s':=by
 cases f with
 |next=>let#[σ',H',I,q]:=h;exact#[σ',H',Inv.untried ok I,q]
 |brk=>let#[σ',H',I,q]:=h;exact#[σ',H',Inv.untried ok I,q]
 |cont=>let#[σ',H',I,q]:=h;exact#[σ',H',Inv.untried ok I,q]
 |ret u=>let#[v,σ',H',I,r,q]:=h;exact#[v,σ',H',Inv.untried ok I,r,q]
end
def Ax{h₀:VA}{hs:List VA}{σ':L2.St}{H':Hp}{s':SB}{D:Ends}{xe:Os->SB->Prop}(I2:Inv X pins σ' H' s')
  (hd:Exd (X.tried (X.pn++pins) xe) H' s' e C od) (f9:X.ex=[]) (C_:X.stack=X.env::X.outer) (n6:X.env.frame=be X.env.locals)
  (hh:∀s4 T2,Inv X pins σ' H' s4->Held X pins H' s4 e C od T2->U8 (U4 X.prog X.w) X.A (Wk (.ref e) X.env (h₀::hs)) (SP X pins D) X.xe s4):
  U8 (U4 X.prog X.w) X.A (VW (.ref e) X.env) (λ_ s₂=>U8 (U4 X.prog X.w) X.A (Wb (.ref e) w6) (λ_ s₃=>U8 (U4 X.prog X.w) X.A (Wk (.ref e) X.env (h₀::hs)) (SP X pins D) X.xe s₃) X.xe s₂) X.xe s':=by
 let#[He,e0,eP,hd]:=hd;have stk:s'.heap.FunFrames X.base (X.env::X.outer):=by rw[<-C_];exact I2.stack
 have RU:X.A.frames=be (X.env::X.outer):=by rw[<-C_];exact I2.ok.frames
 have f6:∀(v4:Heap) (T2:Pi) (ex:List Pi),(∀b∈ex,H' b=w6/\X.s₀.heap.get? b=w6/\(∃o vs,s'.heap.get? b=be o/\o.data=.fields vs)/\∀p∈X.pn++pins,p.1≠b)->ExAt v4 e C od T2 (V3 X.env.locals)->(H' T2=w6/\X.s₀.heap.get? T2=w6/\∀p∈X.pn++pins,p.1≠T2)->Stay (frs (X.env::X.outer)) ex s'.heap v4->
   U8 (U4 X.prog X.w) X.A (Wb (.ref e) w6) (λ_ s₃=>U8 (U4 X.prog X.w) X.A (Wk (.ref e) X.env (h₀::hs)) (SP X pins D) X.xe s₃) X.xe {s' with heap:=v4}:=by
  intro v4 T2 ex D_ p9 Lg u8;let#[Ny,T0,TP]:=Lg;have I3:Inv X pins σ' H' {s' with heap:=v4}:=Inv.stay I2 u8 (λb hb=>by rw[C_];exact hb) (λb hb=>(D_ b hb).1) (λb hb=>(D_ b hb).2.1) (λb hb=>let ⟨_,_,q1,q2⟩:=(D_ b hb).2.2.1;im I2 q1 q2) (λb hb=>let ⟨_,_,q1,q2⟩:=(D_ b hb).2.2.1;fld_cell I2 q1 q2) (λb hb=>(D_ b hb).2.2.2);let#[sl,vs,oT,ts,he,g1,u_,hT,m8,g3]:=id p9;refine fW (s:={s' with heap:=v4}) p9 λh3 Nw Le=>?_;have I4:Inv X pins σ' H' {s' with heap:=h3}:=Inv.stay (s:={s' with heap:=v4}) I3 Le (λb hb=>by cases hb) (λb hb=>by rw[Hv.mp hb];exact Ny) (λb hb=>by rw[Hv.mp hb];exact T0) (λb hb=>by rw[Hv.mp hb];exact im I3 hT m8) (λb hb=>by rw[Hv.mp hb];exact fld_cell I3 hT m8) (λb hb=>by rw[Hv.mp hb];exact TP);exact hh _ T2 I4 #[Nw,He,Ny,e0,T0,eP,TP]
 have new:∀T2,s'.heap.objs.size<=T2->H' T2=w6/\X.s₀.heap.get? T2=w6/\∀p∈X.pn++pins,p.1≠T2:=λT2 z=>
  have MI:s'.heap.get? T2=none:=Heap.get?_none_of_le z
  ⟨gy I2.hok MI,ex_free I2 f9 MI,λp hp z=>by
   have:=(I2.pin p hp).1;rw[z,MI]at this;cases this⟩
 rcases hd with⟨sl,vs,he,hv⟩|⟨T,fl,LV,T0,HT,TP⟩
 .refine qY RU stk n6 he hv λv4 T2 p9 Lg u8=>f6 v4 T2 [e] (λb hb=>?_) p9 (new T2 Lg) u8;rw[Hv.mp hb];exact#[He,e0,#[_,_,he,rfl],eP]
 .obtain⟨sl,vs,oT,ts,he,g1,u_,hT,m8,g3⟩:=id LV;refine qZ RU stk n6 LV λv4 T2 p9 Lg u8=>f6 v4 T2 [T,e] (λb hb=>?_) p9 (Lg.elim (λz=>by rw[z];exact#[HT,T0,TP]) (new T2)) u8;rcases Hx.mp hb with z|z
  .rw[z];exact#[HT,T0,#[_,_,hT,m8],TP]
  .rw[Hv.mp z];exact#[He,e0,#[_,_,he,rfl],eP]
def ErrG(K:Ex)(f y:Lq):Prop:=∃C cd,ErrA K y C cd/\HB K (.ref C) "__getattribute__"=be (be (.builtin "BaseException.__getattribute__"))/\HB K (.ref C) "__getattr__"=be w6/\HB K (.ref C) f=be w6
def Ay(ys:List Lq)(f:Lq)(te:TD):TD:=λz R=>te z λd=>match d with|.exc y fs=>y∈ys/\∃d,fs.lookup f=be d/\R d|_=>False
def Az[J:Jx]{e:U7}{te:TD}{pos:Vf}{ys:List Lq}{f:Lq}(hG:∀y∈ys,ErrG X.K f y)(he:WDE X e te)(hb:(Vb e f X.env (Vc e X.env)=Vc e X.env)\zA0):WDE X (.Attribute e f pos) (Ay ys f te):=⟨by
 have he:=he.out;intro pins s σ H Q I h;let#[B,F,z,kf,rs,R,h1,h2]:=h;refine attr_of hb (thn (he pins s σ H (λv H1=>∃F1 x fs,Grow F H F1 H1/\Rep X.K F1 (.exc x fs) v/\x∈ys/\∃d,fs.lookup f=be d/\R d) I #[B,F,z,kf,rs,_,h1,λd v F1 H1 g1 hx rx=>?_]) λu s1 ⟨v,H1,I1,rv,F1,x,fs,g1,rx,hy,d,hl,hR⟩=>?_)
 .split at hx
  .obtain⟨hy,d,hl,hR⟩:=hx;exact#[F1,_,_,g1,rx,hy,d,hl,hR]
  .exact hx.elim
 .obtain⟨a,C,od,vs,rfl,hn,PQ,rf,NM⟩:=rep_exc.mp rx;obtain rfl:u=Value.ref a:=rv;let#[C',cd,ea,ga,gb,hf]:=hG x hy;have i_:=ea.ns;rw[hn]at i_;cases i_;let#[o_,sl,j9]:=(I1.hok a _ (g1.fh _ _ PQ)).1;let#[w',hw,j6]:=rf.look hl;rcases NM with⟨_,e2⟩|⟨b,rfl,g6⟩
  .rw[e2]at hw;cases hw
  .obtain⟨mA,hns,Lj⟩:=(show ObjOk X.prog X.w H1 s1.heap b (.xd vs)from I1.hok b _ (g1.fh _ _ g6));let#[uv,hu,ru]:=RelO.some_of (v:=w') (o:=mA f) (by rw[<-hw];exact Lj f);let#[E_,ho,look]:=jO hns;have PR:hasDictIn X.K C=true:=by unfold hasDictIn;rw[ea.cl];exact ea.hd
   exact zj (K:=X.K) (ox:=#[.ref C,be b,.fields o_,sl]) (od:=E_) I1.kIn #[j9,rfl,rfl,ho] ea.cl ea.mro ga gb (findObj_own PR hf rfl (by rw[look,hu])) (qE ru) λtk=>#[w',H1,I1.tok tk,ru,h2 d w' F1 H1 g1 hR j6]⟩
def sM:tailIn K veLine veLine=true:=by
 unfold tailIn;rfl
def sN{c:Os}{d:Option Pi}{es:Array DictEntry}{ep:Nat}(l:K.lookup N=be #[c,d,.dict es ep,sl])(h:es.toList.all (λe=>match e.key with|.str _ _=>true|_=>false)=true):nsOkIn K N=true:=by
 unfold nsOkIn;rw[l];dsimp only;rw[<-JW];exact h
def AA{M:Pi}{c0:Os}{dd:Option Pi}{cd:VX}(l:K.lookup M=be #[c0,dd,.cls cd,sl])(hn:cd.ns=N)(h1:nsOkIn K N=true)(h2:nsIn K N "__init__"=be w6):tailIn K veLine (.ref M::veLine)=true:=by
 unfold tailIn;subst hn;dsimp only;rw[l];dsimp only;rw[h1,h2,sM];simp
def sO(S:SpX):SpD:=λds R=>S ds R λ_ _=>False
def CalX.no{base:Heap}{n:Nat}{S:SpX}(C:CalX P w K mg base n x ps S):CalD P w K mg base n x ps (sO S):=by
 let#[f,fd,F,hb,hk,hm]:=C;refine#[f,fd,F.imp λvs H Q E h=>?_,hb,hk,hm];let#[F,ds,fh,rs,R,h,q]:=h;exact#[F,ds,fh,rs,R,_,h,q,λ_ _ _ _ _ _ _ z=>z.elim]
end My
namespace My
def sP{α:Type}(l:List α):∀m:Nat,(HC m).filterMap (λk=>l[k]?)=l.take m
 |0=>by simp
 |m+1=>by
  rw[Jk,List.filterMap_append,sP l m,Kz];cases h:l[m]?<;>simp[h]
def AB(lo hi:Option Int)(n:Nat):Builtin.Str.strSliceIndices lo hi 1 n=(HC (HT.sIx n n hi-HT.sIx n 0 lo)).map λk=>HT.sIx n 0 lo+k:=by
 have LG:∀(i:Int) (d:Nat),max 0 (min (if i<0 then i+(n:Int)else i) (n:Int))=((HT.sIx n d (be i):Nat):Int):=by
  intro i d;show max 0 (min (if i<0 then i+(n:Int)else i) (n:Int))=(((if i<0 then(i+(n:Int)).toNat else min i.toNat n):Nat):Int);by_cases h:i<0
  .rw[if_pos h,if_pos h];lia
  .rw[if_neg h,if_neg h];lia
 have h1:Builtin.Str.strSliceIndices lo hi 1 n=sliceRange ((HT.sIx n 0 lo:Nat):Int) ((HT.sIx n n hi:Nat):Int) 1:=by
  unfold Builtin.Str.strSliceIndices;simp only[show(1:Int)>0 by decide,if_true];cases lo with
  |none=>cases hi with
   |none=>rfl
   |some j=>rw[<-LG j n];rfl
  |some i=>cases hi with
   |none=>rw[<-LG i 0];rfl
   |some j=>rw[<-LG i 0,<-LG j n]
 rw[h1];unfold sliceRange;simp only[show(1:Int)>0 by decide,if_true];have e3:(if((HT.sIx n 0 lo:Nat):Int)<((HT.sIx n n hi:Nat):Int)then(((HT.sIx n n hi:Nat):Int)-((HT.sIx n 0 lo:Nat):Int)+1-1)/1 else 0).toNat=HT.sIx n n hi-HT.sIx n 0 lo:=by
  split<;>lia
 rw[e3];apply Jl;intro k _;lia
def slice_cps(y:Lq)(lo hi:Option Int):Txt.slice y lo hi=#[((y.cps.toList.drop (HT.sIx y.length 0 lo)).take (HT.sIx y.length y.length hi-HT.sIx y.length 0 lo)).toArray]:=by
 have la:HT.sIx y.length 0 lo<=y.length:=HT.sIx_le _ _ (HS _) lo;have lb:HT.sIx y.length y.length hi<=y.length:=HT.sIx_le _ _ (Hw _) hi;unfold Txt.slice;rw[AB];split
 .rename_i h;have hl:HT.sIx y.length y.length hi-HT.sIx y.length 0 lo=y.length:=by simpa using h
  have ha:HT.sIx y.length 0 lo=0\/y.length=0:=Md
  rw[hl];let#[cp]:=y;have e:(Jn (HT.sIx (Str.mk cp).length 0 lo) cp.toList)=cp.toList:=by
   rcases ha with ha|ha
   .rw[ha];rfl
   .have:cp=[].toArray:=Array.eq_empty_of_size_eq_zero ha;subst this;simp
  show(#[cp]:Lq)=#[((Jn (HT.sIx (Str.mk cp).length 0 lo) cp.toList).take cp.size).toArray];rw[e,JX Mn]
 .congr 2;rw[Kr];have:=sP (y.cps.toList.drop (HT.sIx y.length 0 lo)) (HT.sIx y.length y.length hi-HT.sIx y.length 0 lo);rw[<-this];congr 1;funext k;simp
section
variable {X:Cx}[J:Jx]{a b c e:U7}{ta tb tc te:TD}{pos:Vf}
def sQ:SlR X (λx lo hi H Q=>∃y,x=.str y/\y.length<=sizeLine/\Q (.str (Txt.slice y lo hi)) H):=by
 intro pins s σ H x v vl vu lo hi sl Q I rx hs pl pu h;let#[y,rfl,hz,q]:=h;let#[t,rfl]:=rx;have f6:∀t' k,EP X pins σ Q (.str (Txt.slice y lo hi) t') {s with toks:=k}:=λt' k=>#[.str _,H,I.tok k,#[_,rfl],q];have le:=HG (Txt.slice_le y lo hi) hz;refine#["str",_,PySem.F.slot_str_getitem.lookup,WQ _ _ _,?_];cases pl with
 |none=>cases pu with
  |none=>exact VB (l:=w6) (u:=w6) (st:=w6) hs rfl (VZ #[le,f6])
  |int j tj=>exact VB (l:=w6) (u:=be (j,tj)) (st:=w6) hs rfl (VZ #[le,f6])
 |int i ti=>cases pu with
  |none=>exact VB (l:=be (i,ti)) (u:=w6) (st:=w6) hs rfl (VZ #[le,f6])
  |int j tj=>exact VB (l:=be (i,ti)) (u:=be (j,tj)) (st:=w6) hs rfl (VZ #[le,f6])
abbrev TDO:=SD->(Option Int->Prop)->Prop
def AC:TDO:=λ_ R=>R w6
def AD(te:TD):TDO:=λz R=>te z λx=>match x with|.int i=>R (be i)|_=>False
def lO(K:Ex)[J:Jx](t:TDO):TO:=λs H Q=>∃B F z,Kept B J.F0 F H/\RepS K B F H z s/\∃R:Option Int->Prop,t z R/\∀o F' H',Grow F H F' H'->R o->Q o H'
abbrev DPO(X:Cx)[Jx](e:Option U7)(t:TDO):Prop:=PO X e (lO X.K t)
structure WDPO(X:Cx)[Jx](e:Option U7)(t:TDO):Prop where
 out:DPO X e t
def PO.anti{X:Cx}{e:Option U7}{t t':TO}(h:PO X e t)(a:∀s H Q,t' s H Q->t s H Q):PO X e t':=λpins s σ H Q I q=>h pins s σ H Q I (a _ _ _ q)
def fA:WDPO X w6 AC:=⟨PO.anti jT λs H Q q=>by
 let#[B,F,z,kf,rs,R,h1,h2]:=q;exact h2 w6 F H (Grow.refl kf.fh) h1⟩
def fB(he:WDE X e te):WDPO X (be e) (AD te):=⟨PO.anti (jU he.out) λs H Q q=>by
 let#[B,F,z,kf,rs,R,h1,h2]:=q;refine#[B,F,z,kf,rs,_,h1,λx u F1 H1 g1 hx rx=>?_];split at hx
 .exact#[_,rep_int.mp rx,h2 _ F1 H1 g1 hx]
 .exact hx.elim⟩
def rdSl:D->Option Int->Option Int->(D->Prop)->Prop:=λx lo hi R=>match x with
 |.str y=>y.length<=1000000/\R (.str (Txt.slice y lo hi))
 |.lst xs=>R (.lst (cutD xs lo hi))
 |.rol xs=>R (.lst (cutD xs lo hi))
 |.tup xs=>¬(HT.sIx xs.length 0 lo=0/\HT.sIx xs.length xs.length hi=xs.length)/\R (.tup (cutD xs lo hi))
 |_=>False
def dSl(ta:TD)(tl th:TDO):TD:=λz R=>ta z λx=>tl z λlo=>th z λhi=>rdSl x lo hi R
def fC{lo hi:Option U7}{tl th:TDO}{p2:Vf}(ha:WDE X a ta)(hl:WDPO X lo tl)(hu:WDPO X hi th):WDE X (.Subscript a (.Slice lo hi w6 p2) pos) (dSl ta tl th):=⟨(gY (SlR.or sQ (SlR.or gZ qQ)) ha.out hl.out hu.out).anti λs H Q q=>by
 let#[B,F,z,kf,rs,R,h1,h2]:=q;refine#[B,F,z,kf,rs,_,h1,λx u F1 H1 g1 hx rx=>?_];refine#[B,F1,z,kf.grow g1,rs.grow g1,_,hx,λlo F2 H2 g2 hy=>?_];refine#[B,F2,z,(kf.grow g1).grow g2,(rs.grow g1).grow g2,_,hy,λhi F3 H3 g3 hw=>?_];have g:=g1.trans (g2.trans g3);have LH:=(rx.mono g2.ff).mono g3.ff;unfold rdSl at hw;split at hw
 .exact .inl #[_,rep_str.mp LH,HG hw.1 Mh,h2 _ _ F3 H3 g hw.2 (rep_str.mpr rfl)]
 .obtain⟨l,vs,rfl,hq,rr⟩:=rep_lst.mp LH;refine .inr (.inl #[l,vs,rfl,SqL.of (g3.fh _ _ hq),λp hp=>?_]);exact h2 _ _ _ _ (g.trans (Grow.new g3.fh hp _)) hw (rep_lst.mpr #[p,_,rfl,aC,(rr.cut _ _).mono (aR (g3.fh.free hp) _)])
 .obtain⟨l,vs,rfl,hq,rr⟩:=rep_rol.mp LH;refine .inr (.inl #[l,vs,rfl,g3.fh.seq hq,λp hp=>?_]);exact h2 _ _ _ _ (g.trans (Grow.new g3.fh hp _)) hw (rep_lst.mpr #[p,_,rfl,aC,(rr.cut _ _).mono (aR (g3.fh.free hp) _)])
 .obtain⟨l,vs,rfl,hq,rr⟩:=rep_tup_mp LH;refine .inr (.inr #[l,vs,rfl,g3.fh.tup hq,by rw[rr.length];exact hw.1,λp hp=>?_]);exact h2 _ _ _ _ (g.trans (Grow.new g3.fh hp _)) hw.2 (rep_tupS.mpr #[p,_,rfl,aC,(rr.cut _ _).mono (aR (g3.fh.free hp) _)])
 .exact hw.elim⟩
def rdIn(neg:Bool):RD2:=λx y R=>match y with
 |.str j=>kdS x λi=>R (.bl (if neg then !(!(Builtin.Str.occurrences j i 0 j.length 1).isEmpty)else !(Builtin.Str.occurrences j i 0 j.length 1).isEmpty))
 |.lst ys=>(bj x=true/\ys.all bj=true)/\R (.bl (if neg then !(ys.any λy=>eqF y x)else ys.any λy=>eqF y x))
 |.rol ys=>(bj x=true/\ys.all bj=true)/\R (.bl (if neg then !(ys.any λy=>eqF y x)else ys.any λy=>eqF y x))
 |.tup ys=>(bj x=true/\ys.all bj=true)/\R (.bl (if neg then !(ys.any λy=>eqF y x)else ys.any λy=>eqF y x))
 |_=>False
def io{K:Ex}{H:Hp}{x:D}{u:V}(rx:Rep K H x u)(fx:bj x=true):∀{ys:List D} {vs:List V},Reps K H ys vs->ys.all bj=true->inV u vs=ys.any λy=>eqF y x
 |[],vs,r,_=>by rw[reps_nil.mp r];rfl
 |y::ys,vs,r,f=>by
  let#[v,vr,rfl,r1,r2]:=reps_cons.mp r;rw[Il,HV]at f;have ih:=io rx fx r2 f.2;unfold inV at ih ⊢;rw[Jy,Jy,ih,ic r1 rx f.1 fx]
def rInV(K:Ex)(neg:Bool):R2:=λx y H Q=>(∃i j,x=.str i/\y=.str j/\Q (.bl (if neg then !(!(Builtin.Str.occurrences j i 0 j.length 1).isEmpty)else !(Builtin.Str.occurrences j i 0 j.length 1).isEmpty)) H)\/rIn K neg x y H Q
def AE{K:Ex}{neg:Bool}:bc K (rInV K neg) (rdIn neg):=by
 intro x y u v F H R Q fh h rx ry q;cases y with
 |str j=>
  replace h:=kdS.of h;let#[i,rfl,h]:=h;exact .inl #[_,_,rep_str.mp rx,rep_str.mp ry,q _ _ F H (Grow.refl fh) h (rep_bl.mpr rfl)]
 |lst ys=>
  let#[#[f1,f2],h]:=h;let#[l,vs,rfl,hq,rr]:=rep_lst.mp ry;exact .inr #[l,vs,rfl,.inl (fh.seq (SqL.of hq)),fk rx f1,dz rr f2,q _ _ F H (Grow.refl fh) h (rep_bl.mpr (by rw[io rx f1 rr f2]))]
 |rol ys=>
  let#[#[f1,f2],h]:=h;let#[l,vs,rfl,hq,rr]:=rep_rol.mp ry;exact .inr #[l,vs,rfl,.inl (fh.seq hq),fk rx f1,dz rr f2,q _ _ F H (Grow.refl fh) h (rep_bl.mpr (by rw[io rx f1 rr f2]))]
 |tup ys=>
  let#[#[f1,f2],h]:=h;let#[l,vs,rfl,hq,rr]:=rep_tup_mp ry;exact .inr #[l,vs,rfl,.inr (fh.tup hq),fk rx f1,dz rr f2,q _ _ F H (Grow.refl fh) h (rep_bl.mpr (by rw[io rx f1 rr f2]))]
 |_=>exact False.elim h
def AF:OpR X (Vo .NotIn) (rInV X.K true):=OpR.or yZ yY
end
end My
namespace L2
def Its(x:Lq):It:=#[λi _=>i<x.length,λi H v H'=>H'=H/\∃c,x.cps[i]?=be c/\v=.str #[[c].toArray],λi _=>x.length<=i]
def AG{P:U5}{w:U'}{K:Ex}{tg:U7}(x:Lq)(t:WZ)(it:Pi):Turn P w K tg (Its x) [it] it (λi h=>h.IsStrIter it "str_ascii_iterator" x t i) where
 mem:=Mn
 obj:=λi h st b hb=>by
  have e:b=it:=by simpa using hb
  subst e;let#[o,e,c,d]:=st;exact#[o,e,λv z=>by rw[d]at z;cases z]
 keep:=λi h h' st k=>by
  let#[o,e,r]:=st;exact#[o,k it Mn o e,r]
 item:=by
  intro X hP hw hK hc i pins s σ H E I hf st hg;subst hP hw hK;have hi:i<x.cps.size:=hg;let#[f0,f1,f2,f3,f4,f5]:=hf it Mn;refine wpAny_pyNext_ascii_item st (c:=x.cps[i]) (KA hi) λh' st' sb=>?_;have I1:Inv X pins σ H {s with heap:=h',toks:=s.toks+1}:=I.turned (t':=s.toks+1) (λb o hb e=>(sb.2 b hb).trans e) f0 f1 f3 f4 f5;let#[o,e,c,d]:=id st';exact#[_,rfl,jF (s:={s with heap:=h',toks:=s.toks+1}) e c d Mh #[.str #[[x.cps[i]].toArray],H,I1,#[_,rfl],#[rfl,_,KA hi,rfl],st',λb hb=>(hf b hb).1]]
 done:=by
  intro X hP hw hK hc i pins s σ H E I hf st hg;subst hP hw hK;have hi:x.cps.size<=i:=hg;let#[f0,f1,f2,f3,f4,f5]:=hf it Mn;exact wpAny_pyNext_ascii_end (I.ok.hd hc) st (Array.getElem?_eq_none hi) λh' eb=>#[rfl,I.turned (t':=s.toks) (λb o hb e=>eb b o hb e) f0 f1 f3 f4 f5]
 self:=λA i s Q E st hQ=>wpAny_pyIter_striter_ascii st hQ
def iStr(tl:TE):TI:=λσ H R=>tl σ H λv H1=>∃x,v=.str x/\x.cps.all (·<128)=true/\R (Its x) H1
def sR{X:Cx}{tg l:U7}{tl:TE}(hl:PE X l tl):PI X tg l (iStr tl):=by
 intro pins s σ H R I h;refine thn (hl pins s σ H _ I h) λv s1 c7=>?_;let#[v1,H1,I1,r1,q1]:=c7;let#[x,rfl,ha,q]:=q1;let#[t,rfl]:=r1;refine wpAny_pyIter_ascii ha ?_;refine#[s1.heap.objs.size,[s1.heap.objs.size],_,_,H1,rfl,I1.kept (t':=s1.toks) λb o e=>Heap.get?_push_of_some _ e,AG x t _,#[_,Heap.get?_push_size _ rfl,rfl,rfl],λb hb=>?_,q];have e:b=s1.heap.objs.size:=by simpa using hb
 subst e;exact I1.fpOk (Hw _) (I1.hok.fresh (Hw _))
def AH{x:Lq}{g:TG}{tb:TS}{D:Ends}{σ:St}{H:Hp}(Pv:Nat->St->Hp->Prop)(h0:Pv 0 σ H)
  (hs:∀i c σ H,x.cps[i]?=be c->Pv i σ H->g (.str #[[c].toArray]) σ H λσ2 H2=>tb {D with nx:=Pv (i+1),ct:=Pv (i+1),bk:=D.nx} σ2 H2) (hd:∀σ H,Pv x.length σ H->D.nx σ H):
  ∃W:Nat->Nat->St->Hp->Prop,(∃m,W 0 m σ H)/\∀i m σ H,W i m σ H->
   ((Its x).stop i H/\D.nx σ H)\/((Its x).go i H/\∃N:St->Hp->Prop,(∀σ' H',N σ' H'->∃m',m'<m/\W (i+1) m' σ' H')/\∀v H',(Its x).yld i H v H'->g v σ H' λσ2 H2=>tb {D with nx:=N,ct:=N,bk:=D.nx} σ2 H2):=by
 refine#[λi m σ H=>m=x.length-i/\i<=x.length/\Pv i σ H,#[x.length,Mn,HS _,h0],?_];intro i m σ H#[rfl,hi,p];by_cases ge:i<x.length
 .refine .inr #[ge,Pv (i+1),λσ' H' p'=>#[x.length-(i+1),Md,rfl,ge,p'],λv H' y=>?_];let#[e,c,hc,rfl]:=y;subst e;exact hs i c σ _ hc p
 .have e:i=x.length:=by lia
  subst e;exact .inl #[Hw _,hd σ H p]
end L2
namespace My
section
variable {X:Cx}[J:Jx]{a b c e:U7}{ta tb tc te:TD}{pos:Vf}
def bO(x:Lq):List D:=x.cps.toList.map λc=>D.str #[[c].toArray]
def dItS(t:TD):TDI:=λz R=>t z λy=>match y with|.str x=>x.cps.all (·<128)=true/\R (bO x)|_=>False
def signs_get{x:Lq}{k c:Nat}(h:x.cps[k]?=be c):(bO x)[k]?=be (.str #[[c].toArray]):=by
 unfold bO;rw[HI,Array.getElem?_toList,h];rfl
def fD(x:Lq):(bO x).length=x.length:=by unfold bO;rw[HE];simp[Str.length]
def AI(i:Nat){x:Lq}{p:Vf}{body:List U6}{tb:TSD}(hp:Vp (U4 X.prog X.w) X.A X.env X.xe)(hc:X.calm=true)(hN:X.N.Nodup)(he:WDE X e te)(hb:WDSs X body tb)(hi:(X.N[i]?=be x)\zA0)(hx:Loc X.env.scope x\zA4)
  (hf:zFN X x\zA2) (hs:(∀y,zFS X e y)\zA3):WDS X (.For (.Name x p) e body [] pos) (dFor i (dItS te) tb):=⟨(cM hp hc (sR he.out) (dR hN hi hx hf) hb.out hs).anti λE s H q=>by
 let#[B,F0,F,z,kp,rs,ED,h,e]:=q;refine#[B,F,z,kp.kf,rs,_,h,λd v F1 H1 g1 hd rd=>?_];split at hd
 .rename_i y;let#[ha,W,w0,d5,out]:=hd;refine#[y,rep_str.mp rd,ha,AH (λk s' H'=>∃F' z',Kept B F0 F' H'/\RepS X.K B F' H' z' s'/\W k z') #[F1,z,kp.grow g1,rs.grow g1,w0] ?_ ?_]
  .rintro k c s' H' hk⟨F',z',k',r',w'⟩;exact#[B,F0,F',_,k',r'.set (d:=.str #[[c].toArray]) (rep_str.mpr rfl),_,d5 k (.str #[[c].toArray]) z' (signs_get hk) w',#[λz3 s3 F3 H3 k3 h3 r3=>#[F3,z3,k3,r3,h3],e.rt,e.nx,λz3 s3 F3 H3 k3 h3 r3=>#[F3,z3,k3,r3,h3]]]
  .rintro s' H'⟨F',z',k',r',w'⟩;exact e.nx z' s' F' H' k' (out z' (by rw[fD];exact w')) r'
 .exact hd.elim⟩
variable {j5 iter:U7}{x:Lq}{px:Vf}{scope:Vy}{ti:TD}
def itS{K:Ex}:ItOk K (iStr (lE K ti)) (dItS ti):=λ{s H B F z P Q} kf rs h1 h2=>by
 refine#[B,F,z,kf,rs,_,h1,λd v F1 H1 g1 hd rd=>?_];split at hd
 .rename_i y;let#[ha,hd]:=hd;have hl:=fD y;refine#[y,rep_str.mp rd,ha,h2 _ _ F1 H1 g1 hd #[λk F' H' G hk=>by rw[hl]at hk;exact hk,λk F' H' v H'' G hk hy=>?_,λF' H' G=>by show y.length<=_;rw[hl];exact Hw _]];let#[e,c,hc,rfl]:=hy;exact#[e,.str #[[c].toArray],signs_get hc,rep_str.mpr rfl]
 .exact hd.elim
end
section
variable {X:Cx}[J:Jx]{a b c e o:U7}{es:List U7}{ta tb tc te to:TD}{t:TDA}{pos:Vf}
abbrev RTx:=Lq->List D->(D->Prop)->Prop
def dTx(r:RTx)(to:TD)(t:TDA):TD:=λz R=>to z λx=>match x with|.str y=>t z λds=>r y ds R|_=>False
def MtS(X:Cx)(id:String)(r:RTx):Prop:=∃rv:V->List V->Hp->VK->Prop,MtR X id rv/\∀(y:Lq) (ds:List D) (vs:List V) (F H:Hp) (R:D->Prop) (Q:VK),Reps X.K F ds vs->r y ds R->(∀d v,(∀G,Rep X.K G d v)->R d->Q v H)->rv (.str y) vs H Q
variable{b7 a8:Vf}
def kG{name:Lq}{id:String}{r:RTx}(slot:Slot "str" name id)(O_:typeOf (.builtin id)=pure (.type "method_descriptor"))(hm:MtS X id r)(ho:DE X o to)(ha:DA X (e::es) t)
  (b_:(Vb o name X.env (Vc o X.env)=Vc o X.env)\zA0)
  (d_:zHF X a8 (e::es)\zA0)
  (c9:((b7.endLine==a8.line)=true)\zA0) (hs:zSE X e es\zA0) (q_:zPL X a8 es\zA0):
  DE X (.Call (.Attribute o name b7) (e::es) [] a8) (dTx r to t):=by
 let#[rv,hm,L]:=hm;refine(du PySem.F.plainAttrs_str slot O_ hm ho ha b_ d_ c9 hs q_).anti λs H Q q=>?_;let#[B,F,z,kf,rs,R,h1,h2]:=q;refine#[B,F,z,kf,rs,_,h1,λx u F1 H1 g1 hx rx=>?_];split at hx
 .rename_i y;rw[rep_str.mp rx];refine#[rfl,B,F1,z,kf.grow g1,rs.grow g1,_,hx,λds vs F2 H2 g2 hy ry=>?_];exact L y ds vs F2 H2 R Q ry hy λd v rd hR=>h2 d v F2 H2 (g1.trans g2) hR (rd F2)
 .exact hx.elim
def rEnds:RTx:=λy ds R=>match ds with|[.str p]=>R (.bl (Txt.endswith y p))|_=>False
def ms_ends:MtS X "str.endswith" rEnds:=by
 refine#[λx vs H Q=>∃y p,x=.str y/\vs=[.str p]/\Q (.bl (Txt.endswith y p)) H,?_,?_]
 .intro pins s σ H x vs v us Q I rx rv h;let#[y,p,rfl,rfl,q]:=h;let#[t,rfl]:=rx;let#[u,rfl,t',rfl]:=vals1 rv;exact SC.endswith #[.bl _,H,I,rfl,q]
 .intro y ds vs F H R Q r h q;unfold rEnds at h;split at h
  .obtain⟨v,vr,rfl,h1,h2⟩:=reps_cons.mp r;rw[reps_nil.mp h2,rep_str.mp h1];exact#[_,_,rfl,rfl,q _ _ (λ_=>rep_bl.mpr rfl) h]
  .exact h.elim
def AJ(ho:WDE X o to)(ha:WDA X [e] t)(b_:(Vb o "endswith" X.env (Vc o X.env)=Vc o X.env)\zA0)
  (d_:zHF X a8 [e]\zA0)
  (c9:((b7.endLine==a8.line)=true)\zA0) (hs:zSE X e []\zA0):WDE X (.Call (.Attribute o "endswith" b7) [e] [] a8) (dTx rEnds to t):=#[kG PySem.F.slot_str_endswith PySem.F.type_str_endswith ms_ends ho.out ha.out b_ d_ c9 hs]
def rSIndex:RTx:=λy ds R=>match ds with|[.str p]=>∃i rest,Builtin.Str.occurrences y p 0 y.length 1=i::rest/\R (.int (i:Nat))|_=>False
def AK:MtS X "str.index" rSIndex:=by
 refine#[λx vs H Q=>∃y p i rest,x=.str y/\vs=[.str p]/\Builtin.Str.occurrences y p 0 y.length 1=i::rest/\Q (.int (i:Nat)) H,?_,?_]
 .intro pins s σ H x vs v us Q I rx rv h;let#[y,p,i,rest,rfl,rfl,ho,q]:=h;let#[t,rfl]:=rx;let#[u,rfl,t',rfl]:=vals1 rv;exact SC.index ho #[.int _,H,I.tok _,#[_,rfl],q]
 .intro y ds vs F H R Q r h q;unfold rSIndex at h;split at h
  .obtain⟨i,rest,ho,h⟩:=h;let#[v,vr,rfl,h1,h2]:=reps_cons.mp r;rw[reps_nil.mp h2,rep_str.mp h1];exact#[_,_,i,rest,rfl,rfl,ho,q _ _ (λ_=>rep_int.mpr rfl) h]
  .exact h.elim
def sS(ho:WDE X o to)(ha:WDA X [e] t)(b_:(Vb o "index" X.env (Vc o X.env)=Vc o X.env)\zA0)
  (d_:zHF X a8 [e]\zA0)
  (c9:((b7.endLine==a8.line)=true)\zA0) (hs:zSE X e []\zA0):WDE X (.Call (.Attribute o "index" b7) [e] [] a8) (dTx rSIndex to t):=#[kG PySem.F.slot_str_index PySem.F.type_str_index AK ho.out ha.out b_ d_ c9 hs]
end
end My
namespace My
open Exc
section
variable {X:Cx}{a b c e:U7}{ta tb tc te:TD}{pos:Vf}{st:U6}{rest:List U6}{t u:TSD}
def bn[Jx]{c:U7}{l r:List U6}{tc:TDT}(hc:WDT X c tc)(ha:WDSs X l t)(hb:WDSs X r u):WDS X (.If c l r pos) (dIfS tc t u):=#[rT (c:=c) (l:=l) (r:=r) (tc:=tc) (hc:=hc.out) (ha:=ha.out) (hb:=hb.out)]
end
section
variable {P:U5}{w:U'}{K:Ex}{mg:Lq->Option Os}{base:Heap}
variable{x qual:Lq}{st:U6}{f:Pi}{fd:Vd}{N ps:List Lq}{k:Nat}
def _root_.L2.Fun.okDW{S:SpD}(T:Fun K x qual st f fd)(F:FnScope N ps (ag st))(len:∀ds R,S ds R->ds.length=ps.length)
  (a9:∀(cdv:Os) (A:U_) (outer:List VP) (s:SB) (H:Hp) (E:XK) (J:Jx),Room k (A.deeper (Vg qual (ag st) s.heap.objs.size f cdv))->
   ∃t,WDSs (cxOf (Exc.CX1 P w) P w K mg base N qual (ag st) f cdv A outer s H E).nox (aJ st) t/\∀ds R,S ds R->t {nx:=λ_=>R .non,rt:=R} (startD N ds)):FnOk P w K mg base (Exc.CX1 P w) (k+1) f fd ps (lSp K S):=
 T.okD F len λcdv A outer s H E J hr=>let ⟨t,h,q⟩:=a9 cdv A outer s H E J hr;#[t,h.out,q]
def Tx.okDW{S:SpD}(T:Tx K mg x st ps)(F:FnScope N ps (ag st))(len:∀ds R,S ds R->ds.length=ps.length)
  (a9:∀(f:Pi) (cdv:Os) (A:U_) (outer:List VP) (s:SB) (H:Hp) (E:XK) (J:Jx),Room k (A.deeper (Vg x (ag st) s.heap.objs.size f cdv))->
   ∃t,WDSs (cxOf (Exc.CX1 P w) P w K mg base N x (ag st) f cdv A outer s H E).nox (aJ st) t/\∀ds R,S ds R->t {nx:=λ_=>R .non,rt:=R} (startD N ds)):CalD P w K mg base (k+1) x ps S:=
 Tx.okD T F len λf cdv A outer s H E J hr=>let ⟨t,h,q⟩:=a9 f cdv A outer s H E J hr;#[t,h.out,q]
def Tx.okXW{S:SpX}(T:Tx K mg x st ps)(F:FnScope N ps (ag st))(len:∀ds R RX,S ds R RX->ds.length=ps.length)
  (a9:∀(f:Pi) (cdv:Os) (A:U_) (outer:List VP) (s:SB) (H:Hp) (E:XK) (J:Jx),Room k (A.deeper (Vg x (ag st) s.heap.objs.size f cdv))->XOk (cxOf (CX1 P w) P w K mg base N x (ag st) f cdv A outer s H E)->
   ∃t,WDSs (cxOf (CX1 P w) P w K mg base N x (ag st) f cdv A outer s H E) (aJ st) t/\∀ds R RX,(∀z,J.RX z=RX)->S ds R RX->t {nx:=λ_=>R .non,rt:=R} (startD N ds)):CalX P w K mg base (k+1) x ps S:=
 Tx.okX T F len λf cdv A outer s H E J hr hx=>let ⟨t,h,q⟩:=a9 f cdv A outer s H E J hr hx;#[t,h.out,q]
def Cls.okIW{C:Pi}{p0:Lq}{S:SiD}(T:Fun K "__init__" qual st f fd)(hb:Binds K fd (p0::ps) [])(F:FnScope (p0::N) (p0::ps) (ag st))(len:∀ds R,S ds R->ds.length=ps.length)
  (hns:nsIn K SL x=be (be (.ref C))) (l_:mg x=be (.ref C)) (mk:Mk K C f)
  (a9:∀(cdv:Os) (A:U_) (outer:List VP) (s:SB) (H:Hp) (E:XK) (J:Jx),Room k (A.deeper (Vg qual (ag st) s.heap.objs.size f cdv))->
   ∃t,WDI (cxOf (Exc.CX1 P w) P w K mg base (p0::N) qual (ag st) f cdv A outer s H E).nox x (aJ st) t/\∀ds R,S ds R->t (w6::startD N ds) [] R):CalM P w K mg base (k+1) x (p0::ps) S:=
 Cls.okI T hb F len hns l_ mk λcdv A outer s H E J hr=>let ⟨t,h,q⟩:=a9 cdv A outer s H E J hr;#[t,h.out,q]
def Cls.okEW{C N0:Pi}{bm:List Os}{p0:Lq}{S:SiD}(T:Fun K "__init__" qual st f fd)(hb:Binds K fd (p0::ps) [])(F:FnScope (p0::N) (p0::ps) (ag st))(len:∀ds R,S ds R->ds.length=ps.length)
  (ek:ErrK K mg x C N0 bm) (hi:HB K (.ref C) "__init__"=be (be (.ref f))) (hf:isFn K (.ref f)=true)
  (a9:∀(cdv:Os) (A:U_) (outer:List VP) (s:SB) (H:Hp) (E:XK) (J:Jx),Room k (A.deeper (Vg qual (ag st) s.heap.objs.size f cdv))->
   ∃t,WDX (cxOf (CX1 P w) P w K mg base (p0::N) qual (ag st) f cdv A outer s H E).nox x (aJ st) t/\∀ds R,S ds R->t (w6::startD N ds) [] R):CalE P w K mg base (k+1) x (p0::ps) S:=
 Cls.okE T hb F len ek hi hf λcdv A outer s H E J hr=>let ⟨t,h,q⟩:=a9 cdv A outer s H E J hr;#[t,h.out,q]
end
inductive MO where
 |ins (x:Str) (fs:List (Str×D))|lst (ds:List D)|dti (a_:List ((Int×Int)×Int))
abbrev MS:=List (Pi×MO)
def MRep(K:Ex)(F H:Hp)(a:Pi):MO->Prop
 |.ins x fs=>∃C dx ws,nsIn K SL x=be (be (.ref C))/\H a=be (.ins C dx ws)/\RepF K F fs ws
 |.lst ds=>∃vs,H a=be (.lst vs)/\Reps K F ds vs
 |.dti a_=>H a=be (.dT (dtiV a_))
def av(M:MS):List Pi:=M.map (·.1)
def mget:MS->Pi->Option MO
 |[],_=>w6
 |(b,o)::r,a=>if b=a then be o else mget r a
def mput:MS->Pi->MO->MS
 |[],_,_=>[]
 |(b,p)::r,a,o=>if b=a then(b,o)::r else(b,p)::mput r a o
def mdel:MS->Pi->MS
 |[],_=>[]
 |(b,p)::r,a=>if b=a then r else(b,p)::mdel r a
def bD:∀{M:MS} {a:Pi} {o:MO},mget M a=be o->(a,o)∈M
 |[],_,_,h=>by cases h
 |(b,p)::r,a,o,h=>by
  unfold mget at h;split at h
  .rename_i e;subst e;cases h;exact Hy
  .exact Hz _ (bD h)
variable{M:MS}{a:Pi}{o:MO}
def bV(h:(a,o)∈M):a∈av M:=HW.mpr #[_,h,rfl]
def ip:∀(M:MS) (a:Pi) (o:MO),av (mput M a o)=av M
 |[],_,_=>rfl
 |(b,p)::r,a,o=>by
  unfold mput;split
  .rfl
  .show b::av (mput r a o)=b::av r;rw[ip r a o]
def mem_put:∀{M:MS} {a b:Pi} {o q:MO},(av M).Nodup->(b,q)∈mput M a o->(b=a/\q=o/\a∈av M)\/(b≠a/\(b,q)∈M)
 |[],_,_,_,_,_,h=>by cases h
 |(c,p)::r,a,b,o,q,nd,h=>by
  have NN:c∉av r/\(av r).Nodup:=IA.mp nd;unfold mput at h;split at h
  .rename_i e;subst e;rcases Hx.mp h with z|z
   .cases z;exact .inl #[rfl,rfl,Hy]
   .have:b∈av r:=bV z;exact .inr #[λe=>NN.1 (e ▸ this),Hz _ z]
  .rename_i ne;rcases Hx.mp h with z|z
   .cases z;exact .inr #[ne,Hy]
   .rcases mem_put NN.2 z with⟨e1,e2,e3⟩|⟨e1,e2⟩
    .exact .inl #[e1,e2,Hz _ e3]
    .exact .inr #[e1,Hz _ e2]
def kH:∀{M:MS} {a b:Pi} {q:MO},(av M).Nodup->(b,q)∈mdel M a->b≠a/\(b,q)∈M
 |[],_,_,_,_,h=>by cases h
 |(c,p)::r,a,b,q,nd,h=>by
  have NN:c∉av r/\(av r).Nodup:=IA.mp nd;unfold mdel at h;split at h
  .rename_i e;subst e;exact#[λe=>NN.1 (e ▸ bV h),Hz _ h]
  .rename_i ne;rcases Hx.mp h with z|z
   .cases z;exact#[ne,Hy]
   .obtain⟨e1,e2⟩:=kH NN.2 z;exact#[e1,Hz _ e2]
def del_sub:∀{M:MS} {a:Pi},(av (mdel M a)).Sublist (av M)
 |[],_=>.slnil
 |(c,p)::r,a=>by
  unfold mdel;split
  .exact List.sublist_cons_self _ _
  .exact List.Sublist.cons_cons _ del_sub
variable{K:Ex}{F H F' H':Hp}
def MRep.mono(ff:Same F F')(hh:∀o,H a=be o->H' a=be o):∀{o:MO},MRep K F H a o->MRep K F' H' a o
 |.ins x fs,⟨C,dx,ws,n,h,r⟩=>#[C,dx,ws,n,hh _ h,RepF.mono ff fs ws r]
 |.lst ds,⟨vs,h,r⟩=>#[vs,hh _ h,Reps.mono ff ds vs r]
 |.dti a_,h=>hh _ h
def MRep.there:∀{o:MO},MRep K F H a o->H a≠w6
 |.ins x fs,⟨C,dx,ws,n,h,r⟩=>by rw[h];exact λz=>nomatch z
 |.lst ds,⟨vs,h,r⟩=>by rw[h];exact λz=>nomatch z
 |.dti a_,h=>by rw[show H a=_ from h];exact λz=>nomatch z
structure RepM(K:Ex)(F H:Hp)(M:MS):Prop where
 nd:(av M).Nodup
 ok:∀a o,(a,o)∈M->MRep K F H a o
 fr:∀a,a∈av M->F a=w6
def RepM.nil:RepM K F H []:=#[KB,(λ_ _ h=>nomatch h),(λ_ h=>nomatch h)]
def RepM.here(r:RepM K F H M)(h:a∈av M):H a≠none:=by
 let#[#[b,o],h1,rfl]:=HW.mp h;exact(r.ok _ _ h1).there
structure GrowM(M M':MS)(F H F' H':Hp):Prop where
 ff:Same F F'
 fh:Same F' H'
 hh:∀b o,b∉av M->H b=be o->H' b=be o
 out:∀b,b∉av M->F b=w6->H b≠w6->F' b=w6
 ks:∀b,b∈av M'->b∈av M\/H b=w6
def Grow.toM(g:Grow F H F' H'):GrowM M M F H F' H':=#[g.ff,g.fh,λb o _ h=>g.hh b o h,λb _ h1 h2=>g.out b h1 h2,λb h=>.inl h]
def GrowM.refl(h:Same F H):GrowM M M F H F H:=(Grow.refl h).toM
def GrowM.trans{M1 M2:MS}{F1 H1 F2 H2:Hp}(g:GrowM M M1 F H F1 H1)(k:GrowM M1 M2 F1 H1 F2 H2):GrowM M M2 F H F2 H2 where
  ff:=g.ff.trans k.ff
  fh:=k.fh
  hh:=λb o nb h=>k.hh b o (λz=>by rcases g.ks b z with q|q;exact nb q;rw[q]at h;cases h) (g.hh b o nb h)
  out:=λb nb h1 h2=>k.out b (λz=>by rcases g.ks b z with q|q;exact nb q;exact h2 q) (g.out b nb h1 h2) (by
    cases e:H b with
    |none=>exact absurd e h2
    |some o=>rw[g.hh b o nb e];exact λz=>nomatch z)
  ks :=λb h=>by
    rcases k.ks b h with q|q
    . exact g.ks b q
    . by_cases nb:b∈av M
      . exact .inl nb
      . right;cases e:H b with
        |none=>rfl
        |some o=>rw[g.hh b o nb e]at q;cases q
def RepM.grow(r:RepM K F H M)(g:Grow F H F' H'):RepM K F' H' M:=
 #[r.nd,λa o h=>(r.ok a o h).mono g.ff λo e=>g.hh a o e,λa h=>g.out a (r.fr a h) (r.here h)]
variable{ho:HO}
def RepM.put{o':MO}(r:RepM K F H M)(e:mget M a=be o)(h:MRep K F (upd H a ho) a o'):RepM K F (upd H a ho) (mput M a o'):=
 ⟨by rw[ip];exact r.nd,λb q hb=>by
  rcases mem_put r.nd hb with⟨rfl,rfl,_⟩|⟨ne,hb⟩
  .exact h
  .exact(r.ok b q hb).mono (Same.refl F) λu z=>by rw[ar ne];exact z,λb hb=>r.fr b (by rw[ip]at hb;exact hb)⟩
def GrowM.put{o':MO}(fh:Same F H)(fa:F a=w6)(e:mget M a=be o):GrowM M (mput M a o') F H F (upd H a ho) where
 ff:=Same.refl F
 fh:=λb u z=>by
  have ne:b≠a:=by intro rfl;rw[fa]at z;cases z
  rw[ar ne];exact fh b u z
 hh:=λb u nb z=>by
  have ne:b≠a:=by intro rfl;exact nb (bV (bD e))
  rw[ar ne];exact z
 out:=λb _ h _=>h
 ks:=λb h=>.inl (by rw[ip]at h;exact h)
def RepM.new{p:Pi}(r:RepM K F H M)(fh:Same F H)(hp:H p=w6)(h:MRep K F (upd H p ho) p o):RepM K F (upd H p ho) ((p,o)::M):=by
 have np:p∉av M:=λz=>r.here z hp;refine#[IA.mpr #[np,r.nd],λb q hb=>?_,λb hb=>?_]
 .rcases Hx.mp hb with z|z
  .cases z;exact h
  .exact(r.ok b q z).mono (Same.refl F) λu z'=>by rw[ar (λe:b=p=>np (e ▸ bV z))];exact z'
 .rcases Hx.mp hb with z|z
  .rw[z];exact fh.free hp
  .exact r.fr b z
def GrowM.new{p:Pi}(fh:Same F H)(hp:H p=w6):GrowM M ((p,o)::M) F H F (upd H p ho) where
 ff:=Same.refl F
 fh:=fh.trans (aR hp _)
 hh:=λb u _ z=>aR hp _ b u z
 out:=λb _ h _=>h
 ks:=λb h=>by
  rcases Hx.mp h with z|z
  .exact .inr (by rw[z];exact hp)
  .exact .inl z
structure RepZ(K:Ex)(B F H:Hp)(z:SD)(s:L2.St)(M:MS):Prop where
 rs:RepS K B F H z s
 no:∀(i:Nat) ds,z[i]?≠be (be (.own ds))
 rm:RepM K F H M
 mb:∀a,a∈av M->B a=w6
variable{B:Hp}{M':MS}
def Kept.growM[Jx]{F0:Hp}(k:Kept B F0 F H)(mb:∀a,a∈av M->B a=w6)(g:GrowM M M' F H F' H'):Kept B F0 F' H' where
 bh:=λb o e=>g.hh b o (λz=>by rw[mb b z]at e;cases e) (k.bh b o e)
 fh:=g.fh
 f0:=k.f0.trans g.ff
 out:=λb h1 h2=>g.out b (λz=>h2 (mb b z)) (k.out b h1 h2) (by
  cases e:B b with
  |none=>exact absurd e h2
  |some o=>rw[k.bh b o e];exact λz=>nomatch z)
 eb:=k.eb
 jf:=k.jf
 jo:=k.jo
variable{z:SD}{s:L2.St}
def RepS.growM(r:RepS K B F H z s)(no:∀(i:Nat) ds,z[i]?≠be (be (.own ds)))(g:GrowM M M' F H F' H'):RepS K B F' H' z s where
 len:=r.len
 val:=λi d e n=>let ⟨v,q1,q2⟩:=r.val i d e n;#[v,q1,q2.mono g.ff]
 own:=λi ds e=>absurd e (no i ds)
 apart:=r.apart
def RepZ.growM(r:RepZ K B F H z s M)(bh:Same B H)(g:GrowM M M' F H F' H')(rm:RepM K F' H' M'):RepZ K B F' H' z s M':=
 ⟨r.rs.growM r.no g,r.no,rm,λa h=>by
  rcases g.ks a h with q|q
  .exact r.mb a q
  .exact bh.free q⟩
def RepZ.set{i:Nat}{d:D}{v:V}(r:RepZ K B F H z s M)(rd:Rep K F d v):RepZ K B F H (z.set i (be d)) (s.set i (be v)) M:=
 ⟨r.rs.set rd,λj ds e=>by
  by_cases hj:i=j
  .subst hj;rw[IN]at e;simp at e;have:=rd.noown;rw[e.2]at this;cases this
  .rw[HL hj]at e;exact r.no j ds e,r.rm,r.mb⟩
class Jm extends Jx where
 RM:SD->MS->XD
abbrev TME:=SD->MS->(D->MS->Prop)->Prop
abbrev TMT:=SD->MS->(Bool->MS->Prop)->Prop
abbrev TMA:=SD->MS->(List D->MS->Prop)->Prop
structure EndsM where
 nx:SD->MS->Prop
 rt:D->MS->Prop
 bk:SD->MS->Prop:=λ_ _=>False
 ct:SD->MS->Prop:=λ_ _=>False
abbrev TMS:=EndsM->SD->MS->Prop
def mE(K:Ex)[J:Jm](t:TME):TE:=λs H Q=>∃F z M,Kept J.B J.F0 F H/\RepZ K J.B F H z s M/\∃R:D->MS->Prop,t z M R/\∀d v M' F' H',GrowM M M' F H F' H'->R d M'->Rep K F' d v->RepM K F' H' M'->Q v H'
def mT(K:Ex)[J:Jm](t:TMT):TT:=λs H Q=>∃F z M,Kept J.B J.F0 F H/\RepZ K J.B F H z s M/\∃R:Bool->MS->Prop,t z M R/\∀b M' F' H',GrowM M M' F H F' H'->R b M'->RepM K F' H' M'->Q b H'
def mA(K:Ex)[J:Jm](t:TMA):TA:=λs H Q=>∃F z M,Kept J.B J.F0 F H/\RepZ K J.B F H z s M/\∃R:List D->MS->Prop,t z M R/\∀ds vs M' F' H',GrowM M M' F H F' H'->R ds M'->Reps K F' ds vs->RepM K F' H' M'->Q vs H'
structure EndsOkM[J:Jm](K:Ex)(F0:Hp)(ED:EndsM)(E:Ends):Prop where
 nx:∀z' s' M' F' H',Kept J.B F0 F' H'->ED.nx z' M'->RepZ K J.B F' H' z' s' M'->E.nx s' H'
 rt:∀d v M' F' H',Kept J.B F0 F' H'->ED.rt d M'->Rep K F' d v->RepM K F' H' M'->(∀a,a∈av M'->J.B a=w6)->E.rt v H'
 bk:∀z' s' M' F' H',Kept J.B F0 F' H'->ED.bk z' M'->RepZ K J.B F' H' z' s' M'->E.bk s' H'
 ct:∀z' s' M' F' H',Kept J.B F0 F' H'->ED.ct z' M'->RepZ K J.B F' H' z' s' M'->E.ct s' H'
def mS(K:Ex)[J:Jm](t:TMS):TS:=λE s H=>∃F0 F z M,Kept J.B F0 F H/\RepZ K J.B F H z s M/\∃ED:EndsM,t ED z M/\EndsOkM K F0 ED E
structure ME(X:Cx)[Jm](e:U7)(t:TME):Prop where
 out:PE X e (mE X.K t)
structure MT(X:Cx)[Jm](e:U7)(t:TMT):Prop where
 out:PT X e (mT X.K t)
structure MW(X:Cx)[Jm](e:U7)(t:TMT):Prop where
 out:PW X e (mT X.K t)
structure MA(X:Cx)[Jm](es:List U7)(t:TMA):Prop where
 out:PA X es (mA X.K t)
structure MSt(X:Cx)[Jm](st:U6)(t:TMS):Prop where
 out:PS X st (mS X.K t)
structure MSs(X:Cx)[Jm](st:List U6)(t:TMS):Prop where
 out:PSs X st (mS X.K t)
section
variable {X:Cx}{a b c e:U7}{ta tb:TME}{pos:Vf}
def mP(t:TD):TME:=λz M R=>t z λd=>R d M
def mPT(t:TDT):TMT:=λz M R=>t z λd=>R d M
def mPA(t:TDA):TMA:=λz M R=>t z λd=>R d M
def ah[J:Jm]{t:TD}(h:WDE X e t):ME X e (mP t):=⟨PE.anti h.out λs H Q q=>by
 let#[F,z,M,k,r,R,h1,h2]:=q;exact#[J.B,F,z,k,r.rs,_,h1,λd v F' H' g hd rd=>h2 d v M F' H' g.toM hd rd (r.rm.grow g)]⟩
def bG[J:Jm]{t:TDT}(h:WDT X e t):MT X e (mPT t):=⟨PT.anti h.out λs H Q q=>by
 let#[F,z,M,k,r,R,h1,h2]:=q;exact#[J.B,F,z,k,r.rs,_,h1,λd F' H' g hd=>h2 d M F' H' g.toM hd (r.rm.grow g)]⟩
variable{es:List U7}
def az[J:Jm]{t:TDA}(h:WDA X es t):MA X es (mPA t):=⟨PA.anti h.out λs H Q q=>by
 let#[F,z,M,k,r,R,h1,h2]:=q;exact#[J.B,F,z,k,r.rs,_,h1,λd v F' H' g hd rd=>h2 d v M F' H' g.toM hd rd (r.rm.grow g)]⟩
def mOp(r:RD2)(ta tb:TME):TME:=λz M R=>ta z M λx M1=>tb z M1 λy M2=>r x y λd=>R d M2
variable{r:R2}{rd:RD2}
def sT[J:Jm]{e:U7}{ta tb:TME}(L:bc X.K r rd)(h:PE X e (tOp r (mE X.K ta) (mE X.K tb))):ME X e (mOp rd ta tb):=⟨h.anti λs H Q q=>by
 let#[F,z,M,k,rs,R,h1,h2]:=q;refine#[F,z,M,k,rs,_,h1,λx u M1 F1 H1 g1 hx rx m1=>?_];refine#[F1,z,M1,k.growM rs.mb g1,rs.growM k.bh g1 m1,_,hx,λy v M2 F2 H2 g2 hy ry m2=>?_];exact L x y u v F2 H2 _ Q g2.fh hy (rx.mono g2.ff) ry λd w F3 H3 g3 hd rd=>h2 d w M2 F3 H3 ((g1.trans g2).trans g3.toM) hd rd (m2.grow g3)⟩
def sU[J:Jm]{op:Wn}(ho:OpR X (Vr op) r)(L:bc X.K r rd)(ha:ME X a ta)(hb:ME X b tb):ME X (.BinOp a op b pos) (mOp rd ta tb):=sT L (jK ho ha.out hb.out)
def kI[J:Jm](ha:ME X a ta)(hb:ME X b tb)(hs:eY b\zA6):ME X (.Subscript a b pos) (mOp rdIx ta tb):=sT rH (pe_ix qT ha.out hb.out hs)
def iq[Jm](ha:ME X a ta)(hb:ME X b tb):ME X (.BinOp a .Add b pos) (mOp ke ta tb):=sU rg rh ha hb
def dB[Jm](ha:ME X a ta)(hb:ME X b tb):ME X (.BinOp a .Sub b pos) (mOp kg ta tb):=sU qp rj ha hb
def mTst(t:TME):TMT:=λz M R=>t z M λx M1=>match x with|.bl k=>R k M1|_=>False
def eo[J:Jm]{op:W1}(ho:OpR X (Vo op) r)(L:bc X.K r rd)(ha:ME X a ta)(hb:ME X b tb)(hm:Vu op b=false):MT X (.Compare a [op] [b] pos) (mTst (mOp rd ta tb)):=⟨(qz ho ha.out hb.out hm).anti λs H Q q=>by
 let#[F,z,M,k,rs,R,h1,h2]:=q;refine#[F,z,M,k,rs,_,h1,λx u M1 F1 H1 g1 hx rx m1=>?_];refine#[F1,z,M1,k.growM rs.mb g1,rs.growM k.bh g1 m1,_,hx,λy v M2 F2 H2 g2 hy ry m2=>?_];refine L x y u v F2 H2 _ _ g2.fh hy (rx.mono g2.ff) ry λd w F3 H3 g3 hd rd=>?_;dsimp only at hd;split at hd
 .exact#[_,rep_bl.mp rd,h2 _ M2 F3 H3 ((g1.trans g2).trans g3.toM) hd (m2.grow g3)]
 .exact hd.elim⟩
def sV[Jm](ha:ME X a ta)(hb:ME X b tb):MT X (.Compare a [.Lt] [b] pos) (mTst (mOp rdLt ta tb)):=eo qw rD ha hb (nomark _)
def AL[Jm](ha:ME X a ta)(hb:ME X b tb):MT X (.Compare a [.Gt] [b] pos) (mTst (mOp rdGt ta tb)):=eo jM kh ha hb (nomark _)
def ir[Jm](ha:ME X a ta)(hb:ME X b tb):MT X (.Compare a [.Eq] [b] pos) (mTst (mOp rdEq ta tb)):=eo jL ki ha hb (nomark _)
def kJ[Jm](ha:ME X a ta)(hb:ME X b tb):MT X (.Compare a [.NotEq] [b] pos) (mTst (mOp rdNe ta tb)):=eo qv rE ha hb (nomark _)
def sW[Jm](ha:ME X a ta)(hb:ME X b tb):MT X (.Compare a [.Is] [b] pos) (mTst (mOp (rdIs id) ta tb)):=eo qy rG ha hb (nomark _)
def AM[Jm](ha:ME X a ta)(hb:ME X b tb)(hm:(Vu .NotIn b=false)\zA0):MT X (.Compare a [.NotIn] [b] pos) (mTst (mOp (rdIn true) ta tb)):=eo AF AE ha hb hm
variable {tA tB:TMT}{rest:List U7}
def mt_w[Jm](h:MW X a tA):MT X a tA:=#[PW.pt h.out]
def sX[Jm](ha:MT X a tA):MW X (.BoolOp .And [a] pos) tA:=#[qc ha.out]
def iu[Jm](ha:MT X a tA):MW X (.BoolOp .Or [a] pos) tA:=#[qd ha.out]
def mAnd(tA tB:TMT):TMT:=λz M R=>tA z M λk M1=>if k=true then tB z M1 R else R false M1
def mOr(tA tB:TMT):TMT:=λz M R=>tA z M λk M1=>if k=true then R true M1 else tB z M1 R
def sY[J:Jm](ha:MT X a tA)(hb:MW X (.BoolOp .And (b::rest) pos) tB):MW X (.BoolOp .And (a::b::rest) pos) (mAnd tA tB):=⟨(qe ha.out hb.out).anti λs H Q q=>by
 let#[F,z,M,k,rs,R,h1,h2]:=q;refine#[F,z,M,k,rs,_,h1,λx M1 F1 H1 g1 hx m1=>?_];cases x with
 |true=>exact#[F1,z,M1,k.growM rs.mb g1,rs.growM k.bh g1 m1,R,hx,λy M2 F2 H2 g2 hy m2=>h2 y M2 F2 H2 (g1.trans g2) hy m2]
 |false=>exact h2 _ M1 F1 H1 g1 hx m1⟩
def iw[J:Jm](ha:MT X a tA)(hb:MW X (.BoolOp .Or (b::rest) pos) tB):MW X (.BoolOp .Or (a::b::rest) pos) (mOr tA tB):=⟨(qf ha.out hb.out).anti λs H Q q=>by
 let#[F,z,M,k,rs,R,h1,h2]:=q;refine#[F,z,M,k,rs,_,h1,λx M1 F1 H1 g1 hx m1=>?_];cases x with
 |false=>exact#[F1,z,M1,k.growM rs.mb g1,rs.growM k.bh g1 m1,R,hx,λy M2 F2 H2 g2 hy m2=>h2 y M2 F2 H2 (g1.trans g2) hy m2]
 |true=>exact h2 _ M1 F1 H1 g1 hx m1⟩
def mIf(tc:TMT)(ta tb:TME):TME:=λz M R=>tc z M λk M1=>if k=true then ta z M1 R else tb z M1 R
def gA[J:Jm]{tc:TMT}(hc:MT X c tc)(ha:ME X a ta)(hb:ME X b tb):ME X (.IfExp c a b pos) (mIf tc ta tb):=⟨(xD hc.out ha.out hb.out).anti λs H Q q=>by
 let#[F,z,M,k,rs,R,h1,h2]:=q;refine#[F,z,M,k,rs,_,h1,λx M1 F1 H1 g1 hx m1=>?_];cases x with
 |true=>exact#[F1,z,M1,k.growM rs.mb g1,rs.growM k.bh g1 m1,R,hx,λd v M2 F2 H2 g2 hy rd m2=>h2 d v M2 F2 H2 (g1.trans g2) hy rd m2]
 |false=>exact#[F1,z,M1,k.growM rs.mb g1,rs.growM k.bh g1 m1,R,hx,λd v M2 F2 H2 g2 hy rd m2=>h2 d v M2 F2 H2 (g1.trans g2) hy rd m2]⟩
def mNil:TMA:=λ_ M R=>R [] M
def AN(ta:TME)(tr:TMA):TMA:=λz M R=>ta z M λx M1=>tr z M1 λxs M2=>R (x::xs) M2
def aX[J:Jm]:MA X [] mNil:=⟨pa_nil.anti λs H Q q=>by
 let#[F,z,M,k,rs,R,h1,h2]:=q;exact h2 [] [] M F H (GrowM.refl k.fh) h1 (reps_nil.mpr rfl) rs.rm⟩
variable{t:TMA}
def aG[J:Jm]{e:U7}{te:TME}(ha:ME X e te)(hr:MA X es t)(hs:zSE X e es\zA0):MA X (e::es) (AN te t):=⟨(bt ha.out hr.out hs).anti λs H Q q=>by
 let#[F,z,M,k,rs,R,h1,h2]:=q;refine#[F,z,M,k,rs,_,h1,λx u M1 F1 H1 g1 hx rx m1=>?_];refine#[F1,z,M1,k.growM rs.mb g1,rs.growM k.bh g1 m1,_,hx,λxs us M2 F2 H2 g2 hy ry m2=>?_];exact h2 _ _ M2 F2 H2 (g1.trans g2) hy (reps_cons.mpr #[_,_,rfl,rx.mono g2.ff,ry]) m2⟩
def mTup(t:TMA):TME:=λz M R=>t z M λxs M1=>xs.length<=1000/\R (.tup xs) M1
def sZ[J:Jm]{x1}(h:MA X es t):ME X (.Tuple es x1 pos) (mTup t):=⟨(qI h.out).anti λs H Q q=>by
 let#[F,z,M,k,rs,R,h1,h2]:=q;refine#[F,z,M,k,rs,_,h1,λds vs M1 F1 H1 g1 hx rx m1=>?_];have hl:=rx.length;refine#[sz (by rw[hl];exact hx.1),λp hp=>?_];have gn:=Grow.new g1.fh hp (.tup vs);exact h2 _ _ M1 _ _ (g1.trans gn.toM) hx.2 (rep_tupS.mpr #[p,vs,rfl,aC,rx.mono (aR (g1.fh.free hp) _)]) (m1.grow gn)⟩
def mLst(t:TMA):TME:=λz M R=>t z M λxs M1=>xs.length<=1000/\∀p,p∉av M1->R (.ptr p) ((p,.lst xs)::M1)
def kK[J:Jm](h:MA X es t):ME X (.List es pos) (mLst t):=⟨(jR h.out).anti λs H Q q=>by
 let#[F,z,M,k,rs,R,h1,h2]:=q;refine#[F,z,M,k,rs,_,h1,λds vs M1 F1 H1 g1 hx rx m1=>?_];have hl:=rx.length;refine#[sz (by rw[hl];exact hx.1),λp hp=>?_];exact h2 _ _ _ F1 _ (g1.trans (GrowM.new g1.fh hp)) (hx.2 p λz=>m1.here z hp) (rep_ptr.mpr rfl) (m1.new g1.fh hp #[vs,aC,rx])⟩
def mCB(r:RDn)(t:TMA):TME:=λz M R=>t z M λds M1=>r ds λd=>R d M1
variable{x:Lq}{p:Vf}
def AO[J:Jm]{e:U7}{id:String}{r:List V->Hp->VK->Prop}{rd:RDn}(hc:bI X (.builtin id) r)(L:cz X.K r rd)(hm:X.mg x=w6)(hv:Vl x=be (.builtin id))(ha:MA X (e::es) t)(hg:Gl X x\zA0)(hn:(x≠"__name__")\zA1)(d6:zND x\zA1)
  (he:zSE X e es\zA0) (c_:zPL X pos es\zA0):ME X (.Call (.Name x p) (e::es) [] pos) (mCB rd t):=⟨(eX hc hg hm hv ha.out hn d6 he c_).anti λs H Q h=>by
 let#[F,z,M,k,rs,R,h1,h2]:=h;refine#[F,z,M,k,rs,_,h1,λds vs M1 F1 H1 g1 hx rx m1=>?_];exact L ds vs F1 H1 _ Q g1.fh hx rx λd w F' H' g hd rd=>h2 d w M1 F' H' (g1.trans g.toM) hd rd (m1.grow g)⟩
def tf[Jm]{e:U7}(hm:X.mg "len"=w6)(ha:MA X [e] t)(hg:Gl X "len"\zA0)(he:zSE X e []\zA0):ME X (.Call (.Name "len" p) [e] [] pos) (mCB kj t):=AO jN rK hm PySem.boot_len ha hg Mh Mh he
def AQ[J:Jm]{e:U7}{T:String}{r:List V->Hp->VK->Prop}{rd:RDn}(hc:bI X (.type T) r)(L:cz X.K r rd)(hm:X.mg x=w6)(hv:Vl x=be (.type T))(ha:MA X (e::es) t)(hg:Gl X x\zA0)(hn:(x≠"__name__")\zA1)(d6:zND x\zA1)
  (he:zSE X e es\zA0) (c_:zPL X pos es\zA0):ME X (.Call (.Name x p) (e::es) [] pos) (mCB rd t):=⟨(qM hc hg hm hv ha.out hn d6 he c_).anti λs H Q h=>by
 let#[F,z,M,k,rs,R,h1,h2]:=h;refine#[F,z,M,k,rs,_,h1,λds vs M1 F1 H1 g1 hx rx m1=>?_];exact L ds vs F1 H1 _ Q g1.fh hx rx λd w F' H' g hd rd=>h2 d w M1 F' H' (g1.trans g.toM) hd rd (m1.grow g)⟩
def tm[Jm](hm:X.mg "int"=w6)(ha:MA X [e] t)(hg:Gl X "int"\zA0)(he:zSE X e []\zA0):ME X (.Call (.Name "int" p) [e] [] pos) (mCB kz t):=AQ rW rX hm PyProof.Rows.boot_int ha hg Mh Mh he
def dD(M:MS)(d:D)(x:Lq)(fs:List (Lq×D)):Prop:=match d with|.ptr a=>mget M a=be (.ins x fs)|.obj y gs=>y=x/\gs=fs|_=>False
def mFld(x f:Lq)(te:TME):TME:=λz M R=>te z M λd M1=>∃fs,dD M1 d x fs/\∃d',fs.lookup f=be d'/\R d' M1
def iy{K:Ex}{F H:Hp}{M:MS}{d:D}{v:V}{fs:List (Lq×D)}(fh:Same F H)(rm:RepM K F H M)(rd:Rep K F d v)(h:dD M d x fs):∃a C dx ws,v=.ref a/\nsIn K SL x=be (be (.ref C))/\H a=be (.ins C dx ws)/\RepF K F fs ws:=by
 unfold dD at h;split at h
 .rename_i a;let#[C,dx,ws,n,h1,h2]:=rm.ok _ _ (bD h);exact#[a,C,dx,ws,rep_ptr.mp rd,n,h1,h2]
 .obtain⟨rfl,rfl⟩:=h;let#[a,C,dx,ws,e,n,h1,h2]:=rep_obj.mp rd;exact#[a,C,dx,ws,e,n,fh _ _ h1,h2]
 .exact h.elim
def aE[J:Jm]{f:Lq}(hA:ClsA X.K x f)(he:ME X e ta)(hb:(Vb e f X.env (Vc e X.env)=Vc e X.env)\zA0):ME X (.Attribute e f pos) (mFld x f ta):=⟨(qF he.out hb).anti λs H Q q=>by
 let#[C,hn,hc,hf]:=hA;let#[F,z,M,k,rs,R,h1,h2]:=q;refine#[F,z,M,k,rs,_,h1,λd u M1 F1 H1 g1 hx rx m1=>?_];let#[fs,hi,d',hl,hR]:=hx;let#[a,C',dx,ws,rfl,i_,hH,rf]:=iy g1.fh m1 rx hi;rw[hn]at i_;cases i_;let#[v,l,rv]:=rf.look hl;exact#[a,C,dx,ws,v,rfl,hH,hc,hf,l,h2 d' v M1 F1 H1 g1 hR rv m1]⟩
end
abbrev XDM:=Lq->List (Lq×D)->MS->Prop
abbrev SpM:=List D->MS->(D->MS->Prop)->XDM->Prop
def lSpM(K:Ex)(S:SpM):Sp:=λvs H Q E=>∃F ds M,Same F H/\Reps K F ds vs/\RepM K F H M/\∃(R:D->MS->Prop) (RX:XDM),S ds M R RX/\(∀d v M' F' H',GrowM M M' F H F' H'->R d M'->Rep K F' d v->RepM K F' H' M'->Q v H')/\
 ∀x fs C od M' F' H',GrowM M M' F H F' H'->RX x fs M'->ErrD K F' x fs C od->RepM K F' H' M'->E (.ref C) od H'
abbrev CalMM(P:U5)(w:U')(K:Ex)(mg:Lq->Option Os)(base:Heap)(n:Nat)(x:Lq)(ps:List Lq)(S:SpM):Prop:=Cal P w K mg base n x ps (lSpM K S)
def ofX(S:SpX):SpM:=λds M R RX=>S ds (λd=>R d M) λx fs=>RX x fs M
def ofD(S:SpD):SpM:=λds M R _=>S ds λd=>R d M
variable{vs:List V}
def AR{S:SpX}{Q:VK}{E:XK}(h:lSpM K (ofX S) vs H Q E):lSpX K S vs H Q E:=by
 let#[F,ds,M,fh,rs,rm,R,RX,hS,q,qx]:=h;exact#[F,ds,fh,rs,_,_,hS,λd v F' H' g hd rd=>q d v M F' H' g.toM hd rd (rm.grow g),λx fs C od F' H' g hR er=>qx x fs C od M F' H' g.toM hR er (rm.grow g)]
def AS{S:SpD}{Q:VK}{E:XK}(h:lSpM K (ofD S) vs H Q E):lSp K S vs H Q E:=by
 let#[F,ds,M,fh,rs,rm,R,RX,hS,q,qx]:=h;exact#[F,ds,fh,rs,_,hS,λd v F' H' g hd rd=>q d v M F' H' g.toM hd rd (rm.grow g)]
section
variable {P:U5}{w:U'}{K:Ex}{mg:Lq->Option Os}{base:Heap}{n:Nat}{x:Lq}{ps:List Lq}
def CalX.toM{S:SpX}(C:CalX P w K mg base n x ps S):CalMM P w K mg base n x ps (ofX S):=by
 let#[f,fd,F,hb,hk,hm]:=C;exact#[f,fd,F.imp λvs H Q E h=>AR h,hb,hk,hm]
def CalD.toM{S:SpD}(C:CalD P w K mg base n x ps S):CalMM P w K mg base n x ps (ofD S):=by
 let#[f,fd,F,hb,hk,hm]:=C;exact#[f,fd,F.imp λvs H Q E h=>AS h,hb,hk,hm]
def CalMth(P:U5)(w:U')(K:Ex)(mg:Lq->Option Os)(base:Heap)(n:Nat)(x m:Lq)(ps:List Lq)(sp:Sp):Prop:=
 ∃C f fd,nsIn K SL x=be (be (.ref C))/\Cls K C/\Meth K C m f/\FnOk P w K mg base (CX1 P w) n f fd ps sp/\Binds K fd ps []
variable{sp:Sp}
def Cal.mono{n':Nat}(h:Cal P w K mg base n x ps sp)(hn:n<=n'):Cal P w K mg base n' x ps sp:=by
 let#[f,fd,F,h]:=h;exact#[f,fd,F.mono hn,h]
def Cal.imp{LU:Sp}(h:Cal P w K mg base n x ps sp)(i:∀vs H Q E,LU vs H Q E->sp vs H Q E):Cal P w K mg base n x ps LU:=by
 let#[f,fd,F,h]:=h;exact#[f,fd,F.imp i,h]
def CalMth.imp{m:Lq}{LU:Sp}(h:CalMth P w K mg base n x m ps sp)(i:∀vs H Q E,LU vs H Q E->sp vs H Q E):CalMth P w K mg base n x m ps LU:=by
 let#[C,f,fd,h1,h2,h3,h4,h5]:=h;exact#[C,f,fd,h1,h2,h3,h4.imp i,h5]
end
def XOkM(X:Cx)[J:Jm]:Prop:=∀(σ:L2.St) (z:SD) (M:MS) (F H:Hp) (s:SB) (e C:Pi) (od:Option Pi) (x:Lq) (fs:List (Lq×D)),Inv X [] σ H s->Kept J.B J.F0 F H->RepZ X.K J.B F H z σ M->J.RM z M x fs->ErrD X.K F x fs C od->Exd X H s e C od->X.xe (.ref e) s
def EX(X:Cx)[J:Jm](z:SD)(σ:L2.St):XK:=λCv od H'=>∃x fs C M' F',Cv=.ref C/\Kept J.B J.F0 F' H'/\RepZ X.K J.B F' H' z σ M'/\J.RM z M' x fs/\ErrD X.K F' x fs C od
def XOkM.out{X:Cx}[J:Jm](hx:XOkM X)(f9:X.ex=[]){pins:List (Pi×Vk)}{σ:L2.St}{s s':SB}{ev:Os}(I:Inv X pins σ H s)
  (h:CX1 X.prog X.w X.stack H s (EX X z σ) ev s'):X.xe ev s':=by
 let#[e,C,od,T,H',rfl,Ls,hb,un,hok,Px,ne,nT,He,HT,x,fs,C',M',F',hC,kk,rr,hR,er]:=h;cases hC;have I':Inv X pins σ H' s':=I.call' Ls un hok hb (λb z=>absurd z Mn);exact hx σ z M' F' H' s' e C od x fs (Inv.nopins I') kk rr hR er #[He,ex_free I f9 ne,pn_free I ne,.inr #[T,.none,Px,ex_free I f9 nT,HT,pn_free I nT]]
section
variable {X:Cx}[J:Jm]{a b c e o:U7}{ta tb te:TME}{pos p b7 a8:Vf}{n m:Nat}{ps:List Lq}{S:SpM}{x:Lq}{es:List U7}{t:TMA}
def AT(S:SpM)(t:TMA):TME:=λz M R=>t z M λds M1=>S ds M1 R λx fs M'=>J.RM z M' x fs
variable{ds:List My.D}{vs:List V}
def iz{σ:L2.St}{z:SD}{M M1:MS}{F H F1 H1:Hp}{Q:VK}{R:D->MS->Prop}(k:Kept J.B J.F0 F H)(rs:RepZ X.K J.B F H z σ M)(g1:GrowM M M1 F H F1 H1)(m1:RepM X.K F1 H1 M1)(rx:Reps X.K F1 ds vs)
  (hS:S ds M1 R λx fs M'=>J.RM z M' x fs) (h2:∀d v M' F' H',GrowM M M' F H F' H'->R d M'->Rep X.K F' d v->RepM X.K F' H' M'->Q v H'):lSpM X.K S vs H1 Q (EX X z σ):=
 #[F1,ds,M1,g1.fh,rx,m1,R,_,hS,λd v M' F' H' g hd rd m'=>h2 d v M' F' H' (g1.trans g) hd rd m',λy fs C od M' F' H' g hR er m'=>#[y,fs,C,M',F',rfl,(k.growM rs.mb g1).growM (rs.growM k.bh g1 m1).mb g,(rs.growM k.bh g1 m1).growM (k.growM rs.mb g1).bh g m',hR,er]]
def aO(C:CalMM X.prog X.w X.K X.mg X.base n x ps S)(hx:XOkM X)(hr:Room m X.A)(ha:MA X (e::es) t)(f9:(X.ex=[])\zA0)(hg:Gl X x\zA0)(hn:(n<=m)\zA1)(d6:zND x\zA1)
  (he:zSE X e es\zA0) (c_:zPL X pos es\zA0):
  ME X (.Call (.Name x p) (e::es) [] pos) (AT S t):=by
 let#[f,fd,F,hb,hk,hm]:=C;refine#[λpins s σ H Q I h=>?_];let#[Fr,z,M,k,rs,R,h1,h2]:=h;refine Ve (ck I hg hm ?_ d6);refine callWith_K (h₀:=X.base) I.ok.mod.kin hk (thn (ha.out pos pins s σ H (λvs H1=>lSpM X.K S vs H1 Q (EX X z σ)) I #[Fr,z,M,k,rs,_,h1,λds vs M1 F1 H1 g1 hx rx m1=>iz k rs g1 m1 rx hx h2]) λus s1 hh=>#[hh.elim λ_ h=>h.elim λ_ h=>h.1.kIn,?_]) he c_;let#[vs,H1,I1,r,q]:=hh;exact ij F (hr.mono hn) hb (λe s' hq=>hx.out f9 I1 hq) I1 r q
def tw(cs:List Lq)(m:Lq)(S:Lq->SpM)(to:TME)(t:TMA):TME:=λz M R=>to z M λd M1=>∃x,x∈cs/\∃fs,dD M1 d x fs/\fs.lookup m=w6/\t z M1 λds M2=>S x (d::ds) M2 R λx fs M'=>J.RM z M' x fs
variable{cs:List Lq}{pl:WB Bool}
def aY{nm:Lq}{S:Lq->SpM}(C:∀x,x∈cs->CalMth X.prog X.w X.K X.mg X.base n x nm ps (lSpM X.K (S x)))(hx:XOkM X)(hr:Room m X.A)(ho:ME X o te)(ha:MA X (e::es) t)(f9:(X.ex=[])\zA0)(hn:(n<=m)\zA1)
  (p_:zSE X e es\zA0) (c_:zPL X pos es\zA0)
  (ht:Vc (.Call (.Attribute o nm b7) (e::es) [] pos) X.env=(do
   let ov <-Vc o X.env
   VO b7.atName
   let (f,first) <-Vv [ov] (V5 ov nm pl)
   WH pos f first (VC pos (U9 (e::es) X.env)) (V_ pos (VT [] X.env))):=by rfl):
  ME X (.Call (.Attribute o nm b7) (e::es) [] pos) (tw cs nm S te t):=by
 refine#[λpins s σ H Q I h=>?_];let#[Fr,z,M,k,rs,R,h1,h2]:=h;refine methodCall_KW (pl:=pl) (thn (ho.out pins s σ H (λv H1=>∃d M1 F1,GrowM M M1 Fr H F1 H1/\Rep X.K F1 d v/\RepM X.K F1 H1 M1/\∃x,x∈cs/\∃fs,dD M1 d x fs/\fs.lookup nm=w6/\t z M1 λds M2=>S x (d::ds) M2 R λx fs M'=>J.RM z M' x fs) I #[Fr,z,M,k,rs,_,h1,λd v M1 F1 H1 g1 hd rd m1=>#[d,M1,F1,g1,rd,m1,hd]]) λu s1 hh=>?_) ht;let#[v,H1,I1,rv,d,M1,F1,g1,rd,m1,x,PU,fs,hi,hl,hq]:=hh;let#[C',f,fd,hns,k8,LW,F,hb]:=C x PU;let#[a,C2,dx,ws,rfl,p6,hH,rf]:=iy g1.fh m1 rd hi;rw[hns]at p6;cases p6;obtain rfl:u=Value.ref a:=rv;refine jQ I1 hH k8 LW (rf.none hl) ?_;refine callWith_K (first:=[.ref a]) (h₀:=X.base) I.ok.mod.kin LW.kp (thn (ha.out pos pins s1 σ H1 (λvs H2=>lSpM X.K (S x) (.ref a::vs) H2 Q (EX X z σ)) I1 #[F1,z,M1,k.growM rs.mb g1,rs.growM k.bh g1 m1,_,hq,λds vs M2 F2 H2 g2 hx rx m2=>iz k rs (g1.trans g2) m2 (reps_cons.mpr #[_,_,rfl,rd.mono g2.ff,rx]) hx h2]) λus s2 hh=>#[hh.elim λ_ h=>h.elim λ_ h=>h.1.kIn,?_]) p_ c_;let#[vs,H2,I2,r,q2]:=hh;exact ij (us:=.ref a::us) (vs:=.ref a::vs) F (hr.mono hn) hb (λe s' hq=>hx.out f9 I2 hq) I2 (.cons rfl r) q2
def cr{nm:Lq}{S:Lq->SpM}(C:∀x,x∈cs->CalMth X.prog X.w X.K X.mg X.base n x nm ps (lSpM X.K (S x)))(hx:XOkM X)(hr:Room m X.A)(ho:ME X o te)(f9:(X.ex=[])\zA0)(hn:(n<=m)\zA1)
  (ht:Vc (.Call (.Attribute o nm b7) [] [] pos) X.env=(do
   let ov <-Vc o X.env
   VO b7.atName
   let (f,first) <-Vv [ov] (V5 ov nm pl)
   WH pos f first (VC pos (U9 [] X.env)) (V_ pos (VT [] X.env))):=by rfl):
  ME X (.Call (.Attribute o nm b7) [] [] pos) (tw cs nm S te mNil):=by
 refine#[λpins s σ H Q I h=>?_];let#[Fr,z,M,k,rs,R,h1,h2]:=h;refine methodCall_KW (pl:=pl) (thn (ho.out pins s σ H (λv H1=>∃d M1 F1,GrowM M M1 Fr H F1 H1/\Rep X.K F1 d v/\RepM X.K F1 H1 M1/\∃x,x∈cs/\∃fs,dD M1 d x fs/\fs.lookup nm=w6/\S x [d] M1 R λx fs M'=>J.RM z M' x fs) I #[Fr,z,M,k,rs,_,h1,λd v M1 F1 H1 g1 hd rd m1=>#[d,M1,F1,g1,rd,m1,hd]]) λu s1 hh=>?_) ht;let#[v,H1,I1,rv,d,M1,F1,g1,rd,m1,x,PU,fs,hi,hl,hq]:=hh;let#[C',f,fd,hns,k8,LW,F,hb]:=C x PU;let#[a,C2,dx,ws,rfl,p6,hH,rf]:=iy g1.fh m1 rd hi;rw[hns]at p6;cases p6;obtain rfl:u=Value.ref a:=rv;refine jQ I1 hH k8 LW (rf.none hl) ?_;refine callWith_K0 (first:=[.ref a]) I1.kIn LW.kp (ij (E:=EX X z σ) (us:=[.ref a]) (vs:=[.ref a]) F (hr.mono hn) hb (λe s' hq=>hx.out f9 I1 hq) I1 (.cons rfl .nil) ?_);exact iz k rs g1 m1 (fo rd) hq h2
def make_of{C:Pi}{S:SiD}{x:Lq}{σ:L2.St}{z:SD}{M M1:MS}{F H F1 H1:Hp}{a dx:Pi}{Q:VK}{E:XK}{T:List (Lq×D)->Prop}(g1:GrowM M M1 F H F1 H1)(m1:RepM X.K F1 H1 M1)(rx:Reps X.K F1 ds vs)(hS:S ds T)
  (ha:H1 a=w6) (s9:H1 dx=w6) (k_:dx≠a) (q:∀fs ws dx F' H',Grow F1 H1 F' H'->T fs->H' a=be (.ins C dx ws)->F' a=w6->RepF X.K F' fs ws->Q (.ref a) H'):
  lSi X.K C S (.ref a::(vs++[])) (upd (upd H1 dx (.own a)) a (.ins C dx [])) (λv H2=>v=.non/\Q (.ref a) H2) E:=
 #[a,dx,vs,H1,F1,ds,by rw[H9],rfl,ha,s9,k_,g1.fh,rx,_,hS,λfs ws LD F' H' g hR g7 l9 rf=>#[rfl,q fs ws LD F' H' g hR g7 l9 rf]]
def AU(x:Lq)(S:SiD)(t:TMA):TME:=λz M R=>t z M λds M1=>S ds λfs=>R (.obj x fs) M1
def iA{S:SiD}(M:CalM X.prog X.w X.K X.mg X.base n x ps S)(hr:Room m X.A)(ha:MA X (e::es) t)(hg:Gl X x\zA0)(hn:(n+1<=m)\zA1)(d6:zND x\zA1)
  (he:zSE X e es\zA0) (c_:zPL X pos es\zA0):
  ME X (.Call (.Name x p) (e::es) [] pos) (AU x S t):=by
 let#[C,f,fd,hns,l_,mk,F,hb]:=M;refine#[(jS mk F (hr.mono hn) hg l_ hb .nil fY ha.out d6 he c_).anti λs H Q q=>?_];let#[F,z,M,k,rs,R,h1,h2]:=q;refine#[F,z,M,k,rs,_,h1,λds vs M1 F1 H1 g1 hx rx m1=>?_];intro a dx ha s9 k_;refine make_of (σ:=s) (z:=z) (x:=x) g1 m1 rx hx ha s9 k_ λfs ws dx F' H' g hR g7 l9 rf=>?_;have s1:Same F' (upd F' a (.ins C dx ws)):=aR l9 _;have g2:Grow F1 H1 (upd F' a (.ins C dx ws)) H':=⟨g.ff.trans s1,λb o q=>by
  by_cases hb:b=a
  .subst hb;rw[aC]at q;cases q;exact g7
  .rw[ar hb]at q;exact g.fh b o q,g.hh,λb q1 q2=>by
  by_cases hb:b=a
  .subst hb;exact absurd ha q2
  .rw[ar hb];exact g.out b q1 q2⟩
 exact h2 (.obj x fs) (.ref a) M1 (upd F' a (.ins C dx ws)) H' (g1.trans g2.toM) hR (rep_obj.mpr #[a,C,dx,ws,rfl,hns,aC,RepF.mono s1 fs ws rf]) (m1.grow g2)
def AV(x:Lq)(S:SiD)(t:TMA):TME:=λz M R=>t z M λds M1=>S ds λfs=>∀a,a∉av M1->R (.ptr a) ((a,.ins x fs)::M1)
def AW{S:SiD}(M:CalM X.prog X.w X.K X.mg X.base n x ps S)(hr:Room m X.A)(ha:MA X (e::es) t)(hg:Gl X x\zA0)(hn:(n+1<=m)\zA1)(d6:zND x\zA1)
  (he:zSE X e es\zA0) (c_:zPL X pos es\zA0):
  ME X (.Call (.Name x p) (e::es) [] pos) (AV x S t):=by
 let#[C,f,fd,hns,l_,mk,F,hb]:=M;refine#[(jS mk F (hr.mono hn) hg l_ hb .nil fY ha.out d6 he c_).anti λs H Q q=>?_];let#[F,z,M,k,rs,R,h1,h2]:=q;refine#[F,z,M,k,rs,_,h1,λds vs M1 F1 H1 g1 hx rx m1=>?_];intro a dx ha s9 k_;refine make_of (σ:=s) (z:=z) (x:=x) g1 m1 rx hx ha s9 k_ λfs ws dx F' H' g hR g7 l9 rf=>?_;have na:a∉av M1:=λz=>m1.here z ha;have m2:=m1.grow g;refine h2 (.ptr a) (.ref a) _ F' H' (g1.trans #[g.ff,g.fh,λb o _ q=>g.hh b o q,λb _ q1 q2=>g.out b q1 q2,λb q=>?_]) (hR a na) (rep_ptr.mpr rfl) #[IA.mpr #[na,m2.nd],λb o q=>?_,λb q=>?_]
 .rcases Hx.mp q with q|q
  .exact .inr (by rw[q];exact ha)
  .exact .inl q
 .rcases Hx.mp q with q|q
  .cases q;exact#[C,dx,ws,hns,g7,rf]
  .exact m2.ok b o q
 .rcases Hx.mp q with q|q
  .rw[q];exact l9
  .exact m2.fr b q
end
section
variable {X:Cx}{x:Lq}{e:U7}{es:List U7}{t:TA}{p a8 pos:Vf}{n m:Nat}{ps:List Lq}{S:SiD}
def Leave(X:Cx)(σ:L2.St)(F1 H1:Hp)(x:Lq)(fs:List (Lq×D)):Prop:=∀F' H' s' e C od,Inv X [] σ H' s'->Grow F1 H1 F' H'->ErrD X.K F' x fs C od->Exd X H' s' e C od->X.xe (.ref e) s'
def AX(M:CalE X.prog X.w X.K X.mg X.base n x ps S)(hr:Room m X.A)(hc:X.calm=true)(ha:PA X (e::es) t)(f9:(X.ex=[])\zA0)(hg:Gl X x\zA0)(hn:(n+1<=m)\zA1)(d6:zND x\zA1)
  (he:zSE X e es\zA0) (c_:zPL X a8 es\zA0):
  PS X (.Raise (be (.Call (.Name x p) (e::es) [] a8)) w6 pos) (λ_ σ H=>t σ H λvs H1=>vs.length<=1000/\∃F1 ds,Same F1 H1/\Reps X.K F1 ds vs/\∃T:List (Lq×D)->Prop,S ds T/\∀fs,T fs->Leave X σ F1 H1 x fs):=by
 let#[C,N,bm,f,fd,k,hi,Ni,Fn,hb]:=M;intro pins s σ H D I h;let#[nm,q,bs,sn,sub,ab,col,dd,k0,k1,k2,k3,k5,lk]:=k.obj;refine jY (nm:=nm) (q:=q) (C:=C) (N:=N) (bs:=bs) (bm:=bm) (hdct:=true) (sn:=sn) (sub:=sub) (ab:=ab) (col:=col) (dd:=dd) (k0:=k0) (k1:=k1) (k2:=k2) (k3:=k3) (k5:=k5) (newId:="ValueError.__new__") k.base (I.ok.hd hc) ?_;refine Ve (ck I hg k.mg ?_ d6);refine callWith_K (h₀:=X.base) I.ok.mod.kin k.kp (thn (ha a8 pins s σ H _ I h) λus s1 hh=>#[hh.elim λ_ h=>h.elim λ_ h=>h.1.kIn,?_]) he c_;let#[vs,H1,I1,r,hl,F1,ds,PV,rx,T,hS,hT]:=hh;have hC:=I1.kIn _ _ lk;have Tv:us.length<=sizeLine:=by rw[<-L2.Vals.length r];exact sz hl
 refine zm (g:=s1.gens) (d:=s1.drawn) (t:=s1.toks) (os:=s1.os) (rest:=us) I1.kIn (tail_of_in I1.kIn k.tail) hC hi (beq_iff_eq.mp Ni) (λh' ea hm=>?_) Tv;have I2:=Inv.newx I1 f9 hm;have r2:Vals (V.ref ea::vs) (Value.ref ea::us):=.cons rfl r;have He:H1 ea=none:=gy I1.hok hm.new;have z8:lEi X.K C S (V.ref ea::vs) (upd H1 ea (XN ea C w6)) (λv H'=>v=.non/\∃fs od F',Grow F1 H1 F' H'/\Leave X σ F1 H1 x fs/\H' ea=be (XN ea C od)/\F' ea=w6/\ErrF X.K F' fs od) (λ_ _ _=>False):=
  #[ea,vs,H1,F1,ds,rfl,rfl,He,PV,rx,_,hS,λfs od F' H' g hR h1 h2 h3=>#[rfl,fs,od,F',g,hT fs hR,h1,h2,h3]]
 have b9:(Value.ref ea::us).length=ps.length:=by rw[<-L2.Vals.length r2];exact Fn.len _ _ _ _ z8
 have g6:=hb {s1 with heap:=h'} (Value.ref ea::us) I2.kIn (by rw[H9];exact b9);rw[H9]at g6;refine Vs (Vx (Fn.run _ X.stack _ _ #[Value.ref ea::us,[]] (Value.ref ea::us) _ _ _ ((hr.mono hn).make C us []) (I2.env0.make C us []) g6 r2 z8) λrr s' hq=>?_);cases rr with
 |error e'=>exact(fY (X:=X) pins σ _ _ e' s' I2 hq:X.xe e' s')
 |ok fl=>
  cases fl with
  |next=>exact False.elim hq
  |brk=>exact False.elim hq
  |cont=>exact False.elim hq
  |ret u=>
   let#[v,H',I3,rv,rfl,fs,od,F',g,hR,A_,Tw,er]:=I2.after hq;obtain rfl:u=Value.none:=rv;refine#[rfl,?_];have e0:X.s₀.heap.get? ea=none:=ex_free I1 f9 hm.new;have I4:=Inv.drop I3 A_ e0;let#[ta,sl,j9]:=XN.get I3.hok A_;have g4:Grow F1 H1 F' (del H' ea):=⟨g.ff,λb o q=>by
    have:b≠ea:=λz=>by rw[z,Tw]at q;cases q
    rw[cq this];exact g.fh b o q,λb o q=>by
    have:b≠ea:=λz=>by rw[z,He]at q;cases q
    rw[cq this];exact g.hh b o q,g.out⟩
   refine#[ea,ta,od,sl,rfl,I3.kIn _ _ lk,j9,?_];exact hR F' (del H' ea) s' ea C od (Inv.nopins I4) g4 #[k.ns,er] #[gz,e0,pn_free I1 hm.new,.inl #[sl,_,j9,rfl]]
def AY(h:∃C N bm,ErrK X.K X.mg x C N bm/\ErrN X.K N)(hc:X.calm=true)(ha:PA X (e::es) t)(f9:(X.ex=[])\zA0)(hg:Gl X x\zA0)(d6:zND x\zA1)
  (he:zSE X e es\zA0) (c_:zPL X a8 es\zA0):
  PS X (.Raise (be (.Call (.Name x p) (e::es) [] a8)) w6 pos) (λ_ σ H=>t σ H λvs H1=>vs.length<=1000/\∃F1,Same F1 H1/\Leave X σ F1 H1 x []):=by
 let#[C,N,bm,k,kn]:=h;intro pins s σ H D I h;let#[nm,q,bs,sn,sub,ab,col,dd,k0,k1,k2,k3,k5,lk]:=k.obj;refine jY (nm:=nm) (q:=q) (C:=C) (N:=N) (bs:=bs) (bm:=bm) (hdct:=true) (sn:=sn) (sub:=sub) (ab:=ab) (col:=col) (dd:=dd) (k0:=k0) (k1:=k1) (k2:=k2) (k3:=k3) (k5:=k5) (newId:="ValueError.__new__") k.base (I.ok.hd hc) ?_;refine Ve (ck I hg k.mg ?_ d6);refine callWith_K (h₀:=X.base) I.ok.mod.kin k.kp (thn (ha a8 pins s σ H _ I h) λus s1 hh=>#[hh.elim λ_ h=>h.elim λ_ h=>h.1.kIn,?_]) he c_;let#[vs,H1,I1,r,hl,F1,PV,hR]:=hh;have hC:=I1.kIn _ _ lk;let#[hp,gg,dr,tk,os]:=s1;refine WL PySem.F.excBase_ValueError (tail_of_in I1.kIn k.tail) hC (.of_isNs (isNs_of_in I1.kIn kn.ok)) (nsMap_none_of_in I1.kIn kn.ok kn.no) (λh' ea hm=>?_) (by show us.length<=_;rw[<-L2.Vals.length r];exact sz hl);let#[ta,h1,h2,h3]:=hm.there;have I2:Inv X pins σ H1 #[h',gg,dr,tk,os]:=I1.kept (t':=tk) hm.keeps;refine#[ea,ta,w6,[].toArray,rfl,hm.keeps _ _ hC,h1,?_];exact hR F1 H1 _ ea C w6 (Inv.nopins I2) (Grow.refl PV) #[k.ns,[],repf_nil.mpr rfl,.inl #[rfl,rfl]] #[gy I1.hok hm.new,ex_free I1 f9 hm.new,pn_free I1 hm.new,.inl #[[].toArray,_,h1,rfl]]
end
section
variable {X:Cx}[J:Jm]{x:Lq}{e:U7}{es:List U7}{t:TMA}{p a8 pos:Vf}{n m:Nat}{ps:List Lq}{S:SiD}
def AZ(x:Lq)(S:SiD)(t:TMA):TMS:=λ_ z M=>t z M λds M1=>ds.length<=1000/\S ds λfs=>J.RM z M1 x fs
def tz{σ:L2.St}{z:SD}{M M1:MS}{F H F1 H1:Hp}{fs:List (Lq×D)}(hx:XOkM X)(k:Kept J.B J.F0 F H)(rs:RepZ X.K J.B F H z σ M)(g1:GrowM M M1 F H F1 H1)(m1:RepM X.K F1 H1 M1)(hR:J.RM z M1 x fs):Leave X σ F1 H1 x fs:=λF' H' s' e C od I g er ex=>
 hx σ z M1 F' H' s' e C od x fs I ((k.growM rs.mb g1).grow g) ((rs.growM k.bh g1 m1).growM (k.growM rs.mb g1).bh g.toM (m1.grow g)) hR er ex
def kL(M:CalE X.prog X.w X.K X.mg X.base n x ps S)(hr:Room m X.A)(hx:XOkM X)(hc:X.calm=true)(ha:MA X (e::es) t)(f9:(X.ex=[])\zA0)(hg:Gl X x\zA0)(hn:(n+1<=m)\zA1)(d6:zND x\zA1)
  (he:zSE X e es\zA0) (c_:zPL X a8 es\zA0):
  MSt X (.Raise (be (.Call (.Name x p) (e::es) [] a8)) w6 pos) (AZ x S t):=⟨(AX M hr hc ha.out f9 hg hn d6 he c_).anti λE s H q=>by
 let#[F0,F,z,M,k,rs,ED,h,ee]:=q;exact#[F,z,M,k.kf,rs,_,h,λds vs M1 F1 H1 g1 i8 rx m1=>#[by rw[rx.length];exact i8.1,F1,ds,g1.fh,rx,_,i8.2,λfs hR=>tz hx k.kf rs g1 m1 hR]]⟩
def A1(x:Lq)(t:TMA):TMS:=λ_ z M=>t z M λds M1=>ds.length<=1000/\J.RM z M1 x []
def tD(h:∃C N bm,ErrK X.K X.mg x C N bm/\ErrN X.K N)(hx:XOkM X)(hc:X.calm=true)(ha:MA X (e::es) t)(f9:(X.ex=[])\zA0)(hg:Gl X x\zA0)(d6:zND x\zA1)
  (he:zSE X e es\zA0) (c_:zPL X a8 es\zA0):
  MSt X (.Raise (be (.Call (.Name x p) (e::es) [] a8)) w6 pos) (A1 x t):=⟨(AY h hc ha.out f9 hg d6 he c_).anti λE s H q=>by
 let#[F0,F,z,M,k,rs,ED,h,ee]:=q;exact#[F,z,M,k.kf,rs,_,h,λds vs M1 F1 H1 g1 i8 rx m1=>#[by rw[rx.length];exact i8.1,F1,g1.fh,tz hx k.kf rs g1 m1 i8.2]]⟩
end
section
variable {X:Cx}[J:Jm]{a b c e:U7}{ta tb tc te:TME}{pos:Vf}{st:U6}{rest:List U6}{t u:TMS}
def A2:TMS:=λE z M=>E.nx z M
def mSeq(t u:TMS):TMS:=λE z M=>t {E with nx:=u E} z M
def bo:MSs X [] A2:=⟨pss_nil.anti λE s H q=>by
 let#[F0,F,z,M,k,rs,ED,h,e]:=q;exact e.nx z s M F H k h rs⟩
def au(h1:MSt X st t)(h2:MSs X rest u):MSs X (st::rest) (mSeq t u):=⟨(fT h1.out h2.out).anti λE s H q=>by
 let#[F0,F,z,M,k,rs,ED,h,e]:=q;exact#[F0,F,z,M,k,rs,{ED with nx:=u ED},h,#[λz' s' M' F' H' k' hz r'=>#[F0,F',z',M',k',r',ED,hz,e],e.rt,e.bk,e.ct]]⟩
def ax(h1:MSt X st t):MSs X [st] t:=#[qh h1.out]
def mRet(te:TME):TMS:=λE z M=>te z M E.rt
def aH(he:ME X e te):MSt X (.Return (be e) pos) (mRet te):=⟨(qi he.out).anti λE s H q=>by
 let#[F0,F,z,M,k,rs,ED,h,e]:=q;exact#[F,z,M,k.kf,rs,_,h,λd v M' F' H' g hd rd m'=>e.rt d v M' F' H' (k.growM rs.mb g) hd rd m' (rs.growM k.bh g m').mb]⟩
def A3(te:TME):TMS:=λE z M=>te z M λ_ M1=>E.nx z M1
def bP(he:ME X e te)(hs:(Vn e w6 pos.line X.env=pure false)\zA0):MSt X (.Expr e pos) (A3 te):=⟨(jC he.out hs).anti λE s H q=>by
 let#[F0,F,z,M,k,rs,ED,h,e]:=q;exact#[F,z,M,k.kf,rs,_,h,λd v M' F' H' g hd rd m'=>e.nx z s M' F' H' (k.growM rs.mb g) hd (rs.growM k.bh g m')]⟩
def mIfS(c:TMT)(t u:TMS):TMS:=λE z M=>c z M λb M1=>if b=true then t E z M1 else u E z M1
variable{l r:List U6}
def bu{c:U7}{tc:TMT}(hc:MT X c tc)(ha:MSs X l t)(hb:MSs X r u):MSt X (.If c l r pos) (mIfS tc t u):=⟨(qj hc.out ha.out hb.out).anti λE s H q=>by
 let#[F0,F,z,M,k,rs,ED,h,e]:=q;refine#[F,z,M,k.kf,rs,_,h,λb M1 F1 H1 g hk m1=>?_];cases b with
 |true=>exact#[F0,F1,z,M1,k.growM rs.mb g,rs.growM k.bh g m1,ED,hk,e]
 |false=>exact#[F0,F1,z,M1,k.growM rs.mb g,rs.growM k.bh g m1,ED,hk,e]⟩
def mIfJ(c:TMT)(t u:TMS):TMS:=λE z M=>∃J:SD->MS->Prop,(c z M λb M1=>if b=true then t {E with nx:=J} z M1 else u {E with nx:=J} z M1)/\∀z' M',J z' M'->E.nx z' M'
def gB{c:U7}{tc:TMT}(hc:MT X c tc)(ha:MSs X l t)(hb:MSs X r u):MSt X (.If c l r pos) (mIfJ tc t u):=⟨(bu hc ha hb).out.anti λE s H q=>by
 let#[F0,F,z,M,k,rs,ED,#[J,h,j],e]:=q;exact#[F0,F,z,M,k,rs,{ED with nx:=J},h,#[λz' s' M' F' H' k' hz r'=>e.nx z' s' M' F' H' k' (j z' M' hz) r',e.rt,e.bk,e.ct]]⟩
def mSet(i:Nat)(te:TME):TMS:=λE z M=>∃P:D->MS->Prop,te z M P/\∀d M',P d M'->E.nx (z.set i (be d)) M'
def aM(i:Nat){x:Lq}{d7:Vf}(hN:X.N.Nodup)(he:ME X e te)(hi:(X.N[i]?=be x)\zA0)(hx:Loc X.env.scope x\zA4)(hs:(Vn e (be (.Name x d7)) pos.line X.env=pure false)\zA0)
  (hf:zFN X x\zA2):MSt X (.Assign [.Name x d7] e pos) (mSet i te):=⟨(jE hN hi hx he.out hs hf).anti λE s H q=>by
 let#[F0,F,z,M,k,rs,ED,#[P,h,j],e]:=q;exact#[F,z,M,k.kf,rs,P,h,λd v M' F' H' g hd rd m'=>e.nx _ _ M' F' H' (k.growM rs.mb g) (j d M' hd) ((rs.growM k.bh g m').set rd)]⟩
def A4(x f:Lq)(to te:TME):TMS:=λE z M=>te z M λd M1=>to z M1 λo M2=>match o with|.ptr a=>∃fs,mget M2 a=be (.ins x fs)/\fs.length<1000/\E.nx z (mput M2 a (.ins x (putD f d fs)))|_=>False
def cu{x f:Lq}{o:U7}{to:TME}{d7:Vf}(hA:ClsA X.K x f)(ho:ME X o to)(he:ME X e te)(hs:(Vn e (be (.Attribute o f d7)) pos.line X.env=pure false)\zA0):
  MSt X (.Assign [.Attribute o f d7] e pos) (A4 x f to te):=⟨(qG ho.out he.out hs).anti λE s H q=>by
 let#[C,hn,hc,hf]:=hA;let#[F0,F,z,M,k,rs,ED,h,ee]:=q;refine#[F,z,M,k.kf,rs,_,h,λd v M1 F1 H1 g1 hx rd m1=>?_];have k1:=k.growM rs.mb g1;have w_:=rs.growM k.bh g1 m1;refine#[F1,z,M1,k1.kf,w_,_,hx,λo' v' M2 F2 H2 g2 hy ro m2=>?_];have k2:=k1.growM w_.mb g2;have MN:=w_.growM k1.bh g2 m2;split at hy
 .rename_i a;let#[fs,hm,hl,ND]:=hy;let#[C',dx,ws,i_,hH,rf]:=m2.ok _ _ (bD hm);rw[hn]at i_;cases i_;have fa:=m2.fr a (bV (bD hm));refine#[a,C,dx,ws,rep_ptr.mp ro,hH,hc,hf,by rw[rf.length];exact hl,?_];have m3:RepM X.K F2 (upd H2 a (.ins C dx (putF f v ws))) (mput M2 a (.ins x (putD f d fs))):=m2.put hm #[C,dx,_,hn,aC,RepF.put (rd.mono g2.ff) rf];have g3:GrowM M2 (mput M2 a (.ins x (putD f d fs))) F2 H2 F2 (upd H2 a (.ins C dx (putF f v ws))):=GrowM.put k2.fh fa hm;exact ee.nx z s _ F2 _ (k2.growM MN.mb g3) ND (MN.growM k2.bh g3 m3)
 .exact hy.elim⟩
def A5(c:TMT)(tb:TMS):TMS:=λE z M=>∃W:Nat->SD->MS->Prop,(∃m,W m z M)/\∀m z M,W m z M->
 c z M λb M1=>if b=true then tb {E with nx:=λz' M'=>∃m',m'<m/\W m' z' M',ct:=λz' M'=>∃m',m'<m/\W m' z' M',bk:=E.nx} z M1 else E.nx z M1
def A6{c:U7}{body:List U6}{tc:TMT}{tb:TMS}(hp:Vp (U4 X.prog X.w) X.A X.env X.xe)(hc:MT X c tc)(hb:MSs X body tb):MSt X (.While c body [] pos) (A5 tc tb):=⟨(qk hp hc.out hb.out).anti λE s H q=>by
 let#[F0,F,z,M,k,rs,ED,#[W,#[m0,w0],d5],e]:=q;refine#[λm s' H'=>∃F' z' M',Kept J.B F0 F' H'/\RepZ X.K J.B F' H' z' s' M'/\W m z' M',#[m0,F,z,M,k,rs,w0],?_];intro m s1 H1#[F1,z1,M1,k1,r1,w1];refine#[F1,z1,M1,k1.kf,r1,_,d5 m z1 M1 w1,λb M2 F2 H2 g2 hk m2=>?_];cases b with
 |true=>
  refine#[λs3 H3=>∃F3 z3 M3,Kept J.B F0 F3 H3/\RepZ X.K J.B F3 H3 z3 s3 M3/\∃m',m'<m/\W m' z3 M3,λs3 H3 ⟨F3,z3,M3,k3,r3,m',l,w3⟩=>#[m',l,F3,z3,M3,k3,r3,w3],?_];exact#[F0,F2,z1,M2,k1.growM r1.mb g2,r1.growM k1.bh g2 m2,_,hk,#[λz3 s3 M3 F3 H3 k3 h3 r3=>#[F3,z3,M3,k3,r3,h3],e.rt,e.nx,λz3 s3 M3 F3 H3 k3 h3 r3=>#[F3,z3,M3,k3,r3,h3]]]
 |false=>exact e.nx z1 s1 M2 F2 H2 (k1.growM r1.mb g2) hk (r1.growM k1.bh g2 m2)⟩
end
end My
end
section
namespace L2
open PySem PySem.Spec PyProof.Rows
section
variable {κ:Type}[DecidableEq κ]
def valV(a_:List (κ×V))(k:κ):Option V:=(a_.find? λkv=>decide (kv.1=k)).map (·.2)
def kM{p:κ×V}{r:List (κ×V)}{k:κ}(e:p.1=k):valV (p::r) k=be p.2:=by simp[valV,IW,e]
def kN{p:κ×V}{r:List (κ×V)}{k:κ}(e:¬p.1=k):valV (p::r) k=valV r k:=by simp[valV,IW,e]
def RelO.getD{o:Option V}{u:Option Os}{d:V}{d':Os}(r:RelO o u)(rd:RelV d d'):RelV (o.getD d) (u.getD d'):=by
 cases o with
 |none=>cases u with
  |none=>exact rd
  |some _=>exact(show False from r).elim
 |some _=>cases u with
  |none=>exact(show False from r).elim
  |some _=>exact r
def KV.val{a_:List (κ×V)}{vs:List (κ×Os)}(r:KV a_ vs)(k:κ):RelO (valV a_ k) (Wg vs k):=by
 unfold KV at r;induction r with
 |nil=>exact True.intro
 |@cons p q ps qs h t ih=>
  let#[h1,h2]:=h;by_cases e:p.1=k
  .have e':q.1=k:=h1.symm.trans e;have b:Wg (q::qs) k=be q.2:=by simp[Wg,IW,e']
   rw[kM e,b];exact h2
  .have e':¬q.1=k:=λz=>e (h1.trans z);have b:Wg (q::qs) k=Wg qs k:=by simp[Wg,IW,e']
   rw[kN e,b];exact ih
end
def tE{P:U5}{w:U'}{k:Key}{u:Os}(r:RelV (kV k) u):(bM P w).is k u=true:=by
 cases k with
 |inl i=>let#[t,e]:=(show ∃t,u=Value.int i t from r);subst e;exact mixKind_int P w i t
 |inr x=>let#[t,e]:=(show ∃t,u=Value.str x t from r);subst e;exact xo P w x t
def tF{P:U5}{w:U'}:∀{ks:List Key} {us:List Os},Vals (ks.map kV) us->ItemsAre (bM P w) ks us
 |[],_,r=>by rw[IT]at r;cases r;exact .nil
 |k::ks,_,r=>by
  rw[HR]at r;cases r with
  |cons h t=>exact .cons (tE h) (tF t)
abbrev KT(H:Hp):List (List Key×V)->List (List Key×Pi×Os)->Prop:=Paired λp q=>p.1=q.1/\H q.2.1=be (.tup (p.1.map kV))/\RelV p.2 q.2.2
variable{H:Hp}{a_:List (List Key×V)}{xs:List (List Key×Pi×Os)}
def KT.val(r:KT H a_ xs)(k:List Key):RelO (valV a_ k) ((We xs k).map (·.2)):=by
 induction r with
 |nil=>exact True.intro
 |@cons p q ps qs h t ih=>
  let#[h1,_,h2]:=h;by_cases e:p.1=k
  .have e':q.1=k:=h1.symm.trans e;have b:We (q::qs) k=be q.2:=by simp[We,IW,e']
   rw[kM e,b];exact h2
  .have e':¬q.1=k:=λz=>e (h1.trans z);have b:We (q::qs) k=We qs k:=by simp[We,IW,e']
   rw[kN e,b];exact ih
def KT.keeps{H':Hp}(r:KT H a_ xs)(ht:∀b ys,H b=be (.tup ys)->H' b=be (.tup ys)):KT H' a_ xs:=
 Paired.mapP r λ_ _ z=>#[z.1,ht _ _ z.2.1,z.2.2]
section
variable {P:U5}{w:U'}{H:Hp}{h:Heap}{a:Pi}
def tG{u:HO}(ok:HOk P w H h)(e:Rd H a u):ObjOk P w H h a u:=e.ok ok
def A7{a_:List (Key×V)}(ok:HOk P w H h)(e:Rd H a (.dK a_)):a_.length<=sizeLine/\(a==Vw)=false/\∃vs,KV a_ vs/\h.DictOf (bM P w) a vs:=
 show ObjOk P w H h a (.dK a_)from tG ok e
def key_of{ks:List Key}(ok:HOk P w H h)(e:H a=be (.tup (ks.map kV))):(VV (bM P w)).is h ks a:=by
 let#[_,its,r,o,h1,h2,n,h3]:=(show ObjOk P w H h a (.tup (ks.map kV))from ok a _ e);exact#[o,its.toArray,n,h1,h2,h3,by simpa using tF r]
variable{a_:List (List Key×V)}
def tH(ok:HOk P w H h)(e:Rd H a (.dT a_)):a_.length<=sizeLine/\(a==Vw)=false/\
  ∃xs,KT H a_ xs/\h.DictOfH (VV (bM P w)) a xs:=by
 let#[z,y,xs,r,o,es,ep,h1,h2,h3,h4,h5]:=(show ObjOk P w H h a (.dT a_)from tG ok e);refine#[z,y,xs,r,o,es,ep,h1,h2,h3,h4,λx hx=>?_,h5];have all:∀{l:List (List Key×V)} {m:List (List Key×Pi×Os)},KT H l m->∀x∈m,(VV (bM P w)).is h x.1 x.2.1:=by
  intro l m q;induction q with
  |nil=>intro x hx;exact nomatch hx
  |@cons p q ps qs hq t ih=>
   intro x hx;rcases Hx.mp hx with e|hx
   .subst e;exact key_of ok (by rw[<-hq.1];exact hq.2.1)
   .exact ih x hx
 exact all r x hx
def A8(ok:HOk P w H h)(e:H a=be (.dT a_)):a_.length<=sizeLine/\(a==Vw)=false/\
  ∃xs,KT H a_ xs/\h.DictOfH (VV (bM P w)) a xs:=tH ok (.inl e)
end
def DGet(H:Hp)(a:Pi)(y:V)(r:Option V):Prop:=
 (∃a_ k,Rd H a (.dK a_)/\y=kV k/\r=valV a_ k)\/∃a_ k b,Rd H a (.dT a_)/\y=.ref b/\H b=be (.tup (k.map kV))/\r=valV a_ k
def DGet.t{a b:Pi}{k:List Key}(e:H a=be (.dT a_))(eb:H b=be (.tup (k.map kV))):DGet H a (.ref b) (valV a_ k):=.inr #[a_,k,b,.inl e,rfl,eb,rfl]
section
variable {X:Cx}{pins:List (Pi×Vk)}{σ:St}{H:Hp}{s:SB}{a:Pi}{y v:V}{u r:Os}{o:Option V}{A:U_}{E:Os->SB->Prop}
def Inv.big(I:Inv X pins σ H s):Vw<s.heap.objs.size:=by
 have h:SL<s.heap.objs.size:=(I.mod.glob.keeps I.bk).lt;exact Kv Mh h
def A9{h':Heap}{t':Nat}{ob:HO}(I:Inv X pins σ H s)(mu:Mut (H a))(hs:Heap.SameBut a s.heap h')(he:∃q,h'.get? a=be q)(new:ObjOk X.prog X.w (upd H a ob) h' a ob):
  Inv X pins σ (upd H a ob) {s with heap:=h',toks:=t'}:=
 I.write (x:=a) (e:=a) mu (.inl rfl) (λb q hb z=>(hs.2 b hb).trans z) he new
end
def Ba{P:U5}{w:U'}(h:Heap)(hb:Vw<h.objs.size):ObjOk P w H (h.push {cls:=.type "dict",data:=.dict [].toArray}) h.objs.size (.dT []):=
 #[HS _,beq_eq_false_iff_ne.mpr (Ne.symm (HD hb)),[],.nil,_,[].toArray,0,Heap.get?_push_size _ rfl,#[rfl,rfl,rfl],rfl,rfl,KB]
def Bb:TE:=λ_ H Q=>∀p,H p=w6->Q (.ref p) (upd H p (.dT []))
section
variable {X:Cx}{pos:Vf}
def pe_dnewT:PE X (.Dict [] [] pos) Bb:=λpins s σ H Q I h=>
 wpAny_Dict_empty #[.ref s.heap.objs.size,_,I.laid (a:=s.heap.objs.size) (o:=.dT []) (t':=s.toks) (λ_ _ q=>Heap.get?_push_of_some _ q) (Hw _) (Ba s.heap I.big),rfl,h _ (I.hok.fresh (Hw _))]
end
section
variable {X:Cx}{pins:List (Pi×Vk)}{σ:St}{H:Hp}{s:SB}{a:Pi}{y d:V}{u r:Os}{o:Option V}{A:U_}{E:Os->SB->Prop}
def Bc{Q:Os->SB->Prop}(hu:A.units+1<Wd)(I:Inv X pins σ H s)(g:DGet H a y o)(ry:RelV y u)(rd:RelV d r)(h:∀w' s',Inv X pins σ H s'->RelV (o.getD d) w'->Q w' s'):
  U8 (U4 X.prog X.w) A (call (.builtin "dict.get") [.ref a,u,r]) Q E s:=by
 rcases g with⟨a_,k,e,ey,l⟩|⟨a_,k,b,e,ey,eb,l⟩
 .subst ey;let#[z,hd,vs,Lj,dd]:=A7 I.hok e;refine WA PySem.F.slot_dict_get dd.typeIs PySem.F.entry_dict_get (PySem.F.args_dict_get_3 _ _ _) (meets_dict_get_default (bM X.prog X.w) a (tE ry) hd r) #[_,dd.mapOf,h _ _ (I.tok _) ?_];rw[l];exact(Lj.val k).getD rd
 .subst ey;cases(show u=Value.ref b from ry);let#[z,hd,xs,Lj,dd]:=tH I.hok e;refine WA PySem.F.slot_dict_get dd.typeIs PySem.F.entry_dict_get (PySem.F.args_dict_get_3 _ _ _) (meetsH_dict_get_default (VV (bM X.prog X.w)) a b hd r) #[WR hu,k,xs,key_of I.hok eb,dd,h _ _ (I.tok _) ?_];rw[l];exact(Lj.val k).getD rd
end
end L2
end
section
open PySem PySem.Spec PyProof.Rows L2
namespace My
open Exc
section
variable {X:Cx}[J:Jm]{a b c e o:U7}{ta tb tc te to:TME}{pos:Vf}{st:U6}{rest:List U6}{t u:TMS}
abbrev TMI:=SD->MS->(List D->MS->Prop)->Prop
def mItR(t:TME):TMI:=λz M R=>t z M λx M1=>match x with|.int n=>(0<=n/\n<2^62)/\R ((HC n.toNat).map λk=>D.int ((k:Nat):Int)) M1|_=>False
def mFor(i:Nat)(ti:TMI)(tb:TMS):TMS:=λE z M=>ti z M λds M1=>∃W:Nat->SD->MS->Prop,W 0 z M1/\(∀k x z M,ds[k]?=be x->W k z M->tb {E with nx:=W (k+1),ct:=W (k+1),bk:=E.nx} (z.set i (be x)) M)/\∀z M,W ds.length z M->E.nx z M
def Bd(i:Nat){x:Lq}{p p1 p2:Vf}{body:List U6}{tb:TMS}(hp:Vp (U4 X.prog X.w) X.A X.env X.xe)(hc:X.calm=true)(hN:X.N.Nodup)(hm:X.mg "range"=w6)(he:ME X e te)(hb:MSs X body tb)(hg:Gl X "range"\zA0)(hi:(X.N[i]?=be x)\zA0)(hx:Loc X.env.scope x\zA4)
  (hf:zFN X x\zA2) (hs:(∀y,zFS X (.Call (.Name "range" p1) [e] [] p2) y)\zA3) (v3:zSE X e []\zA0) (i9:(U9 [e] X.env=[(false,Vc e X.env)])\zA0):
  MSt X (.For (.Name x p) (.Call (.Name "range" p1) [e] [] p2) body [] pos) (mFor i (mItR te) tb):=⟨(cM hp hc (jH hg hm (bt he.out pa_nil v3) i9) (dR hN hi hx hf) hb.out hs).anti λE s H q=>by
 let#[F0,F,z,M,kp,rs,ED,h,e]:=q;refine#[F,z,M,kp.kf,rs,_,h,λd v M1 F1 H1 g1 hd rd m1=>?_];split at hd
 .rename_i n;let#[#[b1,b2],W,w0,d5,out]:=hd;have hl:((HC n.toNat).map λk=>D.int ((k:Nat):Int)).length=n.toNat:=by simp
  refine#[n,by rw[rep_int.mp rd],Md,b2,jJ (lo:=0) (n:=n.toNat) (λk s' H'=>∃F' z' M',Kept J.B F0 F' H'/\RepZ X.K J.B F' H' z' s' M'/\W k z' M') #[F1,z,M1,kp.growM rs.mb g1,rs.growM kp.bh g1 m1,w0] ?_ ?_]
  .rintro k s' H' hk⟨F',z',M',k',r',w'⟩;have e1:(0:Int)+(k:Int)=(k:Int):=by lia
   exact#[F0,F',_,M',k',r'.set (d:=.int (k:Int)) (rep_int.mpr (by rw[e1])),_,d5 k (.int (k:Int)) z' M' (by simp[hk]) w',#[λz3 s3 M3 F3 H3 k3 h3 r3=>#[F3,z3,M3,k3,r3,h3],e.rt,e.nx,λz3 s3 M3 F3 H3 k3 h3 r3=>#[F3,z3,M3,k3,r3,h3]]]
  .rintro s' H'⟨F',z',M',k',r',w'⟩;exact e.nx z' s' M' F' H' k' (out z' M' (by rw[hl];exact w')) r'
 .exact hd.elim⟩
def Be(te:TME):TME:=λz M R=>te z M λd M1=>match d with|.ptr a=>∃ds,mget M1 a=be (.lst ds)/\R (.int ds.length) M1|_=>False
def tI{p:Vf}(hm:X.mg "len"=w6)(ha:ME X e te)(hg:Gl X "len"\zA0)(he:zSE X e []\zA0):ME X (.Call (.Name "len" p) [e] [] pos) (Be te):=⟨(eX jN hg hm PySem.boot_len (bt ha.out pa_nil he) Mh Mh he).anti λs H Q h=>by
 let#[F,z,M,k,rs,R,h1,h2]:=h;refine#[F,z,M,k,rs,_,h1,λd v M1 F1 H1 g1 hx rx m1=>?_];split at hx
 .rename_i a;let#[ds,hm,hR]:=hx;let#[vs,hH,rr]:=m1.ok _ _ (bD hm);exact#[.ref a,vs.length,by rw[rep_ptr.mp rx],.inl #[vs,SqL.of hH,rfl],h2 _ _ M1 F1 H1 g1 hR (rep_int.mpr (by rw[rr.length])) m1]
 .exact hx.elim⟩
def mIxP(ta tb:TME):TME:=λz M R=>ta z M λx M1=>tb z M1 λy M2=>kdP x λa=>kdI y λi=>∃ds,mget M2 a=be (.lst ds)/\∃d,atI ds i=be d/\R d M2
def Bf(ha:ME X a ta)(hb:ME X b tb)(hs:eY b\zA6):ME X (.Subscript a b pos) (mIxP ta tb):=⟨(pe_ix ix_list ha.out hb.out hs).anti λs H Q h=>by
 let#[F,z,M,k,rs,R,h1,h2]:=h;refine#[F,z,M,k,rs,_,h1,λx u M1 F1 H1 g1 hx rx m1=>?_];refine#[F1,z,M1,k.growM rs.mb g1,rs.growM k.bh g1 m1,_,hx,λy v M2 F2 H2 g2 hy ry m2=>?_];let#[p,rfl,PX]:=kdP.of hy;let#[i,rfl,ds,hm,d,hd,hR]:=kdI.of PX;let#[vs,hH,rr]:=m2.ok _ _ (bD hm);let#[w,e2,j6]:=rr.at hd;exact#[p,vs,_,w,rep_ptr.mp rx,rep_int.mp ry,SqL.of hH,e2,h2 d w M2 F2 H2 (g1.trans g2) hR j6 m2]⟩
def Bg(to te:TME):TME:=λz M R=>to z M λo M1=>match o with|.ptr a=>(∃ds,mget M1 a=be (.lst ds))/\te z M1 λd M2=>∃ds,mget M2 a=be (.lst ds)/\ds.length<=100000/\R .non (mput M2 a (.lst (ds++[d])))|_=>False
def Bh{b7 a8:Vf}(ho:ME X o to)(he:ME X e te)(j7:zSE X e []\zA0)
  (b_:(Vb o "append" X.env (Vc o X.env)=Vc o X.env)\zA0)
  (d_:zHF X a8 [e]\zA0)
  (c9:((b7.endLine==a8.line)=true)\zA0):
  ME X (.Call (.Attribute o "append" b7) [e] [] a8) (Bg to te):=⟨(du PySem.F.plainAttrs_list PySem.F.slot_list_append PySem.F.type_list_append jW ho.out (bt he.out pa_nil j7) b_ d_ c9 j7).anti λs H Q h=>by
 let#[F,z,M,k,rs,R,h1,h2]:=h;refine#[F,z,M,k,rs,_,h1,λx u M1 F1 H1 g1 hx rx m1=>?_];split at hx
 .rename_i a;let#[#[UG,PY],hx]:=hx;let#[Tz,TB,UH]:=m1.ok _ _ (bD PY);rw[rep_ptr.mp rx];refine#[.inl #[rfl,Tz,SqL.of TB],?_];refine#[F1,z,M1,k.growM rs.mb g1,rs.growM k.bh g1 m1,_,hx,λd v M2 F2 H2 g2 hd rd m2=>?_];let#[ds,hm,hl,hR]:=hd;let#[vs,hH,rr]:=m2.ok _ _ (bD hm);have hz:vs.length<sizeLine:=by
   rw[rr.length];have h2:(100000:Nat)<sizeLine:=Mh
   lia
  refine#[a,vs,v,rfl,rfl,hH,hz,?_];exact h2 _ _ _ F2 _ (g1.trans (g2.trans (GrowM.put g2.fh (m2.fr a (bV (bD hm))) hm))) hR (rep_non.mpr rfl) (m2.put hm #[_,aC,rr.append (fo rd)])
 .exact hx.elim⟩
def frzD:MO->D|.ins x fs=>.obj x fs|.lst ds=>.lst ds|.dti a_=>.dti a_
def mFrz(i:Nat)(t:TMS):TMS:=λE z M=>match z[i]? with|some (be (.ptr a))=>∃o,mget M a=be o/\t E (z.set i (be (frzD o))) (mdel M a)|_=>False
def tJ(i:Nat){Mm:List U6}(h:MSs X Mm t):MSs X Mm (mFrz i t):=⟨PSs.anti h.out λE s H q=>by
 let#[F0,F,z,M,k,rs,ED,h,e]:=q;unfold mFrz at h;split at h
 .rename_i a ez;let#[o,hm,h]:=h;have mem:=bD hm;have fa:=rs.rm.fr a (bV mem);have ba:=rs.mb a (bV mem);let#[v,hv,rv]:=rs.rs.val i _ ez rfl;have TC:=rep_ptr.mp rv;subst TC;have hok:=rs.rm.ok a o mem;let#[ho,g7,PZ]:∃ho,H a=be ho/\∀F',Same F F'->F' a=be ho->Rep X.K F' (frzD o) (.ref a):=by
   cases o with
   |ins x fs=>let#[C,dx,ws,n,h1,h2]:=hok;exact#[_,h1,λF' s' hF=>rep_obj.mpr #[a,C,dx,ws,rfl,n,hF,RepF.mono s' fs ws h2]]
   |lst ds=>let#[vs,h1,h2]:=hok;exact#[_,h1,λF' s' hF=>rep_lst.mpr #[a,vs,rfl,hF,h2.mono s']]
   |dti a_=>exact#[_,hok,λF' s' hF=>rep_dti.mpr #[a,rfl,hF]]
  have s1:Same F (upd F a ho):=aR fa _;have hs:s.set i (be (.ref a))=s:=by
   apply IU;intro n;by_cases hn:i=n
   .subst hn;rw[Ij (HJ.mp hv).1,hv]
   .rw[HL hn]
  have k1:Kept J.B F0 (upd F a ho) H:=⟨k.bh,λb u q=>by
   by_cases hb:b=a
   .subst hb;rw[aC]at q;cases q;exact g7
   .rw[ar hb]at q;exact k.fh b u q,k.f0.trans s1,λb h1 h2=>by
   by_cases hb:b=a
   .subst hb;exact absurd ba h2
   .rw[ar hb];exact k.out b h1 h2,k.eb,k.jf,k.jo⟩
  have r0:RepS X.K J.B (upd F a ho) H z s:=#[rs.rs.len,λi d e n=>let ⟨v,q1,q2⟩:=rs.rs.val i d e n;#[v,q1,q2.mono s1],λi ds e=>absurd e (rs.no i ds),rs.rs.apart];have TF:RepM X.K (upd F a ho) H (mdel M a):=⟨rs.rm.nd.sublist del_sub,λb q hb=>by
   let#[ne,hb]:=kH rs.rm.nd hb;exact(rs.rm.ok b q hb).mono s1 λ_ z=>z,λb hb=>by
   let#[#[b',q],g6,rfl]:=HW.mp hb;let#[ne,NO]:=kH rs.rm.nd g6;rw[ar ne];exact rs.rm.fr _ (bV NO)⟩
  have z0:RepZ X.K J.B (upd F a ho) H z s (mdel M a):=#[r0,rs.no,TF,λb hb=>rs.mb b (del_sub.subset hb)];have z1:=z0.set (i:=i) (PZ _ s1 aC);rw[hs]at z1;exact#[F0,_,_,_,k1,z1,ED,h,e]
 .exact h.elim⟩
end
def kO{K:Ex}{F:Hp}{N:List Lq}{ds:List D}{vs:List V}(rs:Reps K F ds vs):∀(i:Nat) d,(startD N ds)[i]?≠be (be (.own d)):=by
 intro i d e;unfold startD at e;by_cases hi:i<ds.length
 .rw[Ik (by simpa using hi),HI]at e;cases q:ds[i]? with
  |none=>rw[q]at e;cases e
  |some x=>
   rw[q]at e;cases e;let#[v,_,q2]:=rs.get q;exact rep_own q2
 .rw[IL (by simpa using hi),JN]at e;split at e
  .cases e
  .cases e
def growM_nil{M':MS}{F H F' H':Hp}(g:GrowM [] M' F H F' H'):Grow F H F' H':=#[g.ff,g.fh,λb o h=>g.hh b o (λz=>nomatch z) h,λb h1 h2=>g.out b (λz=>nomatch z) h1 h2]
section
variable {P:U5}{w:U'}{K:Ex}{mg:Lq->Option Os}{base:Heap}
variable{x:Lq}{ps:List Lq}{S:SpM}
def CalMM.toX{n:Nat}{S0:SpX}(C:CalMM P w K mg base n x ps S)(h:∀ds R RX,S0 ds R RX->S ds [] (λd _=>R d) λx fs _=>RX x fs):CalX P w K mg base n x ps S0:=by
 let#[f,fd,F,hb,hk,hm]:=C;refine#[f,fd,F.imp λvs H Q E q=>?_,hb,hk,hm];let#[F,ds,fh,rs,R,RX,hS,q1,q2]:=q;exact#[F,ds,[],fh,rs,RepM.nil,_,_,h ds R RX hS,λd v M' F' H' g hd rd _=>q1 d v F' H' (growM_nil g) hd rd,λy fs C od M' F' H' g hR er _=>q2 y fs C od F' H' (growM_nil g) hR er]
open Classical in
def Fun.okM{x qual:Lq}{st:U6}{f:Pi}{fd:Vd}{N ps:List Lq}{k:Nat}{S:SpM}{dV:Os}(T:FunG K dV x qual st f fd)(F:FnScope N ps (ag st))(len:∀ds M R RX,S ds M R RX->ds.length=ps.length)
  (a9:∀(cdv:Os) (A:U_) (outer:List VP) (s:SB) (H:Hp) (E:XK) (J:Jm),Room k (A.deeper (Vg qual (ag st) s.heap.objs.size f cdv))->XOkM (cxOf (CX1 P w) P w K mg base N qual (ag st) f cdv A outer s H E)->
   ∃t,MSs (cxOf (CX1 P w) P w K mg base N qual (ag st) f cdv A outer s H E) (aJ st) t/\∀ds M R RX,(∀z,J.RM z=λM' x fs=>RX x fs M')->S ds M R RX->t {nx:=λ_ M'=>R .non M',rt:=R} (startD N ds) M):FnOk P w K mg base (CX1 P w) (k+1) f fd ps (lSpM K S):=by
 refine Fun.okC T F (λvs H Q E h=>?_) (λcdv A outer s H vs Q E hr h=>?_)
 .obtain⟨F,ds,M,fh,rs,rm,R,RX,h,_⟩:=h;rw[rs.length];exact len ds M R RX h
 .obtain⟨F,ds,M,fh,rs,rm,R,RX,h,q,qx⟩:=h
  let B:Hp:=λb=>if b∈av M then w6 else H b
  have RV:∀{b:Pi},b∈av M->B b=none:=λ{b} h=>if_pos h;have OH:∀{b:Pi},b∉av M->B b=H b:=λ{b} h=>if_neg h
  letI:Jm:={B:=B,F0:=F,RX:=λ_ _ _=>False,RM:=λ_ M' x fs=>RX x fs M'}
  have gr:∀{M':MS} {F' H':Hp},Kept B F F' H'->(∀a,a∈av M'->B a=w6)->GrowM M M' F H F' H':=λ{M' F' H'} k mb=>⟨k.f0,k.fh,λb o nb e=>k.bh b o (by rw[OH nb];exact e),λb nb h1 h2=>k.out b h1 (by rw[OH nb];exact h2),λb hb=>by
   by_cases nb:b∈av M
   .exact .inl nb
   .right;rw[<-OH nb];exact mb b hb⟩
  have hx:XOkM (cxOf (CX1 P w) P w K mg base N qual (ag st) f cdv A outer s H E):=by
   intro σ z M' F' H' s' e C od y fs I kk rr hR er ⟨He,ne,_,hx⟩;have hE:E (.ref C) od H':=qx y fs C od M' F' H' (gr kk rr.mb) hR er rr.rm;rcases hx with⟨sl,vs,h1,h2⟩|⟨T,fl,h1,h2,h3,_⟩
   .exact jZ I h1 h2 He ne hE
   .exact kF I h1 ne h2 He h3 hE
  let#[t,ht,hq]:=a9 cdv A outer s H E inferInstance hr hx;have k0:Kept B F F H:=⟨λb o e=>by
   by_cases nb:b∈av M
   .rw[RV nb]at e;cases e
   .rw[OH nb]at e;exact e,fh,Same.refl F,λ_ h _=>h,rfl,Same.refl F,λ_ h _=>h⟩
  have r0:RepZ K B F H (startD N ds) (L2.start N vs) M:=#[dS rs,kO rs,rm,λa h=>RV h];exact#[_,ht.out,F,F,startD N ds,M,k0,r0,_,hq ds M R RX (λ_=>rfl) h,#[λz' s' M' F' H' k hn r=>q _ _ M' F' H' (gr k r.mb) hn (rep_non.mpr rfl) r.rm,λd v M' F' H' k hd rd P0 mb=>q d v M' F' H' (gr k mb) hd rd P0,λ_ _ _ _ _ _ h _=>h.elim,λ_ _ _ _ _ _ h _=>h.elim]]
variable{N:List Lq}
def Tx.okM{st:U6}{k:Nat}(T:Tx K mg x st ps)(F:FnScope N ps (ag st))(len:∀ds M R RX,S ds M R RX->ds.length=ps.length)
  (a9:∀(f:Pi) (cdv:Os) (A:U_) (outer:List VP) (s:SB) (H:Hp) (E:XK) (J:Jm),Room k (A.deeper (Vg x (ag st) s.heap.objs.size f cdv))->XOkM (cxOf (CX1 P w) P w K mg base N x (ag st) f cdv A outer s H E)->
   ∃t,MSs (cxOf (CX1 P w) P w K mg base N x (ag st) f cdv A outer s H E) (aJ st) t/\∀ds M R RX,(∀z,J.RM z=λM' x fs=>RX x fs M')->S ds M R RX->t {nx:=λ_ M'=>R .non M',rt:=R} (startD N ds) M):CalMM P w K mg base (k+1) x ps S:=by
 let#[f,fd,T,hb,hm]:=T;exact#[f,fd,Fun.okM T F len λcdv A outer s H E J hr hx=>a9 f cdv A outer s H E J hr hx,hb,T.kp,hm]
def Txm(K:Ex)(x m:Lq)(qual:Lq)(st:U6)(ps:List Lq):Prop:=
 ∃C f fd,nsIn K SL x=be (be (.ref C))/\Cls K C/\Meth K C m f/\Fun K m qual st f fd/\Binds K fd ps []
def Txm.okM{m qual:Lq}{st:U6}{k:Nat}(T:Txm K x m qual st ps)(F:FnScope N ps (ag st))(len:∀ds M R RX,S ds M R RX->ds.length=ps.length)
  (a9:∀(f:Pi) (cdv:Os) (A:U_) (outer:List VP) (s:SB) (H:Hp) (E:XK) (J:Jm),Room k (A.deeper (Vg qual (ag st) s.heap.objs.size f cdv))->XOkM (cxOf (CX1 P w) P w K mg base N qual (ag st) f cdv A outer s H E)->
   ∃t,MSs (cxOf (CX1 P w) P w K mg base N qual (ag st) f cdv A outer s H E) (aJ st) t/\∀ds M R RX,(∀z,J.RM z=λM' x fs=>RX x fs M')->S ds M R RX->t {nx:=λ_ M'=>R .non M',rt:=R} (startD N ds) M):CalMth P w K mg base (k+1) x m ps (lSpM K S):=by
 let#[C,f,fd,h1,h2,h3,T,hb]:=T;exact#[C,f,fd,h1,h2,h3,Fun.okM T F len λcdv A outer s H E J hr hx=>a9 f cdv A outer s H E J hr hx,hb]
end
end My
namespace L2
section
variable {X:Cx}{pins:List (Pi×Vk)}{σ:St}{H:Hp}{s:SB}{h':Heap}
def Inv.turned2{t':Nat}{e it:Pi}(I:Inv X pins σ H s)(k:∀b o,b≠e->b≠it->s.heap.get? b=be o->h'.get? b=be o)(he:FpOk X pins H e)(hi:FpOk X pins H it):Inv X pins σ H {s with heap:=h',toks:=t'}:=by
 let#[e0,e1,e2,e3,e4,e5]:=he;let#[i0,i1,i2,i3,i4,i5]:=hi;have Mb:∀b u,H b=be u->b≠e/\b≠it:=λb u q=>#[(λz=>by rw[z,e0]at q;cases q),(λz=>by rw[z,i0]at q;cases q)];have nc:∀{b:Pi},b∉[e,it]->b≠e/\b≠it:=λ{b} h=>#[λz=>h (by simp[z]),λz=>h (by simp[z])];refine I.step (g':=s.gens) (d':=s.drawn) (ch:=[e,it]) (λb hb=>?_) (λb o _ _ hc q _=>k b o (nc hc).1 (nc hc).2 q) (λb o _ _ hc q _=>#[o.slots,k b o (nc hc).1 (nc hc).2 q]) (λ_ _ _ _ n=>n)
  (λb o hc q=>#[o,k b o (nc hc).1 (nc hc).2 q]) (λ_ _ q=>q) (λ_ _ _ q=>q) (λb ps q=>#[[].toArray,by rw[q];simp]) (λm hm=>?_) (λb u q=>?_) I.bare
 .rcases Hx.mp hb with z|z
  .rw[z];exact#[e3,e1,e4,e5]
  .rw[Hv.mp z];exact#[i3,i1,i4,i5]
 .obtain⟨o,es,ep,ho,r⟩:=hm;exact#[o,es,ep,k _ o (Ne.symm e1) (Ne.symm i1) ho,r]
 .refine(I.hok b u q).stay (λc v hc q'=>k c v ?_ ?_ q') (λ_ q=>q) λ_ _ q=>q
  .rcases hc with z|z
   .rw[z];exact(Mb b u q).1
   .exact(Mb c _ z).1
  .rcases hc with z|z
   .rw[z];exact(Mb b u q).2
   .exact(Mb c _ z).2
end
def Itel(K:Ex)(a:Pi):It:=
 #[λi H=>∃xs x,SqL K H a xs/\xs[i]?=be x,λi H x H'=>∃T v,H T=w6/\x=.ref T/\H'=upd H T (.tup [.int i,v])/\∀xs,SqL K H a xs->xs[i]?=be v,λi H=>∃xs,SqL K H a xs/\xs.length<=i]
def Ites(x:Lq):It:=#[λi _=>i<x.length,λi H v H'=>∃T c,H T=w6/\v=.ref T/\H'=upd H T (.tup [.int i,.str #[[c].toArray]])/\x.cps[i]?=be c,λi _=>i=x.length]
variable{P:U5}{w:U'}
def Bi{H:Hp}{h:Heap}{T:Pi}{i:Int}{t:WZ}{v:V}{u:Os}(r:RelV v u)(q:h.get? T=be {cls:=.type "tuple",data:=.seq [.int i t,u].toArray}):ObjOk P w H h T (.tup [.int i,v]):=
 #[by show 2<=sizeLine;decide,[.int i t,u],.cons #[t,rfl] (.cons r .nil),#[_,q,rfl,_,rfl]]
def tK{X:Cx}{pins:List (Pi×Vk)}{σ:St}{H:Hp}{s:SB}{h':Heap}{t':Nat}{e it:Pi}{i:Int}{t:WZ}{v:V}{u:Os}(I:Inv X pins σ H s)(he:FpOk X pins H e)(hi:FpOk X pins H it)(le:e<s.heap.objs.size)(li:it<s.heap.objs.size)(r:RelV v u)
  (hT:h'.get? s.heap.objs.size=be {cls:=.type "tuple",data:=.seq [.int i t,u].toArray}) (hk:∀b o,b≠e->b≠it->s.heap.get? b=be o->h'.get? b=be o):Inv X pins σ (upd H s.heap.objs.size (.tup [.int i,v])) {s with heap:=h',toks:=t'}:=by
 have I1:Inv X pins σ (upd H s.heap.objs.size (.tup [.int i,v])) {s with heap:=s.heap.push {cls:=.type "tuple",data:=.seq [.int i t,u].toArray},toks:=t'}:=
  I.laid (λb o q=>Heap.get?_push_of_some _ q) (Hw _) (Bi r (Heap.get?_push_size _ rfl))
 have fp:∀{b:Pi},FpOk X pins H b->b<s.heap.objs.size->FpOk X pins (upd H s.heap.objs.size (.tup [.int i,v])) b:=λ{b} h l=>#[by rw[ar (HD l)];exact h.1,h.2];refine I1.turned2 (h':=h') (t':=t') (λb o h1 h2 q=>?_) (fp he le) (fp hi li);rcases Heap.get?_push_cases (show(s.heap.push {cls:=.type "tuple",data:=.seq [.int i t,u].toArray}).get? b=be o from q)with⟨rfl,rfl⟩|q2
 .exact hT
 .exact hk b o h1 h2 q2
variable{v5:List U7}
def Bj{K:Ex}{x1:Nat}{tp:Vf}(a e it:Pi)(MP:e≠it):Turn P w K (.Tuple v5 x1 tp) (Itel K a) [e,it] e (λi h=>(∃f7,IsEnum h e it i f7)/\h.IsListIter it a i) where
 mem:=Mn
 obj:=λi h st b hb=>by
  let#[#[f7,he],hit]:=st;rcases Hx.mp hb with z|z
  .rw[z];exact#[_,he,λv z=>by cases z]
  .rw[Hv.mp z];let#[o,ho,c,d]:=hit;exact#[o,ho,λv z=>by rw[d]at z;cases z]
 keep:=λi h h' st k=>#[let ⟨f7,he⟩:=st.1;#[f7,k e Mn _ he],st.2.at λo q=>k it Mn o q]
 item:=by
  intro X hP hw hK hc i pins s σ H E I hf st hg;subst hP hw hK;let#[xs,x,hq,hx]:=hg;let#[its,rv,p,hz]:=I.list hq;let#[u,hu,ru]:=rv.get hx;let#[#[f7,he],hit]:=st;have fe:=hf e Mn;have fi:=hf it Mn;have le:e<s.heap.objs.size:=Heap.lt_size he;have li:it<s.heap.objs.size:=by let#[o,ho,_]:=hit;exact Heap.lt_size ho
  refine wpAny_pyNext_enum_item he hit p.isList (x:=u) (by simpa using hu) MP λh' La Mu hT m6 hk=>?_;refine#[_,rfl,Wj La λh2 P1 j_=>?_];have s_:Heap.SameBut e h' h2:=j_;have nT:s.heap.objs.size≠e:=Ix le;have I1:Inv X pins σ (upd H s.heap.objs.size (.tup [.int i,x])) {s with heap:=h2,toks:=s.toks+1}:=tK I fe fi le li ru ((s_.2 _ nT).trans hT) λb o h1 h3 q=>(s_.2 b h1).trans (hk b o h1 h3 q);refine#[.ref s.heap.objs.size,_,I1,rfl,#[_,x,I.hok.fresh (Hw _),rfl,rfl,λys hy=>by rw[I.list_inj hy hq];exact hx],#[#[u,by simpa using P1],Mu.at λo q=>(s_.2 it (Ne.symm MP)).trans q],λb hb=>?_];rcases Hx.mp hb with z|z
  .rw[z,ar (HD le)];exact fe.1
  .rw[Hv.mp z,ar (HD li)];exact fi.1
 done:=by
  intro X hP hw hK hc i pins s σ H E I hf st hg;subst hP hw hK;let#[xs,hq,hx]:=hg;let#[its,rv,p,hz]:=I.list hq;let#[#[f7,he],hit]:=st;have hl:=rv.length;let#[f0,f1,f2,f3,f4,f5]:=hf it Mn;exact wpAny_pyNext_enum_end (I.ok.hd hc) he hit p.isList Qu λh' eb=>#[rfl,I.turned (t':=s.toks) (λb o hb q=>eb b o hb q) f0 f1 f3 f4 f5]
 self:=λ_ _ _ _ _ st h=>let ⟨⟨f7,he⟩,_⟩:=st;VR he h
def Bk{K:Ex}{x1:Nat}{tp:Vf}(x:Lq)(t:WZ)(e it:Pi)(MP:e≠it):Turn P w K (.Tuple v5 x1 tp) (Ites x) [e,it] e (λi h=>(∃f7,IsEnum h e it i f7)/\h.IsStrIter it "str_ascii_iterator" x t i) where
 mem:=Mn
 obj:=λi h st b hb=>by
  let#[#[f7,he],hit]:=st;rcases Hx.mp hb with z|z
  .rw[z];exact#[_,he,λv z=>by cases z]
  .rw[Hv.mp z];let#[o,ho,c,d]:=hit;exact#[o,ho,λv z=>by rw[d]at z;cases z]
 keep:=λi h h' st k=>#[let ⟨f7,he⟩:=st.1;#[f7,k e Mn _ he],let ⟨o,ho,r⟩:=st.2;#[o,k it Mn o ho,r]]
 item:=by
  intro X hP hw hK hc i pins s σ H E I hf st hg;subst hP hw hK;have hi:i<x.cps.size:=hg;let#[#[f7,he],hit]:=st;have fe:=hf e Mn;have fi:=hf it Mn;have le:e<s.heap.objs.size:=Heap.lt_size he;have li:it<s.heap.objs.size:=by let#[o,ho,_]:=hit;exact Heap.lt_size ho
  refine wpAny_pyNext_enum_itemD (Draws.strAscii (A:=X.A.in1) (by exact I.ok.hd hc) it x t) he hit hi MP (by simp[MP]) λu h' tk hP La Mu hT m6 hk=>?_;let#[c,tu,Ld,rfl]:=hP;refine#[_,rfl,Wj La λh2 P1 j_=>?_];have s_:Heap.SameBut e h' h2:=j_;have nT:s.heap.objs.size≠e:=Ix le;have I1:Inv X pins σ (upd H s.heap.objs.size (.tup [.int i,.str #[[c].toArray]])) {s with heap:=h2,toks:=tk+1}:=tK I fe fi le li #[tu,rfl] ((s_.2 _ nT).trans hT) λb o h1 h3 q=>(s_.2 b h1).trans (hk b o h1 h3 q);refine#[.ref s.heap.objs.size,_,I1,rfl,#[_,c,I.hok.fresh (Hw _),rfl,rfl,Ld],#[#[_,by simpa using P1],let ⟨o,ho,r⟩:=Mu;#[o,(s_.2 it (Ne.symm MP)).trans ho,r]],λb hb=>?_];rcases Hx.mp hb with z|z
  .rw[z,ar (HD le)];exact fe.1
  .rw[Hv.mp z,ar (HD li)];exact fi.1
 done:=by
  intro X hP hw hK hc i pins s σ H E I hf st hg;subst hP hw hK;have hi:i=x.cps.size:=hg;subst hi;let#[#[f7,he],hit]:=st;let#[f0,f1,f2,f3,f4,f5]:=hf it Mn;exact wpAny_pyNext_enum_endD (Draws.strAscii (A:=X.A.in1) (by exact I.ok.hd hc) it x t) he hit λh' eb=>#[rfl,I.turned (t':=s.toks) (λb o hb q=>eb b o hb q) f0 f1 f3 f4 f5]
 self:=λ_ _ _ _ _ st h=>let ⟨⟨f7,he⟩,_⟩:=st;VR he h
def iEnL(K:Ex)(ta:TA):TI:=λσ H R=>ta σ H λvs H1=>∃a,vs=[.ref a]/\(∃xs,SqL K H1 a xs)/\R (Itel K a) H1
def iEnS(ta:TA):TI:=λσ H R=>ta σ H λvs H1=>∃x,vs=[.str x]/\x.cps.all (·<128)=true/\R (Ites x) H1
section
variable {X:Cx}{v5:List U7}{x1:Nat}{tp p pos:Vf}{l:U7}{ta:TA}
def Bl(hg:Gl X "enumerate")(hm:X.mg "enumerate"=w6)(ha:PA X [l] ta)(hs:(U9 [l] X.env=[(false,Vc l X.env)])\zA0):PI X (.Tuple v5 x1 tp) (.Call (.Name "enumerate" p) [l] [] pos) (iEnL X.K ta):=by
 intro pins s σ H R I h;refine Call_ (dQ I hg hm PyProof.Rows.boot_enumerate (PyProof.Rows.callWith_type1 (thn (ha pos pins s σ H _ I h) λus s1 ⟨vs,H1,I1,r1,q1⟩=>?_) hs rfl));let#[a,rfl,#[xs,hq],q]:=q1;let#[u,rfl,ru]:=vals1 r1;cases ru;let#[its,rv,pl,hz]:=I1.list hq;refine call_enumerate_list pl.isList λh' he hit m6 hk=>?_;have I2:Inv X pins σ H1 {s1 with heap:=h'}:=I1.kept (t':=s1.toks) hk;refine VR he ?_;have ne:s1.heap.objs.size+1≠s1.heap.objs.size:=KC _;refine#[s1.heap.objs.size+1,[s1.heap.objs.size+1,s1.heap.objs.size],_,_,H1,rfl,I2,Bj a _ _ ne,#[#[_,he],hit],λb hb=>?_,q];rcases Hx.mp hb with z|z
 .rw[z];exact I1.fpOk (Iz _) (I1.hok.fresh (Iz _))
 .rw[Hv.mp z];exact I1.fpOk (Hw _) (I1.hok.fresh (Hw _))
def tL(hg:Gl X "enumerate")(hm:X.mg "enumerate"=w6)(ha:PA X [l] ta)(hs:(U9 [l] X.env=[(false,Vc l X.env)])\zA0):PI X (.Tuple v5 x1 tp) (.Call (.Name "enumerate" p) [l] [] pos) (iEnS ta):=by
 intro pins s σ H R I h;refine Call_ (dQ I hg hm PyProof.Rows.boot_enumerate (PyProof.Rows.callWith_type1 (thn (ha pos pins s σ H _ I h) λus s1 ⟨vs,H1,I1,r1,q1⟩=>?_) hs rfl));let#[x,rfl,P2,q]:=q1;let#[u,rfl,t,rfl]:=vals1 r1;refine call_enumerate_str λh' he hit m6 hk=>?_;have I2:Inv X pins σ H1 {s1 with heap:=h'}:=I1.kept (t':=s1.toks) hk;refine VR he ?_;have ne:s1.heap.objs.size+1≠s1.heap.objs.size:=KC _;have TJ:strIterType x="str_ascii_iterator":=by unfold strIterType;rw[P2];rfl
 rw[TJ]at hit;refine#[s1.heap.objs.size+1,[s1.heap.objs.size+1,s1.heap.objs.size],_,_,H1,rfl,I2,Bk x t _ _ ne,#[#[_,he],hit],λb hb=>?_,q];rcases Hx.mp hb with z|z
 .rw[z];exact I1.fpOk (Iz _) (I1.hok.fresh (Iz _))
 .rw[Hv.mp z];exact I1.fpOk (Hw _) (I1.hok.fresh (Hw _))
end
end L2
namespace My
open Exc
section
variable {X:Cx}[J:Jm]{a b c e o:U7}{ta tb tc te to:TME}{pos:Vf}{st:U6}{rest:List U6}{t u:TMS}
def tM{K:Ex}{F:Hp}:∀(is:List Nat) (ds:List D) (vs:List V) (z:SD),Reps K F ds vs->(∀(i:Nat) d,z[i]?≠be (be (.own d)))->∀(i:Nat) d,(cn is ds z)[i]?≠be (be (.own d))
 |[],_,_,z,_,h=>h
 |_::_,[],_,z,_,h=>h
 |i::is,d::ds,vs,z,r,h=>by
  let#[v,vr,rfl,r1,r2]:=reps_cons.mp r;refine tM is ds vr _ r2 λj q e=>?_;by_cases hj:i=j
  .subst hj;rw[IN]at e;simp at e;have:=r1.noown;rw[e.2]at this;cases this
  .rw[HL hj]at e;exact h j q e
def mItE(t:TME):TMI:=λz M R=>t z M λx M1=>match x with|.lst ds=>R ds M1|_=>False
def Bm(t:TME):TMI:=λz M R=>t z M λx M1=>match x with|.str x=>x.cps.all (·<128)=true/\R (bO x) M1|_=>False
def tN(is:List Nat)(ti:TMI)(tb:TMS):TMS:=λE z M=>ti z M λds M1=>∃W:Nat->SD->MS->Prop,W 0 z M1/\(∀(k:Nat) x z M,ds[k]?=be x->W k z M->tb {E with nx:=W (k+1),ct:=W (k+1),bk:=E.nx} (cn is [.int k,x] z) M)/\∀z M,W ds.length z M->E.nx z M
variable{is:List Nat}
def tO{K:Ex}{F0 F1 H1:Hp}{z:SD}{s:L2.St}{M1:MS}{E:Ends}{ED:EndsM}{It':It}{g:TG}{tb:TMS}{NP:TS}{ds:List D}(hK:K=X.K)(k1:Kept J.B F0 F1 H1)(w_:RepZ K J.B F1 H1 z s M1)(e:EndsOkM K F0 ED E)(b9:is.length=2)
  (go:∀k F' H',Same F1 F'->Same F' H'->k<ds.length->It'.go k H') (stop:∀F' H',Same F1 F'->Same F' H'->It'.stop ds.length H')
  (yld:∀k F' H' x H'',Same F1 F'->Same F' H'->k<ds.length->It'.yld k H' x H''->∃T d v,H' T=w6/\x=.ref T/\H''=upd H' T (.tup [.int k,v])/\ds[k]?=be d/\Rep K F' d v)
  (hg:∀(dd:List D) (vs:List V) (T:Pi) (z:SD) (s:L2.St) (F H:Hp) (Q:L2.St->Hp->Prop),dd.length=2->H T=be (.tup vs)->Reps K F dd vs->RepS K J.B F H z s->(∀s',RepS K J.B F H (cn is dd z) s'->Q s' H)->g (.ref T) s H Q)
  (P4:∀E s H,mS K tb E s H->NP E s H)
  (hd:∃W:Nat->SD->MS->Prop,W 0 z M1/\(∀(k:Nat) x z M,ds[k]?=be x->W k z M->tb {ED with nx:=W (k+1),ct:=W (k+1),bk:=ED.nx} (cn is [.int k,x] z) M)/\∀z M,W ds.length z M->ED.nx z M):
  ∃W:Nat->Nat->L2.St->Hp->Prop,(∃m,W 0 m s H1)/\∀i m σ H,W i m σ H->
   (It'.stop i H/\E.nx σ H)\/(It'.go i H/\∃N:L2.St->Hp->Prop,(∀σ' H',N σ' H'->∃m',m'<m/\W (i+1) m' σ' H')/\∀x H',It'.yld i H x H'->g x σ H' λσ2 H2=>NP {E with nx:=N,ct:=N,bk:=E.nx} σ2 H2):=by
 let#[W,w0,d5,out]:=hd;refine#[λk m s' H'=>m=ds.length-k/\k<=ds.length/\∃F' z' M',Kept J.B F0 F' H'/\Same F1 F'/\RepZ K J.B F' H' z' s' M'/\W k z' M',#[ds.length,Mn,HS _,F1,z,M1,k1,Same.refl F1,w_,w0],?_];intro k m s' H'#[rfl,hk,F',z',M',k',g',r',w'];by_cases ge:k<ds.length
 .refine .inr #[go k F' H' g' k'.fh ge,λs3 H3=>∃F3 z3 M3,Kept J.B F0 F3 H3/\Same F1 F3/\RepZ K J.B F3 H3 z3 s3 M3/\W (k+1) z3 M3,λs3 H3 h3=>#[ds.length-(k+1),Md,rfl,ge,h3],λx H'' hy=>?_];let#[T,d,v,hT,rfl,rfl,hd,rd]:=yld k F' H' x H'' g' k'.fh ge hy;have gn:=Grow.new k'.fh hT (.tup [.int k,v]);have k2:=k'.grow gn;have r2:=r'.growM k'.bh gn.toM (r'.rm.grow gn);have rp:Reps K (upd F' T (.tup [.int k,v])) [.int k,d] [.int k,v]:=reps_cons.mpr #[_,_,rfl,rep_int.mpr rfl,fo (rd.mono gn.ff)];refine hg [.int k,d] _ T z' s' _ _ _ rfl aC rp r2.rs λs2 MN=>P4 _ _ _ ?_;have gF:Same F1 (upd F' T (.tup [.int k,v])):=g'.trans gn.ff;refine#[upd F' T (.tup [.int k,v]),upd F' T (.tup [.int k,v]),_,M',#[k2.bh,k2.fh,Same.refl _,λb h1 _=>h1,k2.eb,k2.jf.trans k2.f0,λb h1 h2=>k2.out b (k2.jo b h1 h2) h2],#[MN,tM is _ _ z' rp r2.no,r2.rm,r2.mb],_,d5 k d z' M' hd w',?_];have up:∀{F3 H3:Hp},Kept J.B (upd F' T (.tup [.int k,v])) F3 H3->Kept J.B F0 F3 H3:=λk3=>#[k3.bh,k3.fh,k2.f0.trans k3.f0,λb h1 h2=>k3.out b (k2.out b h1 h2) h2,k2.eb,k2.jf,k2.jo];exact#[λz3 s3 M3 F3 H3 k3 h3 r3=>#[F3,z3,M3,up k3,gF.trans k3.f0,r3,h3],λd v M3 F3 H3 k3=>e.rt d v M3 F3 H3 (up k3),λz3 s3 M3 F3 H3 k3=>e.nx z3 s3 M3 F3 H3 (up k3),λz3 s3 M3 F3 H3 k3 h3 r3=>#[F3,z3,M3,up k3,gF.trans k3.f0,r3,h3]]
 .have ek:k=ds.length:=by lia
  subst ek;exact .inl #[stop F' H' g' k'.fh,e.nx z' s' M' F' H' k' (out z' M' w') r']
variable{es:List U7}{body:List U6}
def Bn{x1:Nat}{tp p1 p2:Vf}{tb:TMS}(hp:Vp (U4 X.prog X.w) X.A X.env X.xe)(hc:X.calm=true)(hm:X.mg "enumerate"=w6)(he:ME X e te)(hG:DGs X es is)(hb:MSs X body tb)(b9:(is.length=2)\zA0)(hg:Gl X "enumerate"\zA0)
  (hn:((Va es X.env).length=2)\zA0) (p_:((Va es X.env).findIdx? (·.1)=none)\zA0)
  (hs:(∀y,zFS X (.Call (.Name "enumerate" p1) [e] [] p2) y)\zA3) (v3:zSE X e []\zA0) (i9:(U9 [e] X.env=[(false,Vc e X.env)])\zA0):
  MSt X (.For (.Tuple es x1 tp) (.Call (.Name "enumerate" p1) [e] [] p2) body [] pos) (tN is (mItE te) tb):=by
 let#[ug,NQ,kk]:=hG;refine#[(cM hp hc (Bl hg hm (bt he.out pa_nil v3) i9) (gU hc NQ hn p_) hb.out hs).anti λE s H q=>?_];let#[F0,F,z,M,kp,rs,ED,h,e]:=q;refine#[F,z,M,kp.kf,rs,_,h,λd v M1 F1 H1 g1 hd rd m1=>?_];split at hd
 .rename_i ds;let#[p,vs,rfl,hq,rr]:=rep_lst.mp rd;refine#[p,rfl,#[vs,SqL.of (g1.fh _ _ hq)],tO (It':=Itel X.K p) rfl (kp.growM rs.mb g1) (rs.growM kp.bh g1 m1) e b9 (λk F' H' s1 s2 hk=>?_) (λF' H' s1 s2=>?_) (λk F' H' x H'' s1 s2 hk hy=>?_) (λdd o_ T z s F H Q hl hT rp F_ hQ=>?_) (λ_ _ _ h=>h) hd]
  .have r_:k<vs.length:=by rw[rr.length];exact hk
   exact#[vs,vs[k],SqL.of (s2 _ _ (s1 _ _ hq)),by simp[r_]]
  .exact#[vs,SqL.of (s2 _ _ (s1 _ _ hq)),by rw[rr.length];exact Hw _]
  .obtain⟨T,v,hT,e1,e2,hv⟩:=hy;let#[d,hd,rd]:=rr.get' (hv vs (SqL.of (s2 _ _ (s1 _ _ hq))));exact#[T,d,v,hT,e1,e2,hd,rd.mono s1]
  .exact#[T,o_,rfl,SqT.of hT,by rw[rp.length];exact hl,kk dd o_ z s J.B F H Q (by rw[hl,b9]) rp F_ hQ]
 .exact hd.elim
def Bo{x1:Nat}{tp p1 p2:Vf}{tb:TMS}(hp:Vp (U4 X.prog X.w) X.A X.env X.xe)(hc:X.calm=true)(hm:X.mg "enumerate"=w6)(he:ME X e te)(hG:DGs X es is)(hb:MSs X body tb)(b9:(is.length=2)\zA0)(hg:Gl X "enumerate"\zA0)
  (hn:((Va es X.env).length=2)\zA0) (p_:((Va es X.env).findIdx? (·.1)=none)\zA0)
  (hs:(∀y,zFS X (.Call (.Name "enumerate" p1) [e] [] p2) y)\zA3) (v3:zSE X e []\zA0) (i9:(U9 [e] X.env=[(false,Vc e X.env)])\zA0):
  MSt X (.For (.Tuple es x1 tp) (.Call (.Name "enumerate" p1) [e] [] p2) body [] pos) (tN is (Bm te) tb):=by
 let#[ug,NQ,kk]:=hG;refine#[(cM hp hc (tL hg hm (bt he.out pa_nil v3) i9) (gU hc NQ hn p_) hb.out hs).anti λE s H q=>?_];let#[F0,F,z,M,kp,rs,ED,h,e]:=q;refine#[F,z,M,kp.kf,rs,_,h,λd v M1 F1 H1 g1 hd rd m1=>?_];split at hd
 .rename_i x;let#[ha,hd]:=hd;have hl:=fD x;refine#[x,by rw[rep_str.mp rd],ha,tO (It':=Ites x) rfl (kp.growM rs.mb g1) (rs.growM kp.bh g1 m1) e b9 (λk F' H' s1 s2 hk=>?_) (λF' H' s1 s2=>?_) (λk F' H' x H'' s1 s2 hk hy=>?_) (λdd o_ T z s F H Q hl hT rp F_ hQ=>?_) (λ_ _ _ h=>h) hd]
  .rw[hl]at hk;exact hk
  .exact hl
  .obtain⟨T,c,hT,e1,e2,hc⟩:=hy;exact#[T,.str #[[c].toArray],.str #[[c].toArray],hT,e1,e2,signs_get hc,rep_str.mpr rfl]
  .exact#[T,o_,rfl,SqT.of hT,by rw[rp.length];exact hl,kk dd o_ z s J.B F H Q (by rw[hl,b9]) rp F_ hQ]
 .exact hd.elim
end
end My
namespace L2
section
variable {prog:U5}{w:U'}{K:Type}[DecidableEq K]{m9:HeapKind prog w K}{A:U_}{E:Os->SB->Prop}{s:SB}{d a:Pi}{k:K}{xs:List (K×Pi×Os)}
def Bp{v:Os}{Q:Os->SB->Prop}(hu:m9.room A)(q9:m9.is s.heap k a)(hm:s.heap.DictOfH m9 d xs)
  (h1:∀p,We xs k=be p->Q p.2 {s with toks:=s.toks+m9.draws k})
  (h2:We xs k=w6->∀h',h'.DictOfH m9 d (xs++[(k,a,v)])->Heap.SameBut d s.heap h'->Q v {s with heap:=h',toks:=s.toks+m9.draws k})
  (m6:xs.length<=sizeLine):U8 (U4 prog w) A (Wl d (.ref a) v) Q E s:=by
 let#[o,es,ep,ho,hc,hd,he,RW,hn]:=hm;unfold Wl
 try with_reducible refine Vh ?_
 refine P3 (m9.pyHash hu q9 ?_);refine P3 (wpAny_dictFind_heap (s:={s with toks:=s.toks+m9.draws k}) hu q9 ho hd he RW hn ?_ ?_)
 .intro e_;have P5:k∉xs.map (·.1):=not_mem_keys_of_get e_;refine P3 (WM (P3 (wpAny_updateDictKeys (hz:=by have e:=size_of_entries he;lia) (s:={s with toks:=s.toks+m9.draws k}) ho hd (SZ (h2 (atKey_none_of_get e_) _ ⟨_,_,ep+1,Heap.get?_update_self _ ho (Obj.isFreed_of_dict (Obj.data_mapDictKeys hd _)),
   hc.mapDictKeys _,Obj.data_mapDictKeys hd _,?_,?_,?_⟩ (Heap.SameBut.update ..))))))
  .simp[he,entryOfKey]
  .intro x hx;rcases HX.mp hx with hx|hx
   .exact m9.keeps (RW x hx) ho hd (Heap.SameBut.update ..)
   .simp only[Hv]at hx;subst hx;exact m9.keeps q9 ho hd (Heap.SameBut.update ..)
  .rw[Ia,IY];refine#[hn,Mn,?_];intro x hx y hy;simp only[HR,IT,Hv]at hy;subst hy;exact λe=>P5 (e ▸ hx)
 .intro j p hj;refine P3 (wpAny_dictEntries (s:={s with toks:=s.toks+m9.draws k}) ho hd ?_);rw[entry_at he j,hj];exact P3 (WM (SZ (h1 p (atKey_of_get hn hj))))
def Bq(m9:HeapKind prog w K)(d a:Pi)(hd:(d==Vw)=false)(v:Os):
  MeetsIn prog w (Builtin.«dict.setdefault» #[[.ref d,.ref a,v],[]]) (λA R s=>m9.room A.in1/\∃k xs,m9.is s.heap k a/\s.heap.DictOfH m9 d xs/\xs.length<=sizeLine/\
   (∀p,We xs k=be p->R (.ok (.ret p.2)) {s with toks:=s.toks+m9.draws k})/\
   (We xs k=w6->∀h',h'.DictOfH m9 d (xs++[(k,a,v)])->Heap.SameBut d s.heap h'->R (.ok (.ret v)) {s with heap:=h',toks:=s.toks+m9.draws k})):=
 .of_wp λA R s hh=>by
  let#[hu,k,xs,q9,hm,hz,h1,h2]:=hh;unfold Builtin.«dict.setdefault»;refine P3 ?_;unfold Builtin.Dict.keyAndDefault;refine P3 (wpAny_notOrdered_dict hm.typeIs ?_);show U8 _ _ (pure (d,Value.ref a,be v)) _ _ s;refine SZ ?_;show U8 _ _ (if(d==Vw)=true then _ else(Wl d (.ref a) v>>=_)) _ _ s;rw[if_neg (by rw[hd];exact HH)];exact P3 (Bp hu q9 hm (λp hp=>SZ #[p.2,rfl,h1 p hp]) (λhn h' Nt MK=>SZ #[v,rfl,h2 hn h' Nt MK]) hz)
end
end L2
namespace My
open Exc
def lookD:List ((Int×Int)×Int)->Int->Int->Option Int
 |[],_,_=>w6
 |((a,b),h)::r,x,y=>if a=x/\b=y then be h else lookD r x y
def kP(x y:Int):∀a_:List ((Int×Int)×Int),valV (dtiV a_) [.inl x,.inl y]=(lookD a_ x y).map V.int
 |[]=>rfl
 |((a,b),h)::r=>by
  show valV (([.inl a,.inl b],V.int h)::dtiV r) _=_;unfold lookD;by_cases e:a=x/\b=y
  .rw[if_pos e,kM (by rw[e.1,e.2])];rfl
  .rw[if_neg e,kN (λz=>e (by
    have z':([Sum.inl a,Sum.inl b]:List Key)=[.inl x,.inl y]:=z;injection z' with z1 z2;injection z2 with z2 _;exact#[Sum.inl.inj z1,Sum.inl.inj z2])),kP x y r]
def sdD(a_:List ((Int×Int)×Int))(x y v:Int):List ((Int×Int)×Int):=if(lookD a_ x y).isSome then a_ else a_++[((x,y),v)]
def Br:V->List V->Hp->VK->Prop:=λx vs H Q=>∃a b i j d a_,x=.ref a/\vs=[.ref b,.int d]/\H a=be (.dT (dtiV a_))/\H b=be (.tup [.int i,.int j])/\Q (.int ((lookD a_ i j).getD d)) H
def Bs{X:Cx}(hu:X.A.units+1<Wd):MtR X "dict.get" Br:=by
 intro pins s σ H x vs v us Q I rx rv h;let#[a,b,i,j,d,a_,rfl,rfl,ha,hb,q]:=h;let#[u,u',rfl,ru,rd]:=vals2 rv;cases(show v=Value.ref a from rx);refine Bc hu I (DGet.t (k:=[.inl i,.inl j]) ha hb) ru rd λw' s' I' j6=>#[.int ((lookD a_ i j).getD d),H,I',?_,q];rw[kP]at j6;cases e:lookD a_ i j with
 |none=>rw[e]at j6;exact j6
 |some z=>rw[e]at j6;exact j6
def rSdT:V->List V->Hp->VK->Prop:=λx vs H Q=>∃a b i j d a_,x=.ref a/\vs=[.ref b,.int d]/\H a=be (.dT (dtiV a_))/\H b=be (.tup [.int i,.int j])/\a_.length<100000/\∀w,Q (.int w) (upd H a (.dT (dtiV (sdD a_ i j d))))
variable{H:Hp}{a:Pi}
def Bt{o:HO}(h:H a=be o):upd H a o=H:=by
 funext b;by_cases e:b=a
 .subst e;rw[aC,h]
 .rw[ar e]
def Bu{X:Cx}(hu:X.A.units+1<Wd):MtR X "dict.setdefault" rSdT:=by
 intro pins s σ H x vs v us Q I rx rv h;let#[a,b,i,j,d,a_,rfl,rfl,ha,hb,hl,q]:=h;let#[u,u',rfl,ru,t,rfl]:=vals2 rv;cases(show v=Value.ref a from rx);cases(show u=Value.ref b from ru);let#[z,hd,xs,Lj,dd]:=A8 I.hok ha;have b9:xs.length=a_.length:=by rw[<-Paired.length Lj];simp[dtiV]
 have big:(100000:Nat)<sizeLine:=Mh
 have g6:H b=be (.tup (([.inl i,.inl j]:List Key).map kV)):=hb;have m_:=Lj.val [.inl i,.inl j];rw[kP]at m_;refine WA PySem.F.slot_dict_setdefault dd.typeIs PySem.F.entry_dict_setdefault (PySem.F.args_dict_setdefault_3 _ _ _) (Bq (VV (bM X.prog X.w)) a b hd (.int d t)) #[WR hu,[.inl i,.inl j],xs,key_of I.hok g6,dd,Md,λp hp=>?_,λhn h' NJ hs=>?_]
 .rw[hp]at m_;cases e:lookD a_ i j with
  |none=>rw[e]at m_;exact m_.elim
  |some w=>
   rw[e]at m_;have:=q w;unfold sdD at this;rw[e]at this;have e2:(if(be w:Option Int).isSome then a_ else a_++[((i,j),d)])=a_:=rfl;rw[e2,Bt ha]at this;exact#[.int w,H,I.tok _,m_,this]
 .rw[hn]at m_;cases e:lookD a_ i j with
  |some w=>rw[e]at m_;exact m_.elim
  |none=>
   have e2:sdD a_ i j d=a_++[((i,j),d)]:=by unfold sdD;rw[e];rfl
   have e3:dtiV (sdD a_ i j d)=dtiV a_++[([.inl i,.inl j],.int d)]:=by rw[e2];simp[dtiV]
   let#[o,es,ep,ho,hx,h3,h4,_,h5]:=NJ;have new:ObjOk X.prog X.w (upd H a (.dT (dtiV (sdD a_ i j d)))) h' a (.dT (dtiV (sdD a_ i j d))):=by
    refine#[by rw[e3,HF];simp[dtiV];lia,hd,_,?_,o,es,ep,ho,hx,h3,h4,h5];rw[e3];refine KT.keeps (H:=H) (Paired.snoc (a:=(([.inl i,.inl j]:List Key),V.int d)) (b:=(([.inl i,.inl j]:List Key),b,Value.int d t)) Lj #[rfl,g6,#[t,rfl]]) λc ys ec=>?_;rw[ar (xp ec ha (λz=>nomatch z))];exact ec
   exact#[.int d,_,A9 I (by rw[ha];exact True.intro) hs #[o,ho] new,#[t,rfl],q d]
section
variable {X:Cx}[J:Jm]{a b c e o f:U7}{ta tb tc te to:TME}{pos b7 a8:Vf}{t:TMA}
def mD0:TME:=λ_ M R=>R (.dti []) M
def Bv:ME X (.Dict [] [] pos) mD0:=⟨pe_dnewT.anti λs H Q q=>by
 let#[F,z,M,k,rs,R,h1,h2]:=q;intro p hp;have gn:=Grow.new k.fh hp (.dT []);exact h2 _ _ M _ _ gn.toM h1 (rep_dti.mpr #[p,rfl,aC]) (rs.rm.grow gn)⟩
def mDN:TME:=λ_ M R=>∀p,p∉av M->R (.ptr p) ((p,.dti [])::M)
def Bw:ME X (.Dict [] [] pos) mDN:=⟨pe_dnewT.anti λs H Q q=>by
 let#[F,z,M,k,rs,R,h1,h2]:=q;intro p hp;exact h2 _ _ _ F _ (GrowM.new k.fh hp) (h1 p λz=>rs.rm.here z hp) (rep_ptr.mpr rfl) (rs.rm.new k.fh hp aC)⟩
def kdK(ds:List D)(k:Int->Int->Int->Prop):Prop:=kd2 ds λa b=>kdT a λl=>kd2 l λx y=>kdI x λi=>kdI y λj=>kdI b (k i j)
def kdK.of{ds:List D}{k:Int->Int->Int->Prop}(h:kdK ds k):∃i j x,ds=[.tup [.int i,.int j],.int x]/\k i j x:=by
 let#[a,b,rfl,h2]:=kd2.of h;let#[l,rfl,h3]:=kdT.of h2;let#[x,y,rfl,h4]:=kd2.of h3;let#[i,rfl,h5]:=kdI.of h4;let#[j,rfl,h6]:=kdI.of h5;let#[v,rfl,h7]:=kdI.of h6;exact#[i,j,v,rfl,h7]
def By(to:TME)(t:TMA):TME:=λz M R=>to z M λd M1=>match d with|.dti a_=>(t z M1 λds M2=>kdK ds λi j x=>R (.int ((lookD a_ i j).getD x)) M2)|_=>False
def Bz(hu:X.A.units+1<Wd)(ho:ME X o to)(ha:MA X [e,f] t)(b_:(Vb o "get" X.env (Vc o X.env)=Vc o X.env)\zA0)
  (d_:zHF X a8 [e,f]\zA0)
  (c9:((b7.endLine==a8.line)=true)\zA0) (j7:zSE X e [f]\zA0) (c_:zPL X a8 [f]\zA0):
  ME X (.Call (.Attribute o "get" b7) [e,f] [] a8) (By to t):=⟨(du PySem.F.plainAttrs_dict PySem.F.slot_dict_get PySem.F.type_dict_get (Bs hu) ho.out ha.out b_ d_ c9 j7 c_).anti λs H Q h=>by
 let#[F,z,M,k,rs,R,h1,h2]:=h;refine#[F,z,M,k,rs,_,h1,λx u M1 F1 H1 g1 hx rx m1=>?_];split at hx
 .rename_i a_;let#[p,rfl,hp]:=rep_dti.mp rx;refine#[.inr (.inr (.inl #[rfl,.inr #[_,g1.fh _ _ hp]])),?_];refine#[F1,z,M1,k.growM rs.mb g1,rs.growM k.bh g1 m1,_,hx,λds vs M2 F2 H2 g2 hd rd m2=>?_];let#[i,j,x,rfl,hd]:=kdK.of hd
  focus
   let#[v1,r1,rfl,q1,q2]:=reps_cons.mp rd;let#[v2,r2,rfl,q3,q4]:=reps_cons.mp q2;rw[reps_nil.mp q4,rep_int.mp q3];let#[b,us,rfl,hb,ru]:=rep_tupS.mp q1;have P6:us=[.int i,.int j]:=(Reps.ints (ns:=[i,j])).mp ru;subst P6;exact#[p,b,i,j,x,a_,rfl,rfl,g2.fh _ _ (g2.ff _ _ hp),g2.fh _ _ hb,h2 _ _ M2 F2 H2 (g1.trans g2) hd (rep_int.mpr rfl) m2]
 .exact hx.elim⟩
def mDsd(to:TME)(t:TMA):TME:=λz M R=>to z M λd M1=>match d with|.ptr a=>(∃a_,mget M1 a=be (.dti a_))/\(t z M1 λds M2=>kdK ds λi j x=>∃a_,mget M2 a=be (.dti a_)/\a_.length<100000/\∀w,R (.int w) (mput M2 a (.dti (sdD a_ i j x))))|_=>False
def BA(hu:X.A.units+1<Wd)(ho:ME X o to)(ha:MA X [e,f] t)(b_:(Vb o "setdefault" X.env (Vc o X.env)=Vc o X.env)\zA0)
  (d_:zHF X a8 [e,f]\zA0)
  (c9:((b7.endLine==a8.line)=true)\zA0) (j7:zSE X e [f]\zA0) (c_:zPL X a8 [f]\zA0):
  ME X (.Call (.Attribute o "setdefault" b7) [e,f] [] a8) (mDsd to t):=⟨(du PySem.F.plainAttrs_dict PySem.F.slot_dict_setdefault PySem.F.type_dict_setdefault (Bu hu) ho.out ha.out b_ d_ c9 j7 c_).anti λs H Q h=>by
 let#[F,z,M,k,rs,R,h1,h2]:=h;refine#[F,z,M,k,rs,_,h1,λx u M1 F1 H1 g1 hx rx m1=>?_];split at hx
 .rename_i a;let#[#[UI,PY],hx]:=hx;rw[rep_ptr.mp rx];refine#[.inr (.inr (.inl #[rfl,.inr #[_,m1.ok _ _ (bD PY)]])),?_];refine#[F1,z,M1,k.growM rs.mb g1,rs.growM k.bh g1 m1,_,hx,λds vs M2 F2 H2 g2 hd rd m2=>?_];let#[i,j,x,rfl,a_,hm,hl,hR]:=kdK.of hd
  focus
   let#[v1,r1,rfl,q1,q2]:=reps_cons.mp rd;let#[v2,r2,rfl,q3,q4]:=reps_cons.mp q2;rw[reps_nil.mp q4,rep_int.mp q3];let#[b,us,rfl,hb,ru]:=rep_tupS.mp q1;have P6:us=[.int i,.int j]:=(Reps.ints (ns:=[i,j])).mp ru;subst P6;refine#[a,b,i,j,x,a_,rfl,rfl,m2.ok _ _ (bD hm),g2.fh _ _ hb,hl,λw=>?_];exact h2 _ _ _ F2 _ (g1.trans (g2.trans (GrowM.put g2.fh (m2.fr a (bV (bD hm))) hm))) (hR w) (rep_int.mpr rfl) (m2.put hm aC)
 .exact hx.elim⟩
end
section
variable {P:U5}{w:U'}{K:Ex}{mg:Lq->Option Os}{base:Heap}
open Classical in
def Cls.okIM{x qual:Lq}{st:U6}{f C:Pi}{fd:Vd}{N:List Lq}{p0:Lq}{ps:List Lq}{k:Nat}{S:SiD}(T:Fun K "__init__" qual st f fd)(hb:Binds K fd (p0::ps) [])(F:FnScope N (p0::ps) (ag st))(len:∀ds R,S ds R->ds.length=ps.length)
  (hns:nsIn K SL x=be (be (.ref C))) (l_:mg x=be (.ref C)) (mk:Mk K C f)
  (a9:∀(cdv:Os) (A:U_) (outer:List VP) (s:SB) (H:Hp) (E:XK) (J:Jm),Room k (A.deeper (Vg qual (ag st) s.heap.objs.size f cdv))->XOkM (cxOf (CX1 P w) P w K mg base N qual (ag st) f cdv A outer s H E).nox->
   ∃t,MSs (cxOf (CX1 P w) P w K mg base N qual (ag st) f cdv A outer s H E).nox (aJ st) t/\∀a ds R,(∀z M x fs,¬J.RM z M x fs)->S ds R->t {nx:=λ_ M'=>∃fs,M'=[(a,.ins x fs)]/\R fs,rt:=λ_ _=>False} (startD N (.ptr a::ds)) [(a,.ins x [])]):CalM P w K mg base (k+1) x (p0::ps) S:=by
 refine#[C,f,fd,hns,l_,mk,Fun.okC T F (λvs H Q E h=>?_) (λcdv A outer s H vs Q E hr h=>?_),hb]
 .obtain⟨a,dx,us,H1,F,ds,rfl,_,_,_,_,_,rs,R,h,_⟩:=h;rw[HA,HA,rs.length,len ds R h]
 .obtain⟨a,dx,us,H1,F1,ds,rfl,rfl,ha,s9,k_,fh,rs,R,h,q⟩:=h
  let H:Hp:=upd (upd H1 dx (.own a)) a (.ins C dx [])
  let B:Hp:=λb=>if b=a then w6 else H b
  have NR:B a=none:=if_pos rfl;have hB:∀{b:Pi},b≠a->B b=H b:=λ{b} h=>if_neg h;have o9:∀{b:Pi} {o:HO},H1 b=be o->b≠a/\H b=be o:=λ{b o} e=>by
   have n1:b≠a:=bH e ha;exact#[n1,by show upd _ _ _ b=_;rw[ar n1,ar (bH e s9)];exact e]
  letI:Jm:={B:=B,F0:=F1,RX:=λ_ _ _=>False,RM:=λ_ _ _ _=>False}
  have hx:XOkM (cxOf (CX1 P w) P w K mg base N qual (ag st) f cdv A outer s H E).nox:=λσ z M' F' H' s' e C od y fs I kk rr hR er _=>hR.elim;let#[t,ht,hq]:=a9 cdv A outer s H E inferInstance hr hx;have Fa:F1 a=none:=fh.free ha;have k0:Kept B F1 F1 H:=⟨λb o e=>by
   by_cases n:b=a
   .rw[n,NR]at e;cases e
   .rw[hB n]at e;exact e,λb o e=>(o9 (fh b o e)).2,Same.refl F1,λ_ h _=>h,rfl,Same.refl F1,λ_ h _=>h⟩
  have F_:Reps K F1 (.ptr a::ds) (.ref a::us):=reps_cons.mpr #[_,_,rfl,rep_ptr.mpr rfl,rs];have P7:RepM K F1 H [(a,.ins x [])]:=⟨by simp[av],λb o hb=>by
   have e:=Hv.mp hb;cases e;exact#[C,dx,[],hns,aC,repf_nil.mpr rfl],λb hb=>by
   have e:b=a:=by simpa[av]using hb
   rw[e];exact Fa⟩
  have r0:RepZ K B F1 H (startD N (.ptr a::ds)) (L2.start N (.ref a::us)) [(a,.ins x [])]:=⟨dS F_,kO F_,P7,λb hb=>by
   have e:b=a:=by simpa[av]using hb
   rw[e];exact NR⟩
  refine#[_,ht.out.nox,F1,F1,_,_,k0,r0,_,hq a ds R (λ_ _ _ _ z=>z) h,#[λz' s' M' F' H' kk hn r=>?_,λd v M' F' H' kk hd rd P0 mb=>hd.elim,λ_ _ _ _ _ _ h _=>h.elim,λ_ _ _ _ _ _ h _=>h.elim]];let#[fs,rfl,hR]:=hn;let#[C',LD,ws,i_,g7,rf]:=r.rm.ok a _ (Hv.mpr rfl);have Lf:nsIn K SL x=be (be (.ref C')):=i_;rw[hns]at Lf;cases Lf;exact q fs ws LD F' H' ⟨kk.f0,kk.fh,λb o e=>kk.bh b o (by show B b=be o;rw[hB (o9 e).1];exact(o9 e).2),λb h1 h2=>kk.out b h1 (by
   show B b≠w6;cases e:H1 b with
   |none=>exact absurd e h2
   |some o=>rw[hB (o9 e).1,(o9 e).2];exact λz=>nomatch z)⟩ hR g7 (r.rm.fr a (by simp[av])) rf
end
section
variable {P:U5}{w:U'}{K:Ex}{mg:Lq->Option Os}{base:Heap}{n:Nat}{x m:Lq}{ps:List Lq}
variable{S:SpM}
def CalMth.one(h:CalMth P w K mg base n x m ps (lSpM K S)):∀y,y∈[x]->CalMth P w K mg base n y m ps (lSpM K ((λ_=>S) y)):=λy hy=>by
 rw[Hv.mp hy];exact h
def tP{f:Pi}{fd:Vd}{sp:Sp}(h:∀vs H Q E,¬sp vs H Q E):FnOk P w K mg base (CX1 P w) n f fd ps sp:=#[λvs H Q E q=>(h _ _ _ _ q).elim,λA outer s H args us vs Q E _ _ _ _ q=>(h _ _ _ _ q).elim]
def tQ(h:∀ds M R RX,¬S ds M R RX):∀vs H Q E,¬lSpM K S vs H Q E:=by
 intro vs H Q E#[F,ds,M,_,_,_,R,RX,q,_];exact h ds M R RX q
def CalMth.never{qual:Lq}{st:U6}(T:Txm K x m qual st ps)(h:∀ds M R RX,¬S ds M R RX):CalMth P w K mg base n x m ps (lSpM K S):=by
 let#[C,f,fd,h1,h2,h3,T,hb]:=T;exact#[C,f,fd,h1,h2,h3,tP (tQ h),hb]
def CalMM.never{st:U6}(T:Tx K mg x st ps)(h:∀ds M R RX,¬S ds M R RX):CalMM P w K mg base n x ps S:=by
 let#[f,fd,T,hb,hm]:=T;exact#[f,fd,tP (tQ h),hb,T.kp,hm]
end
section
variable {X:Cx}[J:Jm]{a b c e:U7}{ta tb:TME}{pos:Vf}
def mUn(r:D->(D->Prop)->Prop)(ta:TME):TME:=λz M R=>ta z M λx M1=>r x λd=>R d M1
end
def kQ(S:SpM):SpM:=λds M R RX=>∃M1 M2,M=M1++M2/\S ds M2 (λd M'=>R d (M1++M')) λx fs M'=>RX x fs (M1++M')
def keys_app{M1 M2:MS}:a∈av (M1++M2)↔a∈av M1\/a∈av M2:=by unfold av;rw[Ia,HX]
variable{K:Ex}{vs:List V}
def tR{S:SpM}{Q:VK}{E:XK}(h:lSpM K (kQ S) vs H Q E):lSpM K S vs H Q E:=by
 let#[F,ds,M,fh,rs,rm,R,RX,#[M1,M2,rfl,hS],q,qx]:=h;have nd:(av M1++av M2).Nodup:=by have:=rm.nd;unfold av at this ⊢;rw[Ia]at this;exact this
 have P8:∀{a:Pi},a∈av M1->a∉av M2:=λ{a} h1 h2=>(IY.mp nd).2.2 a h1 a h2 rfl;have TK:RepM K F H M2:=#[(IY.mp nd).2.1,λa o h=>rm.ok a o (HU _ h),λa h=>rm.fr a (keys_app.mpr (.inr h))];have up:∀{M':MS} {F' H':Hp},GrowM M2 M' F H F' H'->RepM K F' H' M'->GrowM (M1++M2) (M1++M') F H F' H'/\RepM K F' H' (M1++M'):=λ{M' F' H'} g r=>by
  have G':∀{a:Pi},a∈av M1->H a≠none:=λ{a} h=>rm.here (keys_app.mpr (.inl h));have P9:∀{a:Pi},a∈av M1->a∉av M':=λ{a} h1 h2=>by
   rcases g.ks a h2 with z|z
   .exact P8 h1 z
   .exact G' h1 z
  refine#[#[g.ff,g.fh,λb o nb e=>g.hh b o (λz=>nb (keys_app.mpr (.inr z))) e,λb nb h1 h2=>g.out b (λz=>nb (keys_app.mpr (.inr z))) h1 h2,λb hb=>?_],#[?_,λa o h=>?_,λa h=>?_]]
  .rcases keys_app.mp hb with z|z
   .exact .inl (keys_app.mpr (.inl z))
   .exact(g.ks b z).imp (λz=>keys_app.mpr (.inr z)) id
  .unfold av;rw[Ia];exact IY.mpr #[(IY.mp nd).1,r.nd,λa h1 b h2 e=>P9 h1 (e ▸ h2)]
  .rcases HX.mp h with z|z
   .have ka:a∈av M1:=bV z;exact(rm.ok a o (IR _ z)).mono g.ff λo e=>g.hh a o (P8 ka) e
   .exact r.ok a o z
  .rcases keys_app.mp h with z|z
   .exact g.out a (P8 z) (rm.fr a (keys_app.mpr (.inl z))) (G' z)
   .exact r.fr a z
 exact#[F,ds,M2,fh,rs,TK,_,_,hS,λd v M' F' H' g hd rd m'=>q d v _ F' H' (up g m').1 hd rd (up g m').2,λx fs C od M' F' H' g hR er m'=>qx x fs C od _ F' H' (up g m').1 hR er (up g m').2]
section
variable {P:U5}{w:U'}{K:Ex}{mg:Lq->Option Os}{base:Heap}{n:Nat}{x m:Lq}{ps:List Lq}{S:SpM}
def CalMM.frame(C:CalMM P w K mg base n x ps S):CalMM P w K mg base n x ps (kQ S):=C.imp λ_ _ _ _ h=>tR h
def CalMth.frame(C:CalMth P w K mg base n x m ps (lSpM K S)):CalMth P w K mg base n x m ps (lSpM K (kQ S)):=C.imp λ_ _ _ _ h=>tR h
end
def nilX(S:SpX):SpM:=λds M R RX=>M=[]/\∃(R0:D->Prop) (x8:XD),S ds R0 x8/\(∀d M',R0 d->R d M')/\∀x fs M',x8 x fs->RX x fs M'
def CalMM.nilX{P:U5}{w:U'}{mg:Lq->Option Os}{base:Heap}{n:Nat}{x:Lq}{ps:List Lq}{S:SpX}(C:CalMM P w K mg base n x ps (nilX S)):CalX P w K mg base n x ps S:=C.toX λ_ R RX h=>#[rfl,R,RX,h,λ_ _ h=>h,λ_ _ _ h=>h]
mutual
def cw:D->Bool
 |.non=>true|.bl _=>true|.int _=>true|.str _=>true|.ptr _=>true
 |.tup ds=>flats ds
 |.lst ds=>flats ds
 |_=>false
def flats:List D->Bool
 |[]=>true
 |d::ds=>cw d&&flats ds
end
def cutF(F:Hp)(a:Pi):Hp:=λb=>if b=a then w6 else F b
variable{F:Hp}
def gC{b:Pi}(h:b≠a):cutF F a b=F b:=if_neg h
mutual
def Rep.cutF{K:Ex}{F:Hp}{a:Pi}{C:Pi}{dx:Pi}{ws:List (Lq×V)}(ea:F a=be (.ins C dx ws)):∀(d:D) (v:V),cw d=true->Rep K F d v->Rep K (My.cutF F a) d v
 |.non,v,_,h=>by unfold Rep at h ⊢;exact h
 |.bl b,v,_,h=>by unfold Rep at h ⊢;exact h
 |.int b,v,_,h=>by unfold Rep at h ⊢;exact h
 |.str b,v,_,h=>by unfold Rep at h ⊢;exact h
 |.ptr b,v,_,h=>by unfold Rep at h ⊢;exact h
 |.tup ds,v,n,h=>by
  unfold Rep at h ⊢;let#[p,vs,e,q,r]:=h;have ne:p≠a:=λz=>by rw[z,ea]at q;cases q
  exact#[p,vs,e,by rw[gC ne];exact q,Reps.cutF ea ds vs (by unfold cw at n;exact n) r]
 |.lst ds,v,n,h=>by
  unfold Rep at h ⊢;let#[p,vs,e,q,r]:=h;have ne:p≠a:=λz=>by rw[z,ea]at q;cases q
  exact#[p,vs,e,by rw[gC ne];exact q,Reps.cutF ea ds vs (by unfold cw at n;exact n) r]
 |.rol _,_,n,_=>by unfold cw at n;cases n
 |.obj _ _,_,n,_=>by unfold cw at n;cases n
 |.exc _ _,_,n,_=>by unfold cw at n;cases n
 |.own _,_,n,_=>by unfold cw at n;cases n
 |.dti _,_,n,_=>by unfold cw at n;cases n
def Reps.cutF{K:Ex}{F:Hp}{a:Pi}{C:Pi}{dx:Pi}{ws:List (Lq×V)}(ea:F a=be (.ins C dx ws)):∀(ds:List D) (vs:List V),flats ds=true->Reps K F ds vs->Reps K (My.cutF F a) ds vs
 |[],vs,_,h=>by unfold Reps at h ⊢;exact h
 |d::ds,vs,n,h=>by
  unfold flats at n;rw[HV]at n;unfold Reps at h ⊢;let#[v,r,e,q1,q2]:=h;exact#[v,r,e,Rep.cutF ea d v n.1 q1,Reps.cutF ea ds r n.2 q2]
end
def lendD(a:Pi)(o:D)(d:D):D:=match d with|.ptr b=>if b=a then o else .ptr b|d=>d
def lend(S:SpX):SpM:=λds M R _=>∃a x fs,mget M a=be (.ins x fs)/\S (ds.map (lendD a (.obj x fs))) (λd=>cw d=true/\R d M) λ_ _=>False
def BB{F2:Hp}{o d:D}{v:V}(g:Same F F2)(ro:Rep K F2 o (.ref a))(h:Rep K F d v):Rep K F2 (lendD a o d) v:=by
 unfold lendD;split
 .rename_i b;split
  .rename_i e;rw[rep_ptr.mp h,e];exact ro
  .exact rep_ptr.mpr (rep_ptr.mp h)
 .exact h.mono g
def BC{F2:Hp}{o:D}(g:Same F F2)(ro:Rep K F2 o (.ref a)){ds:List D}:∀{vs:List V},Reps K F ds vs->Reps K F2 (ds.map (lendD a o)) vs:=by
 induction ds with
 |nil=>intro vs h;rw[reps_nil.mp h];exact reps_nil.mpr rfl
 |cons d ds ih=>
  intro vs h;let#[v,r,rfl,q1,q2]:=reps_cons.mp h;exact reps_cons.mpr #[v,r,rfl,BB g ro q1,ih q2]
def BD{S:SpX}{Q:VK}{E:XK}(h:lSpM K (lend S) vs H Q E):lSpX K S vs H Q E:=by
 let#[F,ds,M,fh,rs,rm,R,RX,#[a,x,fs,hm,hS],q,qx]:=h;have ma:=bD hm;let#[C,dx,ws,n,hH,rf]:=rm.ok _ _ ma;have fa:=rm.fr a (bV ma);have g:Same F (upd F a (.ins C dx ws)):=aR fa _;have g2:Same (upd F a (.ins C dx ws)) H:=λb o e=>by
  by_cases hb:b=a
  .subst hb;rw[aC]at e;cases e;exact hH
  .rw[ar hb]at e;exact fh b o e
 have ro:Rep K (upd F a (.ins C dx ws)) (.obj x fs) (.ref a):=by
  unfold Rep;exact#[a,C,dx,ws,rfl,n,aC,RepF.mono g fs ws rf]
 refine#[upd F a (.ins C dx ws),_,g2,BC g ro rs,_,_,hS,λd v F' H' g' hd rd=>?_,λ_ _ _ _ _ _ _ z=>z.elim];have ea:F' a=be (.ins C dx ws):=g'.ff a _ aC;have ff:Same F (cutF F' a):=λb o e=>by
  have ne:b≠a:=λz=>by rw[z,fa]at e;cases e
  rw[gC ne];exact g'.ff b o (by rw[ar ne];exact e)
 have TL:Same (cutF F' a) H':=λb o e=>by
  by_cases hb:b=a
  .subst hb;unfold cutF at e;rw[if_pos rfl]at e;cases e
  .rw[gC hb]at e;exact g'.fh b o e
 have out:∀b,F b=w6->H b≠w6->cutF F' a b=none:=λb h1 h2=>by
  by_cases hb:b=a
  .subst hb;exact if_pos rfl
  .rw[gC hb];exact g'.out b (by rw[ar hb];exact h1) h2
 exact q d v M (cutF F' a) H' #[ff,TL,λb o _ e=>g'.hh b o e,λb _ h1 h2=>out b h1 h2,λb z=>.inl z] hd.2 (Rep.cutF ea d v hd.1 rd)
  #[rm.nd,λb o hb=>(rm.ok b o hb).mono ff λo e=>g'.hh b o e,λb hb=>out b (rm.fr b hb) (rm.here hb)]
def NoOwn(z:SD):Prop:=∀(i:Nat) ds,z[i]?≠be (be (.own ds))
def ofB(B H:Hp)(M:MS):Hp:=λb=>if b∈av M then H b else B b
def jOf(B H F:Hp)(M:MS):Jx:=#[ofB B H M,F,λ_ _ _=>False]
def endD(E:EndsM)(M:MS):EndsD:=#[λz=>E.nx z M/\NoOwn z,λd=>E.rt d M,λz=>E.bk z M/\NoOwn z,λz=>E.ct z M/\NoOwn z]
def mPS(t:TSD):TMS:=λE z M=>t (endD E M) z
section
variable {X:Cx}[J:Jm]
variable{B H:Hp}{M:MS}
def kR{b:Pi}(h:b∈av M):ofB B H M b=H b:=if_pos h
def kS{b:Pi}(h:b∉av M):ofB B H M b=B b:=if_neg h
variable{K:Ex}{F0 F:Hp}{z:SD}{s:L2.St}
def dE{F' H':Hp}(k:Kept J.B F0 F H)(rz:RepZ K J.B F H z s M)(k':@Kept (jOf J.B H F M) (ofB J.B H M) F F' H'):Kept J.B F0 F' H'/\RepM K F' H' M:=by
 have nk:∀b,J.B b≠w6->b∉av M:=λb e z=>e (rz.mb b z);let#[bh,fh,f0,out,_,_,_]:=k';refine#[#[λb o e=>?_,fh,k.f0.trans f0,λb h1 h2=>?_,k.eb,k.jf,k.jo],rz.rm.nd,λb o hb=>(rz.rm.ok b o hb).mono f0 λo e=>?_,λb hb=>?_]
 .exact bh b o (by rw[kS (nk b (by rw[e];exact λz=>nomatch z))];exact e)
 .exact out b (k.out b h1 h2) (by rw[kS (nk b h2)];exact h2)
 .exact bh b o (by rw[kR (bV hb)];exact e)
 .exact out b (rz.rm.fr b hb) (by rw[kR hb];exact rz.rm.here hb)
def gD{B':Hp}(r:RepS K B F H z s)(no:NoOwn z):RepS K B' F H z s:=#[r.len,r.val,λi ds e=>absurd e (no i ds),r.apart]
def tS(k:Kept J.B F0 F H):@Kept (jOf J.B H F M) (ofB J.B H M) F F H:=
 @Kept.mk (jOf J.B H F M) _ _ _ _ (λb o e=>by
  by_cases hb:b∈av M
  .rw[kR hb]at e;exact e
  .rw[kS hb]at e;exact k.bh b o e) k.fh (Same.refl F) (λ_ h _=>h) rfl (Same.refl F) (λ_ h _=>h)
def tT{ED:EndsM}{D:Ends}(k:Kept J.B F0 F H)(rz:RepZ K J.B F H z s M)(e:EndsOkM K F0 ED D):@EndsOk (jOf J.B H F M) K (ofB J.B H M) F (endD ED M) D:=
 @EndsOk.mk (jOf J.B H F M) _ _ _ _ _ (λz' s' F' H' k' hz r'=>e.nx z' s' M F' H' (dE k rz k').1 hz.1 #[gD r' hz.2,hz.2,(dE k rz k').2,rz.mb])
  (λd v F' H' k' hd rd=>e.rt d v M F' H' (dE k rz k').1 hd rd (dE k rz k').2 rz.mb)
  (λz' s' F' H' k' hz r'=>e.bk z' s' M F' H' (dE k rz k').1 hz.1 #[gD r' hz.2,hz.2,(dE k rz k').2,rz.mb])
  (λz' s' F' H' k' hz r'=>e.ct z' s' M F' H' (dE k rz k').1 hz.1 #[gD r' hz.2,hz.2,(dE k rz k').2,rz.mb])
def BE{st:U6}{t:TSD}(h:∀J':Jx,@WDS X J' st t):MSt X st (mPS t):=⟨λpins s σ H D I q=>by
 let#[F0,F,z,M,k,rz,ED,ht,e]:=q;exact @WDS.out X (jOf J.B H F M) st t (h _) pins s σ H D I #[ofB J.B H M,F,F,z,tS k,gD rz.rs rz.no,_,ht,tT k rz e]⟩
def mTry(tb:Jm->TMS)(th:TH):TMS:=λE z M=>∃RM:SD->MS->XD,(∀J':Jm,J'.RM=RM->tb J' E z M)/\∀z' M' x fs,RM z' M' x fs->th x fs (endD E M') z'
def jTry(B F0:Hp)(RM:SD->MS->XD):Jm:={B:=B,F0:=F0,RX:=λ_ _ _=>False,RM:=RM}
variable{RM:SD->MS->XD}
def Kept.reM(k:Kept J.B F0 F H):@Kept (jTry J.B F0 RM).toJx J.B F0 F H:=@Kept.mk (jTry J.B F0 RM).toJx J.B F0 F H k.bh k.fh k.f0 k.out rfl (Same.refl F0) (λ_ h _=>h)
def Kept.unM{F' H':Hp}(k:Kept J.B F0 F H)(k':@Kept (jTry J.B F0 RM).toJx J.B F0 F' H'):Kept J.B F0 F' H':=by
 let#[a,b,c,d,_,_,_]:=k';exact#[a,b,c,d,k.eb,k.jf,k.jo]
def tU{body:List U6}{h₀:VA}{hs:List VA}{pos:Vf}{tb:Jm->TMS}{th:TH}
  (hb:∀(pn:List (Pi×Vk)) (xe:Os->SB->Prop) (J':Jm),Vp (U4 X.prog X.w) X.A X.env xe->@XOkM (X.tried pn xe) J'->@MSs (X.tried pn xe) J' body (tb J'))
  (hh:∀J':Jx,@WDH X J' (h₀::hs) th) (f9:(X.ex=[])\zA0) (C_:(X.stack=X.env::X.outer)\zA0) (n6:(X.env.frame=be X.env.locals)\zA0):MSt X (.Try body (h₀::hs) [] [] pos) (mTry tb th):=⟨by
 intro pins s σ H D I h;let#[F0,F,z,M,k,rz,ED,#[RM,h1,h2],ee]:=h;have ok:=I.ok;have hx:@XOkM (X.tried (X.pn++pins) (λe s₁=>U8 (U4 X.prog X.w) X.A (VW e X.env) (λ_ s₂=>U8 (U4 X.prog X.w) X.A (Wb e w6) (λ_ s₃=>U8 (U4 X.prog X.w) X.A (Wk e X.env (h₀::hs)) (SP X pins D) X.xe s₃) X.xe s₂) X.xe s₁)) (jTry J.B F0 RM):=by
  intro σ' z' M' F' H' s' e C od x fs I1 kk rr hR er hd;have k2:Kept J.B F0 F' H':=Kept.unM k kk;exact Ax (Inv.untried ok I1) hd f9 C_ n6 λs4 T2 I4 hl=>@WDH.out X (jOf J.B H' F' M') _ _ (hh _) pins s4 σ' H' D e C od T2 x fs (ofB J.B H' M') F' F' z' (endD ED M') I4 hl (tS k2) (gD rr.rs rr.no) er (h2 z' M' x fs hR) (tT k2 rr ee)
 refine wpAny_Try_except (Vj (@MSs.out _ (jTry J.B F0 RM) _ _ (hb (X.pn++pins) _ (jTry J.B F0 RM) PassesOwn.looking hx) [] s σ H D (Inv.tried I) ?_) (λf s1 q=>?_) λe s1 q=>q)
 .exact#[F0,F,z,M,Kept.reM k,rz,ED,h1 (jTry J.B F0 RM) rfl,@EndsOkM.mk (jTry J.B F0 RM) _ _ _ _ (λz' s' M' F' H' k'=>ee.nx z' s' M' F' H' (Kept.unM k k')) (λd v M' F' H' k'=>ee.rt d v M' F' H' (Kept.unM k k')) (λz' s' M' F' H' k'=>ee.bk z' s' M' F' H' (Kept.unM k k')) (λz' s' M' F' H' k'=>ee.ct z' s' M' F' H' (Kept.unM k k'))]
 .have q:=SP.untried ok q;cases f with
  |next=>exact VL q
  |ret v=>exact q
  |brk=>exact q
  |cont=>exact q⟩
end
end My
namespace My
section
variable {K:Ex}{h:Heap}{mg:Lq->Option Os}{x y m q f:Lq}{st:U6}{ps:List Lq}
abbrev NsC(K:Ex)(x:Lq)(C:Pi):Prop:=nsIn K SL x=be (be (.ref C))
variable{C:Pi}
def NsC.uniq{D:Pi}(a:NsC K x C)(b:NsC K x D):C=D:=by
 have e:=a.symm.trans b;cases e;rfl
abbrev BindA(x q:Lq)(st:U6)(ps:List Lq):Prop:=∀(kV doc pm:Os) (an:Option Pi) (cdv ct:Os) (us:List Os),us.length=ps.length->VI (fnOf x q (bB st) (aJ st) (ag st) .none kV doc pm an cdv ct) #[us,[]]=pure (ps.zip us)
def FnIn(K:Ex)(x:Lq)(st:U6):Prop:=∃f fd,NsC K x f/\Fun K x x st f fd
variable{oc kV dc pm cd ct:Os}{od an:Option Pi}{sl:Array (Option Os)}
def fnIn_mk{f:Pi}(a:nsIn K SL x=be (be (.ref f)))(l:K.lookup f=be #[oc,od,.func (fnOf x x (bB st) (aJ st) (ag st) .none kV dc pm an cd ct),sl])(c:codeIn K cd x=true)(k:keepIn K (.ref f)=true):FnIn K x st:=#[f,_,a,hV l c k]
def FnIn.tx(T:FnIn K x st)(X:K.In h)(G:h.Ns SL mg)(b:BindA x x st ps\zA7):Tx K mg x st ps:=by
 let#[f,fd,a,F]:=T;exact#[f,fd,F,F.binds b,mg_of X G a]
def FnIn.law{p:Lq}(T:FnIn K x st)(X:K.In h)(G:h.Ns SL mg){fa:Pi}(NE:mg x=be (.ref fa))(b:∀(kV doc pm:Os) (an:Option Pi) (cdv ct v:Os),VI (fnOf x x (bB st) (aJ st) (ag st) .none kV doc pm an cdv ct) #[[v],[]]=pure [(p,v)]):∃fd,(∀(s:SB) (v:Os),VY s fd #[[v],[]] [(p,v)])/\Fun K x x st fa fd:=by
 let#[f,fd,a,F]:=T;have e:=NE.symm.trans (mg_of X G a);cases e;refine#[fd,λs v=>?_,F];let#[oc,od,kV,doc,pm,an,cdv,ct,osl,rfl,lk,h_]:=F.ex;exact .of_eq (b _ _ _ _ _ _ v)
variable{us:List Os}
def bp{x:Lq}{xs:List Lq}(h:us.length=(x::xs).length):∃u t,us=u::t/\t.length=xs.length:=by
 cases us with
 |nil=>cases h
 |cons u t=>exact#[u,t,rfl,Nat.succ.inj h]
def len_0(h:us.length=([]:List Lq).length):us=[]:=JY h
variable{x0:Lq}
def BF(b:∀(kV doc pm:Os) (an:Option Pi) (cdv ct u0:Os),VI (fnOf x q (bB st) (aJ st) (ag st) .none kV doc pm an cdv ct) #[[u0],[]]=pure [(x0,u0)]):BindA x q st [x0]:=λkV doc pm an cdv ct us hl=>by
 let#[u0,t0,rfl,h0]:=bp hl;cases len_0 h0;exact b kV doc pm an cdv ct u0
variable{x1:Lq}
def bind2(b:∀(kV doc pm:Os) (an:Option Pi) (cdv ct u0 u1:Os),VI (fnOf x q (bB st) (aJ st) (ag st) .none kV doc pm an cdv ct) #[[u0,u1],[]]=pure [(x0,u0),(x1,u1)]):BindA x q st [x0,x1]:=λkV doc pm an cdv ct us hl=>by
 let#[u0,t0,rfl,h0]:=bp hl;let#[u1,t1,rfl,h1]:=bp h0;cases len_0 h1;exact b kV doc pm an cdv ct u0 u1
variable{x2:Lq}
def bind3(b:∀(kV doc pm:Os) (an:Option Pi) (cdv ct u0 u1 u2:Os),VI (fnOf x q (bB st) (aJ st) (ag st) .none kV doc pm an cdv ct) #[[u0,u1,u2],[]]=pure [(x0,u0),(x1,u1),(x2,u2)]):BindA x q st [x0,x1,x2]:=λkV doc pm an cdv ct us hl=>by
 let#[u0,t0,rfl,h0]:=bp hl;let#[u1,t1,rfl,h1]:=bp h0;let#[u2,t2,rfl,h2]:=bp h1;cases len_0 h2;exact b kV doc pm an cdv ct u0 u1 u2
variable{x3:Lq}
def bind4(b:∀(kV doc pm:Os) (an:Option Pi) (cdv ct u0 u1 u2 u3:Os),VI (fnOf x q (bB st) (aJ st) (ag st) .none kV doc pm an cdv ct) #[[u0,u1,u2,u3],[]]=pure [(x0,u0),(x1,u1),(x2,u2),(x3,u3)]):BindA x q st [x0,x1,x2,x3]:=λkV doc pm an cdv ct us hl=>by
 let#[u0,t0,rfl,h0]:=bp hl;let#[u1,t1,rfl,h1]:=bp h0;let#[u2,t2,rfl,h2]:=bp h1;let#[u3,t3,rfl,h3]:=bp h2;cases len_0 h3;exact b kV doc pm an cdv ct u0 u1 u2 u3
def bind5{x4:Lq}(b:∀(kV doc pm:Os) (an:Option Pi) (cdv ct u0 u1 u2 u3 u4:Os),VI (fnOf x q (bB st) (aJ st) (ag st) .none kV doc pm an cdv ct) #[[u0,u1,u2,u3,u4],[]]=pure [(x0,u0),(x1,u1),(x2,u2),(x3,u3),(x4,u4)]):BindA x q st [x0,x1,x2,x3,x4]:=λkV doc pm an cdv ct us hl=>by
 let#[u0,t0,rfl,h0]:=bp hl;let#[u1,t1,rfl,h1]:=bp h0;let#[u2,t2,rfl,h2]:=bp h1;let#[u3,t3,rfl,h3]:=bp h2;let#[u4,t4,rfl,h4]:=bp h3;cases len_0 h4;exact b kV doc pm an cdv ct u0 u1 u2 u3 u4
def bind6{x4 x5:Lq}(b:∀(kV doc pm:Os) (an:Option Pi) (cdv ct u0 u1 u2 u3 u4 u5:Os),VI (fnOf x q (bB st) (aJ st) (ag st) .none kV doc pm an cdv ct) #[[u0,u1,u2,u3,u4,u5],[]]=pure [(x0,u0),(x1,u1),(x2,u2),(x3,u3),(x4,u4),(x5,u5)]):BindA x q st [x0,x1,x2,x3,x4,x5]:=λkV doc pm an cdv ct us hl=>by
 let#[u0,t0,rfl,h0]:=bp hl;let#[u1,t1,rfl,h1]:=bp h0;let#[u2,t2,rfl,h2]:=bp h1;let#[u3,t3,rfl,h3]:=bp h2;let#[u4,t4,rfl,h4]:=bp h3;let#[u5,t5,rfl,h5]:=bp h4;cases len_0 h5;exact b kV doc pm an cdv ct u0 u1 u2 u3 u4 u5
structure ClF(K:Ex)(x:Str)(C:Pi):Prop where
 ns:NsC K x C
 cl:Cls K C
 ha:HB K (.ref C) "__class__"=be (be (.builtin "object.__class__"))
 hn:Iy K (.builtin "object.__class__") "__get__"=be (be (.builtin "getset_descriptor.__get__"))
 ht:Jf K (.builtin "object.__class__")=be true
 hm:Ig K C (.type "object")=be true
def ClIn(K:Ex)(x:Lq):Prop:=∃C,ClF K x C
def clIn_mk(a:nsIn K SL x=be (be (.ref C)))(pg:plainGet K C Str.empty=true)(hd:hasDictIn K C=true)(po:plainOver K C=true)(sa:HB K (.ref C) "__setattr__"=be (be (.builtin "object.__setattr__")))
  (ha:HB K (.ref C) "__class__"=be (be (.builtin "object.__class__"))) (hn:Iy K (.builtin "object.__class__") "__get__"=be (be (.builtin "getset_descriptor.__get__"))) (ht:Jf K (.builtin "object.__class__")=be true) (hm:Ig K C (.type "object")=be true):ClIn K x:=#[C,a,#[pg,hd,po,sa],ha,hn,ht,hm]
def NoIn(K:Ex)(x f:Lq):Prop:=∃C,NsC K x C/\HB K (.ref C) f=be w6
def noIn_mk(a:nsIn K SL x=be (be (.ref C)))(b:HB K (.ref C) f=be w6):NoIn K x f:=#[C,a,b]
def ClIn.a(c:ClIn K x)(n:NoIn K x f):ClsA K x f:=by
 let#[C,k]:=c;let#[D,a,b]:=n;cases NsC.uniq k.ns a;exact#[C,a,k.cl,b]
def NoIn.all(n:NoIn K x f):∀C,nsIn K SL x=be (be (.ref C))->HB K (.ref C) f=be none:=λC hC=>by
 let#[D,a,b]:=n;cases NsC.uniq hC a;exact b
def MtIn(K:Ex)(x m q:Lq)(st:U6):Prop:=∃C f fd,NsC K x C/\Meth K C m f/\Fun K m q st f fd
def mtIn_mk{f:Pi}(a:nsIn K SL x=be (be (.ref C)))(b:HB K (.ref C) m=be (be (.ref f)))(i:isFn K (.ref f)=true)(l:K.lookup f=be #[oc,od,.func (fnOf m q (bB st) (aJ st) (ag st) .none kV dc pm an cd ct),sl])(c:codeIn K cd q=true)(k:keepIn K (.ref f)=true):MtIn K x m q st:=#[C,f,_,a,#[b,i,k],hV l c k]
def MtIn.txm(T:MtIn K x m q st)(c:ClIn K x)(b:BindA m q st ps\zA7):Txm K x m q st ps:=by
 let#[C,k]:=c;let#[D,f,fd,a,mt,F]:=T;cases NsC.uniq k.ns a;exact#[C,f,fd,a,k.cl,mt,F,F.binds b]
def InIn(K:Ex)(x q:Lq)(st:U6):Prop:=∃C f fd,NsC K x C/\Mk K C f/\Fun K "__init__" q st f fd
def inIn_mk{f:Pi}(a:nsIn K SL x=be (be (.ref C)))(mk:makesIn K C=true)(b:HB K (.ref C) "__init__"=be (be (.ref f)))(i:isFn K (.ref f)=true)(kp:keepIn K (.ref C)=true)(l:K.lookup f=be #[oc,od,.func (fnOf "__init__" q (bB st) (aJ st) (ag st) .none kV dc pm an cd ct),sl])(c:codeIn K cd q=true)(k:keepIn K (.ref f)=true):InIn K x q st:=#[C,f,_,a,#[mk,b,i,kp],hV l c k]
def Txi(K:Ex)(mg:Lq->Option Os)(x q:Lq)(st:U6)(ps:List Lq):Prop:=∃C f fd,NsC K x C/\mg x=be (.ref C)/\Mk K C f/\Fun K "__init__" q st f fd/\Binds K fd ps []
def InIn.txi(T:InIn K x q st)(X:K.In h)(G:h.Ns SL mg)(b:BindA "__init__" q st ps\zA7):Txi K mg x q st ps:=by
 let#[C,f,fd,a,mk,F]:=T;exact#[C,f,fd,a,mg_of X G a,mk,F,F.binds b]
def CiIn(K:Ex)(x:Lq)(i:Int):Prop:=∃t,nsIn K SL x=be (be (.int i t))
def CsIn(K:Ex)(x y:Lq):Prop:=∃t,nsIn K SL x=be (be (.str y t))
def ciIn_mk{i:Int}{t:WZ}(a:nsIn K SL x=be (be (.int i t))):CiIn K x i:=#[t,a]
def csIn_mk{t:WZ}(a:nsIn K SL x=be (be (.str y t))):CsIn K x y:=#[t,a]
def CiIn.g{i:Int}(c:CiIn K x i)(X:K.In h)(G:h.Ns SL mg):∃t,mg x=be (.int i t):=let ⟨t,a⟩:=c;#[t,mg_of X G a]
def CsIn.g(c:CsIn K x y)(X:K.In h)(G:h.Ns SL mg):∃t,mg x=be (.str y t):=let ⟨t,a⟩:=c;#[t,mg_of X G a]
def NnIn(K:Ex)(x:Lq):Prop:=nsIn K SL x=be w6
def nnIn_mk(a:nsIn K SL x=be w6):NnIn K x:=a
structure ErF(K:Ex)(x:Str)(bm:List Os)(C N:Pi):Prop where
 ns:NsC K x C
 kp:keepIn K (.ref C)=true
 ob:∃nm q bs sn sub ab col dd k0 k1 k2 k3 k5,K.lookup C=be (Vq nm q C N bs bm true sn sub ab col dd k0 k1 k2 k3 k5 "ValueError.__new__")
structure ErN(K:Ex)(N:Pi):Prop where
 ok:nsOkIn K N=true
 no:nsIn K N "__init__"=be w6
def EbIn(K:Ex):Prop:=∃C N,ErF K "MotifError" Exc.veLine C N/\ErN K N
def EdIn(K:Ex)(x:Lq)(C N:Pi):Prop:=∃B,NsC K "MotifError" B/\ErF K x (.ref B::Exc.veLine) C N
def E0In(K:Ex)(x:Lq):Prop:=∃C N,EdIn K x C N/\ErN K N
def E1In(K:Ex)(x q:Lq)(st:U6):Prop:=∃C N f fd,EdIn K x C N/\HB K (.ref C) "__init__"=be (be (.ref f))/\isFn K (.ref f)=true/\Fun K "__init__" q st f fd
def EaIn(K:Ex)(x:Lq):Prop:=∃C,NsC K x C/\HB K (.ref C) "__setattr__"=be (be (.builtin "object.__setattr__"))
def EgIn(K:Ex)(x:Lq):Prop:=∃C,NsC K x C/\HB K (.ref C) "__getattribute__"=be (be (.builtin "BaseException.__getattribute__"))/\HB K (.ref C) "__getattr__"=be w6
def EiIn(K:Ex)(x:Lq):Prop:=∃M,NsC K x M/\readsIn K M (.type "type")=true/\findCls K (.ref M) (.type "type") "__init__"=be (.val (.builtin "ValueError.__init__"))/\Iy K (.ref M) "__getattribute__"=be (be (.builtin "type.__getattribute__"))
def EmIn(K:Ex)(x y:Lq):Prop:=∃C D,NsC K x C/\NsC K y D/\Ig K C (.ref D)=be (subE x y)
section
variable {B C D N:Pi}{nm qn:Lq}{bs:List Os}{sn:List Lq}{sub:List Os}{ab:Bool}{col:Option Bool}{dd:Option Pi}{k0 k1 k2 k3 k5:Option Os}{nc:Os}{nd:Option Pi}{ne:Array DictEntry}{np:Nat}{nl:Array (Option Os)}
def ebIn_mk(a:nsIn K SL "MotifError"=be (be (.ref C)))(kp:keepIn K (.ref C)=true)(o:K.lookup C=be (Vq nm qn C N bs Exc.veLine true sn sub ab col dd k0 k1 k2 k3 k5 "ValueError.__new__"))(nk:K.lookup N=be #[nc,nd,.dict ne np,nl])(al:ne.toList.all (λe=>match e.key with|.str _ _=>true|_=>false)=true)(ni:nsIn K N "__init__"=be w6):EbIn K:=#[C,N,#[a,kp,_,_,_,_,_,_,_,_,_,_,_,_,_,o],sN nk al,ni]
def e0In_mk(b:nsIn K SL "MotifError"=be (be (.ref B)))(a:nsIn K SL x=be (be (.ref C)))(kp:keepIn K (.ref C)=true)(o:K.lookup C=be (Vq nm qn C N bs (.ref B::Exc.veLine) true sn sub ab col dd k0 k1 k2 k3 k5 "ValueError.__new__"))(nk:K.lookup N=be #[nc,nd,.dict ne np,nl])(al:ne.toList.all (λe=>match e.key with|.str _ _=>true|_=>false)=true)(ni:nsIn K N "__init__"=be w6):E0In K x:=#[C,N,#[B,b,a,kp,_,_,_,_,_,_,_,_,_,_,_,_,_,o],sN nk al,ni]
def e1In_mk{f:Pi}{oc:Os}{od an:Option Pi}{sl:Array (Option Os)}{kV dc pm cd ct:Os}(b:nsIn K SL "MotifError"=be (be (.ref B)))(a:nsIn K SL x=be (be (.ref C)))(kp:keepIn K (.ref C)=true)(o:K.lookup C=be (Vq nm qn C N bs (.ref B::Exc.veLine) true sn sub ab col dd k0 k1 k2 k3 k5 "ValueError.__new__"))
  (j:HB K (.ref C) "__init__"=be (be (.ref f))) (i:isFn K (.ref f)=true) (l:K.lookup f=be #[oc,od,.func (fnOf "__init__" q (bB st) (aJ st) (ag st) .none kV dc pm an cd ct),sl]) (c:codeIn K cd q=true) (k:keepIn K (.ref f)=true):E1In K x q st:=#[C,N,f,_,#[B,b,a,kp,_,_,_,_,_,_,_,_,_,_,_,_,_,o],j,i,hV l c k]
def eaIn_mk(a:nsIn K SL x=be (be (.ref C)))(b:HB K (.ref C) "__setattr__"=be (be (.builtin "object.__setattr__"))):EaIn K x:=#[C,a,b]
def egIn_mk(a:nsIn K SL x=be (be (.ref C)))(b:HB K (.ref C) "__getattribute__"=be (be (.builtin "BaseException.__getattribute__")))(c:HB K (.ref C) "__getattr__"=be w6):EgIn K x:=#[C,a,b,c]
def eiIn_mk(a:nsIn K SL x=be (be (.ref C)))(b:readsIn K C (.type "type")=true)(c:findCls K (.ref C) (.type "type") "__init__"=be (.val (.builtin "ValueError.__init__")))(d:Iy K (.ref C) "__getattribute__"=be (be (.builtin "type.__getattribute__"))):EiIn K x:=#[C,a,b,c,d]
def emIn_mkT(e:subE x y=true)(a:nsIn K SL x=be (be (.ref C)))(c:nsIn K SL y=be (be (.ref D)))(d:Ig K C (.ref D)=be true):EmIn K x y:=#[C,D,a,c,e ▸ d]
def emIn_mkF(e:subE x y=false)(a:nsIn K SL x=be (be (.ref C)))(c:nsIn K SL y=be (be (.ref D)))(d:Ig K C (.ref D)=be false):EmIn K x y:=#[C,D,a,c,e ▸ d]
end
def EbIn.k(e:EbIn K)(X:K.In h)(G:h.Ns SL mg):∃C N bm,ErrK K mg "MotifError" C N bm/\ErrN K N:=by
 let#[C,N,k,n]:=e;exact#[C,N,_,#[k.ns,mg_of X G k.ns,k.kp,k.ob,sM],n.ok,n.no]
def EdIn.k{N:Pi}(e:EdIn K x C N)(b:EbIn K)(X:K.In h)(G:h.Ns SL mg):∃bm,ErrK K mg x C N bm:=by
 let#[B,hB,k]:=e;let#[B',N',kb,n]:=b;cases NsC.uniq kb.ns hB;let#[_,_,_,_,_,_,_,_,_,_,_,_,_,o]:=kb.ob;exact#[_,k.ns,mg_of X G k.ns,k.kp,k.ob,AA o rfl n.ok n.no]
def E0In.k(e:E0In K x)(b:EbIn K)(X:K.In h)(G:h.Ns SL mg):∃C N bm,ErrK K mg x C N bm/\ErrN K N:=by
 let#[C,N,k,n]:=e;let#[bm,z]:=k.k b X G;exact#[C,N,bm,z,n.ok,n.no]
def Txe(K:Ex)(mg:Lq->Option Os)(x q:Lq)(st:U6)(ps:List Lq):Prop:=∃C N bm f fd,ErrK K mg x C N bm/\HB K (.ref C) "__init__"=be (be (.ref f))/\isFn K (.ref f)=true/\Fun K "__init__" q st f fd/\Binds K fd ps []
def E1In.txe(e:E1In K x q st)(b:EbIn K)(X:K.In h)(G:h.Ns SL mg)(bi:BindA "__init__" q st ps\zA7):Txe K mg x q st ps:=by
 let#[C,N,f,fd,k,i,j,F]:=e;let#[bm,z]:=k.k b X G;exact#[C,N,bm,f,fd,z,i,j,F,F.binds bi]
def ErrK.a'{N:Pi}{bm:List Os}(k:ErrK K mg x C N bm)(a:EaIn K x):∃C cd,ErrA K x C cd:=by
 let#[D,hD,sa]:=a;cases NsC.uniq k.ns hD;exact#[C,k.a sa]
def E1In.a(e:E1In K x q st)(b:EbIn K)(a:EaIn K x)(X:K.In h)(G:h.Ns SL mg):∃C cd,ErrA K x C cd:=by
 let#[C,N,f,fd,k,_]:=e;let#[bm,z]:=k.k b X G;exact z.a' a
def E1In.c(e:E1In K x q st)(b:EbIn K)(X:K.In h)(G:h.Ns SL mg):∃C N bm,ErrK K mg x C N bm:=by
 let#[C,N,f,fd,k,_]:=e;let#[bm,z]:=k.k b X G;exact#[C,N,bm,z]
def EiIn.b(e:EiIn K x)(X:K.In h)(G:h.Ns SL mg):∃M,BaseK K mg x M:=by
 let#[M,a,b,c,d]:=e;exact#[M,mg_of X G a,b,c,d]
def EgIn.g(e:EgIn K x)(a:∃C cd,ErrA K x C cd)(n:NoIn K x f):ErrG K f x:=by
 let#[C,h1,h2,h3]:=e;let#[D,cd,ea]:=a;cases NsC.uniq ea.ns h1;exact#[C,cd,ea,h2,h3,n.all C h1]
def AllP(p:Lq->Prop):List Lq->Prop
 |[]=>True
 |a::l=>p a/\AllP p l
def AllP.mem{p:Lq->Prop}:∀{l:List Lq},AllP p l->∀x∈l,p x
 |_::_,h,_,.head _=>h.1
 |_::_,h,_,.tail _ m=>AllP.mem h.2 _ m
def BG{es:List Lq}(c:AllP (λx=>∃C N bm,ErrK K mg x C N bm) es)(s:AllP (λx=>AllP (λy=>EmIn K x y) es) es):ErrsK K mg es:=by
 refine#[c.mem,λx hx y hy C C' h1 h2=>?_];let#[A,B,a,b,m]:=(s.mem x hx).mem y hy;cases NsC.uniq a h1;cases NsC.uniq b h2;exact m
end
structure Bx where
 P:U5
 w:U'
 K:Ex
 mg:Lq->Option Os
 base:Heap
abbrev Bx.T(V:Bx)(x:Lq)(st:U6)(ps:List Lq):Prop:=Tx V.K V.mg x st ps
abbrev Bx.Tm(V:Bx)(x m q:Lq)(st:U6)(ps:List Lq):Prop:=Txm V.K x m q st ps
abbrev Bx.Ti(V:Bx)(x q:Lq)(st:U6)(ps:List Lq):Prop:=Txi V.K V.mg x q st ps
abbrev Bx.Te(V:Bx)(x q:Lq)(st:U6)(ps:List Lq):Prop:=Txe V.K V.mg x q st ps
abbrev Bx.Ek(V:Bx)(es:List Lq):Prop:=ErrsK V.K V.mg es
abbrev Bx.m(V:Bx)(x:Lq):Prop:=V.mg x=w6
abbrev Bx.gi(V:Bx)(x:Lq)(i:Int):Prop:=∃t,V.mg x=be (.int i t)
abbrev Bx.gs(V:Bx)(x y:Lq):Prop:=∃t,V.mg x=be (.str y t)
abbrev Bx.a(V:Bx)(x f:Lq):Prop:=ClsA V.K x f
abbrev Bx.D(V:Bx)(n:Nat)(x:Lq)(ps:List Lq)(S:SpD):Prop:=CalD V.P V.w V.K V.mg V.base n x ps S
abbrev Bx.X(V:Bx)(n:Nat)(x:Lq)(ps:List Lq)(S:SpX):Prop:=CalX V.P V.w V.K V.mg V.base n x ps S
abbrev Bx.MM(V:Bx)(n:Nat)(x:Lq)(ps:List Lq)(S:SpM):Prop:=CalMM V.P V.w V.K V.mg V.base n x ps S
abbrev Bx.M(V:Bx)(n:Nat)(x:Lq)(ps:List Lq)(S:SiD):Prop:=CalM V.P V.w V.K V.mg V.base n x ps S
abbrev Bx.E(V:Bx)(n:Nat)(x:Lq)(ps:List Lq)(S:SiD):Prop:=CalE V.P V.w V.K V.mg V.base n x ps S
abbrev Bx.Q(V:Bx)(n:Nat)(x m:Lq)(ps:List Lq)(S:SpM):Prop:=CalMth V.P V.w V.K V.mg V.base n x m ps (lSpM V.K S)
abbrev Bx.n(V:Bx)(x:Lq):Prop:=∃C N bm,ErrK V.K V.mg x C N bm/\ErrN V.K N
abbrev Bx.b(V:Bx)(x:Lq):Prop:=∃M,BaseK V.K V.mg x M
abbrev Bx.ea(V:Bx)(x:Lq):Prop:=∃C cd,ErrA V.K x C cd
abbrev Bx.xf(V:Bx)(x f:Lq):Prop:=∀C,nsIn V.K SL x=be (be (.ref C))->HB V.K (.ref C) f=be w6
abbrev Bx.x(V:Bx)(f:Lq)(ys:List Lq):Prop:=∀y∈ys,ErrG V.K f y
section
variable {P:U5}{w:U'}{K:Ex}{mg:Lq->Option Os}{base:Heap}
variable{x qual p0:Lq}{st:U6}{N ps:List Lq}{k:Nat}{S:SiD}
def Txi.okI(T:Txi K mg x qual st (p0::ps))(F:FnScope (p0::N) (p0::ps) (ag st))(len:∀ds R,S ds R->ds.length=ps.length)
  (a9:∀(f:Pi) (cdv:Os) (A:U_) (outer:List VP) (s:SB) (H:Hp) (E:XK) (J:Jx),Room k (A.deeper (Vg qual (ag st) s.heap.objs.size f cdv))->
   ∃t,WDI (cxOf (Exc.CX1 P w) P w K mg base (p0::N) qual (ag st) f cdv A outer s H E).nox x (aJ st) t/\∀ds R,S ds R->t (w6::startD N ds) [] R):CalM P w K mg base (k+1) x (p0::ps) S:=by
 let#[C,f,fd,a,b,c,d,e]:=T;exact Cls.okIW d e F len a b c (a9 f)
def Txi.okIM(T:Txi K mg x qual st (p0::ps))(F:FnScope N (p0::ps) (ag st))(len:∀ds R,S ds R->ds.length=ps.length)
  (a9:∀(f:Pi) (cdv:Os) (A:U_) (outer:List VP) (s:SB) (H:Hp) (E:XK) (J:Jm),Room k (A.deeper (Vg qual (ag st) s.heap.objs.size f cdv))->XOkM (cxOf (Exc.CX1 P w) P w K mg base N qual (ag st) f cdv A outer s H E).nox->
   ∃t,MSs (cxOf (Exc.CX1 P w) P w K mg base N qual (ag st) f cdv A outer s H E).nox (aJ st) t/\∀a ds R,(∀z M x fs,¬J.RM z M x fs)->S ds R->t {nx:=λ_ M'=>∃fs,M'=[(a,.ins x fs)]/\R fs,rt:=λ_ _=>False} (startD N (.ptr a::ds)) [(a,.ins x [])]):CalM P w K mg base (k+1) x (p0::ps) S:=by
 let#[C,f,fd,a,b,c,d,e]:=T;exact Cls.okIM d e F len a b c (a9 f)
def Txe.okE(T:Txe K mg x qual st (p0::ps))(F:FnScope (p0::N) (p0::ps) (ag st))(len:∀ds R,S ds R->ds.length=ps.length)
  (a9:∀(f:Pi) (cdv:Os) (A:U_) (outer:List VP) (s:SB) (H:Hp) (E:XK) (J:Jx),Room k (A.deeper (Vg qual (ag st) s.heap.objs.size f cdv))->
   ∃t,WDX (cxOf (Exc.CX1 P w) P w K mg base (p0::N) qual (ag st) f cdv A outer s H E).nox x (aJ st) t/\∀ds R,S ds R->t (w6::startD N ds) [] R):CalE P w K mg base (k+1) x (p0::ps) S:=by
 let#[C,N',bm,f,fd,a,b,c,d,e]:=T;exact Cls.okEW d e F len a b c (a9 f)
end
section
variable {X:Cx}[J:Jx]{a b c e o j5 iter:U7}{es:List U7}{ta tb tc te to ti tj:TD}{tt:TDT}{t:TDA}{pos px:Vf}{x:Lq}{scope:Vy}
def tV(ix:Nat)(LC:TDI)(te:TD):TSD:=λE z=>LC z (cmpP te z λd=>match d with|.lst ys=>E.nx (z.set ix (be (.own ys)))|_=>False)
def BH{K:Ex}{E:Ends}{s:L2.St}{H:Hp}{ix:Nat}{wi:TI}{LC:TDI}(hI:ItOk K wi LC)(q:lS K (tV ix LC te) E s H):tAsg (gx wi (lT K dT1) (lE K te)) (fU ix) E s H:=by
 let#[B,F0,F,z,k,rs,ED,h,e]:=q;refine hI k.kf rs h λitems J F1 H1 g1 hg it=>ss (Q:=λv H=>E.nx (s.set ix (be v)) H) k.kf g1 rs (λD ys us F' H' hH hF GG hu ry hR=>?_) it (cmpP.g hg);have r2:=(rs.grow GG).setOwn (i:=ix) (a:=D) (k.bh.free hH) hF ry λj dj _ q1 q2=>by
  let#[a,vs,p1,p2,_]:=rs.own j dj q1;rw[p1]at q2;cases q2;rw[hH]at p2;cases p2
 rw[sG hu]at r2;exact e.nx _ _ F' H' (k.grow GG) hR r2
def BI(ix:Nat){y:Lq}{py o7:Vf}(hc:X.calm=true)(S:CompScope X scope x)(hN:X.N.Nodup)(hi:WDE X iter ti)(he:∀cl s₀ H₀ fp,WDE (ca X scope cl x s₀ H₀ fp) j5 te)(NC:(X.N[ix]?=be y)\zA0)(hy:Loc X.env.scope y\zA4)
  (hf:zFN X y\zA2) (Ly:(Vn (.ListComp j5 [#[.Name x px,iter,[],0]] scope pos) (be (.Name y py)) o7.line X.env=pure true)\zA0) (hs:(∀y,zFS X iter y)\zA3):
  WDS X (.Assign [.Name y py] (.ListComp j5 [#[.Name x px,iter,[],0]] scope pos) o7) (tV ix (dItS ti) te):=#[(sr hc S (sR hi.out) (λ_ _ _ _=>kD) (λa b c d=>(he a b c d).out) hN NC hy hf Ly hs).anti λE s H q=>BH itS q]
def rSCount:RTx:=λy ds R=>match ds with|[.str p]=>R (.int (Builtin.Str.occurrences y p 0 y.length (y.length+1)).length)|_=>False
def BJ:MtS X "str.count" rSCount:=by
 refine#[λx vs H Q=>∃y p,x=.str y/\vs=[.str p]/\Q (.int (Builtin.Str.occurrences y p 0 y.length (y.length+1)).length) H,?_,?_]
 .intro pins s σ H x vs v us Q I rx rv h;let#[y,p,rfl,rfl,q]:=h;let#[t,rfl]:=rx;let#[u,rfl,t',rfl]:=vals1 rv;exact SC.count #[.int _,H,I.tok _,#[_,rfl],q]
 .intro y ds vs F H R Q r h q;unfold rSCount at h;split at h
  .obtain⟨v,vr,rfl,h1,h2⟩:=reps_cons.mp r;rw[reps_nil.mp h2,rep_str.mp h1];exact#[_,_,rfl,rfl,q _ _ (λ_=>rep_int.mpr rfl) h]
  .exact h.elim
def tW{b7 a8:Vf}(ho:WDE X o to)(ha:WDA X [e] t)(b_:(Vb o "count" X.env (Vc o X.env)=Vc o X.env)\zA0)
  (d_:zHF X a8 [e]\zA0)
  (c9:((b7.endLine==a8.line)=true)\zA0) (hs:zSE X e []\zA0):WDE X (.Call (.Attribute o "count" b7) [e] [] a8) (dTx rSCount to t):=#[kG PySem.F.slot_str_count PySem.F.type_str_count BJ ho.out ha.out b_ d_ c9 hs]
def BK(is:List Nat)(ti:TDI)(tb:TSD):TSD:=λE z=>ti z λds=>∃W:Nat->SD->Prop,W 0 z/\(∀(k:Nat) x z,ds[k]?=be x->W k z->tb {E with nx:=W (k+1),ct:=W (k+1),bk:=E.nx} (cn is [.int k,x] z))/\∀z,W ds.length z->E.nx z
variable{is:List Nat}
def BL{K:Ex}{B F0 F1 H1:Hp}{z:SD}{s:L2.St}{E:Ends}{ED:EndsD}{It':It}{g:TG}{tb:TSD}{NP:TS}{ds:List D}(k1:Kept B F0 F1 H1)(w_:RepS K B F1 H1 z s)(e:EndsOk K B F0 ED E)
  (go:∀k F' H',Same F1 F'->Same F' H'->k<ds.length->It'.go k H') (stop:∀F' H',Same F1 F'->Same F' H'->It'.stop ds.length H')
  (yld:∀k F' H' x H'',Same F1 F'->Same F' H'->k<ds.length->It'.yld k H' x H''->∃T d v,H' T=w6/\x=.ref T/\H''=upd H' T (.tup [.int k,v])/\ds[k]?=be d/\Rep K F' d v)
  (hg:∀(dd:List D) (vs:List V) (T:Pi) (z:SD) (s:L2.St) (F H:Hp) (Q:L2.St->Hp->Prop),dd.length=2->H T=be (.tup vs)->Reps K F dd vs->RepS K B F H z s->(∀s',RepS K B F H (cn is dd z) s'->Q s' H)->g (.ref T) s H Q)
  (P4:∀E s H,lS K tb E s H->NP E s H)
  (hd:∃W:Nat->SD->Prop,W 0 z/\(∀(k:Nat) x z,ds[k]?=be x->W k z->tb {ED with nx:=W (k+1),ct:=W (k+1),bk:=ED.nx} (cn is [.int k,x] z))/\∀z,W ds.length z->ED.nx z):
  ∃W:Nat->Nat->L2.St->Hp->Prop,(∃m,W 0 m s H1)/\∀i m σ H,W i m σ H->
   (It'.stop i H/\E.nx σ H)\/(It'.go i H/\∃N:L2.St->Hp->Prop,(∀σ' H',N σ' H'->∃m',m'<m/\W (i+1) m' σ' H')/\∀x H',It'.yld i H x H'->g x σ H' λσ2 H2=>NP {E with nx:=N,ct:=N,bk:=E.nx} σ2 H2):=by
 let#[W,w0,d5,out]:=hd;refine#[λk m s' H'=>m=ds.length-k/\k<=ds.length/\∃F' z',Kept B F0 F' H'/\Same F1 F'/\RepS K B F' H' z' s'/\W k z',#[ds.length,Mn,HS _,F1,z,k1,Same.refl F1,w_,w0],?_];intro k m s' H'#[rfl,hk,F',z',k',g',r',w'];by_cases ge:k<ds.length
 .refine .inr #[go k F' H' g' k'.fh ge,λs3 H3=>∃F3 z3,Kept B F0 F3 H3/\Same F1 F3/\RepS K B F3 H3 z3 s3/\W (k+1) z3,λs3 H3 h3=>#[ds.length-(k+1),Md,rfl,ge,h3],λx H'' hy=>?_];let#[T,d,v,hT,rfl,rfl,hd,rd]:=yld k F' H' x H'' g' k'.fh ge hy;have gn:=Grow.new k'.fh hT (.tup [.int k,v]);have k2:=k'.grow gn;have rp:Reps K (upd F' T (.tup [.int k,v])) [.int k,d] [.int k,v]:=reps_cons.mpr #[_,_,rfl,rep_int.mpr rfl,fo (rd.mono gn.ff)];refine hg [.int k,d] _ T z' s' _ _ _ rfl aC rp (r'.grow gn) λs2 MN=>P4 _ _ _ ?_;have gF:Same F1 (upd F' T (.tup [.int k,v])):=g'.trans gn.ff;refine#[B,upd F' T (.tup [.int k,v]),upd F' T (.tup [.int k,v]),_,#[k2.bh,k2.fh,Same.refl _,λb h1 _=>h1,k2.eb,k2.jf.trans k2.f0,λb h1 h2=>k2.out b (k2.jo b h1 h2) h2],MN,_,d5 k d z' hd w',?_];have up:∀{F3 H3:Hp},Kept B (upd F' T (.tup [.int k,v])) F3 H3->Kept B F0 F3 H3:=λk3=>#[k3.bh,k3.fh,k2.f0.trans k3.f0,λb h1 h2=>k3.out b (k2.out b h1 h2) h2,k2.eb,k2.jf,k2.jo];exact#[λz3 s3 F3 H3 k3 h3 r3=>#[F3,z3,up k3,gF.trans k3.f0,r3,h3],λd v F3 H3 k3=>e.rt d v F3 H3 (up k3),λz3 s3 F3 H3 k3=>e.nx z3 s3 F3 H3 (up k3),λz3 s3 F3 H3 k3 h3 r3=>#[F3,z3,up k3,gF.trans k3.f0,r3,h3]]
 .have ek:k=ds.length:=by lia
  subst ek;exact .inl #[stop F' H' g' k'.fh,e.nx z' s' F' H' k' (out z' w') r']
def BM{es:List U7}{x1:Nat}{tp p1 p2:Vf}{body:List U6}{tb:TSD}(hp:Vp (U4 X.prog X.w) X.A X.env X.xe)(hc:X.calm=true)(hm:X.mg "enumerate"=w6)(he:WDE X e te)(hG:DGs X es is)(hb:WDSs X body tb)(b9:(is.length=2)\zA0)(hg:Gl X "enumerate"\zA0)
  (hn:((Va es X.env).length=2)\zA0) (p_:((Va es X.env).findIdx? (·.1)=none)\zA0)
  (hs:(∀y,zFS X (.Call (.Name "enumerate" p1) [e] [] p2) y)\zA3) (v3:zSE X e []\zA0) (i9:(U9 [e] X.env=[(false,Vc e X.env)])\zA0):
  WDS X (.For (.Tuple es x1 tp) (.Call (.Name "enumerate" p1) [e] [] p2) body [] pos) (BK is (dItS te) tb):=by
 let#[ug,NQ,kk]:=hG;refine#[(cM hp hc (tL hg hm (bt he.out pa_nil v3) i9) (gU hc NQ hn p_) hb.out hs).anti λE s H q=>?_];let#[B,F0,F,z,kp,rs,ED,h,e]:=q;refine#[B,F,z,kp.kf,rs,_,h,λd v F1 H1 g1 hd rd=>?_];split at hd
 .rename_i x;let#[ha,hd]:=hd;have hl:=fD x;refine#[x,by rw[rep_str.mp rd],ha,BL (It':=Ites x) (kp.grow g1) (rs.grow g1) e (λk F' H' s1 s2 hk=>?_) (λF' H' s1 s2=>?_) (λk F' H' x H'' s1 s2 hk hy=>?_) (λdd o_ T z s F H Q hl hT rp F_ hQ=>?_) (λ_ _ _ h=>h) hd]
  .rw[hl]at hk;exact hk
  .exact hl
  .obtain⟨T,c,hT,e1,e2,hc⟩:=hy;exact#[T,.str #[[c].toArray],.str #[[c].toArray],hT,e1,e2,signs_get hc,rep_str.mpr rfl]
  .exact#[T,o_,rfl,SqT.of hT,by rw[rp.length];exact hl,kk dd o_ z s B F H Q (by rw[hl,b9]) rp F_ hQ]
 .exact hd.elim
def BN(K:Ex):R2:=λx y H Q=>∃p xs i z,x=.ref p/\y=.int i/\0<=i/\SqL K H p xs/\xs[i.toNat]?=be z/\Q z H
def BO:PGet X (BN X.K):=by
 intro pins s σ H x y v u Q I rx ry h;let#[p,xs,i,z,rfl,rfl,h0,hq,he,q]:=h;cases rx;let#[t,rfl]:=ry;let#[its,r,pl,hz]:=I.list hq;let#[w,ew,j6]:=r.get he;have hl:=r.length;have hn:=line63;have hi:=(HJ.mp he).1;exact wpAny_getItem_list pl.isList h0 Md (by simpa using ew) #[z,H,I,j6,q]
def tX(i:Nat)(ti te:TD):TSD:=λE z=>match z[i]? with
 |some (be (.own ds))=>ti z λy=>(match y with|.int k=>∃n,0<=k/\ds[k.toNat]?=be (.int n)/\te z λd=>(match d with|.int m=>E.nx (z.set i (be (.own (ds.set k.toNat (.int (n+m))))))|_=>False)|_=>False)
 |_=>False
def BP(i:Nat){x:Lq}{p1 p2:Vf}(hb:WDE X b tb)(he:WDE X e te)(hN:(X.N[i]?=be x)\zA0)(hv:Vis X.env.scope x\zA5)(hd:zND x\zA1)
  (h_:zNC x\zA1)
  (ha:(∀ov iv new,augStore b ov iv new=(do Vv [new,ov,iv] (Wv ov iv new);WV [new,ov,iv] [];pure .next))\zA8):
  WDS X (.AugAssign (.Subscript (.Name x p1) b p2) .Add e pos) (tX i tb te):=⟨(xM (dm hN hv hd h_) hb.out BO he.out xN qU ha).anti λE s H q=>by
 let#[B,F0,F,z,k,rs,ED,h,e]:=q;unfold tX at h;split at h
 .rename_i ds ez;let#[a,vs,q1,q2,q3,q4,q5]:=rs.own i ds ez;refine#[.ref a,q1,B,F,z,k.kf,rs,_,h,λy w F2 H2 g2 hy ry=>?_];split at hy
  .rename_i k';let#[n,k0,en,hn]:=hy;have LB:F2 a=none:=g2.out a q4 (by rw[q2];exact λz=>nomatch z);let#[v,ev,rv]:=q5.get en;refine#[a,vs,_,v,rfl,rep_int.mp ry,k0,SqL.of (g2.hh _ _ q2),ev,B,F2,z,k.kf.grow g2,rs.grow g2,_,hn,λd u F3 H3 g3 hd rd=>?_];split at hd
   .have r2:=(rs.grow g2).grow g3;have k2:=(k.grow g2).grow g3;have OD:F3 a=none:=g3.out a LB (by rw[g2.hh _ _ q2];exact λz=>nomatch z);rw[rep_int.mp rv,rep_int.mp rd];have ge:=(HJ.mp en).1;refine#[_,_,rfl,rfl,a,vs,_,k'.toNat,rfl,rep_int.mp ry,g3.hh _ _ (g2.hh _ _ q2),by unfold ixN;rw[q5.length,if_pos k0,if_pos Md],?_];let#[k3,r3]:=r2.change k2 ez q1 q3 OD (Reps.put (d:=.int _) (v:=.int _) (rep_int.mpr rfl) k'.toNat ((q5.mono g2.ff).mono g3.ff));exact e.nx _ s F3 _ k3 hd r3
   .exact hd.elim
  .exact hy.elim
 .exact h.elim⟩
end
section
variable {X:Cx}[J:Jx]{a b c e o:U7}{es:List U7}{ta tb tc te to:TD}{t:TDA}{pos:Vf}
def rLIx(K:Ex):V->List V->Hp->VK->Prop:=λx vs H Q=>∃l xs y,x=.ref l/\vs=[y]/\SqL K H l xs/\bx y=true/\xs.all bx=true/\xs.findIdx (λw=>eqV w y)<xs.length/\Q (.int (xs.findIdx (λw=>eqV w y):Nat)) H
def BQ{x:V}{xs:List V}{us:List Os}(h:Vals xs us)(f:xs.all bx=true):us.findIdx (eqU x)=xs.findIdx λy=>eqV y x:=by
 induction h with
 |nil=>rfl
 |cons r _ ih=>
  rw[Il,HV]at f;rw[JD,JD,hU r f.1,ih f.2]
def BR:MtR X "list.index" (rLIx X.K):=by
 intro pins s σ H x vs v us Q I rx rv h;let#[l,xs,y,rfl,rfl,hq,fy,fs,hj,q]:=h;cases rx;let#[u,rfl,ry]:=Vals.one rv;let#[its,r,pl,hz]:=I.list hq;let#[#[cls,dd,data,sl],ho,hc,n,hd]:=pl.isList;simp only at hc hd;subst hc hd;have e:=BQ (x:=y) r fs;have hl:=r.length;rw[<-e]at hj q;have LI:its.findIdx (eqU y)<its.length:=Md
 have UJ:sizeLine<2^63-1:=Mh
 refine WS PySem.F.slot_list_index #[_,ho,rfl] PySem.F.entry_list_index (PySem.F.args_list_index_2 _ _)
  (SeqAt.list_indexAt l its.toArray n dd sl u (eqU y) (its.findIdx (eqU y)) (by simpa using LI) Md ?_ ?_) #[ho,λw hw=>mem_eqAt ry fy r fs w (by simpa using hw),#[.int _,H,I.tok _,#[_,rfl],q]]
 .simpa using List.findIdx_getElem (w:=LI)
 .intro m hm ge;simpa using List.not_of_lt_findIdx ge
def dLIx(to te:TD):TD:=λz R=>to z λx=>match x with|.lst ys=>te z λy=>(bj y=true/\ys.all bj=true)/\ys.findIdx (λw=>eqF w y)<ys.length/\R (.int (ys.findIdx (λw=>eqF w y):Nat))|_=>False
def BS{K:Ex}{H:Hp}{x:D}{u:V}(rx:Rep K H x u)(fx:bj x=true){ys:List D}:∀{vs:List V},Reps K H ys vs->ys.all bj=true->vs.findIdx (λw=>eqV w u)=ys.findIdx λy=>eqF y x:=by
 induction ys with
 |nil=>intro vs r _;rw[reps_nil.mp r];rfl
 |cons y ys ih=>
  intro vs r f;let#[v,vr,rfl,r1,r2]:=reps_cons.mp r;rw[Il,HV]at f;rw[JD,JD,ih r2 f.2,ic r1 rx f.1 fx]
def BT{b7 a8:Vf}(ho:WDE X o to)(he:WDE X e te)(b_:(Vb o "index" X.env (Vc o X.env)=Vc o X.env)\zA0)
  (d_:zHF X a8 [e]\zA0)
  (c9:((b7.endLine==a8.line)=true)\zA0) (hs:zSE X e []\zA0):WDE X (.Call (.Attribute o "index" b7) [e] [] a8) (dLIx to te):=⟨(du PySem.F.plainAttrs_list PySem.F.slot_list_index PySem.F.type_list_index BR ho.out (bt he.out pa_nil hs) b_ d_ c9 hs).anti λs H Q q=>by
 let#[B,F,z,kf,rs,R,h1,h2]:=q;refine#[B,F,z,kf,rs,_,h1,λx u F1 H1 g1 hx rx=>?_];split at hx
 .obtain⟨l,vs,rfl,hq,rr⟩:=rep_lst.mp rx;refine#[.inl #[rfl,vs,g1.fh.seq (SqL.of hq)],B,F1,z,kf.grow g1,rs.grow g1,_,hx,λd v F2 H2 g2 hd rd=>?_];let#[#[f1,f2],hj,hR]:=hd;have MQ:=rr.mono g2.ff;have e:=BS rd f1 MQ f2;have hl:=MQ.length;refine#[l,vs,v,rfl,rfl,g2.fh.seq (g2.ff.seq (SqL.of hq)),fk rd f1,dz MQ f2,by rw[e];lia,?_];rw[e];exact h2 _ _ F2 H2 (g1.trans g2) hR (rep_int.mpr rfl)
 .exact hx.elim⟩
end
mutual
def noL:D->Bool
 |.non=>true|.bl _=>true|.int _=>true|.str _=>true|.ptr _=>true|.dti _=>true
 |.tup ds=>noLs ds
 |.obj _ fs=>noLF fs
 |_=>false
def noLs:List D->Bool
 |[]=>true
 |d::ds=>noL d&&noLs ds
def noLF:List (Lq×D)->Bool
 |[]=>true
 |(_,d)::ds=>noL d&&noLF ds
end
def nlF(F:Hp):Hp:=λb=>match F b with|some (.lst _)=>w6|o=>o
end My
end
section
namespace My
open PySem PySem.Spec PyProof.Rows L2
variable{w:Int}
def b64B(h:0<w)(h':w<=33554432):-(2^64)<w/\w<2^64:=Md
variable{s:Int}
def s64B(h:0<=s)(h':s<w)(UK:w<=33554432):-(2^64)<s/\s<2^64:=Md
def d30B(h:0<w)(h':w<=33554432):0<w/\w<1073741824:=Md
variable{x y:Int}
def ab24(h:x.natAbs<=12)(h':y.natAbs<=12):(x+y).natAbs<=24:=HG (JZ x y) (JE h h')
def sq0(a:Int):0<=a*a:=(Int.le_total 0 a).elim (λq=>J0 q q) (λq=>Int.mul_nonneg_of_nonpos_of_nonpos q q)
def u64(h:w=1\/w=-1\/w=0):-(2^64)<w/\w<2^64:=Md
variable{k:Nat}
def n64(h:w.natAbs<=k)(hk:(k<=1073741823)\zA1):-(2^64)<w/\w<2^64:=Md
variable{a b:Int}
def i64(h:a<=w)(h':w<=b)(ha:( -1000000000001<=a)\zA1)(hb:(b<=1000000000001)\zA1):-(2^64)<w/\w<2^64:=Md
def BU{X Y Z A B r:Nat}(h1:X<=Y)(h2:X=Z+2*B)(h3:1*A<=Z)(h5:Y<=A+r)(h6:r<B):False:=Nk
def fdm(a b:Int)(hb:b≠0):(a-a.fdiv b*b).natAbs<b.natAbs/\(a.fdiv b).natAbs<=a.natAbs+1:=by
 have e:=Int.fmod_def a b;have e2:a-a.fdiv b*b=a.fmod b:=by rw[e,HY]
 rw[e2];have r:(a.fmod b).natAbs<b.natAbs:=by
  rcases(Md:0<b\/b<0)with h|h
  .have h1:=KD a h;have h2:=KE a h;lia
  .have h1:=KD (-a) (show 0< -b by lia);have h2:=KE (-a) (show 0< -b by lia);rw[Int.neg_fmod_neg]at h1 h2;lia
 refine#[r,?_];have e3:(b*a.fdiv b).natAbs=b.natAbs*(a.fdiv b).natAbs:=Iu _ _;have e4:=Int.mul_fdiv_self a b;rcases IV (a.natAbs+1) (a.fdiv b).natAbs with c|c
 .have h1:b.natAbs*(a.natAbs+2)<=b.natAbs*(a.fdiv b).natAbs:=Nat.mul_le_mul_left _ c;have h2:b.natAbs*(a.natAbs+2)=b.natAbs*a.natAbs+2*b.natAbs:=by rw[Nat.mul_add,Nat.mul_comm _ 2]
  have h3:1*a.natAbs<=b.natAbs*a.natAbs:=Nat.mul_le_mul_right _ Md;have h5:(b*a.fdiv b).natAbs<=a.natAbs+(a.fmod b).natAbs:=by rw[e4];exact KF a _
  rw[e3]at h5;exact(BU h1 h2 h3 h5 r).elim
 .exact c
def Uni(a b c d p0 p1 q0 q1:Int):Prop:=∃m n k l:Int,(m*l-n*k=1\/m*l-n*k=-1)/\p0=m*a+n*c/\p1=m*b+n*d/\q0=k*a+l*c/\q1=k*b+l*d
def Uni.refl(a b c d:Int):Uni a b c d a b c d:=#[1,0,0,1,.inl Mh,Md,Md,Md,Md]
variable{d p0 p1 q0 q1:Int}
def Uni.step{c:Int}(t:Int)(h:Uni a b c d p0 p1 q0 q1):Uni a b c d q0 q1 (p0-t*q0) (p1-t*q1):=by
 let#[m,n,k,l,hd,rfl,rfl,rfl,rfl]:=h;refine#[k,l,m-t*k,n-t*l,?_,rfl,rfl,Np,Np];rcases hd with h|h
 .right;grind
 .left;grind
def Uni.neg{c:Int}(h:Uni a b c d p0 p1 q0 q1):Uni a b c d (-p0) (-p1) q0 q1:=by
 let#[m,n,k,l,hd,rfl,rfl,rfl,rfl]:=h;refine#[-m,-n,k,l,?_,Np,Np,rfl,rfl];rcases hd with h|h
 .right;grind
 .left;grind
def Uni.inv{c:Int}(h:Uni a b c d p0 p1 q0 q1):Uni p0 p1 q0 q1 a b c d:=by
 let#[m,n,k,l,hd,rfl,rfl,rfl,rfl]:=h;rcases hd with h|h
 .exact#[l,-n,-k,m,.inl Np,Np,Np,Np,Np]
 .exact#[-l,n,k,-m,.inr Np,Np,Np,Np,Np]
def Uni.det{c:Int}(h:Uni a b c d p0 p1 q0 q1):p0*q1-p1*q0=a*d-b*c\/p0*q1-p1*q0=-(a*d-b*c):=by
 let#[m,n,k,l,hd,rfl,rfl,rfl,rfl]:=h;rcases hd with h|h
 .left;grind
 .right;grind
def Lev(a b c d p0 p1 q0:Int):Prop:=0<=p1/\Uni a b c d p0 p1 q0 0
def FamOf(a b c d w h s:Int):Prop:=0<w/\0<h/\0<=s/\s<w/\Uni a b c d w 0 s h
def BV(x:Int):(if x<0 then -x else x)=x\/(if x<0 then -x else x)=-x:=by
 split<;>simp
def BW(h:x≠0):0<(if x<0 then -x else x):=by split<;>lia
def gE{c:Int}(hn:¬a*d=b*c)(h:Lev a b c d p0 p1 q0):FamOf a b c d (if q0<0 then -q0 else q0) p1 (p0%(if q0<0 then -q0 else q0)):=by
 let#[hp,hu]:=h;have dt:=hu.det;have TM:q0≠0:=by
  intro rfl;simp at dt;lia
 have UL:p1≠0:=by
  intro rfl;simp at dt;lia
 have hw:=BW TM;have hs:=BV q0;generalize (if q0<0 then -q0 else q0)=w at hw hs;refine#[hw,Md,IE _ Md,IF _ hw,?_];have em:=IP p0 w;generalize p0%w=s at em;generalize p0/w=t at em;let#[m,n,k,l,hd,e1,e2,e3,e4]:=hu;rcases hs with e|e
 .refine#[k,l,m-t*k,n-t*l,?_,Np,Np,Np,Np];rcases hd with h|h
  .right;grind
  .left;grind
 .refine#[-k,-l,m+t*k,n+t*l,?_,Np,Np,Np,Np];rcases hd with h|h
  .left;grind
  .right;grind
variable{h i j:Int}
def in_fam(hh:0<h)(ex:x=i*w+j*s)(ey:y=j*h):y%h=0/\(x-y/h*s)%w=0:=by
 subst ex ey;rw[Ib _ Md];refine#[KG _ _,?_];have e:i*w+j*s-j*s=i*w:=Md
 rw[e];exact KG _ _
variable{u v:Int}
def tY{c:Int}(eu:u=i*a+j*c)(ev:v=i*b+j*d):(u*d-v*c).fmod (a*d-b*c)=0/\(a*v-b*u).fmod (a*d-b*c)=0:=by
 subst eu ev;refine#[J1 #[i,Np],J1 #[j,Np]]
def FamOf.cells{c:Int}(f:FamOf a b c d w h s):w*h=a*d-b*c\/w*h=-(a*d-b*c):=by
 have:=f.2.2.2.2.det;simpa using this
def bK{A B:Nat}(h1:a.natAbs<=A)(h2:d.natAbs<=B):(a*d).natAbs<=A*B:=by
 rw[Iu];exact IZ h1 h2
variable{g:Int}{N:Nat}
def BX{c gap:Int}(hg:0<g)(c0:0<=c)(cg:c<=g)(h:gap.natAbs<=N):(c*gap/g).natAbs<=N:=by
 have h1:(c*gap).natAbs<=g.natAbs*N:=by rw[Iu];exact IZ Nk h
 have e:((g.natAbs*N:Nat):Int)=N*g:=by rw[Int.natCast_mul,Int.natAbs_of_nonneg Nk,HY]
 have l1:=Int.le_ediv_of_mul_le (a:=-(N:Int)) (b:=c*gap) hg (by rw[J2];omega);have l2:=Int.ediv_le_of_le_mul (a:=c*gap) (b:=(N:Int)) hg Nk;omega
def cT(hw:0<w)(hh:0<h):w<=w*h/\h<=w*h:=by
 have h1:=KH (show 1<=h by lia) (show 0<=w by lia);have h2:=HZ (show 1<=w by lia) (show 0<=h by lia);lia
def FamOf.bd{c:Int}(f:FamOf a b c d w h s)(hN:(a*d-b*c).natAbs<=N):w<=N/\h<=N/\s<N:=by
 let#[h1,h2]:=cT f.1 f.2.1;have h3:w*h<=N:=by
  rcases f.cells with e|e<;>rw[e]
  .exact Ip KI (KJ.mpr hN)
  .exact Ip KI (KJ.mpr (by rw[J3];exact hN))
 exact#[Ip h1 h3,Ip h2 h3,Int.lt_of_lt_of_le f.2.2.2.1 (Ip h1 h3)]
def Meas(x y g u:Int):Prop:=0<=g/\(∃i,x=i*g)/\(∃j,y=j*g)/\∃n,g=u*x+n*y
def tZ{q:Int}(h:0<=g/\∃m n k l:Int,(m*l-n*k=1\/m*l-n*k=-1)/\u=m*1+n*0/\g=m*x+n*y/\q=k*1+l*0/\0=k*x+l*y):Meas x y g u:=by
 let#[h0,m,n,k,l,hd,e1,e2,e3,e4]:=h;refine#[h0,?_,?_,n,Np]
 .rcases hd with h|h
  .exact#[l,Np]
  .exact#[-l,Np]
 .rcases hd with h|h
  .exact#[-k,Np]
  .exact#[k,Np]
def Meas.pos(h:Meas x y g u)(hx:0<x):0<g:=by
 let#[h0,#[i,hi],_]:=h;rcases(Md:g=0\/0<g)with e|e
 .subst e;simp at hi;lia
 .exact e
def Meas.le(h:Meas x y g u)(hx:0<x):g<=x:=by
 have hg:=h.pos hx;let#[h0,#[i,hi],_]:=h;have UM:0<i:=by
  rcases(Md:i<=0\/0<i)with e|e
  .have:=IG e h0;lia
  .exact e
 have:=HZ (show 1<=i by lia) h0;lia
structure MetR(w1 h1 s1 w2 h2 s2 w h s A:Int):Prop where
 w0:0<w
 h0:0<h
 s0:0<=s
 sw:s<w
 in1:∃i,w=i*w1
 in2:∃i,w=i*w2
 up1:∃i j,s=i*w1+j*s1/\h=j*h1
 up2:∃i j,s=i*w2+j*s2/\h=j*h2
 A0:0<A
 cells:w*h*A=w1*h1*w2*h2
 d11:A∣w1*h1
 d12:A∣w1*h2
 d21:A∣w2*h1
 d22:A∣w2*h2
 ds:A∣s1*h2-h1*s2
 all:∀x y:Int,(∃i j,x=i*w1+j*s1/\y=j*h1)->(∃i j,x=i*w2+j*s2/\y=j*h2)->∃i j,x=i*w+j*s/\y=j*h
 comb:∀G:Int,G∣w1*h1->G∣w1*h2->G∣w2*h1->G∣w2*h2->G∣s1*h2-h1*s2->G∣A
def eA(h:0<x*y)(hy:0<y):0<x:=by
 rcases(Md:x<=0\/0<x)with e|e
 .have:=IG e (show 0<=y by lia);lia
 .exact e
def kT{c:Int}(ha:0<a)(h:a*b=a*c):b=c:=J4 Md h
def r1(k j c:Int):k*(j*c)=j*(c*k):=Np
def r2(j u c n d:Int):j*(u*c+n*d)=u*(j*c)+n*d*j:=Np
def r3(u j d n j1:Int):u*(j*d)+n*d*j1=d*(u*j+n*j1):=Np
def r4(j u c n d:Int):j*(u*c+n*d)=u*c*j+n*(j*d):=Np
def r5(u c j n j1:Int):u*c*j+n*(j1*c)=c*(u*j+n*j1):=Np
def r6(g e i1 a i2 b d T s1 c s2:Int)(q:i1*(a*(e*g))+d*T*s1=i2*(b*(e*g))+c*T*s2):g*(e*(i1*a-i2*b))=T*(c*s2-d*s1):=Np
def r7(g T f:Int):g*(T*f)=T*(f*g):=Np
def r8(T v e q f:Int):T*(v*e+q*f)=v*T*e+q*(T*f):=Np
def r9(v T e q m:Int):v*T*e+q*(e*m)=e*(v*T+q*m):=Np
def r10(e r f:Int):e*r*f=e*(r*f):=Np
def r11(i u a n b:Int):i*(u*a+n*b)=u*(i*a)+n*b*i:=Np
def r12(u r f i2 b n i1:Int):u*(r*f+i2*b)+n*b*i1=u*(r*f)+b*(u*i2+n*i1):=Np
def r13(u r f b M a e g d s1 t:Int):(u*(r*f)+b*M)*(a*(e*g))+d*(e*r)*s1=(M+r*t)*(a*b*(e*g))+r*(e*(d*s1)+f*u*(a*(e*g))-a*b*(e*g)*t):=Np
def r14(d e r c k:Int):d*(e*r)*(c*k)=r*(c*d*k*e):=Np
variable{e f gg u' s1 s2:Int}
def BY{c k n n' q t i1 j1 i2 j2:Int}(hk:0<k)(LJ:0<gg)(he:0<e)
  (v7:u*a+n*b=1) (t6:u'*c+n'*d=1) (gap:c*s2-d*s1=f*gg) (v8:v*e+q*f=1)
  (hs:s=e*(d*s1)+f*u*(a*(e*gg))-a*b*(e*gg)*t) (x1:x=i1*(a*(e*gg))+j1*s1) (y1:y=j1*(c*k)) (x2:x=i2*(b*(e*gg))+j2*s2) (y2:y=j2*(d*k)):
  ∃i j,x=i*(a*b*(e*gg))+j*s/\y=j*(c*d*k*e):=by
 have h1:j1*c=j2*d:=kT hk (by rw[r1 k j1 c,r1 k j2 d,<-y1,<-y2]);have OI:j1=d*(u'*j2+n'*j1):=by
  have p:=r2 j1 u' c n' d;rw[t6,h1,r3]at p;lia
 have RY:j2=c*(u'*j2+n'*j1):=by
  have p:=r4 j2 u' c n' d;rw[t6,<-h1,r5]at p;lia
 generalize u'*j2+n'*j1=T at OI RY;have q1:i1*(a*(e*gg))+d*T*s1=i2*(b*(e*gg))+c*T*s2:=by rw[<-OI,<-RY,<-x1,<-x2]
 have h2:e*(i1*a-i2*b)=T*f:=kT LJ (by rw[r6 gg e i1 a i2 b d T s1 c s2 q1,r7,gap]);have eT:T=e*(v*T+q*(i1*a-i2*b)):=by
  have p:=r8 T v e q f;rw[v8,<-h2,r9]at p;lia
 generalize hr:v*T+q*(i1*a-i2*b)=r at eT;have h3:i1*a-i2*b=r*f:=kT he (by rw[h2,eT,r10]);have h4:i1=u*(r*f)+b*(u*i2+n*i1):=by
  have p:=r11 i1 u a n b;have q3:i1*a=r*f+i2*b:=Md
  rw[v7,q3,r12]at p;lia
 generalize u*i2+n*i1=M at h4;refine#[M+r*t,r,?_,?_]
 .rw[hs,x1,OI,eT,<-r13,<-h4]
 .rw[y1,OI,eT,r14]
def BZ{c k n n' q t:Int}(ha:0<a)(hb:0<b)(hc:0<c)(hd:0<d)(he:0<e)(hk:0<k)(LJ:0<gg)
  (v7:u*a+n*b=1) (t6:u'*c+n'*d=1) (gap:c*s2-d*s1=f*gg) (v8:v*e+q*f=1)
  (hs:s=e*(d*s1)+f*u*(a*(e*gg))-a*b*(e*gg)*t) (m1:0<=s) (m2:s<a*b*(e*gg)):
  MetR (a*(e*gg)) (c*k) s1 (b*(e*gg)) (d*k) s2 (a*b*(e*gg)) (c*d*k*e) s (k*gg):=by
 have hg:0<e*gg:=HN he LJ;have hW:0<a*b*(e*gg):=HN (HN ha hb) hg;have P':d*s1=c*s2-f*gg:=Md
 have ua:u*a=1-n*b:=Md
 refine#[hW,HN (HN (HN hc hd) hk) he,m1,m2,#[b,?_],#[a,?_],#[f*u-t*b,d*e,?_,?_],#[-(f*n)-t*a,c*e,?_,?_],HN hk LJ,?_,#[a*e*c,?_],#[a*e*d,?_],#[b*e*c,?_],#[b*e*d,?_],#[-f,?_],?_,?_]
 .grind
 .grind
 .grind
 .grind
 .rw[hs,P'];have x2:f*u*(a*(e*gg))=f*(u*a)*(e*gg):=by grind
  rw[x2,ua];grind
 .grind
 .grind
 .grind
 .grind
 .grind
 .grind
 .have:s1*(d*k)-c*k*s2=-(k*(c*s2-d*s1)):=by grind
  rw[this,gap];grind
 .rintro x y⟨i1,j1,x1,z1⟩ ⟨i2,j2,x2,z2⟩;exact BY hk LJ he v7 t6 gap v8 hs x1 z1 x2 z2
 .rintro G⟨y1,z1⟩ ⟨y2,z2⟩ ⟨y3,z3⟩ ⟨y4,z4⟩ ⟨y5,z5⟩;refine#[v*(u'*u*y1+n'*u*y2+u'*n*y3+n'*n*y4)-q*y5,?_];have k1:k*(e*gg)=G*(u'*u*y1+n'*u*y2+u'*n*y3+n'*n*y4):=by
   have p1:k*(e*gg)=(u'*c+n'*d)*(u*a+n*b)*(k*(e*gg)):=by rw[v7,t6];grind
   have p2:(u'*c+n'*d)*(u*a+n*b)*(k*(e*gg))=u'*u*(a*(e*gg)*(c*k))+n'*u*(a*(e*gg)*(d*k))+u'*n*(b*(e*gg)*(c*k))+n'*n*(b*(e*gg)*(d*k)):=Np
   rw[p1,p2,z1,z2,z3,z4];grind
  have k2:k*(f*gg)=-(G*y5):=by
   rw[<-z5,<-gap];grind
  have k3:k*gg=(v*e+q*f)*(k*gg):=by rw[v8];grind
  have k4:(v*e+q*f)*(k*gg)=v*(k*(e*gg))+q*(k*(f*gg)):=Np
  rw[k3,k4,k1,k2];grind
variable{w1 h1 w2 h2:Int}
def kU{k x9:Int}(t7:0<w1)(G_:0<w2)(RZ:0<h1)(Li:0<h2)
  (M1:Meas w1 w2 g u) (M2:Meas h1 h2 k u')
  (M3:Meas g (h1*h2/k/h2*s2-h1*h2/k/h1*s1) gg x9):
  MetR w1 h1 s1 w2 h2 s2 (w1*w2/g) (h1*h2/k*(g/gg)) ((g/gg*(h1*h2/k/h1*s1)+g/gg*(h1*h2/k/h2*s2-h1*h2/k/h1*s1)/g*u*w1)%(w1*w2/g)) (k*gg):=by
 have hg:=M1.pos t7;have hk:=M2.pos RZ;have LJ:=M3.pos hg;let#[_,#[a,ea],#[b,eb],n,en]:=M1;let#[_,#[c,ec],#[d,ed],n',UN]:=M2;have ha:0<a:=eA (ea ▸ t7) hg;have hb:0<b:=eA (eb ▸ G_) hg;have hc:0<c:=eA (ec ▸ RZ) hk;have hd:0<d:=eA (ed ▸ Li) hk;have v7:u*a+n*b=1:=by
  have p:(u*a+n*b)*g=1*g:=by
   have:(u*a+n*b)*g=u*(a*g)+n*(b*g):=by grind
   rw[this,<-ea,<-eb];lia
  exact Ja Md p
 have t6:u'*c+n'*d=1:=by
  have p:(u'*c+n'*d)*k=1*k:=by
   have:(u'*c+n'*d)*k=u'*(c*k)+n'*(d*k):=by grind
   rw[this,<-ec,<-ed];lia
  exact Ja Md p
 have eW:w1*w2/g=a*b*g:=by
  have:w1*w2=(a*b*g)*g:=by rw[ea,eb];grind
  rw[this];exact Ib _ Md
 have eR:h1*h2/k=c*d*k:=by
  have:h1*h2=(c*d*k)*k:=by rw[ec,ed];grind
  rw[this];exact Ib _ Md
 have TN:h1*h2/k/h1=d:=by
  rw[eR];have:c*d*k=d*h1:=by rw[ec];grind
  rw[this];exact Ib _ Md
 have TQ:h1*h2/k/h2=c:=by
  rw[eR];have:c*d*k=c*h2:=by rw[ed];grind
  rw[this];exact Ib _ Md
 rw[TN,TQ]at M3 ⊢;let#[_,#[e,ee],#[f,ef],q,eq]:=M3;have he:0<e:=eA (ee ▸ hg) LJ;have v8:x9*e+q*f=1:=by
  have p:(x9*e+q*f)*gg=1*gg:=by
   have:(x9*e+q*f)*gg=x9*(e*gg)+q*(f*gg):=by grind
   rw[this,<-ee,<-ef];lia
  exact Ja Md p
 have eC:g/gg=e:=by rw[ee];exact Ib _ Md
 have eS:e*(c*s2-d*s1)/g=f:=by
  have:e*(c*s2-d*s1)=f*g:=by rw[ef,ee];grind
  rw[this];exact Ib _ Md
 rw[eC,eS,eW,eR];have hW:0<a*b*g:=HN (HN ha hb) hg;have em:=IP (e*(d*s1)+f*u*w1) (a*b*g);have m1:=IE (e*(d*s1)+f*u*w1) (show a*b*g≠0 by lia);have m2:=IF (e*(d*s1)+f*u*w1) hW;generalize (e*(d*s1)+f*u*w1)%(a*b*g)=s at em m1 m2 ⊢;generalize (e*(d*s1)+f*u*w1)/(a*b*g)=t at em;subst ea eb ec ed;subst ee;exact BZ ha hb hc hd he hk LJ v7 t6 ef v8 em m1 m2
def kW(hx:0<x)(hy:0<y)(M:Meas x y g u):0<x*y/g/\x*y/g<=x*y/\x*y/g/x*1<=y/\0<=x*y/g/x/\x*y/g/y<=x/\0<=x*y/g/y:=by
 have hg:=M.pos hx;let#[_,#[a,ea],#[b,eb],_]:=M;have ha:0<a:=eA (ea ▸ hx) hg;have hb:0<b:=eA (eb ▸ hy) hg;have e1:x*y/g=a*b*g:=by
  have:x*y=(a*b*g)*g:=by rw[ea,eb];grind
  rw[this];exact Ib _ Md
 have e2:a*b*g/x=b:=by
  have:a*b*g=b*x:=by rw[ea];grind
  rw[this];exact Ib _ Md
 have e3:a*b*g/y=a:=by
  have:a*b*g=a*y:=by rw[eb];grind
  rw[this];exact Ib _ Md
 have p1:0<a*b*g:=HN (HN ha hb) hg;have q1:=(cT (w:=b) (h:=g) hb hg).1;have q2:=(cT (w:=a) (h:=g) ha hg).1;have q3:x*y=a*b*g*g:=by rw[ea,eb];grind
 have q4:=(cT (w:=a*b*g) (h:=g) p1 hg).1;rw[e1,e2,e3];lia
def cell(ns:List Int)(k:Int):Int:=ns.getD k.toNat 0
variable{ns:List Int}
def ub{k:Int}(h0:0<=k)(h1:k<(ns.length:Int)):atI (ns.map D.int) k=be (.int (cell ns k)):=by
 let#[j,rfl]:∃j:Nat,k=(j:Int):=#[k.toNat,Md];have hk:j<ns.length:=Md
 refine bZ ?_;rw[HI,HP hk];simp[cell,ID,HP hk]
def B0{k:Int}(h1:(ns.length:Int)<=k):cell ns k=0:=by
 have hk:ns.length<=k.toNat:=Md
 simp[cell,ID,Io hk]
def cU(h:0<b):0<=a%b:=IE a Md
def cV(h:0<b):a%b<b:=IF a h
def B1:SpD:=λds R=>∃(ns:List Int) (k:Int),ds=[.rol (ns.map D.int),.int k]/\0<=k/\R (.int (cell ns k))
def B2:SpD:=λds R=>∃i:Int,ds=[.int i]/\R (.bl true)
def B3:SpD:=λds R=>∃w h s x y:Int,ds=[.tup [.int w,.int h,.int s],.int x,.int y]/\0<w/\0<h/\h<1073741824/\0<=s/\s<1073741824/\
 R (.bl (decide (y%h=0/\(x-y/h*s)%w=0)))
def B4:SpD:=λds R=>∃a b c d u v:Int,ds=[.tup [.int a,.int b],.tup [.int c,.int d],.int u,.int v]/\a.natAbs<1073741824/\b.natAbs<1073741824/\c.natAbs<1073741824/\d.natAbs<1073741824/\
 ¬a*d=b*c/\R (.bl (decide ((u*d-v*c).fmod (a*d-b*c)=0/\(a*v-b*u).fmod (a*d-b*c)=0)))
def B5:SpD:=λds R=>∃x y:Int,ds=[.int x,.int y]/\∀g:Int,0<=g->g∣x->g∣y->(∀e,e∣x->e∣y->e∣g)->R (.int g)
def ue:e∣(if x<0 then -x else x)↔e∣x:=by
 split
 .exact Int.dvd_neg
 .exact Iff.rfl
def uf(hb:e∣b):e∣a%b↔e∣a:=by
 have e1:=IP a b;rw[e1];constructor
 .intro h;have:=J5 h (KL (c:=a/b) hb);simpa using this
 .intro h;exact Int.dvd_sub h (KL hb)
def B6:SpD:=λds R=>∃w h s x y:Int,ds=[.tup [.int w,.int h,.int s],.int x,.int y]/\0<w/\0<h/\h<1073741824/\0<=s/\s<1073741824/\
 R (.tup [.int ((x-y/h*s)%w),.int (y%h)])
def B7:SpD:=λds R=>∃a b c d:Int,ds=[.tup [.int a,.int b],.tup [.int c,.int d]]/\b.natAbs<4611686018427387904/\d.natAbs<4611686018427387904/\
 ∀p0 p1 q0,Lev a b c d p0 p1 q0->R (.tup [.tup [.int p0,.int p1],.tup [.int q0,.int 0]])
def B8:SpD:=λds R=>∃a b c d:Int,ds=[.tup [.int a,.int b],.tup [.int c,.int d]]/\a.natAbs<4611686018427387904/\b.natAbs<4611686018427387904/\c.natAbs<4611686018427387904/\d.natAbs<4611686018427387904/\
 (a*d=b*c->R .non)/\(¬a*d=b*c->∀w h s,FamOf a b c d w h s->R (.tup [.int w,.int h,.int s]))
def B9:SpD:=λds R=>∃w h s:Int,ds=[.tup [.int w,.int h,.int s]]/\0<w/\R (.tup [.int w,.int h,.int (-s%w)])
def Ca:SpD:=λds R=>∃w h s:Int,ds=[.tup [.int w,.int h,.int s]]/\0<w/\0<h/\w<4611686018427387904/\h<4611686018427387904/\0<=s/\s<4611686018427387904/\
 ∀w' h' s',FamOf 0 w (-h) s w' h' s'->R (.tup [.int w',.int h',.int s'])
def Cb:SpD:=λds R=>∃x y:Int,ds=[.int x,.int y]/\x.natAbs<4611686018427387904/\y.natAbs<4611686018427387904/\∀g u,Meas x y g u->R (.tup [.int g,.int u])
def Cd:SpD:=λds R=>∃w1 h1 s1 w2 h2 s2:Int,ds=[.tup [.int w1,.int h1,.int s1],.tup [.int w2,.int h2,.int s2]]/\0<w1/\w1<=33554432/\0<h1/\h1<=33554432/\0<=s1/\s1<w1/\0<w2/\w2<=33554432/\0<h2/\h2<=33554432/\0<=s2/\s2<w2/\
 ∀w h s A,MetR w1 h1 s1 w2 h2 s2 w h s A->R (.tup [.int w,.int h,.int s])
def Drawn(xs:List Int):Prop:=∀x∈xs,0<=x/\x<5040
variable{xs:List Int}
def cG{k:Int}(h0:0<=k)(h:k.toNat<xs.length):atI (xs.map D.int) k=be (.int (cell xs k)):=ub h0 Md
def uh:xs.map D.int++[D.int v]=(xs++[v]).map D.int:=Mn
def ui(h:Drawn xs)(h1:0<=v)(h2:v<5040):Drawn (xs++[v]):=by
 intro x hx;rcases HX.mp hx with q|q
 .exact h x q
 .rw[Hv.mp q];exact#[h1,h2]
def Ce:SpD:=λds R=>∃(ns:List Int) (k:Int) (n:Nat),ds=[.rol (ns.map D.int),.int k,.int n]/\0<=k/\n<=100/\∀xs:List Int,xs.length=n->Drawn xs->R (.lst (xs.map D.int))
def Cf:SpD:=λds R=>∃xs:List Int,ds=[.lst (xs.map D.int)]/\8<=xs.length/\Drawn xs/\
 ∀a b c d:Int,(-12<=a/\a<=12)->(-12<=b/\b<=12)->(-12<=c/\c<=12)->(-12<=d/\d<=12)->¬a*d=b*c->R (.lst [.tup [.int a,.int b],.tup [.int c,.int d]])
abbrev cs(x:Lq):List Nat:=x.cps.toList
def bq(x:Lq):(cs x).length=x.length:=by simp[Str.length]
def uj:cs ""=[]:=rfl
def bC(x y:Lq):cs (x++y)=cs x++cs y:=by
 show((x++y:Lq)).cps.toList=_;rw[show(x++y:Lq).cps=x.cps++y.cps from rfl,Array.toList_append]
def aw(x y:Lq):(x++y).length=x.length+y.length:=by rw[<-bq,bC,HF,bq,bq]
def aN(c:Nat):Prop:=c=46\/(49<=c/\c<=54)
def kX:∀(L:List Lq),cS (L.map D.str)=be L
 |[]=>rfl
 |x::L=>by simp[cS,kX L]
def fE(x:Lq):Prop:=0<x.length/\x.length<=7/\∀c∈cs x,aN c
def Cg{x:Lq}(h:fE x)(v:Int):∃c,(x.length<=1000000/\atI (cs x) (v%(x.length:Int))=be c)/\aN c:=by
 have h1:=cU (a:=v) (show 0<(x.length:Int)by have:=h.1;lia);have h2:=cV (a:=v) (show 0<(x.length:Int)by have:=h.1;lia);let#[j,ej]:∃j:Nat,v%(x.length:Int)=(j:Int):=#[(v%(x.length:Int)).toNat,Md];have hj:j<(cs x).length:=by rw[bq];lia
 refine#[(cs x)[j],#[by have:=h.2.1;lia,?_],h.2.2 _ (Im hj)];rw[ej];exact bZ (HP hj)
def Ch:fE "1.23456":=#[KK,KK,by unfold aN;decide+kernel]
def Ci:fE "12":=#[KK,KK,by unfold aN;decide+kernel]
def Cj:fE "1.":=#[KK,KK,by unfold aN;decide+kernel]
def Ck:fE "...2":=#[KK,KK,by unfold aN;decide+kernel]
def Cl(k:Int):∃x,atI [D.str "1.23456",D.str "12",D.str "1.",D.str "...2"] (k%4)=be (.str x)/\fE x:=by
 rcases(Md:k%4=0\/k%4=1\/k%4=2\/k%4=3)with e|e|e|e<;>rw[e]
 .exact#[_,rfl,Ch]
 .exact#[_,rfl,Ci]
 .exact#[_,rfl,Cj]
 .exact#[_,rfl,Ck]
def Cm(k:Int):∃m,atI [D.int 1,D.int 70] (k%2)=be (.int m)/\(m=1\/m=70):=by
 rcases(Md:k%2=0\/k%2=1)with e|e<;>rw[e]
 .exact#[1,rfl,.inl rfl]
 .exact#[70,rfl,.inr rfl]
structure Rows(L:List Str):Prop where
 many:1<=L.length/\L.length<=8
 wide:∃w,(1<=w/\w<=8)/\∀l∈L,l.length=w/\∀c∈cs l,aN c
variable{L:List Lq}
def Rows.of{w t:Nat}(h1:1<=t)(h2:t<=8)(hl:L.length=t)(w1:1<=w)(w2:w<=8)(h:∀l∈L,l.length=w/\∀c∈cs l,aN c):Rows L:=#[Md,w,#[w1,w2],h]
variable{c:Nat}
def Cn{x:Lq}{i:Nat}(h1:x.length=i)(h2:∀c∈cs x,aN c)(hc:aN c):(x++#[[c].toArray]:Lq).length=i+1/\∀c'∈cs (x++#[[c].toArray]),aN c':=by
 refine#[by rw[aw,h1];rfl,λc' q=>?_];rw[bC]at q;rcases HX.mp q with q|q
 .exact h2 _ q
 .have:c'=c:=by simpa[cs]using q
  rw[this];exact hc
def Co{x:Lq}:L.map D.str++[D.str x]=(L++[x]).map D.str:=Mn
def cX(L:List Lq)(a b c d:Int):Str:=("["++Txt.join "/" L)++((((((((";":Lq)++(toString a:String))++",")++(toString b:String))++";")++(toString c:String))++",")++(toString d:String))++"]"
def bE(h:-12<=a/\a<=12):((toString a:String):Lq).length<=3:=by
 have key:∀k:Fin 25,((toString (((k.val:Nat):Int)-12):String):Lq).length<=3:=KK
 have:=key #[(a+12).toNat,Md];have e:(((a+12).toNat:Nat):Int)-12=a:=Md
 rw[e]at this;exact this
def B12(a:Int):Prop:=-12<=a/\a<=12
def B12.lt(h:B12 a):a.natAbs<1073741824:=by unfold B12 at h;lia
def uk{w:Nat}(h:∀l∈L,l.length=w):(L.map (·.length)).sum=L.length*w:=by
 induction L with
 |nil=>simp
 |cons x L ih=>
  rw[HR,List.sum_cons,ih (λl hl=>h l (Hz _ hl)),h x Hy,HA,Nat.succ_mul,J6]
def um(h:Rows L):(L.map (·.length)).sum+L.length*("/":Lq).length<=72:=by
 let#[h1,w,hw,h2]:=h;rw[uk (λl hl=>(h2 l hl).1)];have e:("/":Lq).length=1:=rfl;rw[e];have:=IZ h1.2 hw.2;lia
def Cp:SpD:=λds R=>∃xs:List Int,ds=[.lst (xs.map D.int)]/\40<=xs.length/\Drawn xs/\∀L:List Lq,Rows L->R (.lst (L.map D.str))
def Cq:SpD:=λds R=>∃(L:List Lq) (a b c d:Int),ds=[.lst (L.map D.str),.tup [.int a,.int b],.tup [.int c,.int d]]/\Rows L/\B12 a/\B12 b/\B12 c/\B12 d/\R (.str (cX L a b c d))
structure Leaf where
 rows:List Lq
 a:Int
 b:Int
 c:Int
 d:Int
 w0:Int
 w1:Int
 w2:Int
 w3:Int
 w4:Int
 w5:Int
 hues:List Int
def Leaf.D(l:Leaf):My.D:=.tup [.lst (l.rows.map D.str),.tup [.int l.a,.int l.b],.tup [.int l.c,.int l.d],.tup [.int l.w0,.int l.w1,.int l.w2,.int l.w3,.int l.w4,.int l.w5],.lst (l.hues.map D.int)]
structure Leaf.Ok(l:Leaf):Prop where
 rows:Rows l.rows
 a:B12 l.a
 b:B12 l.b
 c:B12 l.c
 d:B12 l.d
 ne:¬l.a*l.d=l.b*l.c
 w0:l.w0.natAbs<=1
 w1:l.w1.natAbs<=1
 w2:l.w2.natAbs<=1
 w3:l.w3.natAbs<=1
 w4:l.w4.natAbs<=1000
 w5:l.w5.natAbs<=1000
 many:l.hues.length=7
 hue:∀h∈l.hues,0<=h/\h<=6
def onB(a b c d u v:Int):Bool:=decide ((u*d-v*c).fmod (a*d-b*c)=0/\(a*v-b*u).fmod (a*d-b*c)=0)
def scanRow(f:Int->Bool):Nat->List Nat->Option Nat
 |_,[]=>w6
 |i,c::r=>if c≠46/\f i=true then be c else scanRow f (i+1) r
def bQ(f:Int->Int->Bool):Nat->List Lq->Option Nat
 |_,[]=>w6
 |j,l::r=>match scanRow (λi=>f i j) 0 (cs l)with|some c=>be c|none=>bQ f (j+1) r
def Leaf.hit(l:Leaf)(x y:Int):Option Nat:=bQ (λi j=>onB l.a l.b l.c l.d (l.w0*x+l.w1*y+l.w4-i) (l.w2*x+l.w3*y+l.w5-j)) 0 l.rows
def Leaf.shows(l:Leaf)(x y:Int):Int:=match l.hit x y with|some c=>cell l.hues ((c:Int)-48)|none=>0
def one_sign:(#[[c].toArray]:Lq)="."↔c=46:=by
 constructor
 .intro h;have:([c].toArray:Array Nat)=(".":Lq).cps:=congrArg Str.cps h;have e:([c].toArray:Array Nat).toList=(".":Lq).cps.toList:=by rw[this]
  have e2:(".":Lq).cps.toList=[46]:=rfl;rw[e2]at e;simpa using e
 .rintro rfl;rfl
def digit_of(h:49<=c/\c<=54):PySem.intText? (#[[c].toArray]:Lq)=be ((c:Int)-48):=by
 rcases(Md:c=49\/c=50\/c=51\/c=52\/c=53\/c=54)with e|e|e|e|e|e<;>subst e<;>decide+kernel
def at_str{j:Nat}{x:Lq}(h:L[j]?=be x):atI (L.map D.str) (j:Int)=be (.str x):=bZ (by rw[HI,h];rfl)
def cA{n:Int}{x:D}(h:((HC n.toNat).map λk=>D.int ((k:Nat):Int))[k]?=be x):k<n.toNat/\x=.int (k:Int):=by
 have hk:k<n.toNat:=by simpa using(HJ.mp h).1
 refine#[hk,?_];simp[hk]at h;exact h.symm
def cx{n:Int}:((HC n.toNat).map λk=>D.int ((k:Nat):Int)).length=n.toNat:=Mn
def aZ:List Leaf->Int->Int->Int
 |[],_,_=>0
 |l::r,x,y=>if l.shows x y≠0 then l.shows x y else aZ r x y
variable{hs:List Int}
def Cr(h:∀h∈hs,0<=h/\h<=6)(k:Int):0<=cell hs k/\cell hs k<=6:=by
 by_cases hk:k.toNat<hs.length
 .have:cell hs k=hs[k.toNat]:=by simp[cell,ID,HP hk]
  rw[this];exact h _ (Im hk)
 .have:cell hs k=0:=by simp[cell,ID,Io (JQ hk)]
  lia
def Leaf.shows_le{l:Leaf}(h:l.Ok)(x y:Int):0<=l.shows x y/\l.shows x y<=6:=by
 unfold Leaf.shows;split
 .exact Cr h.hue _
 .lia
def uo:∀{ls:List Leaf} (x y:Int),(∀l∈ls,l.Ok)->0<=aZ ls x y/\aZ ls x y<=6
 |[],_,_,_=>by simp[aZ]
 |l::r,x,y,h=>by
  unfold aZ;split
  .exact Leaf.shows_le (h l Hy) x y
  .exact uo x y λl' q=>h l' (Hz _ q)
def bA(L:List Lq)(a b c d:Int):Leaf:=#[L,a,b,c,d,1,0,0,1,0,0,[0,1,2,3,4,5,6]]
def Cs:SpD:=λds R=>∃(ns:List Int) (k:Int),ds=[.rol (ns.map D.int),.int k]/\0<=k/\
 ∀(L:List Lq) (a b c d:Int),Rows L->B12 a->B12 b->B12 c->B12 d->¬a*d=b*c->R (.lst [.str (cX L a b c d),.int 0,.lst [(bA L a b c d).D]])
def Ct:SpD:=λds R=>∃(l:Leaf) (x y:Int),ds=[l.D,.int x,.int y]/\l.Ok/\R (.int (l.shows x y))
def Cu:SpD:=λds R=>∃(ls:List Leaf) (x y:Int),ds=[.lst (ls.map Leaf.D),.int x,.int y]/\(∀l∈ls,l.Ok)/\R (.int (aZ ls x y))
inductive Pat where
 |mot (L:List Str) (a b c d:Int)
 |over (p q:Pat)
 |sh (a b:Int) (p:Pat)
 |mir (p:Pat)
 |tur (p:Pat)
 |hue (f g:Int) (p:Pat)
def Pat.text:Pat->Lq
 |.mot L a b c d=>cX L a b c d
 |.over p q=>(((("(":Lq)++p.text)++"|")++q.text)++")"
 |.sh a b p=>((((("s":Lq)++(toString a:String))++",")++(toString b:String))++":")++p.text
 |.mir p=>("m":Lq)++p.text
 |.tur p=>("t":Lq)++p.text
 |.hue f g p=>((("h":Lq)++(toString f:String))++(toString g:String))++p.text
def Pat.depth:Pat->Nat
 |.mot ..=>0
 |.over p q=>1+max p.depth q.depth
 |.sh _ _ p=>p.depth+1
 |.mir p=>p.depth+1
 |.tur p=>p.depth+1
 |.hue _ _ p=>p.depth+1
def Leaf.by(l:Leaf)(b0 b1 b2 b3 b4 b5:Int):Leaf:=
 {l with w0:=l.w0*b0+l.w1*b2,w1:=l.w0*b1+l.w1*b3,w2:=l.w2*b0+l.w3*b2,w3:=l.w2*b1+l.w3*b3,w4:=l.w4+l.w0*b4+l.w1*b5,w5:=l.w5+l.w2*b4+l.w3*b5}
def bL(f g h:Int):Int:=if h=f then g else h
def Leaf.dye(l:Leaf)(f g:Int):Leaf:={l with hues:=l.hues.map (bL f g)}
def Pat.leaves:Pat->List Leaf
 |.mot L a b c d=>[bA L a b c d]
 |.over p q=>p.leaves++q.leaves
 |.sh a b p=>p.leaves.map (λl=>l.by 1 0 0 1 (-a) (-b))
 |.mir p=>p.leaves.map (λl=>l.by (-1) 0 0 1 0 0)
 |.tur p=>p.leaves.map (λl=>l.by 0 1 (-1) 0 0 0)
 |.hue f g p=>p.leaves.map (λl=>(l.by 1 0 0 1 0 0).dye f g)
def Pat.show:Pat->Int->Int->Int
 |.mot L a b c d,x,y=>(bA L a b c d).shows x y
 |.over p q,x,y=>if p.show x y≠0 then p.show x y else q.show x y
 |.sh a b p,x,y=>p.show (x-a) (y-b)
 |.mir p,x,y=>p.show (-x) y
 |.tur p,x,y=>p.show y (-x)
 |.hue f g p,x,y=>bL f g (p.show x y)
def Pat.Wf:Pat->Prop
 |.mot L a b c d=>Rows L/\B12 a/\B12 b/\B12 c/\B12 d/\¬a*d=b*c
 |.over p q=>p.Wf/\q.Wf
 |.sh a b p=>B12 a/\B12 b/\p.Wf
 |.mir p=>p.Wf
 |.tur p=>p.Wf
 |.hue f g p=>(1<=f/\f<=6)/\(1<=g/\g<=6)/\p.Wf
def Leaf.by_shows(l:Leaf)(b0 b1 b2 b3 b4 b5 x y:Int):(l.by b0 b1 b2 b3 b4 b5).shows x y=l.shows (b0*x+b1*y+b4) (b2*x+b3*y+b5):=by
 have e1:(l.w0*b0+l.w1*b2)*x+(l.w0*b1+l.w1*b3)*y+(l.w4+l.w0*b4+l.w1*b5)=l.w0*(b0*x+b1*y+b4)+l.w1*(b2*x+b3*y+b5)+l.w4:=Np
 have e2:(l.w2*b0+l.w3*b2)*x+(l.w2*b1+l.w3*b3)*y+(l.w5+l.w2*b4+l.w3*b5)=l.w2*(b0*x+b1*y+b4)+l.w3*(b2*x+b3*y+b5)+l.w5:=Np
 simp only[Leaf.shows,Leaf.hit,Leaf.by,e1,e2]
def gG(b0 b1 b2 b3 b4 b5 x y:Int):∀ls:List Leaf,aZ (ls.map (λl=>l.by b0 b1 b2 b3 b4 b5)) x y=aZ ls (b0*x+b1*y+b4) (b2*x+b3*y+b5)
 |[]=>rfl
 |l::r=>by
  rw[HR,aZ,aZ,Leaf.by_shows,gG b0 b1 b2 b3 b4 b5 x y r]
def scanRow_sign{f:Int->Bool}:∀{cs:List Nat} {i c:Nat},(∀c∈cs,aN c)->scanRow f i cs=be c->49<=c/\c<=54
 |[],_,_,_,h=>by cases h
 |a::r,i,c,hs,h=>by
  rw[scanRow]at h;split at h
  .rename_i q;cases h;have:=hs a Hy;unfold aN at this;have:=q.1;lia
  .exact scanRow_sign (λc q=>hs c (Hz _ q)) h
def kY{f:Int->Int->Bool}:∀{L:List Lq} {j c:Nat},(∀l∈L,∀c∈cs l,aN c)->bQ f j L=be c->49<=c/\c<=54
 |[],_,_,_,h=>by cases h
 |a::r,j,c,hs,h=>by
  rw[bQ]at h;split at h
  .rename_i q;cases h;exact scanRow_sign (hs a Hy) q
  .exact kY (λl q=>hs l (Hz _ q)) h
def Cw{k:Int}(h:k.toNat<hs.length):cell (hs.map (bL f g)) k=bL f g (cell hs k):=by
 simp[cell,ID,HI,HP h]
def Leaf.dye_shows{l:Leaf}(ok:l.Ok)(hf:1<=f)(x y:Int):(l.dye f g).shows x y=bL f g (l.shows x y):=by
 have e:(l.dye f g).hit x y=l.hit x y:=rfl;unfold Leaf.shows;rw[e];cases h:l.hit x y with
 |none=>simp[bL];lia
 |some c=>
  have hc:49<=c/\c<=54:=kY (λl' q=>let ⟨_,_,_,h⟩:=ok.rows;(h l' q).2) h;exact Cw (by rw[ok.many];lia)
def uq(hf:1<=f)(hg:1<=g):bL f g h=0↔h=0:=by
 unfold bL;split<;>lia
def uu{f g:Int}(hf:1<=f)(hg:1<=g)(x y:Int):∀ls:List Leaf,(∀l∈ls,l.Ok)->aZ (ls.map (λl=>l.dye f g)) x y=bL f g (aZ ls x y)
 |[],_=>by simp[aZ,bL];lia
 |l::r,h=>by
  rw[HR,aZ,aZ,Leaf.dye_shows (h l Hy) hf,uu hf hg x y r λl q=>h l (Hz _ q)];by_cases z:l.shows x y=0
  .rw[if_neg (λq=>q ((uq hf hg).mpr z)),if_neg (λq=>q z)]
  .rw[if_pos (λq=>z ((uq hf hg).mp q)),if_pos z]
def uw(x y:Int):∀(a b:List Leaf),aZ (a++b) x y=if aZ a x y≠0 then aZ a x y else aZ b x y
 |[],b=>by simp[aZ]
 |l::r,b=>by
  rw[Ih,aZ,aZ];by_cases z:l.shows x y≠0
  .rw[if_pos z,if_pos z,if_pos z]
  .rw[if_neg z,if_neg z,uw x y r b]
structure Leaf.Near(l:Leaf)(n:Nat):Prop where
 u0:(l.w0.natAbs=1/\l.w1=0/\l.w2=0/\l.w3.natAbs=1)\/(l.w0=0/\l.w1.natAbs=1/\l.w2.natAbs=1/\l.w3=0)
 w4:l.w4.natAbs<=24*n
 w5:l.w5.natAbs<=24*n
variable{n:Nat}
def Leaf.Near.mono{l:Leaf}{m:Nat}(h:l.Near n)(k:n<=m):l.Near m:=#[h.u0,by have:=h.w4;lia,by have:=h.w5;lia]
def Leaf.Near.unit{l:Leaf}(h:l.Near n):(l.w0=1\/l.w0=-1\/l.w0=0)/\(l.w1=1\/l.w1=-1\/l.w1=0)/\(l.w2=1\/l.w2=-1\/l.w2=0)/\(l.w3=1\/l.w3=-1\/l.w3=0):=by
 have k:∀{w:Int},w.natAbs=1->w=1\/w=-1\/w=0:=λ{w} e=>(Int.natAbs_eq w).imp (λz=>by rw[z,e];rfl) λz=>.inl (by rw[z,e];rfl);rcases h.u0 with⟨p,q,r,t⟩|⟨p,q,r,t⟩
 .exact#[k p,.inr (.inr q),.inr (.inr r),k t]
 .exact#[.inr (.inr p),k q,k r,.inr (.inr t)]
def ux(h:w=1\/w=-1\/w=0):w.natAbs<=1:=by rcases h with rfl|rfl|rfl<;>decide
def near_add(h:e.natAbs<=24*n)(hw:w=1\/w=-1\/w=0)(hv:v=1\/v=-1\/v=0)(ha:B12 a)(hb:B12 b):(e+w* -a+v* -b).natAbs<=24*(n+1):=by
 have m:∀{w a:Int},(w=1\/w=-1\/w=0)->B12 a->(w* -a).natAbs<=12:=λ{w a} hw ha=>by
  rw[Iu,J3];exact IZ (ux hw) (show a.natAbs<=12 by unfold B12 at ha;clear hw;lia)
 rw[show 24*(n+1)=24*n+12+12 from rfl];exact HG (JZ _ _) (JE (HG (JZ _ _) (JE h (m hw ha))) (m hv hb))
def Cy{l:Leaf}(h:l.Near n)(ha:B12 a)(hb:B12 b):(l.by 1 0 0 1 (-a) (-b)).Near (n+1):=by
 let#[h0,h1,h2,h3]:=h.unit;exact#[by simpa[Leaf.by]using h.u0,near_add h.w4 h0 h1 ha hb,near_add h.w5 h2 h3 ha hb]
def Cz{l:Leaf}(h:l.Near n):(l.by (-1) 0 0 1 0 0).Near (n+1):=by
 have p:=h.w4;have q:=h.w5;exact#[by simpa[Leaf.by]using h.u0,by simp[Leaf.by];lia,by simp[Leaf.by];lia]
def CA{l:Leaf}(h:l.Near n):(l.by 0 1 (-1) 0 0 0).Near (n+1):=by
 have p:=h.w4;have q:=h.w5;refine#[?_,by simp[Leaf.by];lia,by simp[Leaf.by];lia];rcases h.u0 with⟨a,b,c,d⟩|⟨a,b,c,d⟩
 .exact .inr (by simp[Leaf.by,a,b,c,d])
 .exact .inl (by simp[Leaf.by,a,b,c,d])
def uy{l:Leaf}(h:l.Near n):((l.by 1 0 0 1 0 0).dye f g).Near (n+1):=by
 have p:=h.w4;have q:=h.w5;exact#[by simpa[Leaf.by,Leaf.dye]using h.u0,by simp[Leaf.by,Leaf.dye];lia,by simp[Leaf.by,Leaf.dye];lia]
structure Leaf.Good(l:Leaf):Prop where
 rows:Rows l.rows
 a:B12 l.a
 b:B12 l.b
 c:B12 l.c
 d:B12 l.d
 ne:¬l.a*l.d=l.b*l.c
 many:l.hues.length=7
 hue:∀h∈l.hues,0<=h/\h<=6
def Leaf.ok_of{l:Leaf}(g:l.Good)(h:l.Near n)(hn:n<=40):l.Ok:=by
 have:=h.u0;have:=h.w4;have:=h.w5;exact#[g.rows,g.a,g.b,g.c,g.d,g.ne,Md,Md,Md,Md,Md,Md,g.many,g.hue]
def Pat.leaf_good:∀{p:Pat},p.Wf->∀l∈p.leaves,l.Good/\l.Near p.depth
 |.mot L a b c d,h,l,q=>by
  have:l=bA L a b c d:=by simpa[Pat.leaves]using q
  subst this;let#[h1,h2,h3,h4,h5,h6]:=h;exact#[#[h1,h2,h3,h4,h5,h6,rfl,by intro h q;simp[bA]at q;lia],#[by simp[bA],by simp[bA],by simp[bA]]]
 |.over p r,h,l,q=>by
  rcases HX.mp q with q|q
  .obtain⟨g,n⟩:=Pat.leaf_good h.1 l q;exact#[g,n.mono (by simp only[Pat.depth];lia)]
  .obtain⟨g,n⟩:=Pat.leaf_good h.2 l q;exact#[g,n.mono (by simp only[Pat.depth];lia)]
 |.sh a b p,h,l,q=>by
  let#[l',q',rfl]:=HW.mp q;let#[g,n]:=Pat.leaf_good h.2.2 l' q';exact#[#[g.rows,g.a,g.b,g.c,g.d,g.ne,g.many,g.hue],Cy n h.1 h.2.1]
 |.mir p,h,l,q=>by
  let#[l',q',rfl]:=HW.mp q;let#[g,n]:=Pat.leaf_good (p:=p) h l' q';exact#[#[g.rows,g.a,g.b,g.c,g.d,g.ne,g.many,g.hue],Cz n]
 |.tur p,h,l,q=>by
  let#[l',q',rfl]:=HW.mp q;let#[g,n]:=Pat.leaf_good (p:=p) h l' q';exact#[#[g.rows,g.a,g.b,g.c,g.d,g.ne,g.many,g.hue],CA n]
 |.hue f k p,h,l,q=>by
  let#[l',q',rfl]:=HW.mp q;let#[g,n]:=Pat.leaf_good (p:=p) h.2.2 l' q';refine#[#[g.rows,g.a,g.b,g.c,g.d,g.ne,?_,λv hv=>?_],uy n]
  .show(l'.hues.map _).length=7;rw[HE];exact g.many
  .obtain⟨u,hu,rfl⟩:=HW.mp hv;have:=g.hue u hu;have:=h.2.1;unfold bL;split<;>lia
variable{p:Pat}
def Pat.leaf_ok(h:p.Wf)(hd:p.depth<=40):∀l∈p.leaves,l.Ok:=λl q=>Leaf.ok_of (Pat.leaf_good h l q).1 (Pat.leaf_good h l q).2 hd
def Pat.show_leaves:∀{p:Pat},p.Wf->p.depth<=40->∀x y,aZ p.leaves x y=p.show x y
 |.mot L a b c d,_,_,x,y=>by
  simp only[Pat.leaves,Pat.show,aZ];split
  .rfl
  .lia
 |.over p q,h,hd,x,y=>by
  simp only[Pat.depth]at hd;rw[Pat.leaves,uw,Pat.show_leaves h.1 Md,Pat.show_leaves h.2 Md,Pat.show]
 |.sh a b p,h,hd,x,y=>by
  simp only[Pat.depth]at hd;rw[Pat.leaves,gG,Pat.show_leaves h.2.2 Md,Pat.show];congr 1<;>lia
 |.mir p,h,hd,x,y=>by
  simp only[Pat.depth]at hd;rw[Pat.leaves,gG,Pat.show_leaves (p:=p) h Md,Pat.show];congr 1<;>lia
 |.tur p,h,hd,x,y=>by
  simp only[Pat.depth]at hd;rw[Pat.leaves,gG,Pat.show_leaves (p:=p) h Md,Pat.show];congr 1<;>lia
 |.hue f g p,h,hd,x,y=>by
  simp only[Pat.depth]at hd;have e:p.leaves.map (λl=>(l.by 1 0 0 1 0 0).dye f g)=(p.leaves.map (λl=>l.by 1 0 0 1 0 0)).map (λl=>l.dye f g):=by rw[Jb];rfl
  rw[Pat.leaves,e,uu h.1.1 h.2.1.1,gG,Pat.show_leaves h.2.2 Md,Pat.show]
  .congr 2<;>lia
  .intro l q;let#[l',q',rfl]:=HW.mp q;let#[g',n]:=Pat.leaf_good h.2.2 l' q';have n':=uy (f:=f) (g:=g) n;have:(l'.by 1 0 0 1 0 0).Near (p.depth+1):=#[n'.u0,n'.w4,n'.w5];exact Leaf.ok_of #[g'.rows,g'.a,g'.b,g'.c,g'.d,g'.ne,g'.many,g'.hue] this Md
def Pat.D(p:Pat):My.D:=.lst [.str p.text,.int p.depth,.lst (p.leaves.map Leaf.D)]
def Leaf.T(dy:Bool)(f7 new b0 b1 b2 b3 b4 b5:Int)(l:Leaf):Leaf:=if dy then(l.by b0 b1 b2 b3 b4 b5).dye f7 new else l.by b0 b1 b2 b3 b4 b5
def dF(h:1<=a/\a<=6):((toString a:String):Lq).length<=3:=bE Md
def Wraps(p:Pat)(H:Prop)(R:My.D->Prop):Prop:=(5<=p.depth->R p.D)/\(p.depth<5->R (Pat.mir p).D/\R (Pat.tur p).D/\(∀a b,B12 a->B12 b->R (Pat.sh a b p).D)/\(H->∀f g:Int,(1<=f/\f<=6)->(1<=g/\g<=6)->R (Pat.hue f g p).D))
variable{A:Int}
def CB{R:My.D->Prop}(h:Wraps p (j=3) R)(hd:p.depth<5){k B f7 new:Int}(hA:B12 A)(hB:B12 B)(ho:1<=f7/\f7<=6)(hn:1<=new/\new<=6)(hj:0<=j/\j<4):
  ∃(hs:Lq) (b0 b1 b2 b3 b4 b5:Int),atI [D.str "m",D.str "t",D.str ((((("s":Lq)++(toString A:String))++",")++(toString B:String))++":"),D.str ((("h":Lq)++(toString f7:String))++(toString new:String))] j=be (.str hs)/\
   atI ([D.tup [.int (-1),.int 0,.int 0,.int 1,.int 0,.int 0],D.tup [.int 0,.int 1,.int (-1),.int 0,.int 0,.int 0]]++[D.tup [.int 1,.int 0,.int 0,.int 1,.int (-A),.int (-B)],D.tup [.int 1,.int 0,.int 0,.int 1,.int 0,.int 0]]) j=be (.tup [.int b0,.int b1,.int b2,.int b3,.int b4,.int b5])/\
   (b0.natAbs<=1/\b1.natAbs<=1/\b2.natAbs<=1/\b3.natAbs<=1/\b4.natAbs<=12/\b5.natAbs<=12)/\hs.length<=20/\
   R (.lst [.str (hs++p.text),.int (p.depth+1),.lst ((p.leaves.map (Leaf.T (decide (j=3)) f7 new b0 b1 b2 b3 b4 b5)).map Leaf.D)]):=by
 let#[h1,h2,h3,h4]:=h.2 hd;have l1:("s":Lq).length=1:=rfl;have l2:(",":Lq).length=1:=rfl;have l3:(":":Lq).length=1:=rfl;have l4:("h":Lq).length=1:=rfl;have lA:=bE hA;have lB:=bE hB;have lo:=dF ho;have ln:=dF hn;have eD:∀n:Nat,D.int ((n+1:Nat):Int)=D.int ((n:Int)+1):=λn=>by congr 1
 unfold B12 at hA hB;rcases(Md:j=0\/j=1\/j=2\/j=3)with rfl|rfl|rfl|rfl
 .exact#[_,_,_,_,_,_,_,rfl,rfl,Md,Mh,h1]
 .exact#[_,_,_,_,_,_,_,rfl,rfl,Md,Mh,h2]
 .refine#[_,_,_,_,_,_,_,rfl,rfl,Md,?_,h3 A B hA hB]
  repeat rw[aw]
  lia
 .refine#[_,_,_,_,_,_,_,rfl,rfl,Md,?_,h4 rfl f7 new ho hn]
  repeat rw[aw]
  lia
def CC(h f7 new:Int):atI [D.int h,D.int new] (if decide (h=f7)=true then(1:Int)else 0)=be (.int (bL f7 new h)):=by
 unfold bL;by_cases e:h=f7
 .rw[if_pos e,if_pos (by simpa using e)];rfl
 .rw[if_neg e,if_neg (by simpa using e)];rfl
def take_snoc{α:Type}{xs:List α}{x:α}(h:xs[k]?=be x):xs.take (k+1)=xs.take k++[x]:=by
 have hk:k<xs.length:=(HJ.mp h).1;rw[Kz,h];rfl
def Pat.leaves_len:∀(p:Pat),p.leaves.length<=2^p.depth
 |.mot ..=>Hw _
 |.over p q=>by
  have h1:=p.leaves_len;have h2:=q.leaves_len;have m1:2^p.depth<=2^(max p.depth q.depth):=Iv Mh (J7 _ _);have m2:2^q.depth<=2^(max p.depth q.depth):=Iv Mh (J8 _ _);rw[Pat.leaves,HF,Pat.depth,J9];lia
 |.sh a b p=>by rw[Pat.leaves,HE,Pat.depth,Ic];have:=p.leaves_len;lia
 |.mir p=>by rw[Pat.leaves,HE,Pat.depth,Ic];have:=p.leaves_len;lia
 |.tur p=>by rw[Pat.leaves,HE,Pat.depth,Ic];have:=p.leaves_len;lia
 |.hue f g p=>by rw[Pat.leaves,HE,Pat.depth,Ic];have:=p.leaves_len;lia
def Pat.leaves_32(h:p.depth<=5):p.leaves.length<=32:=HG p.leaves_len (Iv Mh h)
def CD:SpD:=λds R=>∃(p:Pat) (draw:Int),ds=[p.D,.int draw]/\p.Wf/\p.depth<=5/\p.text.length<=100000/\Wraps p (draw%4=3) R
def uz{c:Int}(hn:¬a*d=b*c)(h:(u*d-v*c).fmod (a*d-b*c)=0/\(a*v-b*u).fmod (a*d-b*c)=0):∃i j,u=i*a+j*c/\v=i*b+j*d:=by
 have hz:a*d-b*c≠0:=Nk
 let#[i,ei]:(a*d-b*c)∣(u*d-v*c):=#[_,(KM h.1).symm];let#[j,ej]:(a*d-b*c)∣(a*v-b*u):=#[_,(KM h.2).symm];refine#[i,j,?_,?_]
 .have:(a*d-b*c)*u=(a*d-b*c)*(i*a+j*c):=by
   have q1:(a*d-b*c)*u=a*(u*d-v*c)+c*(a*v-b*u):=Np
   rw[q1,ei,ej];grind
  exact J4 hz this
 .have:(a*d-b*c)*v=(a*d-b*c)*(i*b+j*d):=by
   have q1:(a*d-b*c)*v=b*(u*d-v*c)+d*(a*v-b*u):=Np
   rw[q1,ei,ej];grind
  exact J4 hz this
def Uni.trans{c x0 x1 y0 y1:Int}(h:Uni a b c d p0 p1 q0 q1)(k:Uni p0 p1 q0 q1 x0 x1 y0 y1):Uni a b c d x0 x1 y0 y1:=by
 let#[m,n,k1,l,hd,rfl,rfl,rfl,rfl]:=h;let#[m',n',k',l',g_,rfl,rfl,rfl,rfl]:=k;have dt:(m'*m+n'*k1)*(k'*n+l'*l)-(m'*n+n'*l)*(k'*m+l'*k1)=(m'*l'-n'*k')*(m*l-n*k1):=Np
 refine#[m'*m+n'*k1,m'*n+n'*l,k'*m+l'*k1,k'*n+l'*l,?_,Np,Np,Np,Np];rw[dt];rcases hd with e|e<;>rcases g_ with e'|e'<;>rw[e,e']<;>decide
def fF:∀(n:Nat) (a b c d:Int),d.natAbs<=n->∃p0 p1 q0,Lev a b c d p0 p1 q0
 |n,a,b,c,d,hn=>by
  by_cases hd:d=0
  .subst hd;by_cases hb:0<=b
   .exact#[a,b,c,hb,Uni.refl a b c 0]
   .exact#[-a,-b,c,Md,(Uni.refl a b c 0).neg]
  .match n,hn with
   |0,hn=>exact absurd (Md:d=0) hd
   |n+1,hn=>
    have lt:=(fdm b d hd).1;let#[p0,p1,q0,h0,hu]:=fF n c d (a-b.fdiv d*c) (b-b.fdiv d*d) Md;exact#[p0,p1,q0,h0,((Uni.refl a b c d).step (b.fdiv d)).trans hu]
def CF{c:Int}(hn:¬a*d=b*c)(g0:0<=g)(g1:g∣b)(g2:g∣d)(g3:∀e,e∣b->e∣d->e∣g):
  ∃w s,FamOf a b c d w g s:=by
 let#[p0,p1,q0,hL]:=fF d.natAbs a b c d (Hw _);have hF:=gE hn hL;have hp:=hF.2.1;let#[m,n,k,l,_,e1,e2,e3,e4]:=hL.2;let#[m',n',k',l',_,f1,f2,f3,f4]:=hL.2.inv;have d1:p1∣g:=g3 p1 #[m',by rw[f2];grind] #[k',by rw[f4];grind];have d2:g∣p1:=by
  rw[e2];exact J5 (JF g1) (JF g2)
 have:p1=g:=KN Md g0 d1 d2;subst this;exact#[_,_,hF]
def FamOf.uniq_lean{c:Int}(f:FamOf a b c d w h s)(e1:x=i*a+j*c)(e2:h=i*b+j*d)(h0:0<=x)(h1:x<=s):x=s:=by
 let#[hw,hh,hs,Ly,hu]:=f;let#[m,n,k,l,_,f1,f2,f3,f4]:=hu.inv;have ex:x=(i*m+j*k)*w+(i*n+j*l)*s:=by rw[e1,f1,f3];grind
 have eh:h=(i*n+j*l)*h:=by
  have:i*b+j*d=(i*n+j*l)*h:=by rw[f2,f4];grind
  rw[<-this];exact e2
 have one:i*n+j*l=1:=by
  have:(i*n+j*l)*h=1*h:=by lia
  exact Ja Md this
 rw[one]at ex;generalize i*m+j*k=t at ex;have:t*w=x-s:=Md
 rcases(Md:t<=-1\/t=0\/1<=t)with z|z|z
 .have:=HZ z (show 0<=w by lia);lia
 .subst z;lia
 .have:=HZ z (show 0<=w by lia);lia
def notT{c:Prop}[Decidable c](h:(!decide c)=true):¬c:=by
 intro q;rw[decide_eq_true q]at h;cases h
def notF{c:Prop}[Decidable c](h:¬(!decide c)=true):c:=by
 rcases Classical.em c with q|q
 .exact q
 .rw[decide_eq_false q]at h;exact absurd rfl h
def Leaf.o0(l:Leaf):Int:=l.w0*l.a+l.w2*l.b
def Leaf.o1(l:Leaf):Int:=l.w1*l.a+l.w3*l.b
def Leaf.t0(l:Leaf):Int:=l.w0*l.c+l.w2*l.d
def Leaf.t1(l:Leaf):Int:=l.w1*l.c+l.w3*l.d
def dG(h:w=1\/w=-1\/w=0)(ha:B12 a):(w*a).natAbs<=12:=by
 rw[Iu];exact IZ (ux h) (show a.natAbs<=12 by unfold B12 at ha;clear h;lia)
def va(ha:B12 a)(hb:B12 b):(a*b).natAbs<=144:=by
 unfold B12 at ha hb;rw[Iu];exact HG (IZ (show a.natAbs<=12 by lia) (show b.natAbs<=12 by lia)) Mh
def Leaf.sizes{l:Leaf}(g:l.Good)(h:l.Near n):l.o0.natAbs<=24/\l.o1.natAbs<=24/\l.t0.natAbs<=24/\l.t1.natAbs<=24/\¬l.o0*l.t1=l.o1*l.t0/\(l.o0*l.t1-l.o1*l.t0).natAbs<=288:=by
 let#[h0,h1,h2,h3]:=h.unit;have a0:=dG h0 g.a;have a1:=dG h1 g.a;have b2:=dG h2 g.b;have b3:=dG h3 g.b;have c0:=dG h0 g.c;have c1:=dG h1 g.c;have d2:=dG h2 g.d;have d3:=dG h3 g.d;have dt:l.o0*l.t1-l.o1*l.t0=(l.w0*l.w3-l.w1*l.w2)*(l.a*l.d-l.b*l.c):=by unfold Leaf.o0 Leaf.o1 Leaf.t0 Leaf.t1;grind
 have dw:(l.w0*l.w3-l.w1*l.w2).natAbs=1:=by
  rcases h.u0 with⟨p,q,r,t⟩|⟨p,q,r,t⟩
  .rw[q,KO,Int.sub_zero,Iu,p,t]
  .rw[p,KO,Int.zero_sub,J3,Iu,q,r]
 have da:(l.o0*l.t1-l.o1*l.t0).natAbs=(l.a*l.d-l.b*l.c).natAbs:=by rw[dt,Iu,dw,Nat.one_mul]
 refine#[ab24 a0 b2,ab24 a1 b3,ab24 c0 d2,ab24 c1 d3,λz=>g.ne ?_,?_]
 .rw[z,Int.sub_self]at da;exact Int.sub_eq_zero.mp (Kx.mp da.symm)
 .rw[da];exact HG (KF _ _) (JE (va g.a g.d) (va g.b g.c))
def CG:SpD:=λds R=>∃(l:Leaf) (n:Nat),ds=[l.D]/\l.Good/\l.Near n/\∀w h s:Int,FamOf l.o0 l.o1 l.t0 l.t1 w h s->w*h<=288->R (.tup [.int w,.int h,.int s])
def CH(h1:y%h=0/\(x-y/h*s)%w=0):∃i j,x=i*w+j*s/\y=j*h:=by
 refine#[(x-y/h*s)/w,y/h,?_,?_]
 .have:=Jc (x-y/h*s) w;rw[h1.2]at this;rw[HY w]at this;lia
 .have:=Jc y h;rw[h1.1,HY h]at this;lia
def fG(x y:Int):∃g u,Meas x y g u:=by
 let#[p0,p1,q0,hL]:=fF y.natAbs 1 x 0 y (Hw _);exact#[p1,p0,tZ #[hL.1,hL.2]]
def Meas.gcd{G:Int}(h:Meas x y g u)(g0:0<=G)(g1:G∣x)(g2:G∣y)(g3:∀e,e∣x->e∣y->e∣G):G=g:=by
 let#[h0,#[i,ei],#[j,ej],n,en]:=h;refine KN g0 h0 ?_ (g3 g #[i,by rw[ei,HY]] #[j,by rw[ej,HY]]);rw[en];exact J5 (JF g1) (JF g2)
structure Fm(w h s:Int):Prop where
 w0:0<w
 w1:w<=720
 h0:0<h
 h1:h<=720
 s0:0<=s
 sw:s<w
def CI(f:Fm w1 h1 s1)(k:Fm w2 h2 s2):∃g u w h s A,Meas w1 w2 g u/\w=w1*w2/g/\MetR w1 h1 s1 w2 h2 s2 w h s A:=by
 let#[g,u,M1]:=fG w1 w2;let#[k',u',M2]:=fG h1 h2;let#[gg,x9,M3]:=fG g (h1*h2/k'/h2*s2-h1*h2/k'/h1*s1);exact#[g,u,_,_,_,_,M1,rfl,kU f.w0 k.w0 f.h0 k.h0 M1 M2 M3]
def MetR.high(M:MetR w1 h1 s1 w2 h2 s2 w h s A)(hh:0<h1)(hj:1<=j)(e1:∃i,x=i*w1+j*s1)(e2:∃i k,x=i*w2+k*s2/\j*h1=k*h2):h<=j*h1/\(j*h1=h->0<=x->x<w->x=s):=by
 let#[i,e1]:=e1;let#[i',k,e3,e4]:=e2;let#[a,b,e5,e6]:=M.all x (j*h1) #[i,j,e1,rfl] #[i',k,e3,e4];have hp:0<j*h1:=HN Md hh;have hb:1<=b:=by
  rcases(Md:b<=0\/1<=b)with z|z
  .have:=IG z (show 0<=h by have:=M.h0;lia);lia
  .exact z
 refine#[?_,λe x0 x1=>?_]
 .have:=HZ hb (show 0<=h by have:=M.h0;lia);lia
 .have ob:b=1:=by
   have:b*h=1*h:=by lia
   exact Ja (by have:=M.h0;lia) this
  rw[ob]at e5;have s0:=M.s0;have sw:=M.sw;have:a*w=x-s:=Md
  rcases(Md:a<=-1\/a=0\/1<=a)with z|z|z
  .have:=HZ z (show 0<=w by lia);lia
  .subst z;lia
  .have:=HZ z (show 0<=w by lia);lia
def CJ:SpD:=λds R=>∃w1 h1 s1 w2 h2 s2:Int,ds=[.tup [.int w1,.int h1,.int s1],.tup [.int w2,.int h2,.int s2]]/\Fm w1 h1 s1/\Fm w2 h2 s2/\
 ∀w h s A,MetR w1 h1 s1 w2 h2 s2 w h s A->(w*h<=720->R (.tup [.int w,.int h,.int s]))/\(720<w*h->R .non)
def CK{S:Int}(hw:0<w1)(hx:x<w1)(x0:0<=x)(hS:0<=S)(e:S=i*w1+s)(e2:∃i',x=i'*w1+s):∃k,S=x+k*w1/\0<=k:=by
 let#[i',e2]:=e2;refine#[i-i',Np,?_];rcases(Md:i-i'<=-1\/0<=i-i')with z|z
 .have:=HZ z (show 0<=w1 by lia);have:(i-i')*w1=S-x:=by grind
  lia
 .exact z
def InF(w h s x y:Int):Prop:=∃i j,x=i*w+j*s/\y=j*h
def Leaf.Lat(l:Leaf)(x y:Int):Prop:=∃i j,x=i*l.o0+j*l.t0/\y=i*l.o1+j*l.t1
def FamOf.lat{c:Int}(f:FamOf a b c d w h s)(x y:Int):InF w h s x y↔∃i j,x=i*a+j*c/\y=i*b+j*d:=by
 let#[_,_,_,_,hu]:=f;let#[m,n,k,l,_,e1,e2,e3,e4]:=id hu;let#[m',n',k',l',_,f1,f2,f3,f4]:=hu.inv;constructor
 .rintro⟨i,j,rfl,rfl⟩;refine#[i*m+j*k,i*n+j*l,by rw[e1,e3];grind,?_];have z:i*0+j*h=(i*m+j*k)*b+(i*n+j*l)*d:=by rw[e2,e4];grind
  lia
 .rintro⟨i,j,rfl,rfl⟩;refine#[i*m'+j*k',i*n'+j*l',by rw[f1,f3];grind,by rw[f2,f4];grind]
def MetR.lat(M:MetR w1 h1 s1 w2 h2 s2 w h s A)(x y:Int):InF w h s x y↔InF w1 h1 s1 x y/\InF w2 h2 s2 x y:=by
 constructor
 .rintro⟨i,j,rfl,rfl⟩;let#[a1,e1]:=M.in1;let#[a2,e2]:=M.in2;let#[b1,c1,e3,e4]:=M.up1;let#[b2,c2,e5,e6]:=M.up2;refine#[#[i*a1+j*b1,j*c1,?_,?_],#[i*a2+j*b2,j*c2,?_,?_]]
  .rw[e1,e3];grind
  .rw[e4];grind
  .rw[e2,e5];grind
  .rw[e6];grind
 .rintro⟨h1,h2⟩;exact M.all x y h1 h2
variable{w' h' s':Int}
def InF.le(hw:0<w)(hh:0<h)(P_:0<w')(Qa:0<h')(sub:∀x y,InF w' h' s' x y->InF w h s x y):w*h<=w'*h'/\w<=w'/\h<=h':=by
 let#[i,j,e1,e2]:=sub w' 0 #[1,0,Md,Md];have j0:j=0:=by
  rcases JG.mp e2.symm with z|z
  .exact z
  .lia
 subst j0;have i1:1<=i:=by
  rcases(Md:i<=0\/1<=i)with z|z
  .have:=IG z (show 0<=w by lia);lia
  .exact z
 let#[i',j',e3,e4]:=sub s' h' #[0,1,Md,Md];have j1:1<=j':=by
  rcases(Md:j'<=0\/1<=j')with z|z
  .have:=IG z (show 0<=h by lia);lia
  .exact z
 have a1:=HZ i1 (show 0<=w by lia);have a2:=HZ j1 (show 0<=h by lia);have b1:w<=w':=Md
 have b2:h<=h':=Md
 exact#[Ka b1 b2 Md Md,b1,b2]
def InF.uniq(hw:0<w)(hh:0<h)(hs:0<=s)(Ly:s<w)(P_:0<w')(Qa:0<h')(MK:0<=s')(TR:s'<w')(e:∀x y,InF w h s x y↔InF w' h' s' x y):w=w'/\h=h'/\s=s':=by
 let#[_,a1,a2]:=InF.le hw hh P_ Qa (λx y q=>(e x y).mpr q);let#[_,b1,b2]:=InF.le P_ Qa hw hh (λx y q=>(e x y).mp q);have ew:w=w':=Md
 have eh:h=h':=Md
 subst ew eh;refine#[rfl,rfl,?_];let#[i,j,e1,e2]:=(e s h).mp #[0,1,Md,Md];have j1:j=1:=by
  have:j*h=1*h:=by lia
  exact Ja Md this
 subst j1;have:i*w=s-s':=Md
 rcases(Md:i<=-1\/i=0\/1<=i)with z|z|z
 .have:=HZ z (show 0<=w by lia);lia
 .subst z;lia
 .have:=HZ z (show 0<=w by lia);lia
structure Fam0(w h s:Int):Prop where
 w0:0<w
 h0:0<h
 s0:0<=s
 sw:s<w
def vb(f:Fam0 w1 h1 s1)(k:Fam0 w2 h2 s2):∃w h s,Fam0 w h s/\∀x y,InF w h s x y↔InF w1 h1 s1 x y/\InF w2 h2 s2 x y:=by
 let#[g,u,M1]:=fG w1 w2;let#[k',u',M2]:=fG h1 h2;let#[gg,x9,M3]:=fG g (h1*h2/k'/h2*s2-h1*h2/k'/h1*s1);have M:=kU f.w0 k.w0 f.h0 k.h0 M1 M2 M3;exact#[_,_,_,#[M.w0,M.h0,M.s0,M.sw],M.lat]
def Leaf.fam_ex{l:Leaf}(g:l.Good)(h:l.Near n):∃w k s,Fam0 w k s/\∀x y,InF w k s x y↔l.Lat x y:=by
 let#[_,_,_,_,ne,_]:=Leaf.sizes g h;let#[p0,p1,q0,hL]:=fF l.t1.natAbs l.o0 l.o1 l.t0 l.t1 (Hw _);have f:=gE ne hL;exact#[_,_,_,#[f.1,f.2.1,f.2.2.1,f.2.2.2.1],f.lat]
def bR(ls:List Leaf)(x y:Int):Prop:=∀l∈ls,l.Lat x y
def vc{n:Nat}:∀(ls:List Leaf) (w h s:Int),Fam0 w h s->(∀l∈ls,l.Good/\l.Near n)->∃w' h' s',Fam0 w' h' s'/\∀x y,InF w' h' s' x y↔InF w h s x y/\bR ls x y
 |[],w,h,s,f,_=>#[w,h,s,f,λx y=>#[λq=>#[q,λl z=>by cases z],λq=>q.1]]
 |l::r,w,h,s,f,g=>by
  let#[w1,h1,s1,f1,e1]:=Leaf.fam_ex (g l Hy).1 (g l Hy).2;let#[w2,h2,s2,f2,e2]:=vb f f1;let#[w3,h3,s3,f3,e3]:=vc r w2 h2 s2 f2 λl' q=>g l' (Hz _ q);refine#[w3,h3,s3,f3,λx y=>?_];rw[e3,e2,e1];constructor
  .rintro⟨⟨a,b⟩,c⟩;exact#[a,λl' q=>(Hx.mp q).elim (λz=>z ▸ b) (c l')]
  .rintro⟨a,b⟩;exact#[#[a,b l Hy],λl' q=>b l' (Hz _ q)]
def cut1(d:D)(ds:List D):cutD (d::ds) (be 1) w6=ds:=by
 unfold cutD;have e1:HT.sIx (d::ds).length 0 (be 1)=1:=by simp[HT.sIx]
 have e2:HT.sIx (d::ds).length (d::ds).length w6=(d::ds).length:=by simp[HT.sIx]
 rw[e1,e2,List.drop_one,List.tail_cons,HA,KP,JH]
def CL:SpD:=λds R=>∃(ls:List Leaf) (n:Nat),ds=[.lst (ls.map Leaf.D)]/\ls≠[]/\(∀l∈ls,l.Good/\l.Near n)/\
 ∀w h s:Int,Fam0 w h s->(∀x y,InF w h s x y↔bR ls x y)->(w*h<=720->R (.tup [.int w,.int h,.int s]))/\(720<w*h->R .non)
def Pat.Lat:Pat->Int->Int->Prop
 |.mot _ a b c d,x,y=>∃i j,x=i*a+j*c/\y=i*b+j*d
 |.over p q,x,y=>p.Lat x y/\q.Lat x y
 |.sh _ _ p,x,y=>p.Lat x y
 |.mir p,x,y=>p.Lat (-x) y
 |.tur p,x,y=>p.Lat y (-x)
 |.hue _ _ p,x,y=>p.Lat x y
def Leaf.by_lat(l:Leaf)(b0 b1 b2 b3 b4 b5 x y:Int):(l.by b0 b1 b2 b3 b4 b5).Lat x y↔∃u v,l.Lat u v/\x=b0*u+b2*v/\y=b1*u+b3*v:=by
 have e0:(l.by b0 b1 b2 b3 b4 b5).o0=b0*l.o0+b2*l.o1:=by simp only[Leaf.o0,Leaf.o1,Leaf.by];grind
 have e1:(l.by b0 b1 b2 b3 b4 b5).o1=b1*l.o0+b3*l.o1:=by simp only[Leaf.o0,Leaf.o1,Leaf.by];grind
 have e2:(l.by b0 b1 b2 b3 b4 b5).t0=b0*l.t0+b2*l.t1:=by simp only[Leaf.t0,Leaf.t1,Leaf.by];grind
 have e3:(l.by b0 b1 b2 b3 b4 b5).t1=b1*l.t0+b3*l.t1:=by simp only[Leaf.t0,Leaf.t1,Leaf.by];grind
 unfold Leaf.Lat;rw[e0,e1,e2,e3];generalize l.o0=o0;generalize l.o1=o1;generalize l.t0=t0;generalize l.t1=t1;constructor
 .rintro⟨i,j,rfl,rfl⟩;exact#[_,_,#[i,j,rfl,rfl],Np,Np]
 .rintro⟨_,_,⟨i,j,rfl,rfl⟩,rfl,rfl⟩;exact#[i,j,Np,Np]
def Leaf.dye_lat(l:Leaf)(f g x y:Int):(l.dye f g).Lat x y↔l.Lat x y:=Iff.rfl
def CM(a b:List Leaf)(x y:Int):bR (a++b) x y↔bR a x y/\bR b x y:=by
 constructor
 .intro h;exact#[λl q=>h l (IR _ q),λl q=>h l (HU _ q)]
 .rintro⟨h1,h2⟩ l q;rcases HX.mp q with q|q
  .exact h1 l q
  .exact h2 l q
def latAll_map{f:Leaf->Leaf}(hf:∀l:Leaf,(f l).Lat x y↔l.Lat u v)(ls:List Leaf):bR (ls.map f) x y↔bR ls u v:=by
 constructor
 .intro h l q;exact(hf l).mp (h _ (HW.mpr #[l,q,rfl]))
 .intro h l q;let#[l',q',rfl]:=HW.mp q;exact(hf l').mpr (h l' q')
def vd(l:Leaf)(e f x y:Int):(l.by 1 0 0 1 e f).Lat x y↔l.Lat x y:=by
 rw[Leaf.by_lat];constructor
 .rintro⟨u,v,h,e1,e2⟩;have e1:x=u:=by lia
  have e2:y=v:=Md
  rw[e1,e2];exact h
 .intro h;exact#[x,y,h,Md,Md]
def Pat.lat_leaves:∀(p:Pat) (x y:Int),bR p.leaves x y↔p.Lat x y
 | .mot L a b c d,x,y=>by
  have e0:(bA L a b c d).o0=a:=by simp[Leaf.o0,bA]
  have e1:(bA L a b c d).o1=b:=by simp[Leaf.o1,bA]
  have e2:(bA L a b c d).t0=c:=by simp[Leaf.t0,bA]
  have e3:(bA L a b c d).t1=d:=by simp[Leaf.t1,bA]
  have e:(bA L a b c d).Lat x y↔(Pat.mot L a b c d).Lat x y:=by
   unfold Leaf.Lat;rw[e0,e1,e2,e3];exact Iff.rfl
  rw[<-e];constructor
  .intro h;exact h _ Hy
  .intro h l q;rw[Hv.mp q];exact h
 |.over p q,x,y=>by rw[Pat.leaves,CM,Pat.lat_leaves p,Pat.lat_leaves q,Pat.Lat]
 |.sh a b p,x,y=>by rw[Pat.leaves,latAll_map (λl=>vd l _ _ x y),Pat.lat_leaves p,Pat.Lat]
 | .mir p,x,y=>by
  have e:∀l:Leaf,(l.by (-1) 0 0 1 0 0).Lat x y↔l.Lat (-x) y:=λl=>by
   rw[Leaf.by_lat];constructor
   .rintro⟨u,v,h,e1,e2⟩;have e1:-x=u:=by lia
    have e2:y=v:=Md
    rw[e1,e2];exact h
   .intro h;exact#[-x,y,h,Md,Md]
  rw[Pat.leaves,latAll_map e,Pat.lat_leaves p,Pat.Lat]
 | .tur p,x,y=>by
  have e:∀l:Leaf,(l.by 0 1 (-1) 0 0 0).Lat x y↔l.Lat y (-x):=λl=>by
   rw[Leaf.by_lat];constructor
   .rintro⟨u,v,h,e1,e2⟩;have e1:-x=v:=by lia
    have e2:y=u:=Md
    rw[e1,e2];exact h
   .intro h;exact#[y,-x,h,Md,Md]
  rw[Pat.leaves,latAll_map e,Pat.lat_leaves p,Pat.Lat]
 |.hue f g p,x,y=>by
  rw[Pat.leaves,latAll_map (λl=>(Leaf.dye_lat _ f g x y).trans (vd l _ _ x y)),Pat.lat_leaves p,Pat.Lat]
structure Pat.Fam(p:Pat)(w h s:Int):Prop where
 f:Fam0 w h s
 lat:∀x y,InF w h s x y↔p.Lat x y
def Pat.Fam.uniq(a:p.Fam w h s)(b:p.Fam w' h' s'):w=w'/\h=h'/\s=s':=
 InF.uniq a.f.w0 a.f.h0 a.f.s0 a.f.sw b.f.w0 b.f.h0 b.f.s0 b.f.sw λx y=>(a.lat x y).trans (b.lat x y).symm
def Pat.Fam.mot{c:Int}(k:FamOf a b c d w h s):(Pat.mot L a b c d).Fam w h s:=#[#[k.1,k.2.1,k.2.2.1,k.2.2.2.1],k.lat]
def Pat.Fam.sh(a b:Int)(k:p.Fam w h s):(Pat.sh a b p).Fam w h s:=#[k.f,k.lat]
def Pat.Fam.hue(a b:Int)(k:p.Fam w h s):(Pat.hue a b p).Fam w h s:=#[k.f,k.lat]
def Pat.Fam.mir(k:p.Fam w h s):(Pat.mir p).Fam w h (-s%w):=by
 refine#[#[k.f.w0,k.f.h0,cU k.f.w0,cV k.f.w0],λx y=>?_];show _↔p.Lat (-x) y;rw[<-k.lat];have e:=IP (-s) w;generalize -s%w=r at e;generalize -s/w=t at e;constructor
 .rintro⟨i,j,rfl,rfl⟩;exact#[j*t-i,j,by rw[e];grind,rfl]
 .rintro⟨i,j,ex,rfl⟩;exact#[j*t-i,j,by rw[e];grind,rfl]
def Pat.Fam.tur(k:p.Fam w h s)(f:FamOf 0 w (-h) s w' h' s'):(Pat.tur p).Fam w' h' s':=by
 refine#[#[f.1,f.2.1,f.2.2.1,f.2.2.2.1],λx y=>?_];show _↔p.Lat y (-x);rw[<-k.lat,f.lat];constructor
 .rintro⟨i,j,rfl,rfl⟩;exact#[i,j,Np,Np]
 .rintro⟨i,j,ex,ey⟩;exact#[i,j,Np,Np]
variable{q:Pat}
def Pat.Fam.over(k1:p.Fam w1 h1 s1)(k2:q.Fam w2 h2 s2)(M:MetR w1 h1 s1 w2 h2 s2 w h s A):(Pat.over p q).Fam w h s:=by
 refine#[#[M.w0,M.h0,M.s0,M.sw],λx y=>?_];rw[M.lat,k1.lat,k2.lat];exact Iff.rfl
def iB(hw:0<w)(hh:0<h):∃w' h' s',FamOf 0 w (-h) s w' h' s'/\w'*h'=w*h:=by
 have hp:0<w*h:=HN hw hh;have hn:¬0*s=w* -h:=by rw[JI];lia
 let#[p0,p1,q0,hL]:=fF s.natAbs 0 w (-h) s (Hw _);have f:=gE hn hL;refine#[_,_,_,f,?_];have ML:=HN f.1 f.2.1;have c:=f.cells;rw[JI]at c;lia
def ve{c:Int}(hn:¬a*d=b*c):∃w h s,FamOf a b c d w h s/\(Pat.mot L a b c d).Fam w h s:=by
 let#[p0,p1,q0,hL]:=fF d.natAbs a b c d (Hw _);have f:=gE hn hL;exact#[_,_,_,f,.mot f]
def Pat.fam_ex:∀{p:Pat},p.Wf->∃w h s,p.Fam w h s
 |.mot L a b c d,h=>by
  let#[w,k,s,_,f]:=ve (L:=L) h.2.2.2.2.2;exact#[w,k,s,f]
 |.over p q,h=>by
  let#[w1,h1,s1,f1]:=Pat.fam_ex h.1;let#[w2,h2,s2,f2]:=Pat.fam_ex h.2;let#[w,k,s,f,e]:=vb f1.f f2.f;refine#[w,k,s,f,λx y=>?_];rw[e,f1.lat,f2.lat];exact Iff.rfl
 |.sh a b p,h=>by
  let#[w,k,s,f]:=Pat.fam_ex h.2.2;exact#[w,k,s,f.sh a b]
 |.mir p,h=>by
  let#[w,k,s,f]:=Pat.fam_ex (p:=p) h;exact#[w,k,_,f.mir]
 |.tur p,h=>by
  let#[w,k,s,f]:=Pat.fam_ex (p:=p) h;let#[w',k',s',f',_]:=iB (s:=s) f.f.w0 f.f.h0;exact#[w',k',s',f.tur f']
 |.hue a b p,h=>by
  let#[w,k,s,f]:=Pat.fam_ex h.2.2;exact#[w,k,s,f.hue a b]
def Pat.Fits(p:Pat):Prop:=∃w h s,p.Fam w h s/\w*h<=720
def Pat.fits_mot{c:Int}(ha:B12 a)(hb:B12 b)(hc:B12 c)(hd:B12 d)(hn:¬a*d=b*c):(Pat.mot L a b c d).Fits:=by
 let#[w,h,s,k,f]:=ve (L:=L) hn;refine#[w,h,s,f,?_];have kc:=k.cells;unfold B12 at*;have m1:=bK (a:=a) (d:=d) (A:=12) (B:=12) Md Md;have m2:=bK (a:=b) (d:=c) (A:=12) (B:=12) Md Md;lia
def Pat.Fits.sh(a b:Int)(k:p.Fits):(Pat.sh a b p).Fits:=by
 let#[w,h,s,f,q]:=k;exact#[w,h,s,f.sh a b,q]
def Pat.Fits.hue(a b:Int)(k:p.Fits):(Pat.hue a b p).Fits:=by
 let#[w,h,s,f,q]:=k;exact#[w,h,s,f.hue a b,q]
def Pat.Fits.mir(k:p.Fits):(Pat.mir p).Fits:=by
 let#[w,h,s,f,q]:=k;exact#[w,h,_,f.mir,q]
def Pat.Fits.tur(k:p.Fits):(Pat.tur p).Fits:=by
 let#[w,h,s,f,q]:=k;let#[w',k',s',f',e]:=iB (s:=s) f.f.w0 f.f.h0;exact#[w',k',s',f.tur f',Md]
def kZ{c:Int}(hL:Rows L)(ha:B12 a)(hb:B12 b)(hc:B12 c)(hd:B12 d):(cX L a b c d).length<=100:=by
 have la:=bE ha;have lb:=bE hb;have lc:=bE hc;have ld:=bE hd;have l1:(";":Lq).length=1:=rfl;have l2:(",":Lq).length=1:=rfl;have l3:("[":Lq).length=1:=rfl;have l4:("]":Lq).length=1:=rfl;have ls:=um hL;have lj:=StrLaws.join_length_le "/" L;have lg:(Txt.join "/" L).length<=72:=by
  have e:Txt.join "/" L=Str.join "/" L:=StrLaws.glued_eq_join _ _;rw[e];exact HG lj ls
 unfold cX
 repeat rw[aw]
 lia
def Pat.text_len:∀{p:Pat},p.Wf->p.text.length+10<=110*2^p.depth
 |.mot L a b c d,h=>by
  have:=kZ h.1 h.2.1 h.2.2.1 h.2.2.2.1 h.2.2.2.2.1;show(cX L a b c d).length+10<=110*2^0;lia
 |.over p q,h=>by
  have h1:=Pat.text_len h.1;have h2:=Pat.text_len h.2;have m1:2^p.depth<=2^(max p.depth q.depth):=Iv Mh (J7 _ _);have m2:2^q.depth<=2^(max p.depth q.depth):=Iv Mh (J8 _ _);have l1:("(":Lq).length=1:=rfl;have l2:("|":Lq).length=1:=rfl;have l3:(")":Lq).length=1:=rfl;rw[Pat.text,Pat.depth,J9]
  repeat rw[aw]
  lia
 |.sh a b p,h=>by
  have h1:=Pat.text_len h.2.2;have la:=bE h.1;have lb:=bE h.2.1;have l1:("s":Lq).length=1:=rfl;have l2:(",":Lq).length=1:=rfl;have l3:(":":Lq).length=1:=rfl;have:0<2^p.depth:=IH Mh;rw[Pat.text,Pat.depth,Ic]
  repeat rw[aw]
  lia
 |.mir p,h=>by
  have h1:=Pat.text_len (p:=p) h;have l1:("m":Lq).length=1:=rfl;have:0<2^p.depth:=IH Mh;rw[Pat.text,Pat.depth,Ic,aw];lia
 |.tur p,h=>by
  have h1:=Pat.text_len (p:=p) h;have l1:("t":Lq).length=1:=rfl;have:0<2^p.depth:=IH Mh;rw[Pat.text,Pat.depth,Ic,aw];lia
 |.hue f g p,h=>by
  have h1:=Pat.text_len h.2.2;have la:=dF h.1;have lb:=dF h.2.1;have l1:("h":Lq).length=1:=rfl;have:0<2^p.depth:=IH Mh;rw[Pat.text,Pat.depth,Ic]
  repeat rw[aw]
  lia
def Pat.leaves_pos:∀p:Pat,0<p.leaves.length
 |.mot ..=>Nat.zero_lt_one
 |.over p q=>by rw[Pat.leaves,HF];have:=p.leaves_pos;lia
 |.sh _ _ p=>by rw[Pat.leaves,HE];exact p.leaves_pos
 |.mir p=>by rw[Pat.leaves,HE];exact p.leaves_pos
 |.tur p=>by rw[Pat.leaves,HE];exact p.leaves_pos
 |.hue _ _ p=>by rw[Pat.leaves,HE];exact p.leaves_pos
def Pat.text_short(h:p.Wf)(hd:p.depth<=5):p.text.length<=3510:=by
 have h1:=Pat.text_len h;have h2:2^p.depth<=2^5:=Iv Mh hd;lia
structure Pat.Ok(p:Pat):Prop where
 wf:p.Wf
 deep:p.depth<=5
 fits:p.Fits
def Wraps.of{H:Prop}{R:My.D->Prop}(h:p.Ok)(hR:∀q:Pat,q.Ok->R q.D):Wraps p H R:=by
 refine#[λ_=>hR p h,λhd=>#[hR _ #[h.wf,?_,h.fits.mir],hR _ #[h.wf,?_,h.fits.tur],λa b ha hb=>hR _ #[#[ha,hb,h.wf],?_,h.fits.sh a b],λ_ f g hf hg=>hR _ #[#[hf,hg,h.wf],?_,h.fits.hue f g]]]<;>(simp only[Pat.depth];lia)
def CN:SpD:=λds R=>∃p q:Pat,ds=[p.D,q.D]/\p.Wf/\q.Wf/\p.depth<=5/\q.depth<=5/\R p.D/\(p.depth<5->q.depth<5->(Pat.over p q).Fits->R (Pat.over p q).D)
def CO:SpD:=λds R=>∃(ns:List Int) (k:Int),ds=[.rol (ns.map D.int),.int k]/\0<=k/\∀p:Pat,p.Ok->R p.D
inductive Wt where
 |sign (c:Nat)|pat (d:Nat)|lin (w h k:Nat)|hue|num|fig|more
 deriving DecidableEq
abbrev isSg(c:Nat):Bool:=c==46||(49<=c&&c<=54)
def motW(r:List Wt):List Wt:=.lin 0 0 0::.num::.sign 44::.num::.sign 59::.num::.sign 44::.num::.sign 93::r
def bS(d c:Nat)(r:List Wt):Option (List Wt):=
 if c=91 then be (motW r)
 else if d=5 then w6
 else if c=40 then be (.pat (d+1)::.sign 124::.pat (d+1)::.sign 41::r)
 else if c=115 then be (.num::.sign 44::.num::.sign 58::.pat (d+1)::r)
 else if c=104 then be (.hue::.hue::.pat (d+1)::r)
 else if c=109\/c=116 then be (.pat (d+1)::r)
 else w6
def cY(w h k c:Nat)(r:List Wt):Option (List Wt):=
 if isSg c then(if h<(if 0<k then w else 8)then be (.lin w (h+1) k::r)else w6)
 else if h=0\/(0<k/\h<w)then w6
 else if c=47 then(if k<7 then be (.lin h 0 (k+1)::r)else w6)
 else if c=59 then be r
 else w6
def aQ:List Wt->Nat->Option (List Wt)
 |[],_=>w6
 |.sign s::r,c=>if c=s then be r else w6
 |.pat d::r,c=>bS d c r
 |.lin w h k::r,c=>cY w h k c r
 |.hue::r,c=>if 49<=c/\c<=54 then be r else w6
 |.more::r,_=>be r
 |.num::r,c=>if c=49 then be (.more::r)else if c=45 then be (.fig::r)else if 48<=c/\c<=57 then be r else w6
 |.fig::r,c=>if c=49 then be (.more::r)else if 50<=c/\c<=57 then be r else w6
def aP(st:List Wt)(c:Nat):List Wt:=match st with
 |.more::r=>if 48<=c/\c<=50 then st else r
 |_=>st
def step(st:List Wt)(c:Nat):Option (List Wt):=aQ (aP st c) c
def walk:List Wt->List Nat->Nat->Option Nat
 |st,[],k=>if st=[]then w6 else be k
 |st,c::l,k=>match step st c with
  |none=>be k
  |some st'=>walk st' l (k+1)
def cb(t:Lq):Option Nat:=walk [.pat 0] (cs t) 0
def Pat.Syn:Pat->Prop
 |.mot L a b c d=>Rows L/\B12 a/\B12 b/\B12 c/\B12 d
 |.over p q=>p.Syn/\q.Syn
 |.sh a b p=>B12 a/\B12 b/\p.Syn
 |.mir p=>p.Syn
 |.tur p=>p.Syn
 |.hue f g p=>(1<=f/\f<=6)/\(1<=g/\g<=6)/\p.Syn
def Pat.Wf.syn:∀{p:Pat},p.Wf->p.Syn
 |.mot ..,h=>#[h.1,h.2.1,h.2.2.1,h.2.2.2.1,h.2.2.2.2.1]
 |.over p q,h=>#[Pat.Wf.syn h.1,Pat.Wf.syn h.2]
 |.sh a b p,h=>#[h.1,h.2.1,Pat.Wf.syn h.2.2]
 |.mir p,h=>Pat.Wf.syn (p:=p) h
 |.tur p,h=>Pat.Wf.syn (p:=p) h
 |.hue f g p,h=>#[h.1,h.2.1,Pat.Wf.syn h.2.2]
variable{l:List Nat}{st:List Wt}
def aK{st':List Wt}(h:step st c=be st'):walk st (c::l) k=walk st' l (k+1):=by
 rw[walk,h]
def numL(a:Int):List Nat:=cs (toString a:String)
def vf(h:B12 a){P:Int->Prop}(hP:∀k:Fin 25,P (((k.val:Nat):Int)-12)):P a:=by
 unfold B12 at h;have:=hP #[(a+12).toNat,Md];have e:(((a+12).toNat:Nat):Int)-12=a:=Md
 rw[e]at this;exact this
def isNumL(l:List Nat):Prop:=(∃c,(48<=c/\c<=57)/\l=[c])\/(∃c,(48<=c/\c<=50)/\l=[49,c])\/(∃c,(49<=c/\c<=57)/\l=[45,c])\/∃c,(48<=c/\c<=50)/\l=[45,49,c]
def numL_is(h:B12 a):isNumL (numL a):=by
 have key:∀k:Fin 25,(numL (((k.val:Nat):Int)-12))∈([[45,49,50],[45,49,49],[45,49,48],[45,57],[45,56],[45,55],[45,54],[45,53],[45,52],[45,51],[45,50],[45,49],[48],[49],[50],[51],[52],[53],[54],[55],[56],[57],[49,48],[49,49],[49,50]]:List (List Nat)):=KK
 have h1:=vf (P:=λa=>numL a∈([[45,49,50],[45,49,49],[45,49,48],[45,57],[45,56],[45,55],[45,54],[45,53],[45,52],[45,51],[45,50],[45,49],[48],[49],[50],[51],[52],[53],[54],[55],[56],[57],[49,48],[49,49],[49,50]]:List (List Nat))) h key;revert h1;generalize numL a=l;intro h1;unfold isNumL;simp only[Hx,II,or_false]at h1;rcases h1 with e|e|e|e|e|e|e|e|e|e|e|e|e|e|e|e|e|e|e|e|e|e|e|e|e<;>subst e
 all_goals first
  |exact .inl ⟨_,Mh,rfl⟩
  |exact .inr (.inl ⟨_,Mh,rfl⟩)
  |exact .inr (.inr (.inl ⟨_,Mh,rfl⟩))
  |exact .inr (.inr (.inr ⟨_,Mh,rfl⟩))
def CP(h:isNumL l):∃a,B12 a/\numL a=l:=by
 have key:∀c:Fin 58,(48<=c.val->∃k:Fin 25,numL (((k.val:Nat):Int)-12)=[c.val])/\(48<=c.val->c.val<=50->∃k:Fin 25,numL (((k.val:Nat):Int)-12)=[49,c.val])/\(49<=c.val->∃k:Fin 25,numL (((k.val:Nat):Int)-12)=[45,c.val])/\(48<=c.val->c.val<=50->∃k:Fin 25,numL (((k.val:Nat):Int)-12)=[45,49,c.val]):=KK
 have f6:∀k:Fin 25,B12 (((k.val:Nat):Int)-12):=λk=>by unfold B12;have:=k.isLt;lia
 rcases h with⟨c,hc,rfl⟩|⟨c,hc,rfl⟩|⟨c,hc,rfl⟩|⟨c,hc,rfl⟩
 .obtain⟨k,e⟩:=(key #[c,Md]).1 (by show 48<=c;lia);exact#[_,f6 k,e]
 .obtain⟨k,e⟩:=(key #[c,Md]).2.1 (by show 48<=c;lia) (by show c<=50;lia);exact#[_,f6 k,e]
 .obtain⟨k,e⟩:=(key #[c,Md]).2.2.1 (by show 49<=c;lia);exact#[_,f6 k,e]
 .obtain⟨k,e⟩:=(key #[c,Md]).2.2.2 (by show 48<=c;lia) (by show c<=50;lia);exact#[_,f6 k,e]
def endS(c:Nat):Prop:=c=44\/c=59\/c=58\/c=93
def fH(h:isNumL l)(hc:endS c)(r:List Wt)(t:List Nat)(k:Nat):walk (.num::.sign c::r) (l++c::t) k=walk r t (k+l.length+1):=by
 unfold endS at hc;have TU:¬(48<=c/\c<=50):=Md
 have f6:∀k,walk (.sign c::r) (c::t) k=walk r t (k+1):=λk=>aK Nr;have NS:∀k,walk (.more::.sign c::r) (c::t) k=walk r t (k+1):=λk=>aK (by simp[step,aP,aQ,TU]);rcases h with⟨x,hx,rfl⟩|⟨x,hx,rfl⟩|⟨x,hx,rfl⟩|⟨x,hx,rfl⟩
 .by_cases e:x=49
  .subst e;show walk _ (49::c::t) k=_;rw[aK (st':=.more::.sign c::r) Nr,NS];simp
  .show walk _ (x::c::t) k=_;rw[aK (st':=.sign c::r) (by simp[step,aP,aQ,e,hx,show¬x=45 by lia]),f6];simp
 .show walk _ (49::x::c::t) k=_;rw[aK (st':=.more::.sign c::r) Nr,aK (st':=.sign c::r) (by simp[step,aP,aQ,hx]),f6];simp
 .show walk _ (45::x::c::t) k=_;rw[aK (st':=.fig::.sign c::r) Nr];by_cases e:x=49
  .subst e;rw[aK (st':=.more::.sign c::r) Nr,NS];simp
  .rw[aK (st':=.sign c::r) (by simp[step,aP,aQ,e,show 50<=x/\x<=57 by lia]),f6];simp
 .show walk _ (45::49::x::c::t) k=_;rw[aK (st':=.fig::.sign c::r) Nr,aK (st':=.more::.sign c::r) Nr,aK (st':=.sign c::r) (by simp[step,aP,aQ,hx]),f6];simp
def rowsL:List (List Nat)->List Nat
 |[]=>[]
 |[x]=>x
 |x::y::r=>x++47::rowsL (y::r)
def CQ(h:aN c):isSg c=true:=by
 unfold aN at h;unfold isSg;rcases h with h|h
 .subst h;rfl
 .have:(decide (49<=c)&&decide (c<=54))=true:=by simp[h]
  rw[this,Jz]
def isSign_of(h:isSg c=true):aN c:=by
 unfold isSg at h;unfold aN;simp at h;lia
variable{r:List Wt}
def eB{w h:Nat}:step (.lin w h k::r) c=cY w h k c r:=Nr
def fJ{w k:Nat}{r:List Wt}:∀(x:List Nat) (h:Nat) (t:List Nat) (j:Nat),(∀c∈x,aN c)->h+x.length<=(if 0<k then w else 8)->walk (.lin w h k::r) (x++t) j=walk (.lin w (h+x.length) k::r) t (j+x.length)
 |[],h,t,j,_,_=>rfl
 |c::x,h,t,j,hs,hl=>by
  rw[HA]at hl ⊢;have h1:step (.lin w h k::r) c=be (.lin w (h+1) k::r):=by
   rw[eB];unfold cY;rw[if_pos (CQ (hs c Hy)),if_pos Md]
  rw[Ih,aK h1,fJ x (h+1) t (j+1) (λc q=>hs c (Hz _ q)) Md];rw[show h+1+x.length=h+(x.length+1)by lia,show j+1+x.length=j+(x.length+1)by lia]
def vg{wd:Nat}(hw:1<=wd/\wd<=8){r:List Wt}:∀(L:List (List Nat)) (w0 k:Nat) (t:List Nat) (j:Nat),L≠[]->(∀x∈L,x.length=wd/\∀c∈x,aN c)->k+L.length<=8->(0<k->w0=wd)->walk (.lin w0 0 k::r) (rowsL L++59::t) j=walk r t (j+(rowsL L).length+1)
 |[],_,_,_,_,ne,_,_,_=>absurd rfl ne
 |[x],w0,k,t,j,_,hs,hl,hk=>by
  let#[h1,h2]:=hs x Hy;have hb:0+x.length<=(if 0<k then w0 else 8):=by split<;>lia
  have ns:isSg 59=false:=rfl;have h3:step (.lin w0 (0+x.length) k::r) 59=be r:=by
   rw[eB];unfold cY;rw[ns,if_neg HH,if_neg Md,if_neg Mh,if_pos rfl]
  show walk (.lin w0 0 k::r) (x++59::t) j=walk r t (j+x.length+1);rw[fJ x 0 _ j h2 hb,aK h3]
 |x::y::L,w0,k,t,j,_,hs,hl,hk=>by
  let#[h1,h2]:=hs x Hy;rw[HA,HA]at hl;have hb:0+x.length<=(if 0<k then w0 else 8):=by split<;>lia
  have ns:isSg 47=false:=rfl;have h3:step (.lin w0 (0+x.length) k::r) 47=be (.lin (0+x.length) 0 (k+1)::r):=by
   rw[eB];unfold cY;rw[ns,if_neg HH,if_neg Md,if_pos rfl,if_pos Md]
  show walk (.lin w0 0 k::r) ((x++47::rowsL (y::L))++59::t) j=walk r t (j+(x++47::rowsL (y::L)).length+1);rw[Ii,Ih,fJ x 0 _ j h2 hb,aK h3,vg hw (y::L) (0+x.length) (k+1) t _ (λz=>nomatch z) (λz q=>hs z (Hz _ q)) (by rw[HA];lia) (λ_=>Md)];rw[HF,HA];congr 1;lia
def motL(L:List (List Nat))(a b c d:Int):List Nat:=91::(rowsL L++59::(numL a++44::(numL b++59::(numL c++44::(numL d++[93])))))
def Pat.tl:Pat->List Nat
 |.mot L a b c d=>motL (L.map cs) a b c d
 |.over p q=>40::(p.tl++124::(q.tl++[41]))
 |.sh a b p=>115::(numL a++44::(numL b++58::p.tl))
 |.mir p=>109::p.tl
 |.tur p=>116::p.tl
 |.hue f g p=>104::(numL f++(numL g++p.tl))
def join_rows:∀L:List Lq,cs (Str.join "/" L)=rowsL (L.map cs)
 |[]=>rfl
 |[x]=>rfl
 |x::y::L=>by
  show cs (x++"/"++Str.join "/" (y::L))=cs x++47::rowsL ((y::L).map cs);rw[bC,bC,join_rows (y::L),Ii];rfl
def bW:∀p:Pat,cs p.text=p.tl
 |.mot L a b c d=>by
  show cs (cX L a b c d)=motL (L.map cs) a b c d;unfold cX motL;have e:Txt.join "/" L=Str.join "/" L:=StrLaws.glued_eq_join _ _;rw[e]
  repeat rw[bC]
  rw[join_rows];simp only[Ii];rfl
 |.over p q=>by
  rw[Pat.text,Pat.tl]
  repeat rw[bC]
  rw[bW p,bW q];simp only[Ii];rfl
 |.sh a b p=>by
  rw[Pat.text,Pat.tl]
  repeat rw[bC]
  rw[bW p];simp only[Ii];rfl
 |.mir p=>by
  rw[Pat.text,Pat.tl,bC,bW p];rfl
 |.tur p=>by
  rw[Pat.text,Pat.tl,bC,bW p];rfl
 |.hue f g p=>by
  rw[Pat.text,Pat.tl]
  repeat rw[bC]
  rw[bW p];simp only[Ii];rfl
def lf(p:Pat):p.text.length=p.tl.length:=by rw[<-bq,bW]
def hueL(h:1<=f/\f<=6):numL f=[(48+f).toNat]:=by
 have key:∀k:Fin 6,numL (((k.val:Nat):Int)+1)=[49+k.val]:=KK
 have:=key #[(f-1).toNat,Md];have e:(((f-1).toNat:Nat):Int)+1=f:=Md
 rw[e]at this;rw[this];congr 1;show 49+(f-1).toNat=(48+f).toNat;lia
def bT{d:Nat}:step (.pat d::r) c=bS d c r:=Nr
def vh(h:1<=f/\f<=6)(r:List Wt)(t:List Nat)(k:Nat):walk (.hue::r) (numL f++t) k=walk r t (k+1):=by
 rw[hueL h];show walk (.hue::r) ((48+f).toNat::t) k=_;exact aK (by simp[step,aP,aQ];lia)
def CS{c:Int}(hL:Rows L)(ha:B12 a)(hb:B12 b)(hc:B12 c)(hd:B12 d)(n:Nat)(r:List Wt)(t:List Nat)(k:Nat):walk (.pat n::r) (motL (L.map cs) a b c d++t) k=walk r t (k+(motL (L.map cs) a b c d).length):=by
 let#[h1,w,hw,hs]:=hL;have MK:∀x∈L.map cs,x.length=w/\∀c∈x,aN c:=λx hx=>by
  let#[l,q1,q2]:=HW.mp hx;subst q2;exact#[by rw[bq];exact(hs l q1).1,(hs l q1).2]
 have k_:L.map cs≠[]:=λz=>by have:=congrArg Jg z;simp at this;subst this;simp at h1
 unfold motL;simp only[Ih,Ii,Kb];have f6:∀k,walk (.sign 93::r) (93::t) k=walk r t (k+1):=λk=>aK Nr;rw[aK (st':=motW r) (by rw[bT];simp[bS])];unfold motW;rw[vg hw (L.map cs) 0 0 _ _ k_ MK (by rw[HE];lia) (λz=>absurd z Md)];rw[fH (numL_is ha) (.inl rfl),fH (numL_is hb) (.inr (.inl rfl)),fH (numL_is hc) (.inl rfl),fH (numL_is hd) (.inr (.inr (.inr rfl)))];congr 1;simp only[HA,HF,Jj];lia
def cB:∀{p:Pat},p.Syn->∀(d:Nat) (r:List Wt) (t:List Nat) (k:Nat),p.depth+d<=5->walk (.pat d::r) (p.tl++t) k=walk r t (k+p.tl.length)
 |.mot L a b c e,h,d,r,t,k,_=>CS h.1 h.2.1 h.2.2.1 h.2.2.2.1 h.2.2.2.2 d r t k
 |.over p q,h,d,r,t,k,hd=>by
  rw[Pat.depth]at hd;have h1:step (.pat d::r) 40=be (.pat (d+1)::.sign 124::.pat (d+1)::.sign 41::r):=RP
  rw[Pat.tl];simp only[Ih,Ii,Kb];rw[aK h1,cB h.1 (d+1) _ _ _ Md,aK (st':=.pat (d+1)::.sign 41::r) Nr,cB h.2 (d+1) _ _ _ Md,aK (st':=r) Nr];congr 1;simp only[HA,HF,Jj];lia
 |.sh a b p,h,d,r,t,k,hd=>by
  rw[Pat.depth]at hd;have h1:step (.pat d::r) 115=be (.num::.sign 44::.num::.sign 58::.pat (d+1)::r):=RP
  rw[Pat.tl];simp only[Ih,Ii];rw[aK h1,fH (numL_is h.1) (.inl rfl),fH (numL_is h.2.1) (.inr (.inr (.inl rfl))),cB h.2.2 (d+1) _ _ _ Md];congr 1;simp only[HA,HF];lia
 |.mir p,h,d,r,t,k,hd=>by
  rw[Pat.depth]at hd;have h1:step (.pat d::r) 109=be (.pat (d+1)::r):=RP
  rw[Pat.tl,Ih,aK h1,cB (p:=p) h (d+1) _ _ _ Md,HA];congr 1;lia
 |.tur p,h,d,r,t,k,hd=>by
  rw[Pat.depth]at hd;have h1:step (.pat d::r) 116=be (.pat (d+1)::r):=RP
  rw[Pat.tl,Ih,aK h1,cB (p:=p) h (d+1) _ _ _ Md,HA];congr 1;lia
 |.hue f g p,h,d,r,t,k,hd=>by
  rw[Pat.depth]at hd;have h1:step (.pat d::r) 104=be (.hue::.hue::.pat (d+1)::r):=RP
  rw[Pat.tl];simp only[Ih,Ii];rw[aK h1,vh h.1,vh h.2.1,cB h.2.2 (d+1) _ _ _ Md];rw[hueL h.1,hueL h.2.1];congr 1;simp only[HA,HF,Jj];lia
def lh(h:p.Syn)(hd:p.depth<=5):cb p.text=none:=by
 unfold cb;rw[bW];have:=cB h 0 [] [] 0 Md;rw[H9]at this;rw[this];rfl
def gH{x y:Lq}(h:cs x=cs y):x=y:=by
 let#[a]:=x;let#[b]:=y;have:a=b:=KQ.mp h;rw[this]
def Pat.lineAt:Pat->Nat->Option Nat
 |.mot _ a b c d,k=>if a*d=b*c then be k else w6
 |.over p q,k=>match p.lineAt (k+1)with
  |some j=>be j
  |none=>q.lineAt (k+1+p.tl.length+1)
 |.sh a b p,k=>p.lineAt (k+1+(numL a).length+1+(numL b).length+1)
 |.mir p,k=>p.lineAt (k+1)
 |.tur p,k=>p.lineAt (k+1)
 |.hue _ _ p,k=>p.lineAt (k+3)
def Pat.line_wf:∀{p:Pat} (k:Nat),p.Syn->p.lineAt k=w6->p.Wf
 |.mot L a b c d,k,h,e=>by
  refine#[h.1,h.2.1,h.2.2.1,h.2.2.2.1,h.2.2.2.2,λz=>?_];rw[Pat.lineAt,if_pos z]at e;cases e
 |.over p q,k,h,e=>by
  rw[Pat.lineAt]at e;cases hp:p.lineAt (k+1)with
  |some j=>rw[hp]at e;cases e
  |none=>rw[hp]at e;exact#[Pat.line_wf _ h.1 hp,Pat.line_wf _ h.2 e]
 |.sh a b p,k,h,e=>#[h.1,h.2.1,Pat.line_wf _ h.2.2 (by rw[Pat.lineAt]at e;exact e)]
 |.mir p,k,h,e=>Pat.line_wf (p:=p) (k+1) h (by rw[Pat.lineAt]at e;exact e)
 |.tur p,k,h,e=>Pat.line_wf (p:=p) (k+1) h (by rw[Pat.lineAt]at e;exact e)
 |.hue f g p,k,h,e=>#[h.1,h.2.1,Pat.line_wf _ h.2.2 (by rw[Pat.lineAt]at e;exact e)]
def Pat.wf_line:∀{p:Pat} (k:Nat),p.Wf->p.lineAt k=w6
 |.mot L a b c d,k,h=>by rw[Pat.lineAt,if_neg h.2.2.2.2.2]
 |.over p q,k,h=>by
  rw[Pat.lineAt,Pat.wf_line (p:=p) _ h.1];exact Pat.wf_line (p:=q) _ h.2
 |.sh a b p,k,h=>by rw[Pat.lineAt];exact Pat.wf_line (p:=p) _ h.2.2
 |.mir p,k,h=>by rw[Pat.lineAt];exact Pat.wf_line (p:=p) _ h
 |.tur p,k,h=>by rw[Pat.lineAt];exact Pat.wf_line (p:=p) _ h
 |.hue f g p,k,h=>by rw[Pat.lineAt];exact Pat.wf_line (p:=p) _ h.2.2
def Pat.syn_len:∀{p:Pat},p.Syn->p.text.length+10<=110*2^p.depth
 |.mot L a b c d,h=>by
  have:=kZ h.1 h.2.1 h.2.2.1 h.2.2.2.1 h.2.2.2.2;show(cX L a b c d).length+10<=110*2^0;lia
 |.over p q,h=>by
  have h1:=Pat.syn_len h.1;have h2:=Pat.syn_len h.2;have m1:2^p.depth<=2^(max p.depth q.depth):=Iv Mh (J7 _ _);have m2:2^q.depth<=2^(max p.depth q.depth):=Iv Mh (J8 _ _);have l1:("(":Lq).length=1:=rfl;have l2:("|":Lq).length=1:=rfl;have l3:(")":Lq).length=1:=rfl;rw[Pat.text,Pat.depth,J9]
  repeat rw[aw]
  lia
 |.sh a b p,h=>by
  have h1:=Pat.syn_len h.2.2;have la:=bE h.1;have lb:=bE h.2.1;have l1:("s":Lq).length=1:=rfl;have l2:(",":Lq).length=1:=rfl;have l3:(":":Lq).length=1:=rfl;have:0<2^p.depth:=IH Mh;rw[Pat.text,Pat.depth,Ic]
  repeat rw[aw]
  lia
 |.mir p,h=>by
  have h1:=Pat.syn_len (p:=p) h;have l1:("m":Lq).length=1:=rfl;have:0<2^p.depth:=IH Mh;rw[Pat.text,Pat.depth,Ic,aw];lia
 |.tur p,h=>by
  have h1:=Pat.syn_len (p:=p) h;have l1:("t":Lq).length=1:=rfl;have:0<2^p.depth:=IH Mh;rw[Pat.text,Pat.depth,Ic,aw];lia
 |.hue f g p,h=>by
  have h1:=Pat.syn_len h.2.2;have la:=dF h.1;have lb:=dF h.2.1;have l1:("h":Lq).length=1:=rfl;have:0<2^p.depth:=IH Mh;rw[Pat.text,Pat.depth,Ic]
  repeat rw[aw]
  lia
def Pat.syn_short(h:p.Syn)(hd:p.depth<=5):p.text.length<=3510:=by
 have h1:=Pat.syn_len h;have h2:2^p.depth<=2^5:=Iv Mh hd;lia
variable{B:Prop}
def ifT{c A:Prop}[Decidable c](h:c)(a:A):if c then A else B:=by rw[if_pos h];exact a
def ifdT{p A:Prop}[Decidable p](h:p)(a:A):if decide p=true then A else B:=by rw[if_pos (decide_eq_true h)];exact a
def ifdF{p A:Prop}[Decidable p](h:¬p)(b:B):if decide p=true then A else B:=by rw[if_neg (by simpa using h)];exact b
def rdF(t:Lq)(k:Nat):List (Lq×D):=[("text",.str t),("place",.int k)]
def RdM(a:Pi)(t:Lq)(k:Nat):MS:=[(a,.ins "Reading" (rdF t k))]
variable{o:MO}
def cH{a:Pi}:mget [(a,o)] a=be o:=by unfold mget;rw[if_pos rfl]
def fK{a:Pi}{o':MO}:mput [(a,o)] a o'=[(a,o')]:=by unfold mput;rw[if_pos rfl]
variable{t:Lq}
def aS{a:Pi}:mget (RdM a t k) a=be (.ins "Reading" (rdF t k)):=cH
def ll:(rdF t k).lookup ("text":Lq)=be (.str t):=rfl
def dH:(rdF t k).lookup ("place":Lq)=be (.int k):=by
 unfold rdF;rw[HM,show(("place":Lq)==("text":Lq))=false by decide+kernel];rfl
def CT:putD ("place":Lq) (.int ((k:Int)+1)) (rdF t k)=rdF t (k+1):=by
 unfold rdF putD;rw[if_neg KK];unfold putD;rw[if_pos rfl];rfl
def cZ:(rdF t k).lookup ("may_take":Lq)=none:=by
 unfold rdF;rw[HM,show(("may_take":Lq)==("text":Lq))=false by decide+kernel,HM,show(("may_take":Lq)==("place":Lq))=false by decide+kernel];rfl
def ce:(rdF t k).lookup ("take":Lq)=none:=by
 unfold rdF;rw[HM,show(("take":Lq)==("text":Lq))=false by decide+kernel,HM,show(("take":Lq)==("place":Lq))=false by decide+kernel];rfl
structure At(t:Str)(k:Nat)(l:List Nat):Prop where
 eq:(cs t).drop k=l
 le:k<=t.length
 sz:t.length<=100000
def At.nil(h:At t k []):k=t.length:=by
 have h1:=congrArg Jg h.eq;rw[IS,bq]at h1;have:=h.le;simp at h1;lia
def At.lt(h:At t k (c::l)):k<t.length:=by
 have h1:=congrArg Jg h.eq;rw[IS,bq]at h1;simp at h1;lia
def At.get(h:At t k (c::l)):(cs t)[k]?=be c:=by
 have h1:=congrArg (·[0]?) h.eq;simpa using h1
def At.next(h:At t k (c::l)):At t (k+1) l:=by
 refine#[?_,h.lt,h.sz];have h1:=congrArg (Jn 1) h.eq;rw[List.drop_drop]at h1;simpa using h1
def At.app{t:Lq}:∀{x l:List Nat} {k:Nat},At t k (x++l)->At t (k+x.length) l
 |[],_,_,h=>h
 |c::x,l,k,h=>by
  have h1:At t (k+1+x.length) l:=At.app (At.next h);have e:k+1+x.length=k+(c::x).length:=by rw[HA];lia
  rw[e]at h1;exact h1
variable{al:Lq}
def vi:(!(!(Builtin.Str.occurrences al #[[c].toArray] 0 al.length 1).isEmpty))=!decide (c∈cs al):=by
 rw[StrLaws.found_one]
def mayS(al:Lq):List Nat->Lq|c::_=>if c∈cs al then#[[c].toArray]else ""|[]=>""
def mayN(al:Lq):List Nat->Nat|c::_=>if c∈cs al then 1 else 0|[]=>0
def eE(h:c∈cs al):mayS al (c::l)=#[[c].toArray]:=if_pos h
def eF(h:c∈cs al):mayN al (c::l)=1:=if_pos h
def dI(h:c∉cs al):mayS al (c::l)="":=if_neg h
def dJ(h:c∉cs al):mayN al (c::l)=0:=if_neg h
def CU:SiD:=λds R=>∃t:Lq,ds=[.str t]/\R (rdF t 0)
def CV:SpM:=λds M R RX=>∃(a:Pi) (t:Lq) (k:Nat) (l:List Nat) (al:Lq),ds=[.ptr a,.str al]/\M=RdM a t k/\At t k l/\R (.str (mayS al l)) (RdM a t (k+mayN al l))
def CW:SpM:=λds M R RX=>∃(a:Pi) (t:Lq) (k:Nat) (l:List Nat) (al:Lq),ds=[.ptr a,.str al]/\M=RdM a t k/\At t k l/\
 (∀c l',l=c::l'->c∈cs al->R (.str #[[c].toArray]) (RdM a t (k+1)))/\((∀c l',l=c::l'->c∉cs al)->∀M',RX "WrongSign" [("place",.int k)] M')
def walk_bad(h1:st≠[])(h:∀c l',l=c::l'->step st c=w6):walk st l k=be k:=by
 cases l with
 |nil=>rw[walk,if_neg h1]
 |cons c l=>rw[walk,h c l rfl]
def eI{e:Nat}(h:∀l',l≠e::l'):walk (.sign e::r) l k=be k:=
 walk_bad (λz=>nomatch z) λc l' q=>by
  have:c≠e:=λz=>h l' (z ▸ q);simp[step,aP,aQ,this]
def eJ{e:Nat}:walk (.sign e::r) (e::l) k=walk r l (k+1):=aK Nr
def CY{e:Nat}(h:∀d l',l=d::l'->¬(48<=d/\d<=50)):walk (.more::.sign e::r) l k=walk (.sign e::r) l k:=by
 cases l with
 |nil=>simp[walk]
 |cons d l=>
  have:step (.more::.sign e::r) d=step (.sign e::r) d:=by simp[step,aP,h d l rfl]
  rw[walk,walk,this]
variable{pre:List Nat}
def CZ(hp:pre=[]\/pre=[45])(hc:49<=c/\c<=57){x l3:List Nat}(hx:(c=49/\∃d,(48<=d/\d<=50)/\x=[d])\/(x=[]/\(c=49->∀d l',l3=d::l'->¬(48<=d/\d<=50))))(k e:Nat)(r:List Wt)(hl:l=pre++c::(x++l3)):
  walk (.num::.sign e::r) l k=walk (.sign e::r) l3 (k+(pre++c::x).length):=by
 subst hl;have fig:∀k,walk (.fig::.sign e::r) (c::(x++l3)) k=walk (.sign e::r) l3 (k+(c::x).length):=λk=>by
  rcases hx with⟨rfl,d,hd,rfl⟩|⟨rfl,h⟩
  .rw[aK (st':=.more::.sign e::r) Nr];show walk _ (d::l3) _=_;rw[aK (st':=.sign e::r) (by simp[step,aP,aQ,hd])];rfl
  .by_cases e1:c=49
   .subst e1;rw[aK (st':=.more::.sign e::r) Nr];show walk _ l3 _=_;rw[CY (h rfl)];rfl
   .rw[aK (st':=.sign e::r) (by simp[step,aP,aQ,e1,show 50<=c/\c<=57 by lia])];rfl
 rcases hp with rfl|rfl
 .have same:step (.num::.sign e::r) c=step (.fig::.sign e::r) c:=by
   by_cases e1:c=49
   .subst e1;simp[step,aP,aQ]
   .simp[step,aP,aQ,e1,show¬c=45 by lia,show 48<=c/\c<=57 by lia,show 50<=c/\c<=57 by lia]
  have:=fig k;rw[walk]at this;show walk _ (c::(x++l3)) k=_;rw[walk,same,this];simp
 .show walk _ (45::c::(x++l3)) k=_;rw[aK (st':=.fig::.sign e::r) Nr,fig];congr 1;simp only[HF,HA,Jj];lia
def C0(hp:pre=[]\/pre=[45]){l1:List Nat}(hl:l=pre++l1)(h:∀c l',l1=c::l'->¬(49<=c/\c<=57))(h0:pre=[]->∀c l',l1=c::l'->c≠48/\c≠45)(k:Nat)(r:List Wt):walk (.num::r) l k=be (k+pre.length):=by
 subst hl;rcases hp with rfl|rfl
 .refine walk_bad (λz=>nomatch z) λc l' q=>?_;have h1:=h c l' q;have h2:=h0 rfl c l' q;simp[step,aP,aQ,h2.2,show¬c=49 by lia,show¬(48<=c/\c<=57)by lia]
 .show walk _ (45::l1) k=_;rw[aK (st':=.fig::r) Nr];refine walk_bad (λz=>nomatch z) λc l' q=>?_;have h1:=h c l' q;simp[step,aP,aQ,show¬c=49 by lia,show¬(50<=c/\c<=57)by lia]
def lm(h:B12 x):PySem.intText? #[(numL x).toArray]=be x:=
 vf (P:=λx=>PySem.intText? #[(numL x).toArray]=be x) h KK
def str_of_list(x y:List Nat):((#[x.toArray]:Lq)++#[y.toArray]:Lq)=#[(x++y).toArray]:=by
 apply gH;rw[bC]
def digits19:c∈cs "123456789"↔49<=c/\c<=57:=by
 refine#[λh=>?_,λ⟨h1,h2⟩=>?_]
 .exact(show ∀c∈cs "123456789",49<=c/\c<=57 by decide+kernel) c h
 .obtain⟨k,rfl⟩:=Nat.le.dest h1;exact(show ∀k,k<9->49+k∈cs "123456789" by decide+kernel) k Md
def digits02:c∈cs "012"↔48<=c/\c<=50:=by
 have e:cs "012"=[48,49,50]:=rfl;rw[e];simp;lia
def C1(w:List Nat)(c:Nat):Txt.endswith #[(w++[c]).toArray] "1"=decide (c=49):=by
 unfold Txt.endswith;have e1:("1":Lq).length=1:=rfl;have e2:(#[(w++[c]).toArray]:Lq).length=w.length+1:=by simp[Str.length]
 rw[e1,e2];have e3:decide (0+1<=w.length+1)=true:=Mn
 rw[e3,Bool.true_and,KP];unfold Builtin.Str.subAt;have e4:(#[(w++[c]).toArray]:Lq).cps.extract w.length (w.length+("1":Lq).length)=[c].toArray:=by
  apply KQ.mp;simp[Array.toList_extract,e1]
 rw[e4];have e5:("1":Lq).cps=[49].toArray:=rfl;rw[e5];by_cases h:c=49
 .subst h;rfl
 .simp[h]
def C3:SpM:=λds M R RX=>∃(a:Pi) (t:Lq) (k:Nat) (l:List Nat),ds=[.ptr a]/\M=RdM a t k/\At t k l/\
 (∀x l',B12 x->l=numL x++l'->(∀e r,walk (.num::.sign e::r) l k=walk (.sign e::r) l' (k+(numL x).length))->R (.int x) (RdM a t (k+(numL x).length)))/\
 (∀j:Nat,(∀r,walk (.num::r) l k=be j)->∀M',RX "WrongSign" [("place",.int j)] M')
def C4:SpM:=λds M R RX=>∃(a:Pi) (t:Lq) (k:Nat) (l:List Nat),ds=[.ptr a]/\M=RdM a t k/\At t k l/\
 (∀x y l',B12 x->B12 y->l=numL x++44::(numL y++l')->(∀e r,walk (.num::.sign 44::.num::.sign e::r) l k=walk (.sign e::r) l' (k+(numL x).length+1+(numL y).length))->R (.tup [.int x,.int y]) (RdM a t (k+(numL x).length+1+(numL y).length)))/\
 (∀j:Nat,(∀r,walk (.num::.sign 44::.num::r) l k=be j)->∀M',RX "WrongSign" [("place",.int j)] M')
def sgPre:Nat->List Nat->List Nat
 |0,_=>[]
 |_+1,[]=>[]
 |n+1,c::l=>if isSg c=true then c::sgPre n l else[]
def fL(n c:Nat)(l:List Nat):sgPre (n+1) (c::l)=if isSg c=true then c::sgPre n l else[]:=rfl
def sgPre_succ:∀(n:Nat) (l:List Nat),(∃c l',l=sgPre n l++c::l'/\(sgPre n l).length=n/\isSg c=true/\sgPre (n+1) l=sgPre n l++[c])\/(∃l',l=sgPre n l++l'/\(∀c Qb,l'=c::Qb->isSg c=false)/\∀m,n<=m->sgPre m l=sgPre n l)
 |0,[]=>.inr #[[],rfl,(λ_ _ q=>nomatch q),λm _=>by cases m<;>rfl]
 |0,c::l=>by
  by_cases h:isSg c=true
  .exact .inl #[c,l,rfl,rfl,h,by rw[fL,if_pos h];rfl]
  .refine .inr #[c::l,rfl,λ_ _ q=>?_,λm _=>?_]
   .cases q;simpa using h
   .cases m with
    |zero=>rfl
    |succ m=>rw[fL,if_neg h];rfl
 |n+1,[]=>.inr #[[],rfl,(λ_ _ q=>nomatch q),λm _=>by cases m<;>rfl]
 |n+1,c::l=>by
  by_cases h:isSg c=true
  .have e:∀m,sgPre (m+1) (c::l)=c::sgPre m l:=λm=>by rw[fL,if_pos h]
   rcases sgPre_succ n l with⟨d,l',h1,h2,h3,h4⟩|⟨l',h1,h2,h3⟩
   .refine .inl #[d,l',?_,by rw[e,HA,h2],h3,by rw[e,e,h4];rfl];rw[e];exact congrArg (c::·) h1
   .refine .inr #[l',?_,h2,λm hm=>?_]
    .rw[e];exact congrArg (c::·) h1
    .cases m with
     |zero=>lia
     |succ m=>rw[e,e,h3 m Md]
  .refine .inr #[c::l,?_,λ_ _ q=>?_,λm hm=>?_]
   .rw[fL,if_neg h];rfl
   .cases q;simpa using h
   .cases m with
    |zero=>lia
    |succ m=>rw[fL,if_neg h,fL,if_neg h]
def iC:∀(n:Nat) (l:List Nat),(sgPre n l).length<=n
 |0,_=>Hw _
 |n+1,[]=>HS _
 |n+1,c::l=>by
  rw[sgPre];split
  .rw[HA];exact Nat.succ_le_succ (iC n l)
  .exact HS _
def sgPre_sign:∀(n:Nat) (l:List Nat),∀c∈sgPre n l,aN c
 |0,_,_,h=>by cases h
 |n+1,[],_,h=>by cases h
 |n+1,c::l,d,h=>by
  rw[sgPre]at h;split at h
  .rename_i q;rcases Hx.mp h with e|e
   .rw[e];exact isSign_of q
   .exact sgPre_sign n l d e
  .cases h
def sgPre_split(n:Nat)(l:List Nat):∃l',l=sgPre n l++l'/\((sgPre n l).length=n\/∀c Qb,l'=c::Qb->isSg c=false):=by
 rcases sgPre_succ n l with⟨d,l',h1,h2,h3,h4⟩|⟨l',h1,h2,h3⟩
 .exact#[d::l',h1,.inl h2]
 .exact#[l',h1,.inr h2]
def signs_is:c∈cs ".123456"↔isSg c=true:=by
 have e:cs ".123456"=[46,49,50,51,52,53,54]:=rfl;rw[e];simp;lia
def len_of_list(x:List Nat):(#[x.toArray]:Lq).length=x.length:=by simp[Str.length]
def C5:SpM:=λds M R RX=>∃(a:Pi) (t:Lq) (k:Nat) (l:List Nat) (n m:Nat),ds=[.ptr a,.int n,.int m]/\M=RdM a t k/\At t k l/\n<=m/\m<=8/\
 (n<=(sgPre m l).length->R (.str #[(sgPre m l).toArray]) (RdM a t (k+(sgPre m l).length)))/\((sgPre m l).length<n->∀M',RX "WrongSign" [("place",.int ((k+(sgPre m l).length:Nat):Int))] M')
def C6{p a:Pi}(h:p≠a):mget ((p,o)::RdM a t k) a=be (.ins "Reading" (rdF t k)):=by
 unfold mget;rw[if_neg h];exact cH
variable{M:MS}
def db{p:Pi}:mget ((p,o)::M) p=be o:=by unfold mget;rw[if_pos rfl]
def vj{p:Pi}{o':MO}:mput ((p,o)::M) p o'=(p,o')::M:=by unfold mput;rw[if_pos rfl]
def lq{p:Pi}:mdel ((p,o)::M) p=M:=by unfold mdel;rw[if_pos rfl]
structure RowsL(L:List (List Nat))(w:Nat):Prop where
 many:1<=L.length/\L.length<=8
 w1:1<=w
 w8:w<=8
 each:∀x∈L,x.length=w/\∀c∈x,aN c
def iD:∀(L:List (List Nat)) (x:List Nat),L≠[]->rowsL (L++[x])=rowsL L++47::x
 |[],_,h=>absurd rfl h
 |[y],x,_=>rfl
 |y::z::L,x,_=>by
  show y++47::rowsL ((z::L)++[x])=(y++47::rowsL (z::L))++47::x;rw[iD (z::L) x (λq=>nomatch q)];simp
structure LinAt(w h n:Nat)(l:List Nat):Prop where
 h1:1<=h
 n1:1<=n
 one:n=1->h=8\/∀c l',l=c::l'->isSg c=false
 more:2<=n->w=h
def C7{w h:Nat}(H:LinAt w h n l)(hn:n<=8)(stop:n=8\/∀l',l≠47::l')(r:List Wt)(p:Nat):walk (.lin w h (n-1)::r) l p=walk (.sign 59::r) l p:=by
 cases l with
 |nil=>simp[walk]
 |cons c l=>
  have key:step (.lin w h (n-1)::r) c=step (.sign 59::r) c:=by
   rw[eB];unfold cY;have TV:step (.sign 59::r) c=if c=59 then be r else none:=Nr
   rw[TV];have h1:=H.h1;by_cases hs:isSg c=true
   .rw[if_pos hs];have nc:¬c=59:=by intro rfl;cases hs
    rw[if_neg nc];refine if_neg ?_;by_cases n1:n=1
    .rcases H.one n1 with e|e
     .subst n1;simp;lia
     .rw[e c l rfl]at hs;cases hs
    .have R1:=H.n1;have:=H.more Md;rw[if_pos Md];lia
   .rw[if_neg hs];have g:¬(h=0\/(0<n-1/\h<w)):=by
     have R1:=H.n1;rintro(z|⟨z1,z2⟩)
     .lia
     .have:=H.more Md;lia
    rw[if_neg g];by_cases R3:c=47
    .subst R3;rw[if_pos rfl,if_neg (c:=47=59) Mh];refine if_neg ?_;rcases stop with e|e
     .lia
     .exact absurd rfl (e l)
    .rw[if_neg R3]
  rw[walk,walk,key]
def vk{w h:Nat}(H:LinAt w h n (47::l))(hn:n<8)(r:List Wt)(p:Nat):walk (.lin w h (n-1)::r) (47::l) p=walk (.lin h 0 n::r) l (p+1):=by
 refine aK ?_;rw[eB];unfold cY;have h1:=H.h1;have R1:=H.n1;have ns:isSg 47=false:=rfl;rw[ns,if_neg HH,if_neg (by
  rintro(z|⟨z1,z2⟩)
  .lia
  .have:=H.more Md;lia),if_pos rfl,if_pos Md]
 congr 3;lia
def vm{w:Nat}{x:List Nat}(hs:∀c∈x,aN c)(hx:x.length<w)(hw:w<=8)(hn:n=0->x=[])(hl:∀c l',l=c::l'->isSg c=false)(r:List Wt)(p:Nat):walk (.lin w 0 n::r) (x++l) p=be (p+x.length):=by
 rw[fJ x 0 l p hs (by split<;>lia)];refine walk_bad (λz=>nomatch z) λc l' q=>?_;rw[eB];unfold cY;rw[hl c l' q,if_neg HH];refine if_pos ?_;by_cases n0:n=0
 .left;rw[hn n0];rfl
 .right;exact#[Md,Md]
def lstD(L:List (List Nat)):List D:=L.map λx=>D.str #[x.toArray]
def C8:SpM:=λds M R RX=>∃(a:Pi) (t:Lq) (k:Nat) (l:List Nat),ds=[.ptr a]/\M=RdM a t k/\At t k l/\
 (∀(L:List (List Nat)) (w:Nat) l',RowsL L w->l=rowsL L++l'->(∀r,walk (.lin 0 0 0::r) l k=walk (.sign 59::r) l' (k+(rowsL L).length))->R (.lst (lstD L)) (RdM a t (k+(rowsL L).length)))/\
 (∀j:Nat,(∀r,walk (.lin 0 0 0::r) l k=be j)->∀M',RX "WrongSign" [("place",.int j)] M')
def hmX(w h s:Int)(i j:Int):Int:=(i-j/h*s)%w
def hRow(w h s:Int)(j:Nat):Nat->List Nat->List ((Int×Int)×Int)->List ((Int×Int)×Int)
 |_,[],kv=>kv
 |i,c::r,kv=>hRow w h s j (i+1) r (if c=46 then kv else sdD kv (hmX w h s i j) ((j:Int)%h) ((c:Int)-48))
def hAll(w h s:Int):Nat->List (List Nat)->List ((Int×Int)×Int)->List ((Int×Int)×Int)
 |_,[],kv=>kv
 |j,x::r,kv=>hAll w h s (j+1) r (hRow w h s j 0 x kv)
def vn(kv:List ((Int×Int)×Int))(x y v:Int):(sdD kv x y v).length<=kv.length+1:=by
 unfold sdD;split
 .lia
 .rw[HF];simp
def C9(h:49<=c/\c<=54):∃i rest,Builtin.Str.occurrences ".123456" #[[c].toArray] 0 (".123456":Lq).length 1=i::rest/\((i:Nat):Int)=(c:Int)-48:=by
 rcases(Md:c=49\/c=50\/c=51\/c=52\/c=53\/c=54)with e|e|e|e|e|e<;>subst e
 .exact#[1,[],KK,Mh]
 .exact#[2,[],KK,Mh]
 .exact#[3,[],KK,Mh]
 .exact#[4,[],KK,Mh]
 .exact#[5,[],KK,Mh]
 .exact#[6,[],KK,Mh]
def Da{x:List Nat}(h:∀c∈x,aN c):(#[x.toArray]:Lq).cps.all (·<128)=true:=by
 rw[<-JW,Ir];intro c hc;have:=h c hc;unfold aN at this;simp;lia
def Db{L:List (List Nat)}{j:Nat}{d:D}(h:(lstD L)[j]?=be d):∃x,L[j]?=be x/\d=.str #[x.toArray]:=by
 unfold lstD at h;rw[HI]at h;cases e:L[j]? with
 |none=>rw[e]at h;cases h
 |some x=>rw[e]at h;cases h;exact#[x,rfl,rfl]
def Dc{x:List Nat}{i:Nat}{d:D}(h:(bO #[x.toArray])[i]?=be d):∃c,x[i]?=be c/\d=.str #[[c].toArray]:=by
 unfold bO at h;rw[HI]at h;cases e:x[i]? with
 |none=>simp[e]at h
 |some c=>simp[e]at h;exact#[c,rfl,h.symm]
def vo{α:Type}{l:List α}{i:Nat}{x:α}(h:l[i]?=be x):l.drop i=x::l.drop (i+1):=by
 have hi:i<l.length:=(HJ.mp h).1;rw[IQ hi];congr 1;rw[HP hi]at h;exact Option.some.inj h
def Dd:SpM:=λds M R RX=>∃(L:List (List Nat)) (wd:Nat) (w h s:Int),ds=[.lst (lstD L),.tup [.int w,.int h,.int s]]/\RowsL L wd/\0<w/\0<h/\h<1073741824/\0<=s/\s<1073741824/\R (.dti (hAll w h s 0 L [])) M
def moF(k:Nat)(sh:D)(hu:List ((Int×Int)×Int)):List (Lq×D):=[("place",.int k),("shifts",sh),("hues",.dti hu)]
def De:SiD:=λds R=>∃(k:Nat) (L:List (List Nat)) (wd:Nat) (a b c d:Int),ds=[.int k,.lst (lstD L),.tup [.int a,.int b],.tup [.int c,.int d]]/\RowsL L wd/\B12 a/\B12 b/\B12 c/\B12 d/\
 (a*d=b*c->R (moF k .non []))/\(¬a*d=b*c->∀w h s,FamOf a b c d w h s->R (moF k (.tup [.int w,.int h,.int s]) (hAll w h s 0 L [])))
def Df{v:D}:putD ("place":Lq) v []=([("place",v)]:List (Lq×D)):=rfl
def vp{u v:D}:putD ("shifts":Lq) v [("place",u)]=([("place",u),("shifts",v)]:List (Lq×D)):=by
 unfold putD;rw[if_neg KK];rfl
def vq{t u v:D}:putD ("hues":Lq) v [("place",t),("shifts",u)]=([("place",t),("shifts",u),("hues",v)]:List (Lq×D)):=by
 unfold putD;rw[if_neg KK];unfold putD;rw[if_neg KK];rfl
def lr{u v:D}:([("place",u),("shifts",v)]:List (Lq×D)).lookup ("shifts":Lq)=be v:=by
 rw[HM,show(("shifts":Lq)==("place":Lq))=false by decide+kernel];rfl
def Dg:SiD:=λds R=>∃(x y:Lq) (fs gs:List (Lq×D)),ds=[.obj x fs,.obj y gs]/\R [("above",.obj x fs),("below",.obj y gs)]
def Dh:SiD:=λds R=>∃(x:Lq) (fs:List (Lq×D)) (a b:Int),ds=[.obj x fs,.int a,.int b]/\R [("form",.obj x fs),("x",.int a),("y",.int b)]
def Di:SiD:=λds R=>∃(x:Lq) (fs:List (Lq×D)),ds=[.obj x fs]/\R [("form",.obj x fs)]
def Dj:SiD:=λds R=>∃(x:Lq) (fs:List (Lq×D)),ds=[.obj x fs]/\R [("form",.obj x fs)]
def Dk:SiD:=λds R=>∃(x:Lq) (fs:List (Lq×D)) (a b:Int),ds=[.obj x fs,.int a,.int b]/\R [("form",.obj x fs),("old",.int a),("new",.int b)]
def FormOf:Pat->Nat->D->Prop
 |.mot L a b c d,k,v=>∃sh hu,v=.obj "Motif" (moF k sh hu)/\(a*d=b*c->sh=.non)/\(¬a*d=b*c->∃w h s,FamOf a b c d w h s/\sh=.tup [.int w,.int h,.int s]/\hu=hAll w h s 0 (L.map cs) [])
 |.over p q,k,v=>∃u u',v=.obj "Over" [("above",u),("below",u')]/\FormOf p (k+1) u/\FormOf q (k+1+p.tl.length+1) u'
 |.sh a b p,k,v=>∃u,v=.obj "Shifted" [("form",u),("x",.int a),("y",.int b)]/\FormOf p (k+1+(numL a).length+1+(numL b).length+1) u
 |.mir p,k,v=>∃u,v=.obj "Mirror" [("form",u)]/\FormOf p (k+1) u
 |.tur p,k,v=>∃u,v=.obj "Turn" [("form",u)]/\FormOf p (k+1) u
 |.hue f g p,k,v=>∃u,v=.obj "Rehue" [("form",u),("old",.int f),("new",.int g)]/\FormOf p (k+3) u
def Pat.cls:Pat->Lq
 |.mot ..=>"Motif"|.over ..=>"Over"|.sh ..=>"Shifted"|.mir ..=>"Mirror"|.tur ..=>"Turn"|.hue ..=>"Rehue"
def FormOf.nl:∀{k:Nat} {v:D},FormOf p k v->noL v=true:=by
 induction p with
 |mot L a b c d=>
  intro k v h;let#[sh,hu,rfl,h1,h2]:=h;have hs:noL sh=true:=by
   by_cases e:a*d=b*c
   .rw[h1 e];rfl
   .obtain⟨w,h,s,_,rfl,_⟩:=h2 e;rfl
  simp[noL,noLF,moF,hs]
 |over p q i j=>
  intro k v h;let#[u,u',rfl,h1,h2]:=h;simp[noL,noLF,i h1,j h2]
 |sh a b p i=>
  intro k v h;let#[u,rfl,h1]:=h;simp[noL,noLF,i h1]
 |mir p i=>
  intro k v h;let#[u,rfl,h1]:=h;simp[noL,noLF,i h1]
 |tur p i=>
  intro k v h;let#[u,rfl,h1]:=h;simp[noL,noLF,i h1]
 |hue f g p i=>
  intro k v h;let#[u,rfl,h1]:=h;simp[noL,noLF,i h1]
def FormOf.obj{v:D}(h:FormOf p k v):∃fs,v=.obj p.cls fs:=by
 cases p with
 |mot L a b c d=>let#[sh,hu,rfl,_]:=h;exact#[_,rfl]
 |over p q=>let#[_,_,rfl,_]:=h;exact#[_,rfl]
 |sh a b p=>let#[_,rfl,_]:=h;exact#[_,rfl]
 |mir p=>let#[_,rfl,_]:=h;exact#[_,rfl]
 |tur p=>let#[_,rfl,_]:=h;exact#[_,rfl]
 |hue f g p=>let#[_,rfl,_]:=h;exact#[_,rfl]
def Dl{L:List (List Nat)}{w:Nat}(h:RowsL L w):Rows (L.map λx=>(#[x.toArray]:Lq))/\(L.map λx=>(#[x.toArray]:Lq)).map cs=L:=by
 refine#[#[by rw[HE];exact h.many,w,#[h.w1,h.w8],λl hl=>?_],?_]
 .obtain⟨x,hx,rfl⟩:=HW.mp hl;let#[h1,h2]:=h.each x hx;exact#[by rw[len_of_list];exact h1,h2]
 .rw[Jb];simp[Function.comp_def,cs]
def Dm:SpM:=λds M R RX=>∃(a:Pi) (t:Lq) (k:Nat) (l:List Nat),ds=[.ptr a]/\M=RdM a t k/\At t k l/\
 (∀p l',p.Syn->p.depth=0->l=p.tl++l'->∀v,FormOf p k v->R v (RdM a t (k+p.tl.length)))/\
 (∀j:Nat,(∀r,walk (.pat 5::r) l k=be j)->∀M',RX "WrongSign" [("place",.int j)] M')
def Dn{d:Nat}(h:d=5\/∀c l',l=c::l'->c∉cs "(smth"):walk (.pat d::r) l k=walk (.pat 5::r) l k:=by
 rcases h with rfl|h
 .rfl
 .cases l with
  |nil=>simp[walk]
  |cons c l=>
   have hc:=h c l rfl;have e:cs "(smth"=[40,115,109,116,104]:=rfl;rw[e]at hc;simp only[Hx,II,or_false,not_or]at hc;have:step (.pat d::r) c=step (.pat 5::r) c:=by
    rw[bT,bT];unfold bS;by_cases OJ:c=91
    .rw[if_pos OJ,if_pos OJ]
    .rw[if_neg OJ,if_neg OJ,if_pos rfl];split
     .rfl
     .rw[if_neg hc.1,if_neg hc.2.1,if_neg hc.2.2.2.2,if_neg (by rintro(z|z);exact hc.2.2.1 z;exact hc.2.2.2.1 z)]
   rw[walk,walk,this]
def hue_dig:c∈cs "123456"↔49<=c/\c<=54:=by
 have e:cs "123456"=[49,50,51,52,53,54]:=rfl;rw[e];simp;lia
def iE(h:49<=c/\c<=54):numL ((c:Int)-48)=[c]:=by
 rw[hueL Md];congr 1;lia
def lu(h:49<=c/\c<=54):walk (.hue::r) (c::l) k=walk r l (k+1):=aK (by simp[step,aP,aQ,h])
def vt(h:∀c l',l=c::l'->c∉cs "123456"):walk (.hue::r) l k=be k:=
 walk_bad (λz=>nomatch z) λc l' q=>by
  have:=λz=>h c l' q (hue_dig.mpr z);simp only[step,aP,aQ];exact if_neg this
def dL(j:Nat):SpM:=λds M R RX=>∃(a:Pi) (t:Lq) (k:Nat) (l:List Nat) (d:Nat),ds=[.ptr a,.int d]/\M=RdM a t k/\At t k l/\d+j=6/\1<=j/\
 (∀p l',p.Syn->p.depth+d<=5->l=p.tl++l'->∀v,FormOf p k v->R v (RdM a t (k+p.tl.length)))/\(∀i:Nat,(∀r,walk (.pat d::r) l k=be i)->∀M',RX "WrongSign" [("place",.int i)] M')
variable{R:My.D->MS->Prop}{ds:List My.D}{RX:XDM}
def Do:¬dL 0 ds M R RX:=by
 intro#[_,_,_,_,_,_,_,_,_,h,_];exact absurd h Mh
def vw(j:Nat):SpM:=λds M R RX=>∃(a:Pi) (t:Lq) (k:Nat) (l:List Nat) (d:Nat),ds=[.ptr a,.int d]/\M=RdM a t k/\At t k l/\d+j=6/\1<=j/\
 (∀p q l',p.Syn->q.Syn->p.depth+d<=5->q.depth+d<=5->l=p.tl++124::(q.tl++41::l')->∀u u',FormOf p k u->FormOf q (k+p.tl.length+1) u'->R (.obj "Over" [("above",u),("below",u')]) (RdM a t (k+p.tl.length+1+q.tl.length+1)))/\
 (∀i:Nat,(∀r,walk (.pat d::.sign 124::.pat d::.sign 41::r) l k=be i)->∀M',RX "WrongSign" [("place",.int i)] M')
def vx(j:Nat):SpM:=λds M R RX=>∃(a:Pi) (t:Lq) (k:Nat) (l:List Nat) (d:Nat),ds=[.ptr a,.int d]/\M=RdM a t k/\At t k l/\d+j=6/\1<=j/\
 (∀x y p l',B12 x->B12 y->p.Syn->p.depth+d<=5->l=numL x++44::(numL y++58::(p.tl++l'))->∀u,FormOf p (k+(numL x).length+1+(numL y).length+1) u->R (.obj "Shifted" [("form",u),("x",.int x),("y",.int y)]) (RdM a t (k+(numL x).length+1+(numL y).length+1+p.tl.length)))/\
 (∀i:Nat,(∀r,walk (.num::.sign 44::.num::.sign 58::.pat d::r) l k=be i)->∀M',RX "WrongSign" [("place",.int i)] M')
def vy(j:Nat):SpM:=λds M R RX=>∃(a:Pi) (t:Lq) (k:Nat) (l:List Nat) (d:Nat),ds=[.ptr a,.int d]/\M=RdM a t k/\At t k l/\d+j=6/\1<=j/\
 (∀c e p l',(49<=c/\c<=54)->(49<=e/\e<=54)->p.Syn->p.depth+d<=5->l=c::e::(p.tl++l')->∀u,FormOf p (k+2) u->R (.obj "Rehue" [("form",u),("old",.int ((c:Int)-48)),("new",.int ((e:Int)-48))]) (RdM a t (k+2+p.tl.length)))/\
 (∀i:Nat,(∀r,walk (.hue::.hue::.pat d::r) l k=be i)->∀M',RX "WrongSign" [("place",.int i)] M')
def Pat.Area(p:Pat)(N:Int):Prop:=∃w h s,p.Fam w h s/\w*h<=N
def Pat.Fits.wide(h:p.Fits):p.Area 33554432:=by
 let#[w,k,s,f,b]:=h;exact#[w,k,s,f,Md]
def Pat.Area.small{N:Int}(h:p.Area N){k:Int}(f:p.Fam w k s):0<w/\w<=N/\0<k/\k<=N/\0<=s/\s<w:=by
 let#[w',k',s',f',hb]:=h;let#[rfl,rfl,rfl]:=f.uniq f';let#[h1,h2]:=cT f.f.w0 f.f.h0;exact#[f.f.w0,Md,f.f.h0,Md,f.f.s0,f.f.sw]
def Pat.Area.tur{N:Int}(h:p.Area N):(Pat.tur p).Area N:=by
 let#[w,k,s,f,b]:=h;let#[w2,h2,s2,g,e]:=iB (s:=s) f.f.w0 f.f.h0;exact#[_,_,_,f.tur g,Md]
def Pat.Cal:Pat->Prop
 |.mot ..=>True
 |.over p q=>p.Cal/\q.Cal/\(p.Wf->q.Wf->p.Area 33554432/\q.Area 33554432)
 |.sh _ _ p=>p.Cal
 |.mir p=>p.Cal
 |.tur p=>p.Cal/\(p.Wf->p.Area 33554432)
 |.hue _ _ p=>p.Cal
def Pat.cls_mem(p:Pat):p.cls∈(["Motif","Over","Shifted","Mirror","Turn","Rehue"]:List Lq):=by
 cases p<;>simp[Pat.cls]
def no_look{f g:Lq}{v:D}{r:List (Lq×D)}(h:(f==g)=false)(hr:r.lookup f=w6):(((g,v)::r:List (Lq×D))).lookup f=none:=by
 rw[HM,h];exact hr
def FormOf.objm{v:D}(h:FormOf p k v):∃fs,v=.obj p.cls fs/\fs.lookup ("family":Lq)=w6/\fs.lookup ("shows":Lq)=none:=by
 cases p with
 |mot L a b c d=>let#[sh,hu,rfl,_]:=h;exact#[_,rfl,no_look KK (no_look KK (no_look KK rfl)),no_look KK (no_look KK (no_look KK rfl))]
 |over p q=>let#[_,_,rfl,_]:=h;exact#[_,rfl,no_look KK (no_look KK rfl),no_look KK (no_look KK rfl)]
 |sh a b p=>let#[_,rfl,_]:=h;exact#[_,rfl,no_look KK (no_look KK (no_look KK rfl)),no_look KK (no_look KK (no_look KK rfl))]
 |mir p=>let#[_,rfl,_]:=h;exact#[_,rfl,no_look KK rfl,no_look KK rfl]
 |tur p=>let#[_,rfl,_]:=h;exact#[_,rfl,no_look KK rfl,no_look KK rfl]
 |hue f g p=>let#[_,rfl,_]:=h;exact#[_,rfl,no_look KK (no_look KK (no_look KK rfl)),no_look KK (no_look KK (no_look KK rfl))]
variable{hu:List ((Int×Int)×Int)}
def lv{sh:D}:(moF k sh hu).lookup ("shifts":Lq)=be sh:=by
 unfold moF;rw[HM,show(("shifts":Lq)==("place":Lq))=false by decide+kernel];rfl
def Dp{sh:D}:(moF k sh hu).lookup ("place":Lq)=be (.int k):=rfl
def Dq{sh:D}:(moF k sh hu).lookup ("hues":Lq)=be (.dti hu):=by
 unfold moF;rw[HM,show(("hues":Lq)==("place":Lq))=false by decide+kernel,HM,show(("hues":Lq)==("shifts":Lq))=false by decide+kernel];rfl
def fM{f g:Lq}{u v:D}{r:List (Lq×D)}(h:(g==f)=false):(((f,u)::(g,v)::r:List (Lq×D))).lookup g=be v:=by
 rw[HM,h,HM,beq_self_eq_true]
def lw{e f g:Lq}{t u v:D}{r:List (Lq×D)}(h1:(g==e)=false)(h2:(g==f)=false):(((e,t)::(f,u)::(g,v)::r:List (Lq×D))).lookup g=be v:=by
 rw[HM,h1];exact fM h2
def Pat.Fits.small(h:p.Fits){k:Int}(f:p.Fam w k s):0<w/\w<=720/\0<k/\k<=720/\0<=s/\s<w:=by
 let#[w',k',s',f',hb]:=h;let#[rfl,rfl,rfl]:=f.uniq f';let#[h1,h2]:=cT f.f.w0 f.f.h0;exact#[f.f.w0,Md,f.f.h0,Md,f.f.s0,f.f.sw]
def bX(j:Nat)(x:Lq):SpX:=λds R RX=>∃(p:Pat) (k:Nat) (v:D),ds=[v]/\FormOf p k v/\p.Syn/\p.depth<j/\p.cls=x/\p.Cal/\(∀i:Nat,p.lineAt k=be i->RX "OneLine" [("place",.int i)])/\(p.lineAt k=w6->∀w h s,p.Fam w h s->R (.tup [.int w,.int h,.int s]))
def fN{x:Lq}:¬ofX (bX 0 x) ds M R RX:=by
 intro#[_,_,_,_,_,_,h,_];exact absurd h (KR _)
def lookD_app(x y v X Y:Int):∀kv:List ((Int×Int)×Int),lookD (kv++[((x,y),v)]) X Y=match lookD kv X Y with|some u=>be u|none=>if x=X/\y=Y then be v else w6
 |[]=>rfl
 |((a,b),h)::r=>by
  show lookD (((a,b),h)::(r++[((x,y),v)])) X Y=_;unfold lookD;by_cases e:a=X/\b=Y
  .rw[if_pos e,if_pos e]
  .rw[if_neg e,if_neg e];exact lookD_app x y v X Y r
def Dr(kv:List ((Int×Int)×Int))(x y v X Y:Int):lookD (sdD kv x y v) X Y=match lookD kv X Y with|some u=>be u|none=>if x=X/\y=Y then be v else none:=by
 unfold sdD;split
 .rename_i hs;cases e:lookD kv X Y with
  |some u=>rfl
  |none=>
   show w6=_;rw[if_neg];intro#[rfl,rfl];rw[e]at hs;cases hs
 .exact lookD_app x y v X Y kv
def look_row(w h s:Int)(j:Nat)(X Y:Int):∀(x:List Nat) (i:Nat) (kv:List ((Int×Int)×Int)),lookD (hRow w h s j i x kv) X Y=match lookD kv X Y with|some u=>be u|none=>(scanRow (λi=>decide (hmX w h s i j=X/\(j:Int)%h=Y)) i x).map λc=>(c:Int)-48
 |[],i,kv=>by
  rw[hRow,scanRow];cases lookD kv X Y<;>rfl
 |c::r,i,kv=>by
  rw[hRow,look_row w h s j X Y r (i+1),scanRow];by_cases x_:c=46
  .rw[if_pos x_,if_neg (c:=c≠46/\_) (λz=>z.1 x_)]
  .rw[if_neg x_,Dr];cases lookD kv X Y with
   |some u=>rfl
   |none=>
    by_cases e:hmX w h s i j=X/\(j:Int)%h=Y
    .rw[if_pos (c:=c≠46/\_) #[x_,decide_eq_true e]];show(match (if hmX w h s i j=X/\(j:Int)%h=Y then be ((c:Int)-48)else w6)with|some u=>be u|none=>_)=_;rw[if_pos e];rfl
    .rw[if_neg (c:=c≠46/\_) (λz=>e (of_decide_eq_true z.2))];show(match (if hmX w h s i j=X/\(j:Int)%h=Y then be ((c:Int)-48)else w6)with|some u=>be u|none=>_)=_;rw[if_neg e]
def vz(w h s X Y:Int):∀(L:List Lq) (j:Nat) (kv:List ((Int×Int)×Int)),lookD (hAll w h s j (L.map cs) kv) X Y=match lookD kv X Y with|some u=>be u|none=>(bQ (λi j=>decide (hmX w h s i j=X/\j%h=Y)) j L).map λc=>(c:Int)-48
 |[],j,kv=>by
  rw[IT,hAll,bQ];cases lookD kv X Y<;>rfl
 |x::r,j,kv=>by
  rw[HR,hAll,vz w h s X Y r (j+1),look_row,bQ];cases lookD kv X Y with
  |some u=>rfl
  |none=>
   show(match (scanRow (λi=>decide (hmX w h s i j=X/\(j:Int)%h=Y)) 0 (cs x)).map (λc=>(c:Int)-48)with|some u=>be u|none=>_)=_;cases scanRow (λi=>decide (hmX w h s i j=X/\(j:Int)%h=Y)) 0 (cs x)<;>rfl
def Ds{c:Int}(F:FamOf a b c d w h s)(hn:¬a*d=b*c)(x y i j:Int):decide (hmX w h s i j=hmX w h s x y/\j%h=y%h)=onB a b c d (x-i) (y-j):=by
 have hw:=F.1;have hh:=F.2.1;have key:(hmX w h s i j=hmX w h s x y/\j%h=y%h)↔InF w h s (x-i) (y-j):=by
  unfold hmX;constructor
  .rintro⟨e1,e2⟩;have dy:=Jc y h;have dj:=Jc j h;have m1:=Jc (x-y/h*s) w;have m2:=Jc (i-j/h*s) w;refine#[(x-y/h*s)/w-(i-j/h*s)/w,y/h-j/h,?_,?_]
   .rw[Kc,Kc,HY ((x-y/h*s)/w) w,HY ((i-j/h*s)/w) w];lia
   .rw[Kc,HY (y/h) h,HY (j/h) h];lia
  .rintro⟨m,q,ex,ey⟩;have TW:y=j+q*h:=by lia
   have Rv:x=i+(m*w+q*s):=Md
   subst Rv TW;rw[KS,KU _ _ Md];refine#[?_,rfl];have e:i+(m*w+q*s)-(j/h+q)*s=i-j/h*s+m*w:=by rw[Kd];lia
   rw[e,KS]
 unfold onB;congr 1;apply propext;rw[key,F.lat];constructor
 .rintro⟨m,q,eu,ev⟩;exact tY eu ev
 .exact λz=>uz hn z
def Dt(h:49<=c/\c<=54):cell [0,1,2,3,4,5,6] ((c:Int)-48)=(c:Int)-48:=by
 rcases(Md:c=49\/c=50\/c=51\/c=52\/c=53\/c=54)with e|e|e|e|e|e<;>subst e<;>rfl
def motif_shows{c:Int}(hL:Rows L)(F:FamOf a b c d w h s)(hn:¬a*d=b*c)(x y:Int):(lookD (hAll w h s 0 (L.map cs) []) (hmX w h s x y) (y%h)).getD 0=(bA L a b c d).shows x y:=by
 rw[vz];show((bQ (λi j=>decide (hmX w h s i j=hmX w h s x y/\j%h=y%h)) 0 L).map λc=>(c:Int)-48).getD 0=_;have e:(λi j=>decide (hmX w h s i j=hmX w h s x y/\j%h=y%h))=λi j=>onB a b c d (1*x+0*y+0-i) (0*x+1*y+0-j):=by
  funext i j;rw[Ds F hn];congr 1<;>lia
 rw[e];show _=match bQ (λi j=>onB a b c d (1*x+0*y+0-i) (0*x+1*y+0-j)) 0 L with|some c=>cell [0,1,2,3,4,5,6] ((c:Int)-48)|none=>0
 cases q:bQ (λi j=>onB a b c d (1*x+0*y+0-i) (0*x+1*y+0-j)) 0 L with
 |none=>rfl
 |some c=>
  have hc:49<=c/\c<=54:=kY (λl' q=>let ⟨_,_,_,h⟩:=hL;(h l' q).2) q;exact(Dt hc).symm
def bY(j:Nat)(x:Lq):SpX:=λds R RX=>∃(p:Pat) (k:Nat) (v:D) (X Y:Int),ds=[v,.int X,.int Y]/\FormOf p k v/\p.Wf/\p.depth<j/\p.cls=x/\R (.int (p.show X Y))
def fO{x:Lq}:¬ofX (bY 0 x) ds M R RX:=by
 intro#[_,_,_,_,_,_,_,_,h,_];exact absurd h (KR _)
structure PatOf(p:Pat)(w h s:Int)(fs:List (Str×D)):Prop extends Pat.Fam p w h s where
 form:∃k v,fs.lookup ("form":Lq)=be v/\FormOf p k v
 nl:noLF fs=true
def cf(p:Pat)(d:D):Prop:=∃w h s fs,d=.obj "Pattern" fs/\fs.lookup ("text":Lq)=be (.str p.text)/\fs.lookup ("shifts":Lq)=be (.tup [.int w,.int h,.int s])/\PatOf p w h s fs
def bw(x:Int):Prop:=-1000000000000<=x/\x<=1000000000000
def Pat.show_le(h:p.Wf)(hd:p.depth<=40)(x y:Int):0<=p.show x y/\p.show x y<=6:=by
 rw[<-Pat.show_leaves h hd];exact uo x y (Pat.leaf_ok h hd)
def bf(h:Int):Nat:=if h=0 then 46 else(48+h).toNat
def aL(p:Pat)(x y:Int)(n:Nat):Str:=#[((HC n).map λ(k:Nat)=>bf (p.show (x+(k:Int)) y)).toArray]
def iF(p:Pat)(x y:Int)(n:Nat):(aL p x y n).length=n:=by simp[aL,Str.length]
def vA(h0:0<=h)(h6:h<=6):atI (cs ".123456") h=be (bf h):=by
 rcases(Md:h=0\/h=1\/h=2\/h=3\/h=4\/h=5\/h=6)with e|e|e|e|e|e|e<;>subst e<;>decide+kernel
def range2_int{x:D}(h:((HC (j-i).toNat).map λk=>D.int (i+((k:Nat):Int)))[k]?=be x):k<(j-i).toNat/\x=.int (i+(k:Int)):=by
 have hk:k<(j-i).toNat:=by simpa using(HJ.mp h).1
 refine#[hk,?_];simp[hk]at h;exact h.symm
def Pat.Fits.over_parts(hp:p.Wf)(hq:q.Wf)(h:(Pat.over p q).Fits):p.Fits/\q.Fits:=by
 let#[w,k,s,f,hb]:=h;let#[w1,k1,s1,f1]:=Pat.fam_ex hp;let#[w2,k2,s2,f2]:=Pat.fam_ex hq;have l1:=(InF.le f1.f.w0 f1.f.h0 f.f.w0 f.f.h0 (λx y z=>(f1.lat x y).mpr ((f.lat x y).mp z).1)).1;have l2:=(InF.le f2.f.w0 f2.f.h0 f.f.w0 f.f.h0 (λx y z=>(f2.lat x y).mpr ((f.lat x y).mp z).2)).1;exact#[#[w1,k1,s1,f1,Md],#[w2,k2,s2,f2,Md]]
def Pat.Fits.of_sh(h:(Pat.sh a b p).Fits):p.Fits:=by
 let#[w,k,s,f,hb]:=h;exact#[w,k,s,#[f.f,f.lat],hb]
def Pat.Fits.of_hue(h:(Pat.hue a b p).Fits):p.Fits:=by
 let#[w,k,s,f,hb]:=h;exact#[w,k,s,#[f.f,f.lat],hb]
def Pat.Fits.of_mir(hp:p.Wf)(h:(Pat.mir p).Fits):p.Fits:=by
 let#[w,k,s,f,hb]:=h;let#[w1,k1,s1,f1]:=Pat.fam_ex hp;let#[rfl,rfl,_]:=f.uniq f1.mir;exact#[_,_,_,f1,hb]
def Pat.Fits.of_tur(hp:p.Wf)(h:(Pat.tur p).Fits):p.Fits:=by
 let#[w,k,s,f,hb]:=h;let#[w1,k1,s1,f1]:=Pat.fam_ex hp;let#[w',k',s',f',e]:=iB (s:=s1) f1.f.w0 f1.f.h0;let#[rfl,rfl,_]:=f.uniq (f1.tur f');exact#[_,_,_,f1,Md]
def Pat.cal_of:∀{p:Pat},p.Wf->p.Fits->p.Cal
 |.mot ..,_,_=>trivial
 |.over p q,h,f=>by
  let#[f1,f2]:=Pat.Fits.over_parts h.1 h.2 f;exact#[Pat.cal_of h.1 f1,Pat.cal_of h.2 f2,λ_ _=>#[f1.wide,f2.wide]]
 |.sh a b p,h,f=>Pat.cal_of (p:=p) h.2.2 f.of_sh
 |.mir p,h,f=>Pat.cal_of (p:=p) h (f.of_mir h)
 |.tur p,h,f=>#[Pat.cal_of (p:=p) h (f.of_tur h),λ_=>Pat.Fits.wide (p:=p) (f.of_tur h)]
 |.hue a b p,h,f=>Pat.cal_of (p:=p) h.2.2 f.of_hue
def Pat.cal_w:∀{p:Pat} {w h s:Int},p.Wf->p.Cal->p.Fam w h s->w<=1125899906842624
 |.mot L a b c d,w,h,s,f_,_,f=>by
  have:=(Pat.fits_mot (L:=L) f_.2.1 f_.2.2.1 f_.2.2.2.1 f_.2.2.2.2.1 f_.2.2.2.2.2).small f;lia
 | .over p q,w,h,s,f_,hc,f=>by
  let#[f1,f2]:=hc.2.2 f_.1 f_.2;let#[w1,k1,s1,g1]:=Pat.fam_ex f_.1;let#[w2,k2,s2,g2]:=Pat.fam_ex f_.2;have a1:=f1.small g1;have a2:=f2.small g2;have LX:InF w h s (w1*w2) 0:=(f.lat _ _).mpr #[(g1.lat _ _).mp #[w2,0,by rw[HY];lia,Md],(g2.lat _ _).mp #[w1,0,Md,Md]];let#[i,j,e1,e2]:=LX;have hj:j=0:=by
   rcases JG.mp e2.symm with z|z
   .exact z
   .have:=f.f.h0;lia
  subst hj;have hp:0<w1*w2:=HN a1.1 a2.1;have e3:w1*w2=i*w:=Md
  have hi:0<i:=by
   have:=f.f.w0;rcases(Md:i<=0\/0<i)with z|z
   .have:=IG z (show 0<=w by lia);lia
   .exact z
  have h1:=HZ (show 1<=i by lia) (show 0<=w by have:=f.f.w0;lia);have h2:=bK (a:=w1) (d:=w2) (A:=33554432) (B:=33554432) Md Md;lia
 |.sh a b p,w,h,s,f_,hc,f=>Pat.cal_w (p:=p) f_.2.2 hc #[f.f,f.lat]
 |.mir p,w,h,s,f_,hc,f=>by
  let#[w1,k1,s1,f1]:=Pat.fam_ex (p:=p) f_;let#[rfl,_,_]:=f.uniq f1.mir;exact Pat.cal_w (p:=p) f_ hc f1
 |.tur p,w,h,s,f_,hc,f=>by
  have:=(hc.2 f_).tur.small f;lia
 |.hue a b p,w,h,s,f_,hc,f=>Pat.cal_w (p:=p) f_.2.2 hc #[f.f,f.lat]
def vB:∀L:List Lq,cs (Str.join "" L)=L.flatMap cs
 |[]=>rfl
 |[x]=>by simp[Str.join]
 |x::y::r=>by
  show cs (x++""++Str.join "" (y::r))=_;rw[bC,bC,vB (y::r),uj];simp
def join_one(f:Nat->Nat)(n:Nat):Str.join "" ((HC n).map λi=>(#[[f i].toArray]:Lq))=#[((HC n).map f).toArray]:=by
 apply gH;rw[vB,List.flatMap_map];show(HC n).flatMap (λi=>[f i])=(HC n).map f;rw[List.map_eq_flatMap]
def df{e:Nat}:∀{a b x y:List Nat},e∉a->e∉b->a++e::x=b++e::y->a=b/\x=y
 |[],[],x,y,_,_,h=>by cases h;exact#[rfl,rfl]
 |[],c::b,x,y,_,hb,h=>by
  cases h;exact absurd Hy hb
 |c::a,[],x,y,ha,_,h=>by
  cases h;exact absurd Hy ha
 |c::a,d::b,x,y,ha,hb,h=>by
  have h':c::(a++e::x)=d::(b++e::y):=h;injection h' with h1 h2;let#[e1,e2]:=df (λz=>ha (Hz _ z)) (λz=>hb (Hz _ z)) h2;exact#[by rw[h1,e1],e2]
def fP(ha:B12 a)(hb:B12 b)(h:numL a=numL b):a=b:=by
 have h1:=lm ha;rw[h,lm hb]at h1;exact(Option.some.inj h1).symm
def Du(ha:B12 a):∀c∈numL a,c=45\/(48<=c/\c<=57):=by
 rcases numL_is ha with⟨c,hc,e⟩|⟨c,hc,e⟩|⟨c,hc,e⟩|⟨c,hc,e⟩<;>rw[e]<;>simp<;>lia
def cy(ha:B12 a){e:Nat}(he:endS e):e∉numL a:=λz=>by
 have:=Du ha e z;unfold endS at he;lia
def rowsL_chars:∀{L:List (List Nat)},(∀x∈L,∀c∈x,aN c)->∀c∈rowsL L,aN c\/c=47
 |[],_,c,h=>by cases h
 |[x],hx,c,h=>.inl (hx x Hy c h)
 |x::y::L,hx,c,h=>by
  have h':c∈x++47::rowsL (y::L):=h;rcases HX.mp h' with z|z
  .exact .inl (hx x Hy c z)
  .rcases Hx.mp z with z|z
   .exact .inr z
   .exact rowsL_chars (λx q=>hx x (Hz _ q)) c z
def gI(h:aN c):c≠47/\c≠59:=by unfold aN at h;lia
def vC:∀{L M:List (List Nat)},L≠[]->M≠[]->(∀x∈L,∀c∈x,aN c)->(∀x∈M,∀c∈x,aN c)->rowsL L=rowsL M->L=M
 |[],_,h,_,_,_,_=>absurd rfl h
 |_,[],_,h,_,_,_=>absurd rfl h
 |[x],[y],_,_,_,_,h=>by rw[show x=y from h]
 |[x],y::z::M,_,_,hx,_,h=>by
  have h':x=y++47::rowsL (z::M):=h;have:(47:Nat)∈x:=by rw[h'];simp
  exact absurd rfl (gI (hx x Hy 47 this)).1
 |x::z::L,[y],_,_,_,hy,h=>by
  have h':x++47::rowsL (z::L)=y:=h;have:(47:Nat)∈y:=by rw[<-h'];simp
  exact absurd rfl (gI (hy y Hy 47 this)).1
 |x::z::L,y::z'::M,_,_,hx,hy,h=>by
  have h':x++47::rowsL (z::L)=y++47::rowsL (z'::M):=h;let#[e1,e2]:=df (λq=>(gI (hx x Hy 47 q)).1 rfl) (λq=>(gI (hy y Hy 47 q)).1 rfl) h';rw[e1,vC (L:=z::L) (M:=z'::M) (λq=>nomatch q) (λq=>nomatch q) (λx q=>hx x (Hz _ q)) (λx q=>hy x (Hz _ q)) e2]
def vD:∀{L M:List Lq},L.map cs=M.map cs->L=M
 |[],[],_=>rfl
 |[],_::_,h=>by cases h
 |_::_,[],h=>by cases h
 |x::L,y::M,h=>by
  rw[HR,HR]at h;injection h with h1 h2;rw[gH h1,vD h2]
def Dv{L':List Lq}{c a' b' c' d':Int}{x y:List Nat}(h:(Pat.mot L a b c d).Syn)(h':(Pat.mot L' a' b' c' d').Syn)(e:(Pat.mot L a b c d).tl++x=(Pat.mot L' a' b' c' d').tl++y):Pat.mot L a b c d=Pat.mot L' a' b' c' d'/\x=y:=by
 have e0:91::(rowsL (L.map cs)++59::(numL a++44::(numL b++59::(numL c++44::(numL d++93::x)))))=91::(rowsL (L'.map cs)++59::(numL a'++44::(numL b'++59::(numL c'++44::(numL d'++93::y))))):=by
  simpa[Pat.tl,motL]using e
 injection e0 with _ e1;have sg:∀{L:List Lq},Rows L->∀x∈L.map cs,∀c∈x,aN c:=λ{L} hL x hx=>by
  let#[l,hl,rfl]:=HW.mp hx;let#[_,w,_,q]:=hL;exact(q l hl).2
 have R4:∀{L:List Lq},Rows L->(59:Nat)∉rowsL (L.map cs):=λ{L} hL z=>by
  rcases rowsL_chars (sg hL) 59 z with q|q
  .exact(gI q).2 rfl
  .cases q
 have ne:∀{L:List Lq},Rows L->L.map cs≠[]:=λ{L} hL z=>by
  have h1:=hL.many.1;have h2:=congrArg Jg z;rw[HE]at h2;simp at h2;rw[h2]at h1;simp at h1
 let#[q1,e2]:=df (R4 h.1) (R4 h'.1) e1;let#[q2,e3]:=df (cy h.2.1 (.inl rfl)) (cy h'.2.1 (.inl rfl)) e2;let#[q3,e4]:=df (cy h.2.2.1 (.inr (.inl rfl))) (cy h'.2.2.1 (.inr (.inl rfl))) e3;let#[q4,e5]:=df (cy h.2.2.2.1 (.inl rfl)) (cy h'.2.2.2.1 (.inl rfl)) e4;let#[q5,e6]:=df (cy h.2.2.2.2 (.inr (.inr (.inr rfl)))) (cy h'.2.2.2.2 (.inr (.inr (.inr rfl)))) e5;rw[vD (vC (ne h.1) (ne h'.1) (sg h.1) (sg h'.1) q1),fP h.2.1 h'.2.1 q2,fP h.2.2.1 h'.2.2.1 q3,fP h.2.2.2.1 h'.2.2.2.1 q4,fP h.2.2.2.2 h'.2.2.2.2 q5];exact#[rfl,e6]
def Pat.head:Pat->Nat
 |.mot ..=>91|.over ..=>40|.sh ..=>115|.mir ..=>109|.tur ..=>116|.hue ..=>104
def Pat.tl_head(p:Pat):∃l,p.tl=p.head::l:=by cases p<;>exact#[_,rfl]
def eK{x y:List Nat}(e:p.tl++x=q.tl++y):p.head=q.head:=by
 let#[l1,e1]:=p.tl_head;let#[l2,e2]:=q.tl_head;rw[e1,e2]at e;have e':p.head::(l1++x)=q.head::(l2++y):=e;injection e'
def vE(h:1<=f/\f<=6)(h':1<=g/\g<=6)(e:(48+f).toNat=(48+g).toNat):f=g:=Md
def Dw{x y:List Nat}(hp:p.Syn)(hq:q.Syn)(e:p.tl++x=q.tl++y):p=q/\x=y:=by
 have hh:=eK e;induction p generalizing q x y with
 |mot=>
  cases q with
  |mot=>exact Dv hp hq e
  |_=>simp[Pat.head]at hh
 |over p q i1 i2=>
  cases q with
  |over p' q'=>
   have e0:40::(p.tl++124::(q.tl++41::x))=40::(p'.tl++124::(q'.tl++41::y)):=by simpa[Pat.tl]using e
   injection e0 with _ e1;let#[rfl,e2]:=i1 hp.1 hq.1 e1 (eK e1);injection e2 with _ e3;let#[rfl,e4]:=i2 hp.2 hq.2 e3 (eK e3);injection e4 with _ e5;exact#[rfl,e5]
  |_=>simp[Pat.head]at hh
 |sh a b p i=>
  cases q with
  |sh a' b' p'=>
   have e0:115::(numL a++44::(numL b++58::(p.tl++x)))=115::(numL a'++44::(numL b'++58::(p'.tl++y))):=by simpa[Pat.tl]using e
   injection e0 with _ e1;let#[q2,e3]:=df (cy hp.1 (.inl rfl)) (cy hq.1 (.inl rfl)) e1;let#[q3,e4]:=df (cy hp.2.1 (.inr (.inr (.inl rfl)))) (cy hq.2.1 (.inr (.inr (.inl rfl)))) e3;let#[rfl,e5]:=i hp.2.2 hq.2.2 e4 (eK e4);rw[fP hp.1 hq.1 q2,fP hp.2.1 hq.2.1 q3];exact#[rfl,e5]
  |_=>simp[Pat.head]at hh
 |mir p i=>
  cases q with
  |mir p'=>
   have e0:109::(p.tl++x)=109::(p'.tl++y):=e;injection e0 with _ e1;let#[rfl,e5]:=i (q:=p') hp hq e1 (eK e1);exact#[rfl,e5]
  |_=>simp[Pat.head]at hh
 |tur p i=>
  cases q with
  |tur p'=>
   have e0:116::(p.tl++x)=116::(p'.tl++y):=e;injection e0 with _ e1;let#[rfl,e5]:=i (q:=p') hp hq e1 (eK e1);exact#[rfl,e5]
  |_=>simp[Pat.head]at hh
 |hue f g p i=>
  cases q with
  |hue f' g' p'=>
   have e0:104::(numL f++(numL g++(p.tl++x)))=104::(numL f'++(numL g'++(p'.tl++y))):=by simpa[Pat.tl]using e
   rw[hueL hp.1,hueL hp.2.1,hueL hq.1,hueL hq.2.1]at e0;have e1:104::(48+f).toNat::(48+g).toNat::(p.tl++x)=104::(48+f').toNat::(48+g').toNat::(p'.tl++y):=e0;injection e1 with _ e2;injection e2 with e3 e4;injection e4 with e5 e6;let#[rfl,e7]:=i hp.2.2 hq.2.2 e6 (eK e6);rw[vE hp.1 hq.1 e3,vE hp.2.1 hq.2.1 e5];exact#[rfl,e7]
  |_=>simp[Pat.head]at hh
def Dx:SiD:=λds R=>∃(t:Lq) (w h s:Int) (x:Lq) (fs:List (Lq×D)),ds=[.str t,.tup [.int w,.int h,.int s],.obj x fs]/\R [("text",.str t),("shifts",.tup [.int w,.int h,.int s]),("form",.obj x fs)]
def Dy:SiD:=λds R=>∃i:Int,ds=[.int i]/\R [("place",.int i)]
def Dz:SiD:=λds R=>∃i:Int,ds=[.int i]/\R [("place",.int i)]
def S_read:SpX:=λds R RX=>(∃(t:Lq) (k:Nat),ds=[.str t]/\t.length<=100000/\cb t=be k/\RX "WrongSign" [("place",.int k)])\/
 ∃p:Pat,ds=[.str p.text]/\p.Syn/\p.depth<=5/\p.Cal/\(∀k:Nat,p.lineAt 0=be k->RX "OneLine" [("place",.int k)])/\(p.lineAt 0=w6->¬p.Fits->RX "TooGreat" [])/\(p.lineAt 0=w6->p.Fits->∀d,cf p d->R d)
def DB{R:D->Prop}(ok:p.Ok)(h:∀d,cf p d->R d):sO S_read [.str p.text] R:=
 .inr #[p,rfl,ok.wf.syn,ok.deep,Pat.cal_of ok.wf ok.fits,(λk e=>by rw[Pat.wf_line 0 ok.wf]at e;cases e),λ_ z=>z ok.fits,λ_ _=>h]
def DC:SpX:=λds R RX=>∃x y:Int,ds=[.int x,.int y]/\(bw x/\bw y->R .non)/\(¬(bw x/\bw y)->RX "TooFar" [])
def DD:SpX:=λds R RX=>∃(p:Pat) (d:D) (x y:Int),ds=[d,.int x,.int y]/\cf p d/\p.Ok/\(bw x/\bw y->R (.int (p.show x y)))/\(¬(bw x/\bw y)->RX "TooFar" [])
def DF:SpD:=λds R=>∃(p:Pat) (d:D) (x y:Int) (n:Nat),ds=[d,.int x,.int y,.int n]/\cf p d/\p.Ok/\n<=1000/\bw x/\bw (x+n-1)/\bw y/\R (.str (aL p x y n))
def rowD(p:Pat)(x y:Int)(n:Nat):List D:=(HC n).map λ(i:Nat)=>D.str #[[bf (p.show (x+(i:Int)) y)].toArray]
def vF(p:Pat)(x y:Int)(k:Nat):rowD p x y k++[D.str #[[bf (p.show (x+(k:Int)) y)].toArray]]=rowD p x y (k+1):=by
 unfold rowD;rw[Jk,Ia];rfl
def vG(p:Pat)(x y:Int)(hn:n<=1000):∃ys,cS (rowD p x y n)=be ys/\(ys.map (·.length)).sum+ys.length*("":Lq).length<=1000000/\Txt.join "" ys=aL p x y n:=by
 have e1:rowD p x y n=((HC n).map λ(i:Nat)=>(#[[bf (p.show (x+(i:Int)) y)].toArray]:Lq)).map D.str:=by unfold rowD;rw[Jb];rfl
 rw[e1];refine#[_,kX _,?_,(StrLaws.glued_eq_join _ _).trans (join_one (λi=>bf (p.show (x+(i:Int)) y)) n)];rw[uk (w:=1) (λl hl=>by let#[i,_,rfl]:=HW.mp hl;rfl),HE,Ke,show("":Lq).length=0 from rfl];lia
def DG{n:Int}:x.fmod n=0↔n∣x:=#[Int.dvd_of_fmod_eq_zero,J1]
def DJ(a b c d u v i j:Int):onB a b c d (u+(i*a+j*c)) (v+(i*b+j*d))=onB a b c d u v:=by
 unfold onB;have e1:(u+(i*a+j*c))*d-(v+(i*b+j*d))*c=(u*d-v*c)+(a*d-b*c)*i:=Np
 have e2:a*(v+(i*b+j*d))-b*(u+(i*a+j*c))=(a*v-b*u)+(a*d-b*c)*j:=Np
 rw[e1,e2];simp only[DG];have h1:(a*d-b*c∣u*d-v*c+(a*d-b*c)*i)↔a*d-b*c∣u*d-v*c:=KW (KY _ _);have h2:(a*d-b*c∣a*v-b*u+(a*d-b*c)*j)↔a*d-b*c∣a*v-b*u:=KW (KY _ _);simp only[h1,h2]
def Pat.Keeps(p:Pat)(X Y:Int):Prop:=∀x y,p.show (x+X) (y+Y)=p.show x y
def Pat.lat_keeps:∀{p:Pat} {X Y:Int},p.Lat X Y->p.Keeps X Y
 | .mot L a b c d,_,_,⟨i,j,rfl,rfl⟩,x,y=>by
  have e:∀u v:Int,onB a b c d (1*(x+(i*a+j*c))+0*(y+(i*b+j*d))+0-u) (0*(x+(i*a+j*c))+1*(y+(i*b+j*d))+0-v)=onB a b c d (1*x+0*y+0-u) (0*x+1*y+0-v):=λu v=>by
   rw[<-DJ a b c d (1*x+0*y+0-u) (0*x+1*y+0-v) i j];congr 1<;>lia
  show Leaf.shows _ _ _=Leaf.shows _ _ _;unfold Leaf.shows Leaf.hit;simp only[bA,e]
 |.over p q,X,Y,h,x,y=>by
  simp only[Pat.show];rw[Pat.lat_keeps h.1 x y,Pat.lat_keeps h.2 x y]
 |.sh a b p,X,Y,h,x,y=>by
  have:=Pat.lat_keeps (p:=p) h (x-a) (y-b);simp only[Pat.show];rw[<-this];congr 1<;>lia
 |.mir p,X,Y,h,x,y=>by
  have:=Pat.lat_keeps (p:=p) h (-x) y;simp only[Pat.show];rw[<-this];congr 1;lia
 |.tur p,X,Y,h,x,y=>by
  have:=Pat.lat_keeps (p:=p) h y (-x);simp only[Pat.show];rw[<-this];congr 1;lia
 |.hue f g p,X,Y,h,x,y=>by
  simp only[Pat.show];rw[Pat.lat_keeps (p:=p) h x y]
def InF.one(w h s:Int):InF w h s w 0:=#[1,0,Md,Md]
def Pat.Fam.keeps(f:p.Fam w h s)(q:InF w h s x y):p.Keeps x y:=Pat.lat_keeps ((f.lat x y).mp q)
def DK(hw:0<w)(hh:0<h)(x y:Int):InF w h s (x-hmX w h s x y) (y-y%h):=by
 have e1:=IP y h;have e2:=IP (x-y/h*s) w;refine#[(x-y/h*s)/w,y/h,?_,by rw[e1,HY];lia];unfold hmX;rw[e2,HY w];lia
def Pat.show_home(hw:0<w)(hh:0<h)(k:∀x y,InF w h s x y->p.Keeps x y)(x y:Int):p.show (hmX w h s x y) (y%h)=p.show x y:=by
 have:=k _ _ (DK (s:=s) hw hh x y) (hmX w h s x y) (y%h);rw[<-this];congr 1<;>lia
def DL(f:Nat->Nat){w:Nat}(h:c<w):((HC w).map f).drop c++((HC w).map f).take c=(HC w).map λk=>f ((c+k)%w):=by
 apply IU;intro i;by_cases h1:i<w-c
 .rw[Ik (by simp;exact h1),KZ,HI,HI,Iw Md,Iw Md];simp[K0 (show c+i<w by lia)]
 .rw[IL Qu];simp only[IS,HE,Ke];by_cases h2:i<w
  .rw[JO Md,HI,HI,Iw Md,Iw Md];have e:(c+i)%w=i-(w-c):=by
    rw[show c+i=(i-(w-c))+w by lia,Nat.add_mod_right,K0 Md]
   simp[e]
  .rw[Io Qu,Io Qu]
def gJ(l:List Nat):cs (#[l.toArray]:Lq)=l:=Mn
def DM{c:Int}(ht:cs t=l)(c0:0<=c)(cl:c<l.length):Txt.slice t (be c) w6++Txt.slice t w6 (be c)=(#[(l.drop c.toNat++l.take c.toNat).toArray]:Lq):=by
 have hl:t.length=l.length:=by rw[<-ht,bq]
 apply gH;rw[bC,slice_cps,slice_cps,gJ,gJ,gJ,show t.cps.toList=l from ht,hl];have e1:HT.sIx l.length 0 (be c)=c.toNat:=by show(if c<0 then _ else min c.toNat l.length)=_;rw[if_neg Md];lia
 have e2:HT.sIx l.length l.length w6=l.length:=rfl;have e3:HT.sIx l.length 0 w6=0:=rfl;have e4:HT.sIx l.length l.length (be c)=c.toNat:=by show(if c<0 then _ else min c.toNat l.length)=_;rw[if_neg Md];lia
 rw[e1,e2,e3,e4,JJ,JX Mn];rfl
def dM(p:Pat)(x y:Int)(n:Nat):cs (aL p x y n)=(HC n).map λ(k:Nat)=>bf (p.show (x+(k:Int)) y):=gJ _
def DN(hw:0<w)(hh:0<h)(k:∀x y,InF w h s x y->p.Keeps x y)(x y:Int):
  Txt.slice (aL p 0 (y%h) w.toNat) (be (hmX w h s x y)) w6++Txt.slice (aL p 0 (y%h) w.toNat) w6 (be (hmX w h s x y))=aL p x y w.toNat:=by
 have c0:0<=hmX w h s x y:=IE _ Md;have c1:hmX w h s x y<w:=IF _ hw;rw[DM (dM p 0 (y%h) w.toNat) c0 Qu,DL _ Md];unfold aL;congr 2;apply Jl;intro i _;have e:=Pat.show_home hw hh k (x+(i:Int)) y;rw[<-e];congr 2;have q:hmX w h s (x+(i:Int)) y=(hmX w h s x y+i)%w:=by
  unfold hmX;rw[Int.emod_add_emod];congr 1;lia
 rw[q,Jd,K1,Jo,Ie c0,Ie Md]
def gK(p:Pat)(w h:Int):D:=.lst ((HC h.toNat).map λ(y:Nat)=>D.str (aL p 0 (y:Int) w.toNat))
def DO:SpD:=λds R=>∃(p:Pat) (d:D),ds=[d]/\cf p d/\p.Ok/\∀w h s,p.Fam w h s->w*h<=720->w<=720->h<=720->R (gK p w h)
def DP:SpD:=λds R=>∃(p:Pat) (w h s x y:Int),ds=[.tup [.int w,.int h,.int s],gK p w h,.int x,.int y]/\p.Fam w h s/\w<=720/\h<=720/\R (.str (aL p x y w.toNat))
def DQ(a0:0<=a)(a6:a<=6)(b0:0<=b)(b6:b<=6)(e:bf a=bf b):a=b:=by
 unfold bf at e;split at e<;>split at e<;>lia
def sumN(g:Nat->Int):Nat->Int
 |0=>0
 |n+1=>sumN g n+g n
def eL{g f:Nat->Int}:∀{n:Nat},(∀k,k<n->g k=f k)->sumN g n=sumN f n
 |0,_=>rfl
 |n+1,h=>by rw[sumN,sumN,eL λk hk=>h k Md,h n Md]
def iG(g:Nat->Int)(n:Nat):∀m:Nat,sumN g (n+m)=sumN g n+sumN (λk=>g (n+k)) m
 |0=>by simp[sumN]
 |m+1=>by rw[<-Nat.add_assoc,sumN,sumN,iG g n m];lia
def vH(g f:Nat->Int):∀n:Nat,sumN (λk=>g k+f k) n=sumN g n+sumN f n
 |0=>rfl
 |n+1=>by simp only[sumN,vH g f n];lia
def DR{g:Nat->Int}(hN:0<N)(MU:∀k,g (k+N)=g k)(n:Nat):sumN (λj=>(((n:Int)-1-j)/N+1)*g j) (min n N)=sumN g n:=by
 induction n using Nat.strongRecOn with
 |ind n ih=>
  by_cases h:n<=N
  .rw[JK h];refine eL λk hk=>?_;rw[K2 Md Md];simp
  .have e1:n=N+(n-N):=by lia
   have i:=ih (n-N) Md;have Qc:sumN (λk=>g (N+k)) (n-N)=sumN g (n-N):=eL λk _=>by rw[J6];exact MU k
   rw[Nat.min_eq_right Md];have e2:sumN g n=sumN g N+sumN g (n-N):=by
    conv=>lhs;rw[e1]
    rw[iG,Qc]
   rw[e2,<-i];have e3:min (n-N) N+(N-min (n-N) N)=N:=Md
   have split:∀f:Nat->Int,sumN f N=sumN f (min (n-N) N)+sumN (λk=>f (min (n-N) N+k)) (N-min (n-N) N):=λf=>by
    conv=>lhs;rw[<-e3]
    exact iG _ _ _
   rw[split,split g];have a:sumN (λj=>(((n:Int)-1-j)/N+1)*g j) (min (n-N) N)=sumN g (min (n-N) N)+sumN (λj=>((((n-N:Nat):Int)-1-j)/N+1)*g j) (min (n-N) N):=by
    rw[<-vH];refine eL λk hk=>?_;have q:((n:Int)-1-k)/N=(((n-N:Nat):Int)-1-k)/N+1:=by
     rw[show((n:Int)-1-k)=(((n-N:Nat):Int)-1-k)+1*N by lia,KU _ _ Md]
    rw[q,Kd];lia
   have b:sumN (λk=>(((n:Int)-1-((min (n-N) N+k:Nat):Int))/N+1)*g (min (n-N) N+k)) (N-min (n-N) N)=sumN (λk=>g (min (n-N) N+k)) (N-min (n-N) N):=by
    refine eL λk hk=>?_;rw[K2 Md Md];simp
   rw[a,b];lia
def cntN(f:Nat->Int)(v:Int)(n:Nat):Int:=sumN (λk=>if f k=v then 1 else 0) n
def vI(f:Nat->Int)(v:Int):∀n,0<=cntN f v n/\cntN f v n<=n
 |0=>by simp[cntN,sumN]
 |n+1=>by
  have:=vI f v n;unfold cntN at this ⊢;rw[sumN];split<;>lia
def DU{f:Nat->Int}{w:Nat}(hw:0<w)(MU:∀k,f (k+w)=f k)(v:Int)(m:Nat):((m/w:Nat):Int)*cntN f v w+cntN f v (m%w)=cntN f v m:=by
 have key:∀q r:Nat,cntN f v (w*q+r)=(q:Int)*cntN f v w+cntN f v r:=λq=>by
  have sh:∀q k,f (w*q+k)=f k:=λq=>by
   induction q with
   |zero=>intro k;rw[Nat.mul_zero,Je]
   |succ q ih=>intro k;rw[K3,show w*q+w+k=w*q+k+w by lia,MU];exact ih k
  induction q with
  |zero=>intro r;simp
  |succ q ih=>
   intro r;rw[K3,show w*q+w+r=w*q+(w+r)by lia,ih,Jo,Kd];have e:cntN f v (w+r)=cntN f v w+cntN f v r:=by
    unfold cntN;rw[iG];congr 1;refine eL λk _=>?_;rw[J6 w k,MU]
   rw[e];simp;lia
 have:=key (m/w) (m%w);rw[Nat.div_add_mod]at this;exact this.symm
def iH(y:Lq)(c:Nat):∀(m a:Nat) (st:Array Nat×Nat),a+m=y.length+1->st.2<=a->st.1.size<=a->(forIn (List.range' a m) st (StrLaws.occBody y #[[c].toArray] y.length (y.length+1))).run.fst.size=st.1.size+(((cs y).drop a).filter (·==c)).length
 |0,a,st,h,_,_=>by
  rw[Kf (by rw[bq];lia)];rfl
 |m+1,a,st,h,h1,h2=>by
  have l1:(#[[c].toArray]:Lq).length=1:=rfl;have q:=StrLaws.subAt_eq y #[[c].toArray] a;rw[List.range'_succ,JU];by_cases ha:a<y.length
  .have hd:(cs y).drop a=(cs y)[a]'(by rw[bq];exact ha)::(cs y).drop (a+1):=IQ (by rw[bq];exact ha);rw[show y.cps.toList.drop a=_ from hd,l1]at q;rw[hd,List.filter_cons];by_cases e:(cs y)[a]'(by rw[bq];exact ha)=c
   .have eb:StrLaws.occBody y #[[c].toArray] y.length (y.length+1) a st=pure (.yield (st.1.push a,a+1)):=by
     unfold StrLaws.occBody;rw[if_pos #[#[#[Md,h1],by rw[l1];lia],by rw[q];simp[e]],l1]
    rw[eb];have:=iH y c m (a+1) (st.1.push a,a+1) Md (Hw _) Qu;simp only[e,beq_self_eq_true,if_true,HA];refine Eq.trans this ?_;simp only[Array.size_push];lia
   .have eb:StrLaws.occBody y #[[c].toArray] y.length (y.length+1) a st=pure (.yield (st.1,st.2)):=by
     unfold StrLaws.occBody;rw[if_neg];intro#[_,z];rw[q]at z;simp at z;exact e z
    rw[eb];have:=iH y c m (a+1) st Md Md Md;rw[if_neg (by simpa using e)];exact this
  .have eb:StrLaws.occBody y #[[c].toArray] y.length (y.length+1) a st=pure (.yield (st.1,st.2)):=by
    unfold StrLaws.occBody;rw[if_neg];intro#[#[_,z],_];rw[l1]at z;lia
   rw[eb];have:=iH y c m (a+1) st Md Md Md;rw[Kf (by rw[bq];lia)];rw[Kf (by rw[bq];lia)]at this;exact this
def DV(y:Lq)(c:Nat):(Builtin.Str.occurrences y #[[c].toArray] 0 y.length (y.length+1)).length=((cs y).filter (·==c)).length:=by
 rw[StrLaws.occ_eq,Js,iH y c _ 0 _ Md (Hw _) (Hw _)];simp
def vJ(f:Nat->Int)(b:∀k,0<=f k/\f k<=6){v:Int}(v0:0<=v)(v6:v<=6):∀n:Nat,(((((HC n).map λk=>bf (f k)).filter (·==bf v)).length:Nat):Int)=cntN f v n
 |0=>rfl
 |n+1=>by
  rw[Jk,Ia,List.filter_append,HF,Jo,vJ f b v0 v6 n];show _=cntN f v n+_;congr 1;by_cases e:f n=v
  .simp[e]
  .have:¬bf (f n)=bf v:=λz=>e (DQ (b n).1 (b n).2 v0 v6 z);simp[this,e]
def DY(ok:p.Ok)(x y:Int)(v0:0<=v)(v6:v<=6)(n:Nat):(((cs (aL p x y n)).filter (·==bf v)).length:Int)=cntN (λk=>p.show (x+k) y) v n:=by
 rw[dM];exact vJ _ (λk=>Pat.show_le ok.wf (by have:=ok.deep;lia) _ _) v0 v6 n
def DZ(p:Pat)(x y:Int){r:Nat}(h:r<=n):Txt.slice (aL p x y n) w6 (be (r:Int))=aL p x y r:=by
 apply gH;rw[slice_cps,gJ,dM,show(aL p x y n).cps.toList=_ from dM p x y n,iF];have e1:HT.sIx n 0 w6=0:=rfl;have e2:HT.sIx n n (be (r:Int))=r:=by show(if(r:Int)<0 then((r:Int)+n).toNat else min (r:Int).toNat n)=r;rw[if_neg Md];lia
 rw[e1,e2,JJ,Kg,<-K4,K5,JK h]
def occC(t:Lq)(c:Nat):Int:=((Builtin.Str.occurrences t #[[c].toArray] 0 t.length (t.length+1)).length:Nat)
def vK(ok:p.Ok)(x y:Int)(v0:0<=v)(v6:v<=6)(n:Nat):occC (aL p x y n) (bf v)=cntN (λk=>p.show (x+k) y) v n:=by
 unfold occC;rw[DV,DY ok x y v0 v6]
def cI(p:Pat)(v left top:Int)(m n:Nat):Int:=sumN (λj=>cntN (λk=>p.show (left+k) (top+j)) v m) n
def cJ(p:Pat)(left top:Int)(m n:Nat):List Int:=(HC 7).map λ(v:Nat)=>cI p v left top m n
def D0:SpD:=λds R=>∃(p:Pat) (x y v m:Int) (w:Nat),ds=[.str (aL p x y w),.str #[[bf v].toArray],.int m]/\p.Ok/\0<=v/\v<=6/\0<w/\w<=720/\0<=m/\m<2^63/\p.Keeps w 0/\R (.int (cntN (λk=>p.show (x+k) y) v m.toNat))
def Pat.Fam.across(F:p.Fam w h s):p.Keeps w 0:=F.keeps (InF.one w h s)
def Pat.Fam.down(F:p.Fam w h s):p.Keeps 0 (w*h):=F.keeps #[-s,w,by rw[J2,HY w s];lia,rfl]
def D1(hN:0<N)(k:p.Keeps 0 N)(v left top:Int)(m n:Nat):sumN (λj=>(((n:Int)-1-j)/N+1)*cntN (λk=>p.show (left+k) (top+j)) v m) (min n N)=cI p v left top m n:=by
 refine DR (g:=λj=>cntN (λk=>p.show (left+k) (top+j)) v m) hN (λj=>?_) n;unfold cntN;refine eL λi _=>?_;have e:p.show (left+i) (top+((j+N:Nat):Int))=p.show (left+i) (top+j):=by
  have:=k (left+i) (top+j);rw[Jp]at this;rw[<-this,Jo,Kh]
 simp only[e]
def vL{α:Type}(f g:Nat->α){i:Nat}(h:∀v,v<n->v≠i->g v=f v):((HC n).map f).set i (g i)=(HC n).map g:=by
 apply IU;intro k;rw[IN];by_cases hk:i=k
 .subst hk;simp only[if_true,HE,Ke];by_cases hi:i<n
  .simp[hi]
  .simp[hi]
 .rw[if_neg hk];by_cases hi:k<n
  .simp[hi,h k hi (Ne.symm hk)]
  .simp[hi]
def D2:bO ".123456"=(HC 7).map λ(v:Nat)=>D.str #[[bf (v:Int)].toArray]:=by
 unfold bO;rw[show(".123456":Lq).cps.toList=[46,49,50,51,52,53,54]by decide+kernel];rfl
def cj(p:Pat)(left top:Int)(m n N k:Nat)(v:Int):Int:=sumN (λj=>(((n:Int)-1-j)/N+1)*cntN (λi=>p.show (left+i) (top+j)) v m) k
variable{top b8:Int}
def D3{W:Int}(hn:(b8-top+1).toNat=n)(wN:W=(N:Int)):((if top+W<b8+1 then top+W else b8+1)-top).toNat=min n N:=by split<;>lia
def D4{W:Int}(a:-1000000000000<=top/\top<=1000000000000)(c:-1000000000000<=b8/\b8<=1000000000000)(w0:0<W)(w1:W<=720):-(2^62)<=top/\top<2^62/\-(2^62)<=(if top+W<b8+1 then top+W else b8+1)/\(if top+W<b8+1 then top+W else b8+1)<2^62:=by split<;>lia
def D5(hn:(b8-top+1).toNat=n)(hk:k<min n N):b8-(top+k)=(n:Int)-1-k:=Md
def vM{l r:Int}{m:Nat}(a:-1000000000000<=l/\l<=1000000000000)(b:-1000000000000<=r/\r<=1000000000000)(h:(r-l+1).toNat=m):m<=2000000000001:=Md
def D6(x:Int):(if 0>x then 0 else x)=(x.toNat:Int):=by split<;>lia
def D7:SpX:=λds R RX=>∃(p:Pat) (d:D) (left top right b8:Int),ds=[d,.int left,.int top,.int right,.int b8]/\cf p d/\p.Ok/\(bw left/\bw top/\bw right/\bw b8->R (.lst ((cJ p left top (right-left+1).toNat (b8-top+1).toNat).map D.int)))/\(¬(bw left/\bw top/\bw right/\bw b8)->RX "TooFar" [])
end My
end
section
open PySem PySem.Spec PyProof.Rows L2
namespace My
open Exc
section
variable {X:Cx}[J:Jm]{a b c e:U7}{ta tb te:TME}{pos:Vf}
def mTru(te:TME):TMT:=λz M R=>te z M λd M1=>match d with|.bl k=>R k M1|_=>False
abbrev TMO:=SD->MS->(Option Int->MS->Prop)->Prop
def D8:TMO:=λ_ M R=>R w6 M
def D9(te:TME):TMO:=λz M R=>te z M λx M1=>match x with|.int i=>R (be i) M1|_=>False
def mO(K:Ex)[J:Jm](t:TMO):TO:=λs H Q=>∃F z M,Kept J.B J.F0 F H/\RepZ K J.B F H z s M/\∃R:Option Int->MS->Prop,t z M R/\∀o M' F' H',GrowM M M' F H F' H'->R o M'->RepM K F' H' M'->Q o H'
structure MPO(X:Cx)[Jm](e:Option U7)(t:TMO):Prop where
 out:PO X e (mO X.K t)
def vN:MPO X w6 D8:=⟨PO.anti jT λs H Q q=>by
 let#[F,z,M,k,rs,R,h1,h2]:=q;exact h2 w6 M F H (GrowM.refl k.fh) h1 rs.rm⟩
def vO(he:ME X e te):MPO X (be e) (D9 te):=⟨PO.anti (jU he.out) λs H Q q=>by
 let#[F,z,M,k,rs,R,h1,h2]:=q;refine#[F,z,M,k,rs,_,h1,λx u M1 F1 H1 g1 hx rx m1=>?_];split at hx
 .exact#[_,rep_int.mp rx,h2 _ M1 F1 H1 g1 hx m1]
 .exact hx.elim⟩
def mSl(ta:TME)(tl th:TMO):TME:=λz M R=>ta z M λx M1=>tl z M1 λlo M2=>th z M2 λhi M3=>rdSl x lo hi λd=>R d M3
def Ea{lo hi:Option U7}{tl th:TMO}{p2:Vf}(ha:ME X a ta)(hl:MPO X lo tl)(hu:MPO X hi th):ME X (.Subscript a (.Slice lo hi w6 p2) pos) (mSl ta tl th):=⟨(gY (SlR.or sQ (SlR.or gZ qQ)) ha.out hl.out hu.out).anti λs H Q q=>by
 let#[F,z,M,k,rs,R,h1,h2]:=q;refine#[F,z,M,k,rs,_,h1,λx u M1 F1 H1 g1 hx rx m1=>?_];have k1:=k.growM rs.mb g1;have r1:=rs.growM k.bh g1 m1;refine#[F1,z,M1,k1,r1,_,hx,λlo M2 F2 H2 g2 hy m2=>?_];refine#[F2,z,M2,k1.growM r1.mb g2,r1.growM k1.bh g2 m2,_,hy,λhi M3 F3 H3 g3 hw m3=>?_];have g:=g1.trans (g2.trans g3);have LH:=(rx.mono g2.ff).mono g3.ff;unfold rdSl at hw;split at hw
 .exact .inl #[_,rep_str.mp LH,HG hw.1 Mh,h2 _ _ M3 F3 H3 g hw.2 (rep_str.mpr rfl) m3]
 .obtain⟨l,vs,rfl,hq,rr⟩:=rep_lst.mp LH;refine .inr (.inl #[l,vs,rfl,SqL.of (g3.fh _ _ hq),λp hp=>?_]);exact h2 _ _ M3 _ _ (g.trans (Grow.new g3.fh hp _).toM) hw (rep_lst.mpr #[p,_,rfl,aC,(rr.cut _ _).mono (aR (g3.fh.free hp) _)]) (m3.grow (Grow.new g3.fh hp _))
 .obtain⟨l,vs,rfl,hq,rr⟩:=rep_rol.mp LH;refine .inr (.inl #[l,vs,rfl,g3.fh.seq hq,λp hp=>?_]);exact h2 _ _ M3 _ _ (g.trans (Grow.new g3.fh hp _).toM) hw (rep_lst.mpr #[p,_,rfl,aC,(rr.cut _ _).mono (aR (g3.fh.free hp) _)]) (m3.grow (Grow.new g3.fh hp _))
 .obtain⟨l,vs,rfl,hq,rr⟩:=rep_tup_mp LH;refine .inr (.inr #[l,vs,rfl,g3.fh.tup hq,by rw[rr.length];exact hw.1,λp hp=>?_]);exact h2 _ _ M3 _ _ (g.trans (Grow.new g3.fh hp _).toM) hw.2 (rep_tupS.mpr #[p,_,rfl,aC,(rr.cut _ _).mono (aR (g3.fh.free hp) _)]) (m3.grow (Grow.new g3.fh hp _))
 .exact hw.elim⟩
end
def subM(N M:MS):Prop:=(∀e,e∈N->e∈M)/\(av N).Nodup
variable{N M:MS}
def subM.keys(s:subM N M){a:Pi}(h:a∈av N):a∈av M:=by
 let#[#[b,o],h1,rfl]:=HW.mp h;exact bV (s.1 _ h1)
variable{H:Hp}
def RepM.sub{K:Ex}{F:Hp}(r:RepM K F H M)(s:subM N M):RepM K F H N:=#[s.2,λa o h=>r.ok a o (s.1 _ h),λa h=>r.fr a (s.keys h)]
def GrowM.sub{F F' H':Hp}{M':MS}(g:GrowM M M' F H F' H')(s:subM N M'):GrowM M N F H F' H':=#[g.ff,g.fh,g.hh,g.out,λb h=>g.ks b (s.keys h)]
def gL(S:SpM):SpM:=λds M R RX=>∃(R0:D->MS->Prop) (x8:XDM),S ds M R0 x8/\R=(λd M'=>∃N,subM N M'/\R0 d N)/\RX=λx fs M'=>∃N,subM N M'/\x8 x fs N
def vP{K:Ex}{S:SpM}{vs:List V}{Q:VK}{E:XK}(h:lSpM K S vs H Q E):lSpM K (gL S) vs H Q E:=by
 let#[F,ds,M,fh,rs,rm,R,RX,hS,q,qx]:=h;refine#[F,ds,M,fh,rs,rm,_,_,#[R,RX,hS,rfl,rfl],λd v M' F' H' g hd rd m'=>?_,λx fs C od M' F' H' g hR er m'=>?_]
 .obtain⟨N,s,hd⟩:=hd;exact q d v N F' H' (g.sub s) hd rd (m'.sub s)
 .obtain⟨N,s,hR⟩:=hR;exact qx x fs C od N F' H' (g.sub s) hR er (m'.sub s)
section
variable {P:U5}{w:U'}{K:Ex}{mg:Lq->Option Os}{base:Heap}{n:Nat}{x m:Lq}{ps:List Lq}{S:SpM}
def CalMth.drop(C:CalMth P w K mg base n x m ps (lSpM K (gL S))):CalMth P w K mg base n x m ps (lSpM K S):=C.imp λ_ _ _ _ h=>vP h
def CalMth.lendD{S:SpD}(C:CalMth P w K mg base n x m ps (lSp K S)):CalMth P w K mg base n x m ps (lSpM K (My.lend λds R _=>S ds R)):=C.imp λ_ _ _ _ h=>by
 let#[F,ds,fh,rs,R,RX,hS,q,_]:=BD h;exact#[F,ds,fh,rs,R,hS,q]
def Txm.okDW{qual:Lq}{st:U6}{N:List Lq}{k:Nat}{S:SpD}(T:Txm K x m qual st ps)(F:FnScope N ps (ag st))(len:∀ds R,S ds R->ds.length=ps.length)
  (a9:∀(f:Pi) (cdv:Os) (A:U_) (outer:List VP) (s:SB) (H:Hp) (E:XK) (J:Jx),Room k (A.deeper (Vg qual (ag st) s.heap.objs.size f cdv))->
   ∃t,WDSs (cxOf (CX1 P w) P w K mg base N qual (ag st) f cdv A outer s H E).nox (aJ st) t/\∀ds R,S ds R->t {nx:=λ_=>R .non,rt:=R} (startD N ds)):CalMth P w K mg base (k+1) x m ps (lSp K S):=by
 let#[C,f,fd,h1,h2,h3,T,hb]:=T;exact#[C,f,fd,h1,h2,h3,L2.Fun.okDW T F len (a9 f),hb]
end
def iI(P:U5)(w:U')(K:Ex)(mg:Lq->Option Os)(base:Heap)(n:Nat)(x m:Lq)(ps:List Lq)(dd:List D)(sp:Sp):Prop:=
 ∃C f fd g8 t8,nsIn K SL x=be (be (.ref C))/\Cls K C/\Meth K C m f/\FnOk P w K mg base (CX1 P w) n f fd ps sp/\Binds K fd ps t8/\Vals g8 t8/\∀F,Reps K F dd g8
section
variable {X:Cx}{k:Nat}{f:Pi}{fd:Vd}{ps:List Lq}{sp:Sp}{E:XK}
def Eb{pins:List (Pi×Vk)}{σ:L2.St}{H:Hp}{s:SB}{Q:VK}{us t8:List Os}{vs g8:List V}(F:FnOk X.prog X.w X.K X.mg X.base (CX1 X.prog X.w) k f fd ps sp)(hr:Room k X.A)(hb:Binds X.K fd ps t8)(hd:Vals g8 t8)
  (hx:∀e s',CX1 X.prog X.w X.stack H s E e s'->X.xe e s') (I:Inv X pins σ H s) (r:Vals vs us) (h:sp (vs++g8) H Q E):U8 (U4 X.prog X.w) X.A (call (.ref f) us) (EP X pins σ Q) X.xe s:=by
 have r2:=r.append hd;have hl:(us++t8).length=ps.length:=by rw[<-L2.Vals.length r2];exact F.len _ _ _ _ h
 have g6:=hb s us I.kIn hl;refine Vs (Vx (F.run X.A X.stack s H #[us,[]] (us++t8) (vs++g8) Q E hr I.env0 g6 r2 h) λr s' hq=>?_);cases r with
 |error e=>exact hx e s' hq
 |ok fl=>
  cases fl with
  |ret u=>exact I.after hq
  |next=>exact False.elim hq
  |brk=>exact False.elim hq
  |cont=>exact False.elim hq
end
section
variable {X:Cx}[J:Jm]{a b c e o:U7}{ta tb te:TME}{pos p b7 a8:Vf}{n m:Nat}{ps:List Lq}{S:SpM}{x:Lq}{es:List U7}{t:TMA}
def Ec(x m:Lq)(dd:List D)(S:SpM)(to:TME):TME:=λz M R=>to z M λd M1=>∃fs,dD M1 d x fs/\fs.lookup m=w6/\S (d::dd) M1 R λx fs M'=>J.RM z M' x fs
def Ed{nm:Lq}{dd:List D}{pl:WB Bool}(C:iI X.prog X.w X.K X.mg X.base n x nm ps dd (lSpM X.K S))(hx:XOkM X)(hr:Room m X.A)(ho:ME X o te)(f9:(X.ex=[])\zA0)(hn:(n<=m)\zA1)
  (ht:Vc (.Call (.Attribute o nm b7) [] [] pos) X.env=(do
   let ov <-Vc o X.env
   VO b7.atName
   let (f,first) <-Vv [ov] (V5 ov nm pl)
   WH pos f first (VC pos (U9 [] X.env)) (V_ pos (VT [] X.env))):=by rfl):
  ME X (.Call (.Attribute o nm b7) [] [] pos) (Ec x nm dd S te):=by
 refine#[λpins s σ H Q I h=>?_];let#[Fr,z,M,k,rs,R,h1,h2]:=h;refine methodCall_KW (pl:=pl) (thn (ho.out pins s σ H (λv H1=>∃d M1 F1,GrowM M M1 Fr H F1 H1/\Rep X.K F1 d v/\RepM X.K F1 H1 M1/\∃fs,dD M1 d x fs/\fs.lookup nm=w6/\S (d::dd) M1 R λx fs M'=>J.RM z M' x fs) I #[Fr,z,M,k,rs,_,h1,λd v M1 F1 H1 g1 hd rd m1=>#[d,M1,F1,g1,rd,m1,hd]]) λu s1 hh=>?_) ht;let#[v,H1,I1,rv,d,M1,F1,g1,rd,m1,fs,hi,hl,hq]:=hh;let#[C',f,fd,g8,t8,hns,k8,LW,F,hb,hd,TX]:=C;let#[a,C2,dx,ws,rfl,p6,hH,rf]:=iy g1.fh m1 rd hi;rw[hns]at p6;cases p6;obtain rfl:u=Value.ref a:=rv;refine jQ I1 hH k8 LW (rf.none hl) ?_;refine callWith_K0 (first:=[.ref a]) I1.kIn LW.kp (Eb (E:=EX X z σ) (us:=[.ref a]) (vs:=[.ref a]) F (hr.mono hn) hb hd (λe s' hq=>hx.out f9 I1 hq) I1 (.cons rfl .nil) ?_);exact iz k rs g1 m1 (reps_cons.mpr #[_,_,rfl,rd,TX F1]) hq h2
def Ee(ta tb:TME):TME:=λz M R=>ta z M λx M1=>tb z M1 λy M2=>kdP x λa=>kdP y λb=>∃ds es,mget M2 a=be (.lst ds)/\mget M2 b=be (.lst es)/\ds.length+es.length<=100000/\∀p,p∉av M2->R (.ptr p) ((p,.lst (ds++es))::M2)
def Ef(ha:ME X a ta)(hb:ME X b tb):ME X (.BinOp a .Add b pos) (Ee ta tb):=⟨(jK qV ha.out hb.out).anti λs H Q h=>by
 let#[F,z,M,k,rs,R,h1,h2]:=h;refine#[F,z,M,k,rs,_,h1,λx u M1 F1 H1 g1 hx rx m1=>?_];refine#[F1,z,M1,k.growM rs.mb g1,rs.growM k.bh g1 m1,_,hx,λy v M2 F2 H2 g2 hy ry m2=>?_];let#[p,rfl,PX]:=kdP.of hy;let#[q,rfl,ds,es,hm,Nt,hl,hR]:=kdP.of PX
 focus
  let#[us,hH,ru]:=m2.ok _ _ (bD hm);let#[vs,TY,rv]:=m2.ok _ _ (bD Nt);refine#[p,q,us,vs,rep_ptr.mp rx,rep_ptr.mp ry,hH,TY,by rw[ru.length,rv.length];exact HG hl Mh,λr hr=>?_];exact h2 _ _ _ F2 _ ((g1.trans g2).trans (GrowM.new g2.fh hr)) (hR r λz=>m2.here z hr) (rep_ptr.mpr rfl) (m2.new g2.fh hr #[_,aC,ru.append rv])⟩
def mSlP(ta:TME)(tl th:TMO):TME:=λz M R=>ta z M λx M1=>tl z M1 λlo M2=>th z M2 λhi M3=>match x with|.ptr a=>∃ds,mget M3 a=be (.lst ds)/\∀p,p∉av M3->R (.ptr p) ((p,.lst (cutD ds lo hi))::M3)|_=>False
def Eg{lo hi:Option U7}{tl th:TMO}{p2:Vf}(ha:ME X a ta)(hl:MPO X lo tl)(hu:MPO X hi th):ME X (.Subscript a (.Slice lo hi w6 p2) pos) (mSlP ta tl th):=⟨(gY gZ ha.out hl.out hu.out).anti λs H Q q=>by
 let#[F,z,M,k,rs,R,h1,h2]:=q;refine#[F,z,M,k,rs,_,h1,λx u M1 F1 H1 g1 hx rx m1=>?_];have k1:=k.growM rs.mb g1;have r1:=rs.growM k.bh g1 m1;refine#[F1,z,M1,k1,r1,_,hx,λlo M2 F2 H2 g2 hy m2=>?_];refine#[F2,z,M2,k1.growM r1.mb g2,r1.growM k1.bh g2 m2,_,hy,λhi M3 F3 H3 g3 hw m3=>?_];have g:=g1.trans (g2.trans g3);split at hw
 .rename_i l;let#[ds,hm,hR]:=hw;let#[us,hH,ru]:=m3.ok _ _ (bD hm);refine#[l,us,rep_ptr.mp rx,SqL.of hH,λr hr=>?_];exact h2 _ _ _ F3 _ (g.trans (GrowM.new g3.fh hr)) (hR r λz=>m3.here z hr) (rep_ptr.mpr rfl) (m3.new g3.fh hr #[_,aC,ru.cut _ _])
 .exact hw.elim⟩
end
section
variable {K:Ex}{x m q:Lq}{st:U6}{ps:List Lq}
def MdIn(K:Ex)(x m q:Lq)(st:U6)(i:Int):Prop:=∃C f fd T,NsC K x C/\Meth K C m f/\FunG K (.ref T) m q st f fd/\∃tc td n ts t,K.lookup T=be #[tc,td,.seq [.int i t].toArray n,ts]
def mdIn_mk{C f T:Pi}{i:Int}{oc tc:Os}{od an td:Option Pi}{sl ts:Array (Option Os)}{n:Nat}{t:WZ}{kV dc pm cd ct:Os}(a:nsIn K SL x=be (be (.ref C)))(b:HB K (.ref C) m=be (be (.ref f)))(j:isFn K (.ref f)=true)(l:K.lookup f=be #[oc,od,.func (fnOf m q (bB st) (aJ st) (ag st) (.ref T) kV dc pm an cd ct),sl])(c:codeIn K cd q=true)(k:keepIn K (.ref f)=true)
  (d:K.lookup T=be #[tc,td,.seq [.int i t].toArray n,ts]):MdIn K x m q st i:=#[C,f,_,T,a,#[b,j,k],#[#[_,_,_,_,_,_,_,_,_,rfl,l,c],k],_,_,_,_,_,d]
def Eh(m q:Lq)(st:U6)(x0 x1:Lq):Prop:=∀(s:SB) (T:Pi) (o:Vk) (its:Array Os) (n:Nat) (v:Os) (kV doc pm:Os) (an:Option Pi) (cdv ct u0 u1:Os),s.heap.get? T=be o->o.data=.seq [v].toArray n->
 VY s (fnOf m q (bB st) (aJ st) (ag st) (.ref T) kV doc pm an cdv ct) #[[u0,u1],[]] [(x0,u0),(x1,u1)]/\VY s (fnOf m q (bB st) (aJ st) (ag st) (.ref T) kV doc pm an cdv ct) #[[u0],[]] [(x0,u0),(x1,v)]
def Txd(K:Ex)(x m qual:Lq)(st:U6)(ps:List Lq)(dd:List D):Prop:=
 ∃C f fd dV g8 t8,nsIn K SL x=be (be (.ref C))/\Cls K C/\Meth K C m f/\FunG K dV m qual st f fd/\Binds K fd ps []/\Binds K fd ps t8/\Vals g8 t8/\∀F,Reps K F dd g8
def MdIn.txd{i:Int}{x0 x1:Lq}(T:MdIn K x m q st i)(c:ClIn K x)(b:Eh m q st x0 x1):Txd K x m q st [x0,x1] [.int i]:=by
 let#[C,k]:=c;let#[D,f,fd,T,a,mt,F,tc,td,n,ts,t,hT]:=T;cases NsC.uniq k.ns a;have F':=F;let#[oc,od,kV,doc,pm,an,cdv,ct,osl,rfl,lk,h_]:=F'.ex;refine#[C,f,_,_,[.int i],[.int i t],a,k.cl,mt,F,λs us hK hl=>?_,λs us hK hl=>?_,.cons #[t,rfl] .nil,λF=>reps_cons.mpr #[_,_,rfl,rep_int.mpr rfl,reps_nil.mpr rfl]]
 .rw[H9]at hl ⊢;let#[u0,t0,rfl,h0]:=bp hl;let#[u1,t1,rfl,h1]:=bp h0;cases len_0 h1;exact(b s T _ [].toArray n (.int i t) kV doc pm an cdv ct u0 u1 (hK _ _ hT) rfl).1
 .rw[HF]at hl;have Pk:us.length=[x0].length:=Nat.succ.inj hl;let#[u0,t0,rfl,h0]:=bp Pk;cases len_0 h0;exact(b s T _ [].toArray n (.int i t) kV doc pm an cdv ct u0 u0 (hK _ _ hT) rfl).2
end
section
variable {P:U5}{w:U'}{K:Ex}{mg:Lq->Option Os}{base:Heap}
variable{N ps:List Lq}{dd:List My.D}
def Txd.okM{x m qual:Lq}{st:U6}{k:Nat}{S:SpM}(T:Txd K x m qual st ps dd)(F:FnScope N ps (ag st))(len:∀ds M R RX,S ds M R RX->ds.length=ps.length)
  (a9:∀(f:Pi) (cdv:Os) (A:U_) (outer:List VP) (s:SB) (H:Hp) (E:XK) (J:Jm),Room k (A.deeper (Vg qual (ag st) s.heap.objs.size f cdv))->XOkM (cxOf (CX1 P w) P w K mg base N qual (ag st) f cdv A outer s H E)->
   ∃t,MSs (cxOf (CX1 P w) P w K mg base N qual (ag st) f cdv A outer s H E) (aJ st) t/\∀ds M R RX,(∀z,J.RM z=λM' x fs=>RX x fs M')->S ds M R RX->t {nx:=λ_ M'=>R .non M',rt:=R} (startD N ds) M):CalMth P w K mg base (k+1) x m ps (lSpM K S)/\iI P w K mg base (k+1) x m ps dd (lSpM K S):=by
 let#[C,f,fd,dV,g8,t8,h1,h2,h3,T,hb,g6,hv,hd]:=T;have ok:=Fun.okM (P:=P) (w:=w) (mg:=mg) (base:=base) T F len λcdv A outer s H E J hr hx=>a9 f cdv A outer s H E J hr hx;exact#[#[C,f,fd,h1,h2,h3,ok,hb],C,f,fd,g8,t8,h1,h2,h3,ok,g6,hv,hd]
def Txd.okMd{x m qual:Lq}{st:U6}{k:Nat}{S:SpM}(T:Txd K x m qual st ps dd)(F:FnScope N ps (ag st))(len:∀ds M R RX,gL S ds M R RX->ds.length=ps.length)
  (a9:∀(f:Pi) (cdv:Os) (A:U_) (outer:List VP) (s:SB) (H:Hp) (E:XK) (J:Jm),Room k (A.deeper (Vg qual (ag st) s.heap.objs.size f cdv))->XOkM (cxOf (CX1 P w) P w K mg base N qual (ag st) f cdv A outer s H E)->
   ∃t,MSs (cxOf (CX1 P w) P w K mg base N qual (ag st) f cdv A outer s H E) (aJ st) t/\∀ds M R RX,(∀z,J.RM z=λM' x fs=>RX x fs M')->gL S ds M R RX->t {nx:=λ_ M'=>R .non M',rt:=R} (startD N ds) M):CalMth P w K mg base (k+1) x m ps (lSpM K S)/\iI P w K mg base (k+1) x m ps dd (lSpM K S):=by
 let#[a,C,f,fd,g8,t8,h1,h2,h3,ok,hb,hv,hd]:=Txd.okM (S:=gL S) T F len a9;exact#[a.drop,C,f,fd,g8,t8,h1,h2,h3,ok.imp λ_ _ _ _ h=>vP h,hb,hv,hd]
def nilD(S:SpD):SpM:=λds M R _=>M=[]/\∃R0:D->Prop,S ds R0/\R=λd _=>R0 d
def Ei{n:Nat}{f:Pi}{fd:Vd}{S:SpD}(F:FnOk P w K mg base (CX1 P w) n f fd ps (lSpM K (nilD S))):FnOk P w K mg base (CX1 P w) n f fd ps (lSp K S):=F.imp λvs H Q E q=>by
 let#[F,ds,fh,rs,R,hS,q1]:=q;exact#[F,ds,[],fh,rs,RepM.nil,_,λ_ _ _=>False,#[rfl,R,hS,rfl],λd v M' F' H' g hd rd _=>q1 d v F' H' (growM_nil g) hd rd,λ_ _ _ _ _ _ _ _ z=>z.elim]
end
section
variable {X:Cx}[J:Jm]{a:U7}{ta:TME}{tA:TMT}{pos:Vf}
def dN(ha:ME X a ta)(he:(∀g5,isTrue a X.env g5=(do let v <-g5;VO a.pos;Vv [v] (truthy v)))\zA3):MT X a (mTru ta):=⟨(qA ha.out he).anti λs H Q q=>by
 let#[F,z,M,k,rs,R,h1,h2]:=q;refine#[F,z,M,k,rs,_,h1,λx u M1 F1 H1 g1 hx rx m1=>?_];split at hx
 .rw[rep_bl.mp rx];exact#[_,rfl,h2 _ M1 F1 H1 g1 hx m1]
 .exact hx.elim⟩
def mNot(tA:TMT):TMT:=λz M R=>tA z M λk M1=>R (!k) M1
def eN(ha:MT X a tA):MT X (.UnaryOp .Not a pos) (mNot tA):=⟨(qg ha.out).anti λs H Q q=>by
 let#[F,z,M,k,rs,R,h1,h2]:=q;exact#[F,z,M,k,rs,_,h1,λk M1 F1 H1 g1 hx m1=>h2 _ M1 F1 H1 g1 hx m1]⟩
end
abbrev Bx.QD(V:Bx)(n:Nat)(x m:Lq)(ps:List Lq)(S:SpD):Prop:=CalMth V.P V.w V.K V.mg V.base n x m ps (lSp V.K S)
abbrev Bx.Qd(V:Bx)(n:Nat)(x m:Lq)(ps:List Lq)(dd:List My.D)(S:SpM):Prop:=iI V.P V.w V.K V.mg V.base n x m ps dd (lSpM V.K S)
abbrev Bx.Td(V:Bx)(x m q:Lq)(st:U6)(ps:List Lq)(dd:List My.D):Prop:=Txd V.K x m q st ps dd
section
variable {X:Cx}[J:Jm]{a b c e o:U7}{ta tb te:TME}{pos:Vf}
def Ej{p p2:Vf}{y:Lq}{t:String}(hm:X.mg "isinstance"=w6)(Nz:X.mg y=w6)(ha:ME X a ta)(hv:Vl y=be (.type t))
  (hk:∀x:D,cQ x=true->kitOne X.K (.type (tyD x)) (.type t)=be (cP t x)) (hg:Gl X "isinstance"\zA0) (Ml:Gl X y\zA0) (hn:(y≠"__name__")\zA1) (d6:zND y\zA1)
  (j7:(U9 [a,.Name y p2] X.env=(false,Vc a X.env)::U9 [.Name y p2] X.env)\zA0) (j_:(U9 [.Name y p2] X.env=(false,Vc (.Name y p2) X.env)::U9 [] X.env)\zA0) (c_:((VC pos (U9 [.Name y p2] X.env)).any (·.1)=false)\zA0):ME X (.Call (.Name "isinstance" p) [a,.Name y p2] [] pos) (mUn (ku t) ta):=⟨(eX rO hg hm PyProof.Rows.boot_isinstance (bt ha.out (bt (jB (v:=.ty t) Ml Nz hv rfl hn d6) pa_nil j_) j7) Mh Mh j7 c_).anti λs H Q q=>by
 let#[F,z,M,k,rs,R,h1,h2]:=q;refine#[F,z,M,k,rs,_,h1,λx u M1 F1 H1 g1 hx rx m1=>?_];have no:cQ x=true/\R (.bl (cP t x)) M1:=by
  cases x with
  |obj C b=>exact False.elim hx
  |exc C b=>exact False.elim hx
  |ptr b=>exact False.elim hx
  |dti b=>exact False.elim hx
  |_=>exact#[rfl,hx]
 exact#[u,tyD x,t,_,rfl,rP g1.fh rx no.1,hk x no.1,h2 _ _ M1 F1 H1 g1 no.2 (rep_bl.mpr rfl) m1]⟩
def mItL(t:TME):TMI:=λz M R=>t z M λx M1=>match x with|.lst ds=>R ds M1|_=>False
def El(i:Nat){x:Lq}{p:Vf}{body:List U6}{tb:TMS}(hp:Vp (U4 X.prog X.w) X.A X.env X.xe)(hc:X.calm=true)(hN:X.N.Nodup)(he:ME X e te)(hb:MSs X body tb)(hi:(X.N[i]?=be x)\zA0)(hx:Loc X.env.scope x\zA4)
  (hf:zFN X x\zA2) (hs:(∀y,zFS X e y)\zA3):MSt X (.For (.Name x p) e body [] pos) (mFor i (mItL te) tb):=⟨(cM hp hc (jG he.out) (dR hN hi hx hf) hb.out hs).anti λE s H q=>by
 let#[F0,F,z,M,kp,rs,ED,h,e]:=q;refine#[F,z,M,kp.kf,rs,_,h,λd v M1 F1 H1 g1 hd rd m1=>?_];split at hd
 .obtain⟨p,vs,rfl,hq,rr⟩:=rep_lst.mp rd;let#[W,w0,d5,out]:=hd;refine#[p,rfl,#[vs,g1.fh.seq (SqL.of hq)],jI (K:=X.K) (a:=p) (xs:=vs) (λk s' H'=>∃F' z' M',Kept J.B F0 F' H'/\Same F1 F'/\RepZ X.K J.B F' H' z' s' M'/\W k z' M') #[F1,z,M1,kp.growM rs.mb g1,Same.refl F1,rs.growM kp.bh g1 m1,w0] (λk s' H' _ hh=>?_) ?_ ?_]
  .obtain⟨F',z',M',k',g',r',w'⟩:=hh;exact k'.fh.seq (g'.seq (SqL.of hq))
  .rintro k y s' H' hk⟨F',z',M',k',g',r',w'⟩;let#[d,hd,ry]:=rr.get' hk;refine#[F',F',_,M',#[k'.bh,k'.fh,Same.refl F',λb h1 _=>h1,k'.eb,k'.jf.trans k'.f0,λb h1 h2=>k'.out b (k'.jo b h1 h2) h2],r'.set (ry.mono g'),_,d5 k d z' M' hd w',?_];have up:∀{F2 H2:Hp},Kept J.B F' F2 H2->Kept J.B F0 F2 H2:=λk2=>#[k2.bh,k2.fh,k'.f0.trans k2.f0,λb h1 h2=>k2.out b (k'.out b h1 h2) h2,k'.eb,k'.jf,k'.jo];exact#[λz3 s3 M3 F3 H3 k3 h3 r3=>#[F3,z3,M3,up k3,g'.trans k3.f0,r3,h3],λd v M3 F3 H3 k3=>e.rt d v M3 F3 H3 (up k3),λz3 s3 M3 F3 H3 k3=>e.nx z3 s3 M3 F3 H3 (up k3),λz3 s3 M3 F3 H3 k3 h3 r3=>#[F3,z3,M3,up k3,g'.trans k3.f0,r3,h3]]
  .rintro s' H'⟨F',z',M',k',g',r',w'⟩;exact e.nx z' s' M' F' H' k' (out z' M' (by rw[<-rr.length];exact w')) r'
 .exact hd.elim⟩
end
end My
namespace My
section
variable {X:Cx}
def rNeT(K:Ex):R2:=λx y H Q=>∃a b xs ys,x=.ref a/\y=.ref b/\SqT K H a xs/\SqT K H b ys/\xs.all bx=true/\ys.all bx=true/\Q (.bl (!eqVs xs ys)) H
def Em(hu:X.A.units+1<Wd):OpR X (Vo .NotEq) (rNeT X.K):=by
 intro pins s σ H x y v u Q I rx ry h;let#[a,b,xs,ys,rfl,rfl,ha,hb,fx,fy,q]:=h;cases rx;cases ry;let#[its,r1,p1,_]:=I.tuple ha;let#[Lu,r2,p2,_]:=I.tuple hb;refine SeqAt.RcNeAt.tuples (e:=λj=>eqV (xs.getD j .non) (ys.getD j .non)) p1 p2 Md (λj h1 h2=>?_) _ _ _ _ #[.bl (!eqVs xs ys),H,I,?_,q]
 .rw[HK]at h1 h2;simp only[List.getElem_toArray];exact eqAt_V (Vals.getD r1 h1) (Vals.getD r2 h2) (flat_getD fx) (flat_getD fy)
 .rw[<-rQ,HK,HK,<-L2.Vals.length r1,<-L2.Vals.length r2];rfl
def vQ:RD2:=λx y R=>kdT x λxs=>kdT y λys=>(xs.all bj=true/\ys.all bj=true)/\R (.bl (!eqFs xs ys))
def En{K:Ex}:bc K (rNeT K) vQ:=by
 intro x y u v F H R Q fh h rx ry q;let#[xs,rfl,h2]:=kdT.of h;let#[ys,rfl,#[f1,f2],h3]:=kdT.of h2;let#[a,us,rfl,hq,rr]:=rep_tup_mp rx;let#[b,vs,rfl,o6,Lx]:=rep_tup_mp ry;exact#[a,b,us,vs,rfl,rfl,fh.tup hq,fh.tup o6,dz rr f1,dz Lx f2,q _ _ F H (Grow.refl fh) h3 (rep_bl.mpr (by rw[rR rr Lx f1 f2]))]
variable {a b c e:U7}{ta tb:TD}{pos:Vf}
end
section
variable {X:Cx}[J:Jm]{a b c e:U7}{ta tb te:TME}{pos p2:Vf}
def Eo(hu:X.A.units+1<Wd)(ha:ME X a ta)(hb:ME X b tb):MT X (.Compare a [.NotEq] [b] pos) (mTst (mOp vQ ta tb)):=eo (Em hu) En ha hb (nomark _)
end
section
variable {X:Cx}{a b o e:U7}{ta to te:TD}{pos p2:Vf}
def Ep{x:V}{xs:List V}{us:List Os}(h:Vals xs us)(f:xs.all bx=true):us.countP (eqU x)=xs.countP λy=>eqV y x:=by
 induction h with
 |nil=>rfl
 |cons r _ ih=>
  rw[Il,HV]at f;rw[JL,JL,hU r f.1,ih f.2]
def rLCt(K:Ex):V->List V->Hp->VK->Prop:=λx vs H Q=>∃l xs y,x=.ref l/\vs=[y]/\SqL K H l xs/\bx y=true/\xs.all bx=true/\Q (.int (xs.countP (λw=>eqV w y):Nat)) H
def Er:MtR X "list.count" (rLCt X.K):=by
 intro pins s σ H x vs v us Q I rx rv h;let#[l,xs,y,rfl,rfl,hq,fy,fs,q]:=h;cases rx;let#[u,rfl,ry]:=Vals.one rv;let#[its,r,pl,hz]:=I.list hq;let#[#[cls,dd,data,sl],ho,hc,n,hd]:=pl.isList;simp only at hc hd;subst hc hd;refine WS PySem.F.slot_list_count #[_,ho,rfl] PySem.F.entry_list_count (PySem.F.args_list_count_2 _ _)
  (SeqAt.list_countAt l its.toArray n dd sl u (eqU y)) #[ho,λw hw=>mem_eqAt ry fy r fs w (by simpa using hw),#[.int _,H,I.tok _,#[_,rfl],?_]]
 rw[show its.toArray.toList=its from rfl,Ep r fs];exact q
def dLCt(to te:TD):TD:=λz R=>to z λx=>match x with|.lst ys=>te z λy=>(bj y=true/\ys.all bj=true)/\R (.int (ys.countP (λw=>eqF w y):Nat))|_=>False
def Es{K:Ex}{H:Hp}{x:D}{u:V}(rx:Rep K H x u)(fx:bj x=true){ys:List D}:∀{vs:List V},Reps K H ys vs->ys.all bj=true->vs.countP (λw=>eqV w u)=ys.countP λy=>eqF y x:=by
 induction ys with
 |nil=>intro vs r _;rw[reps_nil.mp r];rfl
 |cons y ys ih=>
  intro vs r f;let#[v,vr,rfl,r1,r2]:=reps_cons.mp r;rw[Il,HV]at f;rw[JL,JL,ih r2 f.2,ic r1 rx f.1 fx]
def Et[Jx]{b7 a8:Vf}(ho:WDE X o to)(he:WDE X e te)(b_:(Vb o "count" X.env (Vc o X.env)=Vc o X.env)\zA0)
  (d_:zHF X a8 [e]\zA0)
  (c9:((b7.endLine==a8.line)=true)\zA0) (hs:zSE X e []\zA0):WDE X (.Call (.Attribute o "count" b7) [e] [] a8) (dLCt to te):=⟨(du PySem.F.plainAttrs_list PySem.F.slot_list_count PySem.F.type_list_count Er ho.out (bt he.out pa_nil hs) b_ d_ c9 hs).anti λs H Q q=>by
 let#[B,F,z,kf,rs,R,h1,h2]:=q;refine#[B,F,z,kf,rs,_,h1,λx u F1 H1 g1 hx rx=>?_];split at hx
 .obtain⟨l,vs,rfl,hq,rr⟩:=rep_lst.mp rx;refine#[.inl #[rfl,vs,g1.fh.seq (SqL.of hq)],B,F1,z,kf.grow g1,rs.grow g1,_,hx,λd v F2 H2 g2 hd rd=>?_];let#[#[f1,f2],hR]:=hd;have MQ:=rr.mono g2.ff;refine#[l,vs,v,rfl,rfl,g2.fh.seq (g2.ff.seq (SqL.of hq)),fk rd f1,dz MQ f2,?_];rw[Es rd f1 MQ f2];exact h2 _ _ F2 H2 (g1.trans g2) hR (rep_int.mpr rfl)
 .exact hx.elim⟩
end
end My
namespace Exc
open PySem PySem.Spec PyProof.Rows PySem.W L2
section
variable {prog:U5}{w:U'}{A:U_}{E:Os->SB->Prop}{s:SB}{K:Ex}{x C:Pi}{ox:Vk}{cd:VX}
def exc_class{Q:Option Os->SB->Prop}{E_:Option Vk}(X:K.In s.heap)(I:InstAt s.heap x ox C E_)(hc:clsIn K C=be cd)(hm:excMro cd.mro=true)
  (Pf:findIn K (.ref C) "__getattribute__"=be (be (.builtin "BaseException.__getattribute__"))) (Pg:findIn K (.ref C) "__getattr__"=be w6)
  (hf:findObj K C E_ "__class__"=be (.bind (.builtin "getset_descriptor.__get__") (.builtin "object.__class__"))) (h:Q (be (.ref C)) {s with toks:=s.toks+1}):U8 (U4 prog w) A (getAttr? (.ref x) "__class__") Q E s:=by
 have FB:=PySem.F.attr_ValueError;have X0:=X;have I0:=I;let#[hp,g,d,t,os]:=s;have L0:=I.type (M:=U4 prog w);have L1:=looks_findIn (M:=U4 prog w) X Pf;have L2:=looks_findIn (M:=U4 prog w) X Pg;have L3:=looks_find (M:=U4 prog w) X I hf;have f3:=FB.ga.bind (.ref x);have ne:cd.mro.isEmpty=false:=Ow
 have mro:∀{T:String},[Value.type "ValueError",.type "Exception",.type "BaseException",.type "object"].contains (.type T)=true->mroIn K C (.type T)=be true:=λhT=>by unfold mroIn;rw[hc,Iq,if_neg (by rw[ne];decide),exc_has hT hm]
 have sub:Looks (U4 prog w) hp (V7 (.ref x) (.type "BaseException")) true:=I.type.andThen (looks_mroIn X (mro KK));unfold getAttr? getAttrBy? getAttrBy;refine P3 (wpAny_mkText (P3 (Wp (Vh (P3 (L0.at (P3 (L1.at ?_))))))));dsimp only;have LV:(V4 (Value.ref C)&&Value.builtin "BaseException.__getattribute__"==Value.builtin "object.__getattribute__")=false:=by
  have p9:(Value.builtin "BaseException.__getattribute__"==Value.builtin "object.__getattribute__")=false:=KK
  rw[p9];rfl
 rw[LV,if_neg HH];unfold getAttrByItsOwn hookBefore;rw[show V4 (Value.ref C)=true from rfl,if_pos rfl];refine P3 (L2.at ?_);unfold callGetattribute;rw[show(false&&V4 (Value.builtin "BaseException.__getattribute__"))=false from rfl,if_neg HH];unfold boundAndCalled;refine P3 (Wp (Vh (P3 (VS f3 ?_))));refine Vs (VH FB.ga.plain PySem.F.entry_bexc_ga (@check_slot (U4 prog w) _ _ _ "BaseException.__getattribute__" "BaseException" "__getattribute__" (.ref x) [.str "__class__" t] [] _ KK KK sub (PySem.F.args_bexc_ga _ _) ?_));unfold Builtin.«object.__getattribute__»;refine P3 (VS (a:=(Value.ref x,[Value.str "__class__" t])) rfl ?_);refine P3 (VS (a:=("__class__":Lq)) rfl ?_);refine P3 (L0.at (P3 (L3.at ?_)));show U8 _ _ (Vv [Value.builtin "object.__class__"] (call (.builtin "getset_descriptor.__get__") [.builtin "object.__class__",.ref x,.ref C])>>=PySem.ret) _ _ _;refine P3 (Vh (Vs (class_get (s:=#[hp,g,d,t+1,os]) X I (mro KK) ?_)));refine SZ ?_;exact handed_on rfl (SZ h)
end
end Exc
namespace My
section
open Exc PySem.W
structure IsE(K:Ex)(C:Pi)(cd:VX):Prop where
 cl:clsIn K C=be cd
 mro:excMro cd.mro=true
 ga:findIn K (.ref C) "__getattribute__"=be (be (.builtin "BaseException.__getattribute__"))
 gb:findIn K (.ref C) "__getattr__"=be w6
 ha:findIn K (.ref C) "__class__"=be (be (.builtin "object.__class__"))
 hn:specialIn K (.builtin "object.__class__") "__get__"=be (be (.builtin "getset_descriptor.__get__"))
 ht:takesIn K (.builtin "object.__class__")=be true
def IsE.kit{K:Ex}{C x:Pi}{cd:VX}{ox:Vk}{E_:Option Vk}(k:IsE K C cd):KitX K (.ref x) (.ref C) (λh=>InstAt h x ox C E_):=by
 have at_:∃c' d' n9,K.lookup C=be #[c',d',.cls cd,n9]:=by
  have hc:=k.cl;unfold clsIn at hc;split at hc
  .rename_i c' d' TZ n9 ho;cases hc;exact#[c',d',n9,ho]
  .cases hc
 let#[c',d',n9,ho]:=at_;refine#[λ_ _ _ I=>I.type,λ_ _ X _=>?_,λh tp dd its n sl X T1=>?_,λX I h=>?_]
 .intro A' Q' E' s' k q;unfold isType loadHead;exact P3 (Wi (k _ _ (X _ _ ho)) (SZ q))
 .refine H8.mpr λq=>?_;have e:C=tp:=Value.ref.inj (beq_iff_eq.mp q);subst e;have z:=(X _ _ ho).symm.trans T1;cases z
 .refine exc_class X I k.cl k.mro k.ga k.gb ?_ h;unfold findObj;rw[k.cl,Iq,k.ha,Iq];simp[k.hn,k.ht]
end
section
variable {X:Cx}{C:Pi}{cd:VX}{x y:Lq}{a:U7}{ta:TD}{pos p p2:Vf}
section
open Exc PySem.W
def Eu{c:Os}{cv:V}(Qe:∀u,RelV cv u->u=c):bI X (.builtin "isinstance") (λxs H Q=>∃b C cd od k,xs=[.ref b,cv]/\H b=be (XO b C od)/\IsE X.K C cd/\(∀d,od=be d->∃ws,H d=be (.xd ws))/\kitOne X.K (.ref C) c=be k/\Q (.bl k) H):=by
 intro pins s σ H xs us Q I r h;let#[b,C,cd,od,k,rfl,e,hE,hd,hk,q]:=h;let#[u,u',rfl,rx,rc]:=vals2 r;cases(show u=Value.ref b from rx);cases Qe u' rc;let#[vs,sl,j9]:=(I.hok b _ e).1;have inst:∃E_,InstAt s.heap b #[.ref C,od,.fields vs,sl] C E_:=by
  cases od with
  |none=>exact#[w6,j9,rfl,rfl,trivial]
  |some d=>
   let#[ws,hw]:=hd d rfl;let#[mA,hns,Lj]:=(show ObjOk X.prog X.w H s.heap d (.xd ws)from I.hok d _ hw);let#[E_,ho,look]:=jO hns;exact#[be E_,j9,rfl,rfl,ho]
 let#[E_,J]:=inst;exact kia_one hE.kit I.kIn J hk (λz=>nomatch z) λtk=>#[.bl k,H,I.tok _,rfl,q]
end
def dIsE(al:List (Lq×Bool))(ta:TD):TD:=λz R=>ta z λd=>∃x fs k,d=.exc x fs/\(x,k)∈al/\R (.bl k)
def IsF(K:Ex)(al:List (Lq×Bool))(c:Os):Prop:=∀x k,(x,k)∈al->∃C cd,nsIn K SL x=be (be (.ref C))/\IsE K C cd/\kitOne K (.ref C) c=be k
variable{f:List (Lq×Bool)}
def vR[Jx]{c:Os}{cv:V}(hf:IsF X.K f c)(Qe:∀u,RelV cv u->u=c)(hb:PE X (.Name y p2) (tC cv))(hm:X.mg "isinstance"=w6)(ha:WDE X a ta)(hg:Gl X "isinstance")
  (j7:U9 [a,.Name y p2] X.env=(false,Vc a X.env)::U9 [.Name y p2] X.env) (j_:U9 [.Name y p2] X.env=(false,Vc (.Name y p2) X.env)::U9 [] X.env) (c_:(VC pos (U9 [.Name y p2] X.env)).any (·.1)=false):WDE X (.Call (.Name "isinstance" p) [a,.Name y p2] [] pos) (dIsE f ta):=⟨by
 refine(eX (Eu Qe) hg hm PyProof.Rows.boot_isinstance (bt ha.out (bt hb pa_nil j_) j7) Mh Mh j7 c_).anti λs H Q q=>?_;let#[B,F,z,kf,rs,R,h1,h2]:=q;refine#[B,F,z,kf,rs,_,h1,λd u F1 H1 g1 hx rx=>?_];let#[x,fs,k,rfl,hk,hR]:=hx;let#[b,C,od,vs,rfl,hn,PQ,rf,NM]:=rep_exc.mp rx;let#[C',cd,i_,hE,Qf]:=hf x k hk;rw[hn]at i_;cases i_;refine#[b,C,cd,od,k,rfl,g1.fh _ _ PQ,hE,λd e=>?_,Qf,h2 _ _ F1 H1 g1 hR (rep_bl.mpr rfl)];rcases NM with⟨e2,_⟩|⟨b',e2,g6⟩
 .rw[e2]at e;cases e
 .rw[e2]at e;cases e;exact#[_,g1.fh _ _ g6]⟩
def dg[Jx](h:∃D,X.mg y=be (.ref D)/\IsF X.K f (.ref D))(hm:X.mg "isinstance"=w6)(ha:WDE X a ta)(hg:Gl X "isinstance"\zA0)(Ml:Gl X y\zA0)(d6:zND y\zA1)
  (j7:(U9 [a,.Name y p2] X.env=(false,Vc a X.env)::U9 [.Name y p2] X.env)\zA0) (j_:(U9 [.Name y p2] X.env=(false,Vc (.Name y p2) X.env)::U9 [] X.env)\zA0) (c_:((VC pos (U9 [.Name y p2] X.env)).any (·.1)=false)\zA0):WDE X (.Call (.Name "isinstance" p) [a,.Name y p2] [] pos) (dIsE f ta):=
 let ⟨D,hD,hf⟩:=h
 vR (cv:=.ref D) hf (λ_ r=>r) (pZ Ml hD rfl d6) hm ha hg j7 j_ c_
def Ev[Jx](hf:IsF X.K f (.type "ValueError"))(hm:X.mg "isinstance"=w6)(Nz:X.mg "ValueError"=w6)(ha:WDE X a ta)(hg:Gl X "isinstance"\zA0)(Ml:Gl X "ValueError"\zA0)
  (j7:(U9 [a,.Name "ValueError" p2] X.env=(false,Vc a X.env)::U9 [.Name "ValueError" p2] X.env)\zA0) (j_:(U9 [.Name "ValueError" p2] X.env=(false,Vc (.Name "ValueError" p2) X.env)::U9 [] X.env)\zA0) (c_:((VC pos (U9 [.Name "ValueError" p2] X.env)).any (·.1)=false)\zA0):WDE X (.Call (.Name "isinstance" p) [a,.Name "ValueError" p2] [] pos) (dIsE f ta):=
 vR (cv:=.ty "ValueError") hf (λ_ r=>r) (jB Ml Nz rfl rfl) hm ha hg j7 j_ c_
end
section
variable {K:Ex}{mg:Lq->Option Os}{x y:Lq}{h:Heap}{C D:Pi}{b:Bool}{al:List (Lq×Bool)}{c:Os}
def dO:IsF K [] c:=λ_ _ e=>nomatch e
def br(h:∃C cd,nsIn K SL x=be (be (.ref C))/\IsE K C cd/\kitOne K (.ref C) c=be b)(r:IsF K al c):IsF K ((x,b)::al) c:=λx' k e=>by
 cases e with
 |head=>exact h
 |tail _ e=>exact r x' k e
def ExIn(K:Ex)(x:Lq):Prop:=∃C,NsC K x C/\HB K (.ref C) "__getattribute__"=be (be (.builtin "BaseException.__getattribute__"))/\HB K (.ref C) "__getattr__"=be w6/\
 HB K (.ref C) "__class__"=be (be (.builtin "object.__class__"))/\Iy K (.builtin "object.__class__") "__get__"=be (be (.builtin "getset_descriptor.__get__"))/\Jf K (.builtin "object.__class__")=be true
def exIn_mk(a:nsIn K SL x=be (be (.ref C)))(b:HB K (.ref C) "__getattribute__"=be (be (.builtin "BaseException.__getattribute__")))(c:HB K (.ref C) "__getattr__"=be w6)
  (d:HB K (.ref C) "__class__"=be (be (.builtin "object.__class__"))) (e:Iy K (.builtin "object.__class__") "__get__"=be (be (.builtin "getset_descriptor.__get__"))) (f:Jf K (.builtin "object.__class__")=be true):ExIn K x:=#[C,a,b,c,d,e,f]
def YeIn(K:Ex)(y:Lq):Prop:=∃D,NsC K y D/\hasDictIn K D=true/\Ju K (.ref D)=be (.type "type")
def yeIn_mk(a:nsIn K SL y=be (be (.ref D)))(b:hasDictIn K D=true)(c:Ju K (.ref D)=be (.type "type")):YeIn K y:=#[D,a,b,c]
def ErrK.isE{N:Pi}{bm:List Os}(k:ErrK K mg x C N bm)(e:ExIn K x):∃cd,IsE K C cd/\cd.mro=.ref C::bm:=by
 let#[C',h1,h2,h3,h4,h5,h6]:=e;cases NsC.uniq k.ns h1;let#[nm,q,bs,sn,sub,ab,col,dd,k0,k1,k2,k3,k5,lk]:=k.obj;exact#[_,#[by unfold JC;rw[lk],by show Exc.excMro (.ref C::bm)=true;unfold Exc.excMro;exact ik k.tail,h2,h3,h4,h5,h6],rfl]
def isY(e:∃C N bm,ErrK K mg x C N bm)(ex:ExIn K x)(nD:NsC K y D)(hD:hasDictIn K D=true)(ty:Ju K (.ref D)=be (.type "type"))(m:EmIn K x y)(hb:subE x y=b):∃C cd,nsIn K SL x=be (be (.ref C))/\IsE K C cd/\kitOne K (.ref C) (.ref D)=be b:=by
 let#[C,N,bm,k]:=e;let#[cd,hE,hm]:=k.isE ex;let#[C',D',h1,h2,h3]:=m;cases NsC.uniq k.ns h1;cases NsC.uniq nD h2;refine#[C,cd,k.ns,hE,?_];rw[hb]at h3;unfold kitOne;split
 .rename_i q;have e:C=D:=Value.ref.inj (beq_iff_eq.mp q);subst e;unfold Ig at h3;rw[hE.cl,Iq,hm]at h3;simpa using h3
 .unfold kitCls;let#[TZ,Ld,_]:=any_some hD;dsimp only;rw[Ld,ty,if_pos Mn];exact h3
def isVE(e:∃C N bm,ErrK K mg x C N bm)(ex:ExIn K x):∃C cd,nsIn K SL x=be (be (.ref C))/\IsE K C cd/\kitOne K (.ref C) (.type "ValueError")=be true:=by
 let#[C,N,bm,k]:=e;let#[cd,hE,hm]:=k.isE ex;refine#[C,cd,k.ns,hE,?_];unfold kitOne;rw[if_neg (by intro q;cases beq_iff_eq.mp q)];unfold kitCls;dsimp only;rw[if_pos KK];show Ig K C _=_;unfold Ig;rw[hE.cl,Iq,if_neg (by rw[hm];simp),Exc.exc_has KK hE.mro]
end
abbrev Bx.j(V:Bx)(y:Lq)(al:List (Lq×Bool)):Prop:=∃D,V.mg y=be (.ref D)/\IsF V.K al (.ref D)
abbrev Bx.jv(V:Bx)(al:List (Lq×Bool)):Prop:=IsF V.K al (.type "ValueError")
end My
namespace My
open Exc
abbrev SiX:=Pi->List D->(MS->Prop)->XDM->Prop
def lSiX(K:Ex)(C:Pi)(S:SiX):Sp:=λvs H Q E=>∃a dx us H1 F ds,vs=.ref a::us/\H=upd (upd H1 dx (.own a)) a (.ins C dx [])/\H1 a=w6/\H1 dx=w6/\dx≠a/\Same F H1/\Reps K F ds us/\
 ∃(R:MS->Prop) (RX:XDM),S a ds R RX/\(∀M' F' H',GrowM [] M' F H1 F' H'->R M'->RepM K F' H' M'->Q .non H')/\∀x fs Cx od M' F' H',GrowM [] M' F H1 F' H'->RX x fs M'->ErrD K F' x fs Cx od->RepM K F' H' M'->E (.ref Cx) od H'
def lx(P:U5)(w:U')(K:Ex)(mg:Lq->Option Os)(base:Heap)(n:Nat)(x:Lq)(ps:List Lq)(S:SiX):Prop:=
 ∃C f fd,nsIn K SL x=be (be (.ref C))/\mg x=be (.ref C)/\Mk K C f/\FnOk P w K mg base (Exc.CX1 P w) n f fd ps (lSiX K C S)/\Binds K fd ps []
section
variable {P:U5}{w:U'}{K:Ex}{mg:Lq->Option Os}{base:Heap}
open Classical in
def Txi.okNX{x qual:Lq}{st:U6}{N:List Lq}{p0:Lq}{ps:List Lq}{k:Nat}{S:SiX}(T:Txi K mg x qual st (p0::ps))(F:FnScope N (p0::ps) (ag st))(len:∀a ds R RX,S a ds R RX->ds.length=ps.length)
  (a9:∀(f:Pi) (cdv:Os) (A:U_) (outer:List VP) (s:SB) (H:Hp) (E:XK) (J:Jm),Room k (A.deeper (Vg qual (ag st) s.heap.objs.size f cdv))->XOkM (cxOf (CX1 P w) P w K mg base N qual (ag st) f cdv A outer s H E)->
   ∃t,MSs (cxOf (CX1 P w) P w K mg base N qual (ag st) f cdv A outer s H E) (aJ st) t/\∀a ds R RX,(∀z,J.RM z=λM' x fs=>RX x fs M')->S a ds R RX->t {nx:=λ_ M'=>R M',rt:=λ_ _=>False} (startD N (.ptr a::ds)) [(a,.ins x [])]):lx P w K mg base (k+1) x (p0::ps) S:=by
 let#[C,f,fd,hns,l_,mk,T,hb]:=T;refine#[C,f,fd,hns,l_,mk,Fun.okC T F (λvs H Q E h=>?_) (λcdv A outer s H vs Q E hr h=>?_),hb]
 .obtain⟨a,dx,us,H1,F,ds,rfl,_,_,_,_,_,rs,R,RX,h,_⟩:=h;rw[HA,HA,rs.length,len a ds R RX h]
 .obtain⟨a,dx,us,H1,F1,ds,rfl,rfl,ha,s9,k_,fh,rs,R,RX,h,q,qx⟩:=h
  let H:Hp:=upd (upd H1 dx (.own a)) a (.ins C dx [])
  let B:Hp:=λb=>if b=a then w6 else H b
  have NR:B a=none:=if_pos rfl;have hB:∀{b:Pi},b≠a->B b=H b:=λ{b} h=>if_neg h;have o9:∀{b:Pi} {o:HO},H1 b=be o->b≠a/\H b=be o:=λ{b o} e=>by
   have n1:b≠a:=bH e ha;exact#[n1,by show upd _ _ _ b=_;rw[ar n1,ar (bH e s9)];exact e]
  letI:Jm:={B:=B,F0:=F1,RX:=λ_ _ _=>False,RM:=λ_ M' x fs=>RX x fs M'}
  have gr:∀{M':MS} {F' H':Hp},Kept B F1 F' H'->(∀b,b∈av M'->B b=w6)->GrowM [] M' F1 H1 F' H':=λ{M' F' H'} kk mb=>⟨kk.f0,kk.fh,λb o _ e=>kk.bh b o (by show B b=be o;rw[hB (o9 e).1];exact(o9 e).2),λb _ h1 h2=>kk.out b h1 (by
   show B b≠w6;cases e:H1 b with
   |none=>exact absurd e h2
   |some o=>rw[hB (o9 e).1,(o9 e).2];exact λz=>nomatch z),λb hb=>by
   cases e:H1 b with
   |none=>exact .inr rfl
   |some o=>
    have h0:B b=none:=mb b hb;rw[hB (o9 e).1,(o9 e).2]at h0;cases h0⟩
  have hx:XOkM (cxOf (CX1 P w) P w K mg base N qual (ag st) f cdv A outer s H E):=by
   intro σ z M' F' H' s' e C od y fs I kk rr hR er ⟨He,ne,_,hx⟩;have hE:E (.ref C) od H':=qx y fs C od M' F' H' (gr kk rr.mb) hR er rr.rm;rcases hx with⟨sl,vs,h1,h2⟩|⟨T,fl,h1,h2,h3,_⟩
   .exact jZ I h1 h2 He ne hE
   .exact kF I h1 ne h2 He h3 hE
  let#[t,ht,hq]:=a9 f cdv A outer s H E inferInstance hr hx;have Fa:F1 a=none:=fh.free ha;have k0:Kept B F1 F1 H:=⟨λb o e=>by
   by_cases n:b=a
   .rw[n,NR]at e;cases e
   .rw[hB n]at e;exact e,λb o e=>(o9 (fh b o e)).2,Same.refl F1,λ_ h _=>h,rfl,Same.refl F1,λ_ h _=>h⟩
  have F_:Reps K F1 (.ptr a::ds) (.ref a::us):=reps_cons.mpr #[_,_,rfl,rep_ptr.mpr rfl,rs];have P7:RepM K F1 H [(a,.ins x [])]:=⟨by simp[av],λb o hb=>by
   have e:=Hv.mp hb;cases e;exact#[C,dx,[],hns,aC,repf_nil.mpr rfl],λb hb=>by
   have e:b=a:=by simpa[av]using hb
   rw[e];exact Fa⟩
  have r0:RepZ K B F1 H (startD N (.ptr a::ds)) (L2.start N (.ref a::us)) [(a,.ins x [])]:=⟨dS F_,kO F_,P7,λb hb=>by
   have e:b=a:=by simpa[av]using hb
   rw[e];exact NR⟩
  exact#[_,ht.out,F1,F1,_,_,k0,r0,_,hq a ds R RX (λ_=>rfl) h,#[λz' s' M' F' H' kk hn r=>q M' F' H' (gr kk r.mb) hn r.rm,λd v M' F' H' kk hd rd P0 mb=>hd.elim,λ_ _ _ _ _ _ h _=>h.elim,λ_ _ _ _ _ _ h _=>h.elim]]
end
section
variable {X:Cx}{k:Nat}{f C:Pi}{fd:Vd}{ps:List Lq}{sp:Sp}{E:XK}
def Ew{pins:List (Pi×Vk)}{σ:L2.St}{H:Hp}{s:SB}{Q:VK}{us:List Os}{vs:List V}(M:Mk X.K C f)(F:FnOk X.prog X.w X.K X.mg X.base (CX1 X.prog X.w) k f fd ps sp)(hr:Room (k+1) X.A)(hb:Binds X.K fd ps [])
  (hx:∀x dx s2 e s',Inv X pins σ (upd (upd H dx (.own x)) x (.ins C dx [])) s2->CX1 X.prog X.w X.stack (upd (upd H dx (.own x)) x (.ins C dx [])) s2 E e s'->X.xe e s') (I:Inv X pins σ H s) (r:Vals vs us)
  (h:∀x dx,H x=w6->H dx=w6->dx≠x->sp (.ref x::vs) (upd (upd H dx (.own x)) x (.ins C dx [])) (λv H2=>v=.non/\Q (.ref x) H2) E):
  U8 (U4 X.prog X.w) X.A (call (.ref C) us) (EP X pins σ Q) X.xe s:=by
 have hq:=h (s.heap.objs.size+1) s.heap.objs.size (I.hok.fresh (Iz _)) (I.hok.fresh (Hw _)) (HD (Jw _));have I2:=Inv.made (C:=C) I;have r2:Vals (V.ref (s.heap.objs.size+1)::vs) (Value.ref (s.heap.objs.size+1)::us):=.cons rfl r;have hl:((Value.ref (s.heap.objs.size+1)::us)++[]).length=ps.length:=by
  have e:=r2.length;rw[F.len _ _ _ _ hq]at e;rw[H9];exact e.symm
 have g6:=hb _ (Value.ref (s.heap.objs.size+1)::us) I2.kIn hl;rw[H9]at g6;refine Vs (qB (f:=f) I.kIn M.makes M.init (beq_iff_eq.mp M.fn) (Vx (F.run _ X.stack _ _ #[Value.ref (s.heap.objs.size+1)::us,[]] (Value.ref (s.heap.objs.size+1)::us) _ _ E (hr.make C us [])
  (I2.env0.make C us []) g6 r2 hq) λr s' o6=>?_))
 cases r with
 |error e=>exact hx _ _ _ e s' I2 o6
 |ok fl=>
  cases fl with
  |ret u=>
   let#[v,H',I3,rv,ev,q3]:=I2.after o6;subst ev;exact#[rv,#[V.ref (s.heap.objs.size+1),H',I3,rfl,q3]]
  |next=>exact False.elim o6
  |brk=>exact False.elim o6
  |cont=>exact False.elim o6
end
section
variable {X:Cx}[J:Jm]{e:U7}{es:List U7}{pos p:Vf}{n m:Nat}{ps:List Lq}{S:SiX}{x:Lq}{t:TMA}
def Ey(S:SiX)(t:TMA):TME:=λz M R=>t z M λds M1=>∀a,a∉av M1->S a ds (λM'=>R (.ptr a) (M'++M1)) λx fs _=>J.RM z M1 x fs
def vS(M:lx X.prog X.w X.K X.mg X.base n x ps S)(hx:XOkM X)(hr:Room m X.A)(ha:MA X (e::es) t)(f9:(X.ex=[])\zA0)(hg:Gl X x\zA0)(hn:(n+1<=m)\zA1)(d6:zND x\zA1)
  (he:zSE X e es\zA0) (c_:zPL X pos es\zA0):
  ME X (.Call (.Name x p) (e::es) [] pos) (Ey S t):=by
 let#[C,f,fd,hns,l_,mk,F,hb]:=M;refine#[λpins s σ H Q I h=>?_];let#[Fr,z,M,k,rs,R,h1,h2]:=h;refine Ve (ck I hg l_ ?_ d6);refine callWith_K (h₀:=X.base) I.ok.mod.kin mk.kp (thn (ha.out pos pins s σ H (λvs H1=>∀a dx,H1 a=w6->H1 dx=w6->dx≠a->lSiX X.K C S (.ref a::vs) (upd (upd H1 dx (.own a)) a (.ins C dx [])) (λv H2=>v=.non/\Q (.ref a) H2) (EX X z σ)) I #[Fr,z,M,k,rs,_,h1,λds vs M1 F1 H1 g1 hx rx m1=>?_]) λus s1 hh=>#[hh.elim λ_ h=>h.elim λ_ h=>h.1.kIn,?_]) he c_
 .intro a dx ha s9 k_;have na:a∉av M1:=λz=>m1.here z ha;have k1:=k.growM rs.mb g1;have r1:=rs.growM k.bh g1 m1;refine#[a,dx,vs,H1,F1,ds,rfl,rfl,ha,s9,k_,g1.fh,rx,_,_,hx a na,λM' F' H' g hR m'=>#[rfl,?_],λy fs Cx od M' F' H' g hR er m'=>?_]
  .have hh:∀b o,H1 b=be o->H' b=be o:=λb o e=>g.hh b o (λz=>nomatch z) e;have nk:∀b,b∈av M'->H1 b=none:=λb hb=>(g.ks b hb).elim (λz=>nomatch z) id;refine h2 (.ptr a) (.ref a) _ F' H' (g1.trans #[g.ff,g.fh,λb o _ e=>hh b o e,λb _=>g.out b (λz=>nomatch z),λb hb=>?_]) hR (rep_ptr.mpr rfl) #[?_,λb o hb=>?_,λb hb=>?_]
   .rcases keys_app.mp hb with z|z
    .exact .inr (nk b z)
    .exact .inl z
   .unfold av;rw[Ia];exact IY.mpr #[m'.nd,m1.nd,λb h1 c h2 e=>m1.here (e ▸ h2) (nk b h1)]
   .rcases HX.mp hb with z|z
    .exact m'.ok b o z
    .exact(m1.ok b o z).mono g.ff λo e=>hh b o e
   .rcases keys_app.mp hb with z|z
    .exact m'.fr b z
    .exact g.out b (λz=>nomatch z) (m1.fr b z) (m1.here z)
  .have hh:∀b o,H1 b=be o->H' b=be o:=λb o e=>g.hh b o (λz=>nomatch z) e;have g2:GrowM M1 M1 F1 H1 F' H':=#[g.ff,g.fh,λb o _ e=>hh b o e,λb _=>g.out b (λz=>nomatch z),λb hb=>.inl hb];have m2:RepM X.K F' H' M1:=#[m1.nd,λb o hb=>(m1.ok b o hb).mono g.ff λo e=>hh b o e,λb hb=>g.out b (λz=>nomatch z) (m1.fr b hb) (m1.here hb)];exact#[y,fs,Cx,M1,F',rfl,k1.growM r1.mb g2,r1.growM k1.bh g2 m2,hR,er]
 let#[vs,H1,I1,r,q]:=hh;exact Ew mk F (hr.mono hn) hb (λ_ _ _ e s' I2 hq=>hx.out f9 I2 hq) I1 r q
end
section
variable {X:Cx}[J:Jm]
def Ez:TMS:=λ_ _ _=>False
def EA{Mm:List U6}:MSs X Mm Ez:=⟨λpins s σ H D I h=>by
 let#[F0,F,z,M,k,rs,ED,h,e]:=h;exact h.elim⟩
end
abbrev Bx.NX(V:Bx)(n:Nat)(x:Lq)(ps:List Lq)(S:SiX):Prop:=lx V.P V.w V.K V.mg V.base n x ps S
end My
end
section
namespace My
local macro_rules | `(tactic| k_memK) => `(tactic| exact⟨rfl, rfl, rfl, by decide +kernel, rfl, by decide +kernel, by decide +kernel⟩)
local macro_rules | `(tactic| k_places) => `(tactic| try simp only[Ki, Kj, My.cn])
open PySem PySem.Spec PyProof.Rows L2
def top(i:Nat):Stmt:=PySem.Challenge.pw_motiffield_k36_bad_texts.main.body.getD i (.Pass #[0,0,0,0])
abbrev ly:U6:=top 59
abbrev lz:List Str:=["_law_script","_law_k"]
def EB:FnScope ["_law_script","_law_k"] lz (ag ly):=Mo
abbrev lC:U6:=top 61
abbrev lD:List Str:=["_law_script","_law_k","_law_many"]
def sc__law_draws:FnScope ["_law_script","_law_k","_law_many","_law_left","_law_drawn","_law_turn","_law_seed"] lD (ag lC):=Mo
abbrev lF:U6:=top 64
abbrev lG:List Str:=["_law_draws_here"]
def sc__law_lines:FnScope ["_law_draws_here","_law_wide","_law_tall","_law_signs","_law_lines_here","_law_j","_law_line","_law_i","_law_place","_law_value"] lG (ag lF):=Mo
abbrev lH:U6:=top 62
abbrev lJ:List Str:=["_law_draws_here"]
def sc__law_shift_pair:FnScope ["_law_draws_here","_law_a","_law_b","_law_c","_law_d"] lJ (ag lH):=Mo
abbrev lK:U6:=top 63
abbrev lL:List Str:=["_law_lines_here","_law_one","_law_two"]
def sc__law_motif_text:FnScope ["_law_lines_here","_law_one","_law_two","_law_tail"] lL (ag lK):=Mo
abbrev lM:U6:=top 65
abbrev lN:List Str:=["_law_script","_law_k"]
def sc__law_motif:FnScope ["_law_script","_law_k","_law_draws_here","_law_lines_here","_law_one","_law_two","_law_leaf"] lN (ag lM):=Mo
abbrev iJ:U6:=top 66
abbrev lP:List Str:=["_law_part","_law_draw"]
def sc__law_wrapped:FnScope ["_law_part","_law_draw","_law_across","_law_down","_law_old","_law_new","_law_shift","_law_head","_law_ways","_law_by","_law_leaves","_law_leaf","_law_a","_law_b","_law_c","_law_d","_law_e","_law_f","_law_way","_law_hues"] lP (ag iJ):=Mo
abbrev lQ:U6:=top 70
abbrev lR:List Str:=["_law_a","_law_b"]
def sc__law_gcd:FnScope ["_law_a","_law_b"] lR (ag lQ):=Mo
abbrev lU:U6:=top 67
abbrev lV:List Str:=["_law_one","_law_two","_law_u","_law_v"]
def sc__law_on:FnScope ["_law_one","_law_two","_law_u","_law_v","_law_size"] lV (ag lU):=Mo
abbrev lW:U6:=top 72
abbrev lY:List Str:=["_law_leaf"]
def sc__law_leaf_family:FnScope ["_law_leaf","_law_a","_law_b","_law_c","_law_d","_law_e","_law_f","_law_one","_law_two","_law_high","_law_wide","_law_lean"] lY (ag lW):=Mo
abbrev lZ:U6:=top 71
abbrev md:List Str:=["_law_three","_law_x","_law_y"]
def EC:FnScope ["_law_three","_law_x","_law_y"] md (ag lZ):=Mo
abbrev me:U6:=top 73
abbrev mf:List Str:=["_law_one","_law_two"]
def sc__law_both:FnScope ["_law_one","_law_two","_law_wide","_law_high","_law_x"] mf (ag me):=Mo
abbrev mi:U6:=top 74
abbrev mj:List Str:=["_law_leaves"]
def sc__law_family:FnScope ["_law_leaves","_law_both_here","_law_leaf"] mj (ag mi):=Mo
abbrev ml:U6:=top 75
abbrev mm:List Str:=["_law_upper","_law_lower"]
def sc__law_over:FnScope ["_law_upper","_law_lower","_law_leaves"] mm (ag ml):=Mo
abbrev mn:U6:=top 76
abbrev mo:List Str:=["_law_script","_law_k"]
def sc__law_pattern:FnScope ["_law_script","_law_k","_law_plan","_law_part","_law_turn","_law_step","_law_other"] mo (ag mn):=Mo
abbrev mv:U6:=top 68
abbrev my:List Str:=["_law_leaf","_law_x","_law_y"]
def sc__law_leaf_shows:FnScope ["_law_leaf","_law_x","_law_y","_law_way","_law_u","_law_v","_law_j","_law_i"] my (ag mv):=Mo
abbrev mz:U6:=top 69
abbrev mB:List Str:=["_law_leaves","_law_x","_law_y"]
def sc__law_shows:FnScope ["_law_leaves","_law_x","_law_y","_law_leaf","_law_hue"] mB (ag mz):=Mo
abbrev iK:U6:=top 79
abbrev mC:List Str:=["_law_leaves","_law_wide","_law_high"]
def sc__law_floor_rows:FnScope ["_law_leaves","_law_wide","_law_high","_law_lines_here","_law_y"] mC (ag iK):=Mo
abbrev mD:U6:=aT (top 57) 1
abbrev mF:List Str:=["self","word"]
def EE:FnScope ["self","word"] mF (ag mD):=Mo
abbrev mG:U6:=top 32
abbrev mH:List Str:=["x","y"]
def EF:FnScope ["x","y"] mH (ag mG):=Mo
abbrev mI:U6:=top 14
abbrev mJ:List Str:=["family","x","y"]
def sc_home:FnScope ["family","x","y","width","height","slant"] mJ (ag mI):=Mo
abbrev iL:U6:=aT (top 21) 2
abbrev cC:List Str:=["self","x","y"]
def EG:FnScope ["self","x","y"] cC (ag iL):=Mo
abbrev iM:U6:=aT (top 22) 2
abbrev iN:List Str:=["self","x","y"]
def sc_Over_shows:FnScope ["self","x","y","hue"] iN (ag iM):=Mo
abbrev iO:U6:=aT (top 23) 2
abbrev iP:List Str:=["self","x","y"]
def EH:FnScope ["self","x","y"] iP (ag iO):=Mo
abbrev iQ:U6:=aT (top 24) 2
abbrev iR:List Str:=["self","x","y"]
def EI:FnScope ["self","x","y"] iR (ag iQ):=Mo
abbrev iS:U6:=aT (top 25) 2
abbrev iT:List Str:=["self","x","y"]
def EJ:FnScope ["self","x","y"] iT (ag iS):=Mo
abbrev iU:U6:=aT (top 26) 2
abbrev iV:List Str:=["self","x","y"]
def sc_Rehue_shows:FnScope ["self","x","y","hue"] iV (ag iU):=Mo
abbrev mK:U6:=top 33
abbrev mL:List Str:=["pattern","x","y"]
def EK:FnScope ["pattern","x","y"] mL (ag mK):=Mo
abbrev iW:U6:=top 34
abbrev mM:List Str:=["pattern","x","y","many"]
def EL:FnScope ["pattern","x","y","many"] mM (ag iW):=Mo
abbrev iX:U6:=aT (top 57) 7
abbrev mN:List Str:=["self"]
def EM:FnScope ["self"] mN (ag iX):=Mo
abbrev mQ:U6:=aT (top 57) 3
abbrev iY:List Str:=["self","many"]
def sc_Floor_lay:FnScope ["self","many","ahead"] iY (ag mQ):=Mo
abbrev mR:U6:=top 82
abbrev mU:List Str:=["_law_floor","_law_many","_law_bare"]
def sc__law_lay:FnScope ["_law_floor","_law_many","_law_bare","_law_found","_law_refused"] mU (ag mR):=Mo
abbrev mV:U6:=top 85
abbrev mW:List Str:=["_law_part","_law_kind_here","_law_value"]
def sc__law_bad:FnScope ["_law_part","_law_kind_here","_law_value","_law_times","_law_a","_law_b","_law_motif_here","_law_great","_law_text","_law_place"] mW (ag mV):=Mo
abbrev mY:U6:=aT (top 3) 0
abbrev mZ:List Str:=["self","place"]
def EN:FnScope ["self","place"] mZ (ag mY):=Mo
abbrev ng:U6:=aT (top 45) 1
abbrev nh:List Str:=["self","allowed"]
def EO:FnScope ["self","allowed"] nh (ag ng):=Mo
abbrev nj:U6:=aT (top 45) 2
abbrev nn:List Str:=["self","allowed"]
def sc_Reading_take:FnScope ["self","allowed","sign"] nn (ag nj):=Mo
abbrev nq:U6:=top 48
abbrev nt:List Str:=["reading","least","most"]
def sc_line_from:FnScope ["reading","least","most","line","column"] nt (ag nq):=Mo
abbrev nu:U6:=top 49
abbrev nv:List Str:=["reading"]
def sc_lines_from:FnScope ["reading","lines","width"] nv (ag nu):=Mo
abbrev nw:U6:=top 46
abbrev ny:List Str:=["reading"]
def sc_number_from:FnScope ["reading","written"] ny (ag nw):=Mo
abbrev nz:U6:=top 47
abbrev nA:List Str:=["reading"]
def sc_shift_from:FnScope ["reading","x"] nA (ag nz):=Mo
abbrev nB:U6:=top 11
abbrev nC:List Str:=["first","second"]
def sc_levelled:FnScope ["first","second","times","rest"] nC (ag nB):=Mo
abbrev nE:U6:=top 13
abbrev nF:List Str:=["first","second"]
def sc_spread:FnScope ["first","second","pair","width"] nF (ag nE):=Mo
abbrev nG:U6:=top 20
abbrev nH:List Str:=["lines","family"]
def sc_hues_by_home:FnScope ["lines","family","hues","row","line","column","sign"] nH (ag nG):=Mo
abbrev nI:U6:=aT (top 21) 0
abbrev nJ:List Str:=["self","place","lines","first","second"]
def EQ:FnScope ["self","place","lines","first","second"] nJ (ag nI):=Mo
abbrev nK:U6:=top 50
abbrev nM:List Str:=["reading"]
def sc_motif_from:FnScope ["reading","place","lines","first","second"] nM (ag nK):=Mo
abbrev nN:U6:=aT (top 24) 0
abbrev nO:List Str:=["self","form"]
def ER:FnScope ["self","form"] nO (ag nN):=Mo
abbrev nP:U6:=aT (top 25) 0
abbrev nQ:List Str:=["self","form"]
def ES:FnScope ["self","form"] nQ (ag nP):=Mo
abbrev nR:U6:=aT (top 22) 0
abbrev nS:List Str:=["self","above","below"]
def ET:FnScope ["self","above","below"] nS (ag nR):=Mo
abbrev nU:U6:=aT (top 23) 0
abbrev nV:List Str:=["self","form","x","y"]
def EU:FnScope ["self","form","x","y"] nV (ag nU):=Mo
abbrev nW:U6:=aT (top 26) 0
abbrev nX:List Str:=["self","form","old","new"]
def EV:FnScope ["self","form","old","new"] nX (ag nW):=Mo
abbrev iZ:U6:=top 51
abbrev gM:List Str:=["reading","around"]
def sc_over_from:FnScope ["reading","around","above","below"] gM (ag iZ):=Mo
abbrev ja:U6:=top 52
abbrev gN:List Str:=["reading","around"]
def sc_shifted_from:FnScope ["reading","around","shift"] gN (ag ja):=Mo
abbrev jb:U6:=top 53
abbrev gO:List Str:=["reading","around"]
def sc_rehue_from:FnScope ["reading","around","old","new"] gO (ag jb):=Mo
abbrev jc:U6:=top 54
abbrev cK:List Str:=["reading","around"]
def sc_form_from:FnScope ["reading","around","sign"] cK (ag jc):=Mo
abbrev nY:U6:=aT (top 45) 0
abbrev nZ:List Str:=["self","text"]
def EW:FnScope ["self","text"] nZ (ag nY):=Mo
abbrev oa:U6:=aT (top 44) 0
abbrev og:List Str:=["self","text","shifts","form"]
def EY:FnScope ["self","text","shifts","form"] og (ag oa):=Mo
abbrev oh:U6:=aT (top 4) 0
abbrev oi:List Str:=["self","place"]
def EZ:FnScope ["self","place"] oi (ag oh):=Mo
abbrev oj:U6:=top 12
abbrev ol:List Str:=["one","two"]
def sc_measure:FnScope ["one","two","last"] ol (ag oj):=Mo
abbrev om:U6:=top 15
abbrev oq:List Str:=["one","two"]
def sc_met:FnScope ["one","two","common","width","rise","start","gap","climbs","steps"] oq (ag om):=Mo
abbrev ot:U6:=top 16
abbrev ou:List Str:=["family"]
def E1:FnScope ["family"] ou (ag ot):=Mo
abbrev ow:U6:=top 17
abbrev oy:List Str:=["family"]
def E2:FnScope ["family"] oy (ag ow):=Mo
abbrev jd:U6:=aT (top 21) 1
abbrev cD:List Str:=["self"]
def E3:FnScope ["self"] cD (ag jd):=Mo
abbrev je:U6:=aT (top 22) 1
abbrev jg:List Str:=["self"]
def sc_Over_family:FnScope ["self","first"] jg (ag je):=Mo
abbrev jh:U6:=aT (top 23) 1
abbrev ji:List Str:=["self"]
def E4:FnScope ["self"] ji (ag jh):=Mo
abbrev jj:U6:=aT (top 24) 1
abbrev jk:List Str:=["self"]
def E5:FnScope ["self"] jk (ag jj):=Mo
abbrev jl:U6:=aT (top 25) 1
abbrev jm:List Str:=["self"]
def E6:FnScope ["self"] jm (ag jl):=Mo
abbrev jn:U6:=aT (top 26) 1
abbrev jp:List Str:=["self"]
def E7:FnScope ["self"] jp (ag jn):=Mo
abbrev oz:U6:=top 55
abbrev oA:List Str:=["text"]
def sc_read:FnScope ["text","reading","form","family"] oA (ag oz):=Mo
abbrev oB:U6:=top 60
abbrev oC:List Str:=["_law_found"]
def E8:FnScope ["_law_found"] oC (ag oB):=Mo
abbrev oE:U6:=top 83
abbrev oF:List Str:=["_law_marks"]
def E9:FnScope ["_law_marks"] oF (ag oE):=Mo
abbrev oG:U6:=aT (top 57) 0
abbrev oH:List Str:=["self","text","width","height"]
def Fb:FnScope ["self","text","width","height"] oH (ag oG):=Mo
abbrev oI:U6:=aT (top 57) 4
abbrev oJ:List Str:=["self","text"]
def sc_Floor_change:FnScope ["self","text","pattern","cell"] oJ (ag oI):=Mo
abbrev oK:U6:=top 84
abbrev oM:List Str:=["_law_door","_law_text","_law_floor"]
def sc__law_refusal:FnScope ["_law_door","_law_text","_law_floor","_law_place","_law_marks","_law_e"] oM (ag oK):=Mo
abbrev oN:U6:=top 78
abbrev oO:List Str:=["_law_found","_law_due"]
def sc__law_texts:FnScope ["_law_found","_law_due","_law_k"] oO (ag oN):=Mo
abbrev oP:U6:=top 77
abbrev oQ:List Str:=["_law_found","_law_due"]
def sc__law_seven:FnScope ["_law_found","_law_due","_law_k"] oQ (ag oP):=Mo
abbrev oR:U6:=top 80
abbrev oS:List Str:=["_law_lines_here"]
def sc__law_counts:FnScope ["_law_lines_here","_law_found","_law_line","_law_sign"] oS (ag oR):=Mo
abbrev jq:U6:=top 35
abbrev oU:List Str:=["pattern"]
def Fc:FnScope ["pattern"] oU (ag jq):=Mo
abbrev oV:U6:=top 36
abbrev oW:List Str:=["family","rows","x","y"]
def sc_round_row:FnScope ["family","rows","x","y","cell","row"] oW (ag oV):=Mo
abbrev oX:U6:=top 40
abbrev oY:List Str:=["row","sign","many"]
def Fd:FnScope ["row","sign","many"] oY (ag oX):=Mo
abbrev jr:U6:=top 41
abbrev oZ:List Str:=["pattern","left","top","right","bottom"]
def sc_count_all:FnScope ["pattern","left","top","right","bottom","family","rows","many","again","counts","y","times","row","hue","sign"] oZ (ag jr):=Mo
abbrev pd:U6:=aT (top 57) 8
abbrev pe:List Str:=["self"]
def Fe:FnScope ["self"] pe (ag pd):=Mo
abbrev pf:U6:=aT (top 57) 9
abbrev ph:List Str:=["self"]
def Ff:FnScope ["self"] ph (ag pf):=Mo
abbrev pi:U6:=aT (top 57) 6
abbrev pj:List Str:=["self"]
def Fg:FnScope ["self"] pj (ag pi):=Mo
abbrev pk:U6:=top 81
abbrev pp:List Str:=["_law_floor","_law_text","_law_size","_law_laid","_law_rest","_law_many"]
def sc__law_view:FnScope ["_law_floor","_law_text","_law_size","_law_laid","_law_rest","_law_many","_law_found"] pp (ag pk):=Mo
abbrev js:U6:=top 86
abbrev pq:List Str:=["_law_script"]
def sc_law:FnScope ["_law_script","_law_part","_law_size","_law_laid","_law_lines_here","_law_floor","_law_text","_law_due","_law_door"] pq (ag js):=Mo
def nown(z:SD):Bool:=z.all λo=>match o with|some (.own _)=>false|_=>true
def NoOwn.of{z:SD}(h:nown z=true):NoOwn z:=λi ds e=>by
 have:=Ir.mp h _ (Ji e);cases this
structure Deed where
 w:Lq
 p:Pat
 d:D
 l:Int
def Deed.D(e:Deed):My.D:=.tup [.str e.w,e.d,.int e.l]
structure Fl where
 p:Pat
 d:D
 w:Int
 h:Int
 l:Int
 ds:List Deed
def Fl.fs(f:Fl)(q:Pi):List (Lq×D):=[("pattern",f.d),("text",.str f.p.text),("width",.int f.w),("height",.int f.h),("laid",.int f.l),("deeds",.ptr q)]
def Fl.M(f:Fl)(a q:Pi):MS:=[(q,.lst (f.ds.map Deed.D)),(a,.ins "Floor" (f.fs q))]
variable{a:Pi}{o:MO}
def fQ{p:Pi}{M:MS}(h:p≠a):mget ((p,o)::M) a=mget M a:=if_neg h
def cL{M:MS}:mget ((a,o)::M) a=be o:=if_pos rfl
def fR{p:Pi}{o':MO}{M:MS}(h:p≠a):mput ((p,o)::M) a o'=(p,o)::mput M a o':=if_neg h
def dP{o':MO}{M:MS}:mput ((a,o)::M) a o'=(a,o')::M:=if_pos rfl
variable{f:Fl}{q:Pi}
def Fl.ma(h:a≠q):mget (f.M a q) a=be (.ins "Floor" (f.fs q)):=(fQ (Ne.symm h)).trans cL
def Fl.mq:mget (f.M a q) q=be (.lst (f.ds.map Deed.D)):=cL
def Fl.put(h:a≠q):mput (f.M a q) a o=[(q,.lst (f.ds.map Deed.D)),(a,o)]:=(fR (Ne.symm h)).trans (congrArg _ dP)
def jt:(f.fs q).lookup ("pattern":Lq)=be f.d:=rfl
def vT:(f.fs q).lookup ("text":Lq)=be (.str f.p.text):=rfl
def gQ:(f.fs q).lookup ("width":Lq)=be (.int f.w):=rfl
def ju:(f.fs q).lookup ("height":Lq)=be (.int f.h):=rfl
def fS:(f.fs q).lookup ("laid":Lq)=be (.int f.l):=rfl
def vU:(f.fs q).lookup ("deeds":Lq)=be (.ptr q):=rfl
structure Fl.Ok(f:Fl):Prop where
 is:cf f.p f.d
 ok:f.p.Ok
 w1:1<=f.w
 w2:f.w<=30
 h1:1<=f.h
 h2:f.h<=30
 l0:0<=f.l
 l1:f.l<=f.h
 de:f.ds.length<=20
 dd:∀e∈f.ds,cf e.p e.d/\e.p.Ok/\0<=e.l/\e.l<=f.h
def Fl.keep(f:Fl)(w:Lq):Fl:={f with ds:=(f.ds++[Deed.mk w f.p f.d f.l]).drop (f.ds.length+1-20)}
def Fl.lay(f:Fl)(n:Int):Fl:={f.keep "lay" with l:=f.l+n}
def subM.refl{M:MS}(h:(av M).Nodup):subM M M:=#[λ_ h=>h,h]
def Fl.nd(h:a≠q):(av (f.M a q)).Nodup:=by
 show[q,a].Nodup;simp[Ne.symm h]
def Fl.sub(h:a≠q):subM (f.M a q) (f.M a q):=subM.refl (Fl.nd h)
def Fh(xs:List D):cutD xs (be (-20)) w6=xs.drop (xs.length-20):=by
 have e:HT.sIx xs.length 0 (be (-20))=xs.length-20:=by
  unfold HT.sIx;simp;lia
 unfold cutD;rw[e,show HT.sIx xs.length xs.length w6=xs.length from rfl];exact JX Mn
def aF(p:Pat)(w lo:Int)(n:Nat):List D:=(HC n).map λ(j:Nat)=>D.str (aL p 0 (lo+(j:Int)) w.toNat)
def pr(p:Pat)(w lo:Int)(n:Nat):aF p w lo n++[D.str (aL p 0 (lo+(n:Int)) w.toNat)]=aF p w lo (n+1):=by
 unfold aF;rw[Jk,Ia];rfl
def Fi(p:Pat)(w lo:Int)(n:Nat):cw (.lst (aF p w lo n))=true:=by
 unfold cw;induction n with
 |zero=>rfl
 |succ n ih=>
  rw[<-pr];have:∀xs:List D,flats xs=true->flats (xs++[D.str (aL p 0 (lo+(n:Int)) w.toNat)])=true:=λxs=>by
   induction xs with
   |nil=>intro _;rfl
   |cons x xs ih=>intro h;unfold flats at h;rw[HV]at h;show flats (x::(xs++_))=true;unfold flats;rw[h.1,ih h.2];rfl
  exact this _ ih
def vV(p:Pat)(w:Int){l:Int}(n:Nat)(l0:0<=l):cutD (aF p w 0 (l.toNat+n)) (be l) w6=aF p w l n:=by
 have hl:(aF p w 0 (l.toNat+n)).length=l.toNat+n:=by unfold aF;simp
 have e:HT.sIx (l.toNat+n) 0 (be l)=l.toNat:=by
  unfold HT.sIx;simp only;rw[if_neg Md];lia
 unfold cutD;rw[hl,e,show HT.sIx (l.toNat+n) (l.toNat+n) w6=l.toNat+n from rfl];unfold aF;apply IU;intro i;by_cases h:i<n
 .rw[JO Md,KZ,HI,HI,Iw Md,Iw h];simp;congr 1;lia
 .rw[Io Qu,Io Qu]
def due7(p:Pat)(left top:Int)(m:Nat)(n k:Nat):List Int:=(HC 7).map λ(v:Nat)=>cI p v left top m n+cntN (λi=>p.show (left+i) (top+n)) v k
variable{p:Pat}
def Fj(ok:p.Ok)(left top:Int)(m n k:Nat):∃u:Nat,u<7/\p.show (left+k) (top+n)=(u:Int)/\(due7 p left top m n k)[u]?=be (cI p u left top m n+cntN (λi=>p.show (left+i) (top+n)) u k)/\((due7 p left top m n k).map D.int).set u (D.int (cI p u left top m n+cntN (λi=>p.show (left+i) (top+n)) u k+1))=(due7 p left top m n (k+1)).map D.int:=by
 have b:=Pat.show_le ok.wf (by have:=ok.deep;lia) (left+k) (top+n);let#[u,hu]:∃u:Nat,p.show (left+k) (top+n)=(u:Int):=#[(p.show (left+k) (top+n)).toNat,Md];have u7:u<7:=Md
 have cs:∀v:Int,cntN (λi=>p.show (left+i) (top+n)) v (k+1)=cntN (λi=>p.show (left+i) (top+n)) v k+if p.show (left+k) (top+n)=v then 1 else 0:=λv=>rfl
 refine#[u,u7,hu,by unfold due7;simp[u7],?_];unfold due7;rw[Jb,Jb];have:=vL (n:=7) (i:=u) (λ(v:Nat)=>D.int (cI p v left top m n+cntN (λi=>p.show (left+i) (top+n)) v k)) (λ(v:Nat)=>D.int (cI p v left top m n+cntN (λi=>p.show (left+i) (top+n)) v (k+1))) (λv hv ne=>by
  show D.int _=D.int _;rw[cs,hu,if_neg Md,Jp])
 refine Eq.trans ?_ this;show List.set _ u _=List.set _ u _;rw[cs,hu,if_pos rfl,Kh];rfl
def Fk(p:Pat)(left top:Int)(m n:Nat):due7 p left top m n m=due7 p left top m (n+1) 0:=by
 unfold due7;apply Jl;intro v _;show _=(cI p v left top m n+_)+0;rw[Jp]
def Fo(p:Pat)(left top:Int)(m n:Nat):due7 p left top m n 0=cJ p left top m n:=by
 unfold due7 cJ;apply Jl;intro v _;show _+0=_;rw[Jp]
variable{w lo:Int}{n k:Nat}
def Fp{v:D}(h:(aF p w lo n)[k]?=be v):k<n/\v=.str (aL p 0 (lo+(k:Int)) w.toNat):=by
 have hk:k<n:=by have:=(HJ.mp h).1;unfold aF at this;simpa using this
 unfold aF at h;simp[hk]at h;exact#[hk,h.symm]
def Fq{h:Int}(h0:0<=h)(h6:h<=6):bf h<128:=by unfold bf;split<;>lia
def Fs(ok:p.Ok)(x y:Int)(n:Nat):(aL p x y n).cps.all (·<128)=true:=by
 rw[<-JW,Ir];intro c hc;have hc:c∈cs (aL p x y n):=hc;rw[dM]at hc;let#[k,_,rfl]:=HW.mp hc;have b:=Pat.show_le ok.wf (by have:=ok.deep;lia) (x+(k:Int)) y;exact decide_eq_true (Fq b.1 b.2)
def Ft{y:Int}{v:D}(h:(bO (aL p 0 y n))[k]?=be v):k<n/\v=.str #[[bf (p.show (0+(k:Int)) y)].toArray]:=by
 unfold bO at h;have hk:k<n:=by have:=(HJ.mp h).1;rwa [HE,show(aL p 0 y n).cps.toList.length=n by show(cs (aL p 0 y n)).length=n;rw[dM];simp]at this
 rw[HI,show(aL p 0 y n).cps.toList=(HC n).map λ(k:Nat)=>bf (p.show (0+(k:Int)) y)from dM p 0 y n]at h;simp[hk]at h;exact#[hk,by rw[<-h,Jd]]
def Fu{u:Nat}(h:u<7):∃rest,Builtin.Str.occurrences ".123456" #[[bf (u:Int)].toArray] 0 (".123456":Lq).length 1=u::rest:=by
 rcases(Md:u=0\/u=1\/u=2\/u=3\/u=4\/u=5\/u=6)with e|e|e|e|e|e|e<;>subst e<;>exact#[[],KK]
def Fv(h:k<n):atI (aF p w lo n) (k:Int)=be (.str (aL p 0 (lo+(k:Int)) w.toNat)):=bZ (by unfold aF;simp[h])
def Fw(h:k<=n):cutD (aF p w lo n) w6 (be (k:Int))=aF p w lo k:=by
 have hl:(aF p w lo n).length=n:=by unfold aF;simp
 have e:HT.sIx n n (be (k:Int))=k:=by
  unfold HT.sIx;simp only;rw[if_neg Md];lia
 unfold cutD;rw[hl,e,show HT.sIx n 0 w6=0 from rfl,JJ];unfold aF;rw[<-K4,K5,Kg,JK h]
def bF(i:Nat):List D:=(HC 8).map λj=>.bl (j==i)
def jw:List Str:=["wrong","line","great","far","row","parted","nothing"]
def Fx:∀i,i<7->((bF i).countP (λw=>eqF w (.bl true))=1/\(bF i).all bj=true)/\(bF i).findIdx (λw=>eqF w (.bl true))=i:=KK
def Fy{i:Nat}{w:Lq}(h:jw[i]?=be w):i<7/\(jw++[("":Lq)])[i]?=be w:=#[(HJ.mp h).1,by rw[Ik (HJ.mp h).1];exact h]
variable{R:My.D->Prop}
def S_read.mono{ds:List D}{R':D->Prop}{RX R5:XD}(h:S_read ds R RX)(hR:∀d,R d->R' d)(hX:∀x fs,RX x fs->R5 x fs):S_read ds R' R5:=by
 rcases h with⟨t,k,e,h1,h2,h3⟩|⟨p,e,h1,h2,h3,h4,h5,h6⟩
 .exact .inl #[t,k,e,h1,h2,hX _ _ h3]
 .exact .inr #[p,e,h1,h2,h3,λk z=>hX _ _ (h4 k z),λa b=>hX _ _ (h5 a b),λa b d i=>hR d (h6 a b d i)]
def Fz{RX:XD}(ok:p.Ok)(h:∀d,cf p d->R d):S_read [.str p.text] R RX:=(DB ok h).mono (λ_ h=>h) λ_ _ z=>z.elim
def ErrW(w:Lq)(k:Int):XD:=λx fs=>(x="WrongSign"/\w="wrong"/\fs=[(("place":Lq),D.int k)])\/(x="OneLine"/\w="line"/\fs=[(("place":Lq),D.int k)])\/(x="TooGreat"/\w="great"/\k=-1/\fs=[])
def Bad(t:Lq)(w:Lq)(k:Int):Prop:=S_read [.str t] (λ_=>False) (ErrW w k)
def vW:∀(l1:List Nat) {c:Nat} {l2:List Nat} {st:List Wt} {k:Nat},walk st (l1++c::l2) k=w6->walk st l1 k=be (k+l1.length)
 |[],c,l2,st,k,h=>by
  rw[Kb]at h;have ne:st≠[]:=λe=>by subst e;cases h
  rw[walk,if_neg ne];rfl
 |x::l1,c,l2,st,k,h=>by
  rw[Ih,walk]at h;rw[walk];cases e:step st x with
  |none=>rw[e]at h;cases h
  |some st'=>
   rw[e]at h;show walk st' l1 (k+1)=_;rw[vW l1 h,HA];congr 1;lia
def vX(h:p.Syn)(hd:p.depth<=5){u:Lq}(hk:k<p.tl.length)(hu:cs u=p.tl.take k):cb u=be k:=by
 have hw:=lh h hd;unfold cb at hw ⊢;rw[bW]at hw;rw[hu];have e:p.tl=p.tl.take k++p.tl[k]::p.tl.drop (k+1):=by rw[<-IQ hk,K6]
 rw[e]at hw;rw[vW _ hw,Jh];congr 1;lia
def FA(h:p.Syn)(hd:p.depth<=5){u:Lq}{c:Nat}(hu:cs u=p.tl++[c]):cb u=be p.tl.length:=by
 unfold cb;rw[hu,cB h 0 [] [c] 0 Md,Je];rfl
def FC{y:Lq}(h:k<=y.length):cs (Txt.slice y w6 (be (k:Int)))=(cs y).take k:=by
 rw[slice_cps,HT.sIx_none,HT.sIx_nat,Kg,JJ,JK h]
def linP(a b t:Int):Pat:=.mot ["2"] a b (a*t) (b*t)
variable{b t:Int}
def gR{a:Int}(ha:1<=a/\a<=3)(hb:-3<=b/\b<=3)(ht:-3<=t/\t<=3):B12 (a*t)/\B12 (b*t):=by
 unfold B12;rcases(Md:t=-3\/t=-2\/t=-1\/t=0\/t=1\/t=2\/t=3)with e|e|e|e|e|e|e<;>subst e<;>constructor<;>lia
def rows2:Rows ["2"]:=#[Mh,1,Mh,λl hl=>by rw[Hv.mp hl];exact#[rfl,λc hc=>by rw[Hv.mp hc];exact .inr #[Mh,Mh]]]
def FD{a:Int}(ha:1<=a/\a<=3)(hb:-3<=b/\b<=3)(ht:-3<=t/\t<=3):(linP a b t).Syn:=#[rows2,RA,RA,gR ha hb ht]
def pv(a b t:Int)(k:Nat):(linP a b t).lineAt k=be k:=if_pos (K7 a b t)
def pw{a:Int}:¬(linP a b t).Wf:=λh=>h.2.2.2.2.2 (K7 a b t)
def gOne:Pat:=.mot ["1"] 12 0 0 10
def gTwo(c:Int)(j:Int):Pat:=if j=0 then .mot [(toString c:String)] 11 0 0 1 else .mot [(toString c:String)] 1 0 0 11
def gP(c j:Int):Pat:=.over gOne (gTwo c j)
variable{c:Int}
def vY(h:1<=c/\c<=6):Rows [(toString c:String)]:=⟨Mn,1,Mh,λl hl=>by
 rw[Hv.mp hl];have e:cs (toString c:String)=[(48+c).toNat]:=hueL h;refine#[by rw[<-bq,e];rfl,λx hx=>?_];rw[e]at hx;rw[Hv.mp hx];unfold aN;lia⟩
def b12(k:Int)(h:-12<=k/\k<=12):B12 k:=h
def vZ:gOne.Wf:=#[#[Mh,1,Mh,λl hl=>by rw[Hv.mp hl];exact#[rfl,λc hc=>by rw[Hv.mp hc];exact .inr #[Mh,Mh]]],b12 12 Mh,b12 0 Mh,b12 0 Mh,b12 10 Mh,Mh]
def wa(h:1<=c/\c<=6)(j:Int):(gTwo c j).Wf/\(gTwo c j).Fits:=by
 unfold gTwo;split
 .exact#[#[vY h,b12 11 Mh,b12 0 Mh,b12 0 Mh,b12 1 Mh,Mh],Pat.fits_mot (b12 11 Mh) (b12 0 Mh) (b12 0 Mh) (b12 1 Mh) Mh]
 .exact#[#[vY h,b12 1 Mh,b12 0 Mh,b12 0 Mh,b12 11 Mh,Mh],Pat.fits_mot (b12 1 Mh) (b12 0 Mh) (b12 0 Mh) (b12 11 Mh) Mh]
def wc(c j:Int):(gP c j).depth=1:=by
 unfold gP gTwo;split<;>rfl
def we(h:1<=c/\c<=6)(j:Int):(gP c j).Cal:=#[trivial,by unfold gTwo;split<;>trivial,λ_ _=>#[(Pat.fits_mot (b12 12 Mh) (b12 0 Mh) (b12 0 Mh) (b12 10 Mh) Mh).wide,(wa h j).2.wide]]
def FE(c j:Int):¬(gP c j).Fits:=by
 intro#[w,h,s,f,hb];have w0:=f.f.w0;have h0:=f.f.h0;let#[#[i1,j1,a1,a2],k1]:=(f.lat w 0).mp #[1,0,Md,Md];let#[#[i2,j2,b1,b2],k2]:=(f.lat s h).mp #[0,1,Md,Md];have key:(132<=w/\10<=h)\/(12<=w/\110<=h):=by
  unfold gTwo at k1 k2;split at k1
  .rw[if_pos (by assumption)]at k2;let#[i3,j3,c1,c2]:=k1;left;lia
  .rw[if_neg (by assumption)]at k2;let#[i3,j3,c1,c2]:=k2;right;lia
 rcases key with⟨x,y⟩|⟨x,y⟩
 .have:=Ka x y Mh Md;lia
 .have:=Ka x y Mh Md;lia
def gS(j:Int):Str:=if j=0 then ";11,0;0,1])" else ";1,0;0,11])"
def FF{j:Int}(hc:1<=c/\c<=6)(hj:j=0\/j=1):(("([1;12,0;0,10]|[":Lq)++(toString c:String))++gS j=(gP c j).text:=by
 have key:∀k:Fin 6,(("([1;12,0;0,10]|[":Lq)++(toString (1+((k.val:Nat):Int)):String))++";11,0;0,1])"=(gP (1+((k.val:Nat):Int)) 0).text/\(("([1;12,0;0,10]|[":Lq)++(toString (1+((k.val:Nat):Int)):String))++";1,0;0,11])"=(gP (1+((k.val:Nat):Int)) 1).text:=KK
 have:=key #[(c-1).toNat,Md];have e:1+(((c-1).toNat:Nat):Int)=c:=Md
 rw[e]at this;rcases hj with rfl|rfl
 .exact this.1
 .exact this.2
def bad_line{q:Pat}(hp:p.Syn)(hq:q.Syn)(hd:(Pat.over p q).depth<=5)(hc:(Pat.over p q).Cal){v:Int}(e:(Pat.over p q).lineAt 0=be k)(ev:(k:Int)=v):Bad (Pat.over p q).text "line" v:=
 .inr #[_,rfl,#[hp,hq],hd,hc,(λk' e'=>by rw[e]at e';cases e';exact .inr (.inl #[rfl,rfl,by rw[ev]])),(λn=>by rw[e]at n;cases n),λn=>by rw[e]at n;cases n]
def bad_wrong{t:Lq}(hl:t.length<=100000)(h:cb t=be k):Bad t "wrong" k:=.inl #[t,k,rfl,hl,h,.inl #[rfl,rfl,rfl]]
def FG{w:Lq}{k:Int}:eqFs [.str w,.int k] [.str w,.int k]=true:=by
 show(decide (w=w)&&(decide (k=k)&&true))=true;rw[decide_eq_true rfl,decide_eq_true rfl];rfl
section
variable {V:Bx}
abbrev pz(V:Bx):Prop:=V.D 1 "_law_at" lz B1
def FH(T:V.T "_law_at" ly lz)(uA:V.m "len"):pz V:=by
 refine Tx.okDW T EB (λds R h=>?_) (λ_ _ _ _ _ _ _ J hr=>⟨_,((ai (bn (gf (aa 1) (bJ uA (ac (aa 0) ae))) (ao (aB (af (aa 0) (aa 1)))) aW)
   (ao (aB ad)))),λds R h=>?_⟩)
 .obtain⟨ns,k,rfl,_⟩:=h;rfl
 .obtain⟨ns,k,rfl,hk,hR⟩:=h;refine ite2 (λc=>?_) (λc=>?_)
  .have c':=of_decide_eq_true c;rw[HE]at c';exact#[_,ub hk c',hR]
  .have c':=of_decide_eq_false (H8.mpr c);rw[HE]at c';rw[B0 Md]at hR;exact hR
abbrev pA(V:Bx):Prop:=V.D 2 "_law_draws" lD Ce
def FI(T:V.T "_law_draws" lC lD)(uB:V.m "range")(y7:pz V):pA V:=by
 refine Tx.okDW T sc__law_draws (λds R h=>?_) (λ_ _ _ _ _ _ _ J hr=>⟨_,((ai (am 3 sc__law_draws.nd (aD y7 hr (ac (aa 0) (ac (aa 1) ae))))
   (ai (gm 4 sc__law_draws.nd ae)
   (ai (bn (bg (aA (aD y7 hr (ac (aa 0) (ac (aj (aa 1) ad) ae))) ad) ad) (ai (cF 5 PassesOwn.never rfl sc__law_draws.nd uB (aa 2) (ai (gp 4 (aA (aa 3) ad))
     (ao (am 3 sc__law_draws.nd (bb (aa 3) ad)))))
    (dX 4 (ao (aB (aa 4))))) aW)
   (ai (am 6 sc__law_draws.nd (aA (aj (aa 3) ad) ad))
   (ai (cF 5 PassesOwn.never rfl sc__law_draws.nd uB (aa 2) (ai (am 6 sc__law_draws.nd (aA (aj (aj (ay (aa 6) ad) (aD y7 hr (ac (aa 0) (ac (aj (aj (aa 1) ad) (aA (aa 5) ad)) ae)))) (aa 5)) ad))
    (ao (gp 4 (aA (aA (ay (aa 6) ad) ad) ad)))))
   (dX 4 (ao (aB (aa 4)))))))))),λds R h=>?_⟩)
 .obtain⟨_,_,_,rfl,_⟩:=h;rfl
 .obtain⟨ns,k,n,rfl,hk,hn,hR⟩:=h;refine#[λd=>∃v:Int,d=.int v,#[ns,k,rfl,hk,_,rfl],?_];intro _#[left,rfl];k_places;refine#[Mn,?_];refine#[ns,k+1,rfl,Md,Mh,ite2 (λ_=>?_) (λ_=>?_)]
  .refine#[#[Md,Md],λi z=>∃(xs:List Int) (l:Int) (o p:Option D),z=[be (.rol (ns.map D.int)),be (.int k),be (.int n),be (.int l),be (.own (xs.map D.int)),o,p]/\xs.length=i/\Drawn xs,#[[],left,_,_,rfl,rfl,(λx hx=>by cases hx)],?_,?_]
   .rintro i x z hi⟨xs,l,o,p,rfl,hl,hd⟩;k_places;have z_:i<n:=by simpa using(HJ.mp hi).1
    refine#[Mh,Qu,?_];refine#[λd=>∃v:Int,d=.int v,#[#[Mh,Mh],_,rfl],?_];intro _#[l',rfl];k_places;rw[uh];exact#[_,l',_,_,rfl,by simp[hl],ui hd (cU Mh) (cV Mh)]
   .rintro z⟨xs,l,o,p,rfl,hl,hd⟩;k_places;exact hR xs (by simpa using hl) hd
  .refine#[λd=>∃v:Int,d=.int v/\0<=v/\v<2147483647,#[Mh,_,rfl,cU Mh,cV Mh],?_];intro _#[Qg,rfl,s1,s2];k_places;refine#[#[Md,Md],λi z=>∃(xs:List Int) (sd:Int) (o:Option D),z=[be (.rol (ns.map D.int)),be (.int k),be (.int n),be (.int left),be (.own (xs.map D.int)),o,be (.int sd)]/\xs.length=i/\Drawn xs/\0<=sd/\sd<2147483647,#[[],Qg,_,rfl,rfl,(λx hx=>by cases hx),s1,s2],?_,?_]
   .rintro i x z hi⟨xs,sd,o,rfl,hl,hd,s1,s2⟩;k_places;have z_:i<n:=by simpa using(HJ.mp hi).1
    have ex:x=.int (i:Int):=by simp[z_]at hi;exact hi.symm
    subst ex;refine#[λd=>∃v:Int,d=.int v/\0<=v/\v<2147483647,#[.inr #[Mh,Mh],Mh,ns,_,rfl,Md,Mh,_,rfl,cU Mh,cV Mh],?_];intro _#[T3,rfl,t1,t2];k_places;refine#[.inr #[Mh,Mh],Mh,Mh,Qu,?_];rw[uh];exact#[_,T3,_,rfl,by simp[hl],ui hd (cU Mh) (cV Mh),t1,t2]
   .rintro z⟨xs,sd,o,rfl,hl,hd,_⟩;k_places;exact hR xs (by simpa using hl) hd
abbrev wg(V:Bx):Prop:=V.D 1 "_law_lines" lG Cp
def FJ(T:V.T "_law_lines" lF lG)(uB:V.m "range")(uA:V.m "len"):wg V:=by
 refine Tx.okDW T sc__law_lines (λds R h=>?_) (λ_ _ _ _ _ _ _ J hr=>⟨_,((ai (am 1 sc__law_lines.nd (aj ad (aA (af (aa 0) ad) ad)))
   (ai (am 2 sc__law_lines.nd (aj ad (aA (af (aa 0) ad) ad)))
   (ai (dY (bg (aA (af (aa 0) ad) ad) ad) (ai (am 1 sc__law_lines.nd (aj ad (aA (af (aa 0) ad) ad)))
    (ao (am 2 sc__law_lines.nd (aj ad (aA (af (aa 0) ad) ad))))) aW)
   (ai (am 3 sc__law_lines.nd (af (aU (ac aq (ac aq (ac aq (ac aq ae))))) (aA (af (aa 0) ad) ad)))
   (ai (gm 4 sc__law_lines.nd ae)
   (ai (cF 5 PassesOwn.never rfl sc__law_lines.nd uB (aa 2) (ai (am 6 sc__law_lines.nd aq)
    (ai (cF 7 PassesOwn.never rfl sc__law_lines.nd uB (aa 1) (ai (am 8 sc__law_lines.nd (aj (ay (aa 5) (aa 1)) (aa 7)))
     (ai (am 9 sc__law_lines.nd (aA (bb (af (aa 0) (aj ad (bb (aa 8) ad))) (af (aU (ac ad (ac ad ae))) (aA (aa 8) ad))) ad))
     (ao (am 6 sc__law_lines.nd (aj (aa 6) (af (aa 3) (aA (aa 9) (bJ uA (ac (aa 3) ae))))))))))
    (ao (gp 4 (aa 6))))))
   (dX 4 (ao (aB (aa 4))))))))))),λds R h=>?_⟩)
 .obtain⟨_,rfl,_⟩:=h;rfl
 .obtain⟨xs,rfl,hl,hd,hR⟩:=h;have H_:∀k:Nat,k<40->atI (xs.map D.int) (k:Int)=be (.int (cell xs k)):=λk hk=>cG Md (by simpa using(Md:k<xs.length));have a0:atI (xs.map D.int) 0=be (.int (cell xs 0)):=H_ 0 Mh;have a1:atI (xs.map D.int) 1=be (.int (cell xs 1)):=H_ 1 Mh;have a2:atI (xs.map D.int) 2=be (.int (cell xs 2)):=H_ 2 Mh;have a3:atI (xs.map D.int) 3=be (.int (cell xs 3)):=H_ 3 Mh;clear hl;refine#[λd=>∃v:Int,d=.int v/\1<=v/\v<=8,#[_,a0,Mh,_,rfl,Md],?_];intro _#[w0,rfl,T4];k_places;refine#[λd=>∃v:Int,d=.int v/\1<=v/\v<=8,#[_,a1,Mh,_,rfl,Md],?_];intro _#[t0,rfl,UO];k_places;refine#[λz=>∃w t:Nat,z=[be (.lst (xs.map D.int)),be (.int w),be (.int t),w6,w6,w6,w6,w6,w6,w6]/\(1<=w/\w<=8)/\(1<=t/\t<=8),#[_,a2,Mh,ite2 (λ_=>?_) (λ_=>?_)],?_]
  .refine#[λd=>∃v:Nat,d=.int v/\1<=v/\v<=8,#[_,a0,Mh,(1+cell xs 0%8).toNat,by rw[Ie Md],Md],?_];intro _#[w,rfl,hw];k_places;refine#[λd=>∃v:Nat,d=.int v/\1<=v/\v<=8,#[_,a1,Mh,(1+cell xs 1%8).toNat,by rw[Ie Md],Md],?_];intro _#[t,rfl,ht];k_places;exact#[w,t,rfl,hw,ht]
  .obtain⟨w,rfl⟩:∃w:Nat,w0=(w:Int):=#[w0.toNat,Md];let#[t,rfl]:∃t:Nat,t0=(t:Int):=#[t0.toNat,Md];exact#[w,t,rfl,Md,Md]
  intro _#[w,t,rfl,hw,ht];k_places;let#[sg,es,hs]:=Cl (cell xs 3);refine#[λd=>d=.str sg,#[Mn,_,a3,Mh,_,es,rfl],?_];intro _ rfl;k_places;refine#[Mn,?_];refine#[#[Md,Md],λk z=>∃(L:List Lq) (o1 o2 o3 o4 o5:Option D),z=[be (.lst (xs.map D.int)),be (.int w),be (.int t),be (.str sg),be (.own (L.map D.str)),o1,o2,o3,o4,o5]/\L.length=k/\∀l∈L,l.length=w/\∀c∈cs l,aN c,#[[],_,_,_,_,_,rfl,rfl,(λx hx=>by cases hx)],?_,?_]
  .rintro j x z hj⟨L,o1,o2,o3,o4,o5,rfl,hL,LX⟩;k_places;have LI:j<t:=by simpa using(HJ.mp hj).1
   have ex:x=.int (j:Int):=by simp[LI]at hj;exact hj.symm
   subst ex;refine#[λd=>d=.str "",rfl,?_];intro _ rfl;k_places;refine#[#[Md,Md],λi z=>∃(ln:Lq) (o3 o4 o5:Option D),z=[be (.lst (xs.map D.int)),be (.int w),be (.int t),be (.str sg),be (.own (L.map D.str)),be (.int j),be (.str ln),o3,o4,o5]/\ln.length=i/\∀c∈cs ln,aN c,#[_,_,_,_,rfl,rfl,(λc hc=>by rw[uj]at hc;cases hc)],?_,?_]
   .rintro i y z hi⟨ln,o3,o4,o5,rfl,OK,Qh⟩;k_places;have z_:i<w:=by simpa using(HJ.mp hi).1
    have ey:y=.int (i:Int):=by simp[z_]at hi;exact hi.symm
    subst ey;have pb:=bK (a:=(j:Int)) (d:=(w:Int)) (A:=7) (B:=8) Md Md;have pn:0<=(j:Int)*(w:Int):=J0 Md Md;refine#[λd=>∃p:Nat,d=.int p/\p<=63,#[.inl #[Md,Md],((j:Int)*w+i).toNat,by rw[Ie Md],Md],?_];intro _#[p,rfl,hp];k_places;let#[m,em,hm]:=Cm (p:Int);have ap:=H_ (8+p/2) Md;have ec:((8+p/2:Nat):Int)=8+(p:Int)/2:=Md
    rw[ec]at ap;refine#[λd=>∃v:Int,d=.int v,#[#[Mh,Mh],_,ap,Mn,Mh,_,em,#[Md,Md],Mh,_,rfl],?_];intro _#[v,rfl];k_places;let#[c,#[h1,h2],h3]:=Cg hs v;refine#[λd=>∃x:Lq,d=.str x/\x.length=i+1/\∀c∈cs x,aN c,#[h1,by have:=hs.1;lia,c,#[h1,h2],?_,_,rfl,Cn OK Qh h3],?_]
    .rw[OK];show i+1<=1000000;lia
    intro _#[x,rfl,g1,g2];k_places;exact#[x,_,_,_,rfl,g1,g2]
   .rintro z⟨ln,o3,o4,o5,rfl,OK,Qh⟩;k_places;have Qi:ln.length=w:=by simpa using OK
    refine#[by simp[hL];lia,?_];rw[Co];refine#[_,_,_,_,_,_,rfl,by simp[hL],λl hl=>?_];rcases HX.mp hl with q|q
    .exact LX l q
    .rw[Hv.mp q];exact#[Qi,Qh]
  .rintro z⟨L,o1,o2,o3,o4,o5,rfl,hL,LX⟩;k_places;exact hR L (Rows.of ht.1 ht.2 (by simpa using hL) hw.1 hw.2 LX)
abbrev wj(V:Bx):Prop:=V.D 1 "_law_shift_pair" lJ Cf
def FK(T:V.T "_law_shift_pair" lH lJ)(uE:V.m "int"):wj V:=by
 refine Tx.okDW T sc__law_shift_pair (λds R h=>?_) (λ_ _ _ _ _ _ _ J hr=>⟨_,((ai (bn (bg (aA (bb (af (aa 0) ad) ad) ad) ad) (ao (aB (aU (ac (aI (ac (aj ad (aA (af (aa 0) ad) ad)) (ac ad ae))) (ac (aI (ac ad (ac (aj ad (aA (af (aa 0) ad) ad)) ae))) ae))))) aW)
   (ai (bn (bg (aA (bb (af (aa 0) ad) ad) ad) ad) (ao (aB (aU (ac (aI (ac (aj ad (aA (af (aa 0) ad) ad)) (ac ad ae))) (ac (aI (ac (bv (aA (af (aa 0) ad) ad) ad) (ac (aj ad (aA (af (aa 0) ad) ad)) ae))) ae))))) aW)
   (ai (am 1 sc__law_shift_pair.nd (bv (aA (af (aa 0) ad) ad) ad))
   (ai (am 2 sc__law_shift_pair.nd (bv (aA (af (aa 0) ad) ad) ad))
   (ai (am 3 sc__law_shift_pair.nd (bv (aA (af (aa 0) ad) ad) ad))
   (ai (am 4 sc__law_shift_pair.nd (bv (aA (af (aa 0) ad) ad) ad))
   (ai (am 1 sc__law_shift_pair.nd (aj (aa 1) (gu uE (ac (gj (dv (aa 1) ad) (gh (dv (aa 2) ad))) ae))))
   (ai (bn (bg (ay (aa 1) (aa 4)) (ay (aa 2) (aa 3))) (ao (aB (aU (ac (aI (ac (aa 1) (ac (aa 2) ae))) (ac (aI (ac (bU (aa 2)) (ac (aa 1) ae))) ae))))) aW)
   (ao (aB (aU (ac (aI (ac (aa 1) (ac (aa 2) ae))) (ac (aI (ac (aa 3) (ac (aa 4) ae))) ae)))))))))))))),λds R h=>?_⟩)
 .obtain⟨_,rfl,_⟩:=h;rfl
 .obtain⟨xs,rfl,hl,hd,hR⟩:=h;have a3:=cG (xs:=xs) (k:=3) Mh (show 3<xs.length by lia);have a4:=cG (xs:=xs) (k:=4) Mh (show 4<xs.length by lia);have a5:=cG (xs:=xs) (k:=5) Mh (show 5<xs.length by lia);have a6:=cG (xs:=xs) (k:=6) Mh (show 6<xs.length by lia);have a7:=cG (xs:=xs) (k:=7) Mh (show 7<xs.length by lia);generalize cell xs 3=x3 at*;generalize cell xs 4=x4 at*;generalize cell xs 5=x5 at*;generalize cell xs 6=x6 at*;generalize cell xs 7=x7 at*;clear hl hd;refine#[_,a3,#[Mh,Mh],Mh,ite2 (λ_=>?_) (λ_=>?_)]
  .refine#[_,a4,Mh,Mn,_,a5,Mh,Mn,Mn,hR _ _ _ _ Md Md Md Md ?_];have p:0<(1+x4%6)*(1+x5%6):=HN Md Md;lia
  refine#[_,a3,#[Mh,Mh],Mh,ite2 (λ_=>?_) (λ_=>?_)]
  .refine#[_,a4,Mh,Mn,_,a6,Mh,_,a5,Mh,Mn,Mn,hR _ _ _ _ Md Md Md Md ?_];have p:0<(1+x4%6)*(1+x5%4):=HN Md Md;lia
  refine#[λd=>∃v:Int,d=.int v/\-12<=v/\v<=12,#[_,a4,Mh,_,rfl,Md],?_];intro _#[a,rfl,ha];k_places;refine#[λd=>∃v:Int,d=.int v/\-12<=v/\v<=12,#[_,a5,Mh,_,rfl,Md],?_];intro _#[b,rfl,hb];k_places;refine#[λd=>∃v:Int,d=.int v/\-12<=v/\v<=12,#[_,a6,Mh,_,rfl,Md],?_];intro _#[c,rfl,hc];k_places;refine#[λd=>∃v:Int,d=.int v/\-12<=v/\v<=12,#[_,a7,Mh,_,rfl,Md],?_];intro _#[d,rfl,g_];k_places;refine#[λx=>∃v:Int,x=.int v/\(-12<=v/\v<=12)/\¬(v=0/\b=0),ite2 (λe=>?_) (λe=>?_),?_]
  .have e':=of_decide_eq_true e;by_cases R6:b=0
   .refine#[_,rfl,?_];subst e' R6;simp
   .refine#[_,rfl,?_];subst e';simp[R6]
  .have e':=of_decide_eq_false (H8.mpr e);refine#[_,rfl,?_];simp;lia
  intro _#[a,rfl,ha,NT];k_places;refine#[.inl (i64 ha.1 ha.2),.inl (i64 hb.1 hb.2),ite2 (λe=>?_) (λe=>?_)]
  .refine#[Mn,Mn,Mn,hR a b (-b) a ha hb Md ha ?_];rw[JI];intro z;have s1:0<=a*a:=sq0 a;have s2:0<=b*b:=sq0 b;have z1:a*a=0:=by omega
   have z2:b*b=0:=Nk
   exact NT #[(JG.mp z1).elim id id,(JG.mp z2).elim id id]
  .have e':=of_decide_eq_false (H8.mpr e);exact#[Mn,Mn,Mn,hR a b c d ha hb hc g_ e']
abbrev pB(V:Bx):Prop:=V.D 1 "_law_motif_text" lL Cq
def FL(T:V.T "_law_motif_text" lK lL)(uF:V.m "str"):pB V:=by
 refine Tx.okDW T sc__law_motif_text (λds R h=>?_) (λ_ _ _ _ _ _ _ J hr=>⟨_,((ai (am 3 sc__law_motif_text.nd (aj (aj (aj (aj (aj (aj (aj aq (cR uF (ac (af (aa 1) ad) ae))) aq) (cR uF (ac (af (aa 1) ad) ae))) aq) (cR uF (ac (af (aa 2) ad) ae))) aq) (cR uF (ac (af (aa 2) ad) ae))))
   (ao (aB (aj (aj (aj aq (kA (aa 0))) (aa 3)) aq))))),λds R h=>?_⟩)
 .obtain⟨_,_,_,_,_,rfl,_⟩:=h;rfl
 .obtain⟨L,a,b,c,d,rfl,hL,ha,hb,hc,hd,hR⟩:=h;have la:=bE ha;have lb:=bE hb;have lc:=bE hc;have ld:=bE hd;have l1:(";":Lq).length=1:=rfl;have l2:(",":Lq).length=1:=rfl;have l3:("[":Lq).length=1:=rfl;have l4:("]":Lq).length=1:=rfl;have ls:=um hL;have lj:=StrLaws.join_length_le "/" L;unfold B12 at ha hb hc hd;refine#[λx=>x=.str ((((((((";":Lq)++(toString a:String))++",")++(toString b:String))++";")++(toString c:String))++",")++(toString d:String)),#[_,rfl,Md,?_,?_,_,rfl,Md,?_,?_,_,rfl,Md,?_,?_,_,rfl,Md,?_,rfl],?_]
  .lia
  .rw[aw];lia
  .rw[aw,aw];lia
  .rw[aw,aw,aw];lia
  .rw[aw,aw,aw,aw];lia
  .rw[aw,aw,aw,aw,aw];lia
  .rw[aw,aw,aw,aw,aw,aw];lia
  intro _ rfl;k_places;have lg:(Txt.join "/" L).length<=72:=by
   have e:Txt.join "/" L=Str.join "/" L:=StrLaws.glued_eq_join _ _;rw[e];exact HG lj ls
  refine#[L,kX L,Md,?_,?_,?_,hR]
  .lia
  .repeat rw[aw]
   lia
  .repeat rw[aw]
   lia
abbrev wk(V:Bx):Prop:=V.D 3 "_law_motif" lN Cs
def FM(T:V.T "_law_motif" lM lN)(MV:pA V)(Qj:wg V)(Qk:wj V)(MX:pB V):wk V:=by
 refine Tx.okDW T sc__law_motif (λds R h=>?_) (λ_ _ _ _ _ _ _ J hr=>⟨_,((ai (am 2 sc__law_motif.nd (aD MV hr (ac (aa 0) (ac (aa 1) (ac ad ae)))))
   (ai (am 3 sc__law_motif.nd (aD Qj hr (ac (aa 2) ae)))
   (ai (si rfl (aD Qk hr (ac (aa 2) ae)) (dg_cons 4 sc__law_motif.nd (dg_cons 5 sc__law_motif.nd dZ)))
   (ai (am 6 sc__law_motif.nd (aI (ac (aa 3) (ac (aa 4) (ac (aa 5) (ac (aI (ac ad (ac ad (ac ad (ac ad (ac ad (ac ad ae))))))) (ac (aU (ac ad (ac ad (ac ad (ac ad (ac ad (ac ad (ac ad ae)))))))) ae)))))))
   (ao (aB (aU (ac (aD MX hr (ac (aa 3) (ac (aa 4) (ac (aa 5) ae)))) (ac ad (ac (aU (ac (aa 6) ae)) ae))))))))))),λds R h=>?_⟩)
 .obtain⟨_,_,rfl,_⟩:=h;rfl
 .obtain⟨ns,k,rfl,hk,hR⟩:=h;refine#[λx=>∃xs:List Int,x=.lst (xs.map D.int)/\xs.length=40/\Drawn xs,#[ns,k,40,rfl,hk,Mh,λxs h1 h2=>#[xs,rfl,h1,h2]],?_];intro _#[xs,rfl,hl,hd];k_places;refine#[λx=>∃L:List Lq,x=.lst (L.map D.str)/\Rows L,#[xs,rfl,Md,hd,λL h=>#[L,rfl,h]],?_];intro _#[L,rfl,hL];k_places;refine#[xs,rfl,Md,hd,λa b c d ha hb hc g_ hn=>#[rfl,?_]];refine#[λx=>x=(bA L a b c d).D,#[Mn,Mn,Mn,rfl],?_];intro _ rfl;k_places;exact#[L,a,b,c,d,rfl,hL,ha,hb,hc,g_,Mn,Mn,hR L a b c d hL ha hb hc g_ hn]
abbrev wl(V:Bx):Prop:=V.D 1 "_law_wrapped" lP CD
def FN(T:V.T "_law_wrapped" iJ lP)(uF:V.m "str")(LK:V.m "list")(uE:V.m "int"):wl V:=by
 refine Tx.okDW T sc__law_wrapped (λds R h=>?_) (λ_ _ _ _ _ _ _ J hr=>⟨_,((ai (bn (ko (af (aa 0) ad) ad) (ao (aB (aa 0))) aW)
   (ai (am 2 sc__law_wrapped.nd (bv (aA (bb (aa 1) ad) ad) ad))
   (ai (am 3 sc__law_wrapped.nd (bv (aA (bb (aa 1) ad) ad) ad))
   (ai (am 4 sc__law_wrapped.nd (aj ad (aA (bb (aa 1) ad) ad)))
   (ai (am 5 sc__law_wrapped.nd (aj ad (aA (bb (aa 1) ad) ad)))
   (ai (am 6 sc__law_wrapped.nd (aj (aj (aj (aj aq (cR uF (ac (aa 2) ae))) aq) (cR uF (ac (aa 3) ae))) aq))
   (ai (am 7 sc__law_wrapped.nd (af (aU (ac aq (ac aq (ac (aa 6) (ac (aj (aj aq (cR uF (ac (aa 4) ae))) (cR uF (ac (aa 5) ae))) ae))))) (aA (aa 1) ad)))
   (ai (am 8 sc__law_wrapped.nd (aU (ac (aI (ac (bU ad) (ac ad (ac ad (ac ad (ac ad (ac ad ae))))))) (ac (aI (ac ad (ac ad (ac (bU ad) (ac ad (ac ad (ac ad ae))))))) ae))))
   (ai (am 8 sc__law_wrapped.nd (aj (aa 8) (aU (ac (aI (ac ad (ac ad (ac ad (ac ad (ac (bU (aa 2)) (ac (bU (aa 3)) ae))))))) (ac (aI (ac ad (ac ad (ac ad (ac ad (ac ad (ac ad ae))))))) ae)))))
   (ai (am 9 sc__law_wrapped.nd (af (aa 8) (aA (aa 1) ad)))
   (ai (gm 10 sc__law_wrapped.nd ae)
   (ai (ie 11 PassesOwn.never rfl sc__law_wrapped.nd (af (aa 0) ad) (ai (rV rfl (af (aa 11) ad) (dg_cons 12 sc__law_wrapped.nd (dg_cons 13 sc__law_wrapped.nd (dg_cons 14 sc__law_wrapped.nd (dg_cons 15 sc__law_wrapped.nd (dg_cons 16 sc__law_wrapped.nd (dg_cons 17 sc__law_wrapped.nd dZ)))))))
    (ai (am 18 sc__law_wrapped.nd (aI (ac (aj (ay (aa 12) (af (aa 9) ad)) (ay (aa 13) (af (aa 9) ad))) (ac (aj (ay (aa 12) (af (aa 9) ad)) (ay (aa 13) (af (aa 9) ad))) ae))))
    (ai (am 18 sc__law_wrapped.nd (aj (aa 18) (aI (ac (aj (ay (aa 14) (af (aa 9) ad)) (ay (aa 15) (af (aa 9) ad))) (ac (aj (ay (aa 14) (af (aa 9) ad)) (ay (aa 15) (af (aa 9) ad))) ae)))))
    (ai (am 16 sc__law_wrapped.nd (aj (aj (aa 16) (ay (aa 12) (af (aa 9) ad))) (ay (aa 13) (af (aa 9) ad))))
    (ai (am 17 sc__law_wrapped.nd (aj (aj (aa 17) (ay (aa 14) (af (aa 9) ad))) (ay (aa 15) (af (aa 9) ad))))
    (ai (am 19 sc__law_wrapped.nd (zR LK (ac (af (aa 11) ad) ae)))
    (ai (dY (bg (aA (aa 1) ad) ad) (ao (Ah 19 rfl (compScope (by change dA _ (ag iJ) ["_law_part","_law_draw","_law_across","_law_down","_law_old","_law_new","_law_shift","_law_head","_law_ways","_law_by","_law_leaves","_law_leaf","_law_a","_law_b","_law_c","_law_d","_law_e","_law_f","_law_way","_law_hues"] _=true;decide+kernel)) sc__law_wrapped.nd (af (aa 11) ad) (λcl s0 H0 fp=>(af (aU (ac (aa 20) (ac (aa 5) ae))) (gu uE (ac (dv (aa 20) (aa 4)) ae)))))) aW)
    (ao (gp 10 (aI (ac (af (aa 11) ad) (ac (af (aa 11) ad) (ac (af (aa 11) ad) (ac (aj (aa 18) (aI (ac (aa 16) (ac (aa 17) ae)))) (ac (aa 19) ae))))))))))))))))
   (dX 10 (ao (aB (aU (ac (aj (aa 7) (af (aa 0) ad)) (ac (aj (af (aa 0) ad) ad) (ac (aa 10) ae)))))))))))))))))))),λds R h=>?_⟩)
 .obtain⟨_,_,rfl,_⟩:=h;rfl
 .obtain⟨p,draw,rfl,wf,hd,ht,hW⟩:=h;refine#[_,rfl,ite2 (λc=>?_) (λc=>?_)]
  .have c':=of_decide_eq_true c;exact hW.1 Md
  have c':=of_decide_eq_false (H8.mpr c);have g_:p.depth<5:=Md
  refine#[λd=>∃v:Int,d=.int v/\B12 v,#[#[Mh,Mh],Mh,_,rfl,RA],?_];intro _#[A,rfl,hA];k_places;refine#[λd=>∃v:Int,d=.int v/\B12 v,#[#[Mh,Mh],Mh,_,rfl,RA],?_];intro _#[B,rfl,hB];k_places;refine#[λd=>∃v:Int,d=.int v/\1<=v/\v<=6,#[#[Mh,Mh],Mh,_,rfl,Md],?_];intro _#[f7,rfl,ho];k_places;refine#[λd=>∃v:Int,d=.int v/\1<=v/\v<=6,#[#[Mh,Mh],Mh,_,rfl,Md],?_];intro _#[new,rfl,hn];k_places;have l1:("s":Lq).length=1:=rfl;have l2:(",":Lq).length=1:=rfl;have l3:(":":Lq).length=1:=rfl;have l4:("h":Lq).length=1:=rfl;have lA:=bE hA;have lB:=bE hB;have lo:=dF ho;have ln:=dF hn;let#[hs,b0,b1,b2,b3,b4,b5,e1,e2,hb,hl,hR]:=CB hW g_ (k:=0) hA hB ho hn Md;unfold B12 at hA hB;refine#[λx=>x=.str ((((("s":Lq)++(toString A:String))++",")++(toString B:String))++":"),#[Md,?_,?_,Md,?_,?_,rfl],?_]
  .lia
  .rw[aw];lia
  .rw[aw,aw];lia
  .rw[aw,aw,aw];lia
  intro _ rfl;k_places;refine#[λx=>x=.str hs,#[Md,?_,Md,?_,Mn,Mh,_,e1,rfl],?_]
  .lia
  .rw[aw];lia
  intro _ rfl;k_places;refine#[λx=>x=.lst [D.tup [.int (-1),.int 0,.int 0,.int 1,.int 0,.int 0],D.tup [.int 0,.int 1,.int (-1),.int 0,.int 0,.int 0]],#[Mn,Mn,Mn,rfl],?_];intro _ rfl;k_places;refine#[λx=>x=.lst ([D.tup [.int (-1),.int 0,.int 0,.int 1,.int 0,.int 0],D.tup [.int 0,.int 1,.int (-1),.int 0,.int 0,.int 0]]++[D.tup [.int 1,.int 0,.int 0,.int 1,.int (-A),.int (-B)],D.tup [.int 1,.int 0,.int 0,.int 1,.int 0,.int 0]]),#[Mn,Mn,Mn,Mn,rfl],?_];intro _ rfl;k_places;refine#[λx=>x=.tup [.int b0,.int b1,.int b2,.int b3,.int b4,.int b5],#[Mh,_,e2,rfl],?_];intro _ rfl;k_places;refine#[Mn,?_];generalize D.str ((((("s":Lq)++(toString A:String))++",")++(toString B:String))++":")=sD;generalize D.lst ([D.tup [.int (-1),.int 0,.int 0,.int 1,.int 0,.int 0],D.tup [.int 0,.int 1,.int (-1),.int 0,.int 0,.int 0]]++[D.tup [.int 1,.int 0,.int 0,.int 1,.int (-A),.int (-B)],D.tup [.int 1,.int 0,.int 0,.int 1,.int 0,.int 0]])=wD;clear e1 e2 hW lA lB lo ln l1 l2 l3 l4 hA hB c';refine#[_,rfl,λk z=>∃Mv Mw y8 y9 Ql Qm Qn Qo MY:Option D,z=[be p.D,be (.int draw),be (.int A),be (.int B),be (.int f7),be (.int new),be sD,be (.str hs),be wD,be (.tup [.int b0,.int b1,.int b2,.int b3,.int b4,.int b5]),be (.own (((p.leaves.take k).map (Leaf.T (decide (draw%4=3)) f7 new b0 b1 b2 b3 b4 b5)).map Leaf.D)),Mv,Mw,y8,y9,Ql,Qm,Qn,Qo,MY],#[_,_,_,_,_,_,_,_,_,rfl],?_,?_]
  .rintro k v z hk⟨Mv,Mw,y8,y9,Ql,Qm,Qn,Qo,MY,rfl⟩;k_places;rw[HI]at hk;have r_:k<p.leaves.length:=by
    rcases IV k p.leaves.length with q|q
    .exact q
    .rw[Io q]at hk;cases hk
   have MZ:p.leaves[k]?=be p.leaves[k]:=HP r_;rw[MZ]at hk;cases hk;let#[gd,nr]:=Pat.leaf_good wf p.leaves[k] (Im r_);have b9:(p.leaves.take k).length<=1000:=by rw[Jh];have:=Pat.leaves_32 hd;lia
   generalize p.leaves[k]=l at MZ gd nr;let#[r0,r1,r2,r3]:=nr.unit;let#[q0,q1,q2,q3,q4,q5]:=hb;refine#[_,rfl,rfl,?_];refine#[λx=>x=.tup [.int (l.w0*b0+l.w1*b2),.int (l.w0*b1+l.w1*b3)],#[_,rfl,.inr (n64 q0),_,rfl,.inr (n64 q2),_,rfl,.inr (n64 q1),_,rfl,.inr (n64 q3),Mn,rfl],?_];intro _ rfl;k_places;refine#[λx=>x=.tup [.int (l.w0*b0+l.w1*b2),.int (l.w0*b1+l.w1*b3),.int (l.w2*b0+l.w3*b2),.int (l.w2*b1+l.w3*b3)],#[_,rfl,.inr (n64 q0),_,rfl,.inr (n64 q2),_,rfl,.inr (n64 q1),_,rfl,.inr (n64 q3),Mn,Mn,rfl],?_];intro _ rfl;k_places;refine#[λx=>x=.int (l.w4+l.w0*b4+l.w1*b5),#[_,rfl,.inr (n64 q4),_,rfl,.inr (n64 q5),rfl],?_];intro _ rfl;k_places;refine#[λx=>x=.int (l.w5+l.w2*b4+l.w3*b5),#[_,rfl,.inr (n64 q4),_,rfl,.inr (n64 q5),rfl],?_];intro _ rfl;k_places;refine#[λx=>x=.lst (l.hues.map D.int),#[_,rfl,rfl],?_];intro _ rfl;k_places;refine#[λz=>∃MY:List Int,MY=(Leaf.T (decide (draw%4=3)) f7 new b0 b1 b2 b3 b4 b5 l).hues/\z=[be p.D,be (.int draw),be (.int A),be (.int B),be (.int f7),be (.int new),be sD,be (.str hs),be wD,be (.tup [.int b0,.int b1,.int b2,.int b3,.int b4,.int b5]),be (.own (((p.leaves.take k).map (Leaf.T (decide (draw%4=3)) f7 new b0 b1 b2 b3 b4 b5)).map Leaf.D)),be l.D,be (.int l.w0),be (.int l.w1),be (.int l.w2),be (.int l.w3),be (.int (l.w4+l.w0*b4+l.w1*b5)),be (.int (l.w5+l.w2*b4+l.w3*b5)),be (.tup [.int (l.w0*b0+l.w1*b2),.int (l.w0*b1+l.w1*b3),.int (l.w2*b0+l.w3*b2),.int (l.w2*b1+l.w3*b3)]),be (.lst (MY.map D.int))],#[Mh,ite2 (λc=>?_) (λc=>?_)],?_]
   .have c3:=of_decide_eq_true c;refine#[λx=>x=.lst ((l.hues.map (bL f7 new)).map D.int),#[_,rfl,by rw[HE,gd.many];decide,λk ys=>ys=((l.hues.take k).map (bL f7 new)).map D.int,rfl,?_,?_],?_]
    .rintro k' x ys hx hl rfl;rw[HI]at hx;cases e:l.hues[k']? with
     |none=>rw[e]at hx;cases hx
     |some hu=>
      rw[e]at hx;cases hx;refine#[Mn,_,CC hu f7 new,?_];dsimp only;rw[take_snoc e];simp
    .rintro ys hl rfl;rw[HE,JH]
    .rintro _ rfl;k_places;exact#[_,by simp[Leaf.T,c3,Leaf.dye,Leaf.by],rfl]
   .have c3:=of_decide_eq_false (H8.mpr c);exact#[_,by simp[Leaf.T,c3,Leaf.by],rfl]
   intro _#[hu,T5,rfl];k_places;refine#[_,rfl,_,rfl,_,rfl,Mn,Mn,Mn,by rw[HE,HE];lia,?_];have eT:(D.tup [.lst (l.rows.map D.str),.tup [.int l.a,.int l.b],.tup [.int l.c,.int l.d],.tup ([.int (l.w0*b0+l.w1*b2),.int (l.w0*b1+l.w1*b3),.int (l.w2*b0+l.w3*b2),.int (l.w2*b1+l.w3*b3)]++[.int (l.w4+l.w0*b4+l.w1*b5),.int (l.w5+l.w2*b4+l.w3*b5)]),.lst (hu.map D.int)])=(Leaf.T (decide (draw%4=3)) f7 new b0 b1 b2 b3 b4 b5 l).D:=by
    rw[T5];by_cases c3:draw%4=3
    .simp[Leaf.T,c3,Leaf.D,Leaf.dye,Leaf.by]
    .simp[Leaf.T,c3,Leaf.D,Leaf.by]
   have e9:((p.leaves.take (k+1)).map (Leaf.T (decide (draw%4=3)) f7 new b0 b1 b2 b3 b4 b5)).map Leaf.D=((p.leaves.take k).map (Leaf.T (decide (draw%4=3)) f7 new b0 b1 b2 b3 b4 b5)).map Leaf.D++[(Leaf.T (decide (draw%4=3)) f7 new b0 b1 b2 b3 b4 b5 l).D]:=by
    rw[take_snoc MZ,Ia,Ia,HR,HR,IT,IT]
   rw[e9,<-eT];exact#[_,_,_,_,_,_,_,_,_,rfl]
  .rintro z⟨Mv,Mw,y8,y9,Ql,Qm,Qn,Qo,MY,rfl⟩;k_places;rw[HE,JH];refine#[_,rfl,Md,_,rfl,Mn,hR]
abbrev pC(V:Bx):Prop:=V.D 1 "_law_gcd" lR B5
def FO(T:V.T "_law_gcd" lQ lR)(uS:V.m "abs"):pC V:=by
 refine Tx.okDW T sc__law_gcd (λds R h=>?_) (λ_ _ _ _ _ _ _ J hr=>⟨_,((ai (am 0 sc__law_gcd.nd (eZ uS (ac (aa 0) ae)))
   (ai (am 1 sc__law_gcd.nd (eZ uS (ac (aa 1) ae)))
   (ai (gq PassesOwn.never (cE (aa 1) ad) (ao (zM 0 1 rfl sc__law_gcd.nd (ac (aa 1) (ac (aA (aa 0) (aa 1)) ae)))))
   (ao (aB (aa 0))))))),λds R h=>?_⟩)
 .obtain⟨x,y,rfl,_⟩:=h;rfl
 .obtain⟨x,y,rfl,hR⟩:=h;refine#[λd=>d=.int (if x<0 then -x else x),rfl,?_];intro _ rfl;k_places;refine#[λd=>d=.int (if y<0 then -y else y),rfl,?_];intro _ rfl;k_places;have hx:0<=(if x<0 then -x else x):=by split<;>lia
  have hy:0<=(if y<0 then -y else y):=by split<;>lia
  have Qp:∀e,(e∣(if x<0 then -x else x)/\e∣(if y<0 then -y else y))↔(e∣x/\e∣y):=λe=>by rw[ue,ue]
  generalize (if x<0 then -x else x)=a at hx Qp ⊢;generalize (if y<0 then -y else y)=b at hy Qp ⊢;refine#[λm z=>∃a b:Int,z=[be (.int a),be (.int b)]/\0<=a/\0<=b/\(∀e,(e∣a/\e∣b)↔(e∣x/\e∣y))/\m=b.toNat,#[_,a,b,rfl,hx,hy,Qp,rfl],?_];intro m z#[a,b,rfl,ha,hb,NT,rfl];k_places;refine ite2 (λc=>?_) (λc=>?_)
  .have c':¬b=0:=by simpa using c
   have q1:=cU (a:=a) (show 0<b by lia);have q2:=cV (a:=a) (show 0<b by lia);refine#[Md,_,?_,b,a%b,rfl,hb,q1,λe=>?_,rfl]
   .lia
   .rw[<-NT e];constructor
    .rintro⟨h1,h2⟩;exact#[(uf h1).mp h2,h1]
    .rintro⟨h1,h2⟩;exact#[h2,(uf h2).mpr h1]
  .have c':b=0:=by simpa using c
   subst c';have g:=(NT a).mp #[Int.dvd_refl a,Int.dvd_zero a];exact hR a ha g.1 g.2 λe h1 h2=>((NT e).mpr #[h1,h2]).1
abbrev pD(V:Bx):Prop:=V.D 1 "_law_on" lV B4
def FP(T:V.T "_law_on" lU lV):pD V:=by
 refine Tx.okDW T sc__law_on (λds R h=>?_) (λ_ _ _ _ _ _ _ J hr=>⟨_,((ai (am 4 sc__law_on.nd (bv (ay (af (aa 0) ad) (af (aa 1) ad)) (ay (af (aa 0) ad) (af (aa 1) ad))))
   (ao (aB (gj (dv (rC (bv (ay (aa 2) (af (aa 1) ad)) (ay (aa 3) (af (aa 1) ad))) (aa 4)) ad) (gh (dv (rC (bv (ay (af (aa 0) ad) (aa 3)) (ay (af (aa 0) ad) (aa 2))) (aa 4)) ad))))))),λds R h=>?_⟩)
 .obtain⟨a,b,c,d,u,v,rfl,_⟩:=h;rfl
 .obtain⟨a,b,c,d,u,v,rfl,ha,hb,hc,hd,hn,hR⟩:=h;have M0:∀{x:Int},x.natAbs<1073741824->-(2^64)<x/\x<2^64:=λh=>n64 (Nat.le_of_lt_succ h);refine#[λx=>x=.int (a*d-b*c),#[_,rfl,_,rfl,.inl (M0 ha),_,rfl,_,rfl,.inl (M0 hb),rfl],?_];intro _ rfl;k_places;refine#[_,rfl,.inr (M0 hd),_,rfl,.inr (M0 hc),Nk,ite2 (λe=>?_) (λe=>?_)]
  .have e':=of_decide_eq_true e;refine#[_,rfl,.inl (M0 ha),_,rfl,.inl (M0 hb),Nk,?_];have q:decide ((a*v-b*u).fmod (a*d-b*c)=0)=decide ((u*d-v*c).fmod (a*d-b*c)=0/\(a*v-b*u).fmod (a*d-b*c)=0):=by simp[e']
   have g:R (.bl (decide ((a*v-b*u).fmod (a*d-b*c)=0))):=by rw[q];exact hR
   exact g
  .have e':=of_decide_eq_false (H8.mpr e);have q:decide ((u*d-v*c).fmod (a*d-b*c)=0/\(a*v-b*u).fmod (a*d-b*c)=0)=false:=by simp[e']
   rw[q]at hR;exact hR
abbrev wm(V:Bx):Prop:=V.D 2 "_law_leaf_family" lY CG
def FQ(T:V.T "_law_leaf_family" lW lY)(uS:V.m "abs")(M4:pC V)(M5:pD V):wm V:=by
 refine Tx.okDW T sc__law_leaf_family (λds R h=>?_) (λ_ _ _ _ _ _ _ J hr=>⟨_,((ai (rV rfl (af (aa 0) ad) (dg_cons 1 sc__law_leaf_family.nd (dg_cons 2 sc__law_leaf_family.nd (dg_cons 3 sc__law_leaf_family.nd (dg_cons 4 sc__law_leaf_family.nd (dg_cons 5 sc__law_leaf_family.nd (dg_cons 6 sc__law_leaf_family.nd dZ)))))))
   (ai (am 7 sc__law_leaf_family.nd (aI (ac (aj (ay (aa 1) (af (af (aa 0) ad) ad)) (ay (aa 3) (af (af (aa 0) ad) ad))) (ac (aj (ay (aa 2) (af (af (aa 0) ad) ad)) (ay (aa 4) (af (af (aa 0) ad) ad))) ae))))
   (ai (am 8 sc__law_leaf_family.nd (aI (ac (aj (ay (aa 1) (af (af (aa 0) ad) ad)) (ay (aa 3) (af (af (aa 0) ad) ad))) (ac (aj (ay (aa 2) (af (af (aa 0) ad) ad)) (ay (aa 4) (af (af (aa 0) ad) ad))) ae))))
   (ai (am 9 sc__law_leaf_family.nd (aD M4 hr (ac (af (aa 7) ad) (ac (af (aa 8) ad) ae))))
   (ai (am 10 sc__law_leaf_family.nd (bb (eZ uS (ac (bv (ay (af (aa 7) ad) (af (aa 8) ad)) (ay (af (aa 7) ad) (af (aa 8) ad))) ae)) (aa 9)))
   (ai (am 11 sc__law_leaf_family.nd ad)
   (ai (gq PassesOwn.never (fj (cm (aD M5 hr (ac (aa 7) (ac (aa 8) (ac (aa 11) (ac (aa 9) ae))))))) (ao (am 11 sc__law_leaf_family.nd (aj (aa 11) ad))))
   (ao (aB (aI (ac (aa 10) (ac (aa 9) (ac (aa 11) ae)))))))))))))),λds R h=>?_⟩)
 .obtain⟨_,_,rfl,_⟩:=h;rfl
 .obtain⟨l,n,rfl,gd,nr,hR⟩:=h;let#[h0,h1,h2,h3]:=nr.unit;let#[z0,z1,z2,z3,ne,z5]:=Leaf.sizes gd nr;have ha:=gd.a;have hb:=gd.b;have hc:=gd.c;have hd:=gd.d;unfold B12 at ha hb hc hd;refine#[_,rfl,rfl,?_];refine#[λx=>x=.tup [.int l.o0,.int l.o1],#[_,rfl,_,rfl,.inl (u64 h0),_,rfl,_,rfl,.inl (u64 h2),_,rfl,_,rfl,.inl (u64 h1),_,rfl,_,rfl,.inl (u64 h3),Mn,rfl],?_];intro _ rfl;k_places;refine#[λx=>x=.tup [.int l.t0,.int l.t1],#[_,rfl,_,rfl,.inl (u64 h0),_,rfl,_,rfl,.inl (u64 h2),_,rfl,_,rfl,.inl (u64 h1),_,rfl,_,rfl,.inl (u64 h3),Mn,rfl],?_];intro _ rfl;k_places;generalize l.o0=o0 at*;generalize l.o1=o1 at*;generalize l.t0=t0 at*;generalize l.t1=t1 at*;refine#[λx=>∃g:Int,x=.int g/\0<=g/\g∣o1/\g∣t1/\∀e,e∣o1->e∣t1->e∣g,#[_,rfl,_,rfl,o1,t1,rfl,λg q0 q1 q2 q3=>#[g,rfl,q0,q1,q2,q3]],?_];intro _#[g,rfl,q0,q1,q2,q3];k_places;let#[w,s,f]:=CF ne q0 q1 q2 q3;have hg:=f.2.1;have k1:=bK (a:=o0) (d:=t1) (A:=24) (B:=24) z0 z3;have k2:=bK (a:=o1) (d:=t0) (A:=24) (B:=24) z1 z2;have UP:=f.bd (N:=288) z5;have k8:=f.cells;have ew:(if o0*t1-o1*t0<0 then -(o0*t1-o1*t0)else o0*t1-o1*t0)/g=w:=by
   have hp:=HN f.1 hg;have:(if o0*t1-o1*t0<0 then -(o0*t1-o1*t0)else o0*t1-o1*t0)=w*g:=by split<;>lia
   rw[this];exact Ib _ Md
  refine#[λx=>x=.int w,#[_,rfl,_,rfl,.inl (n64 z0),_,rfl,_,rfl,.inl (n64 z1),#[Md,Md],?_],?_]
  .exact congrArg D.int ew
  intro _ rfl;k_places;refine#[λx=>x=.int 0,rfl,?_];intro _ rfl;k_places;have hp:=HN f.1 hg;refine#[λm z=>∃x:Int,z=[be l.D,be (.int l.w0),be (.int l.w1),be (.int l.w2),be (.int l.w3),be (.int l.w4),be (.int l.w5),be (.tup [.int o0,.int o1]),be (.tup [.int t0,.int t1]),be (.int g),be (.int w),be (.int x)]/\0<=x/\x<=s/\m=(s-x).toNat,#[_,0,rfl,Md,f.2.2.1,rfl],?_];intro m z#[x,rfl,x0,x1,rfl];k_places;refine#[o0,o1,t0,t1,x,g,rfl,Md,Md,Md,Md,ne,?_];refine ite2 (λc=>?_) (λc=>?_)
  .have c':¬((x*t1-g*t0).fmod (o0*t1-o1*t0)=0/\(o0*g-o1*x).fmod (o0*t1-o1*t0)=0):=notT c;have xs:x≠s:=by
    intro rfl;let#[_,_,_,_,m',n',k',l',_,e1,e2,e3,e4]:=id f;exact c' (tY e3 e4)
   refine#[λd=>d=.int (x+1),rfl,?_];intro _ rfl;k_places;exact#[_,Md,x+1,rfl,Md,Md,rfl]
  .have c':(x*t1-g*t0).fmod (o0*t1-o1*t0)=0/\(o0*g-o1*x).fmod (o0*t1-o1*t0)=0:=by
    exact notF c
   let#[i,j,e1,e2]:=uz ne c';have:x=s:=f.uniq_lean e1 e2 x0 x1;subst this;exact#[Mn,hR w g x f Md]
abbrev wn(V:Bx):Prop:=V.D 1 "_law_in_family" md B3
def FR(T:V.T "_law_in_family" lZ md):wn V:=by
 refine Tx.okDW T EC (λds R h=>?_) (λ_ _ _ _ _ _ _ J hr=>#[_,((ao (aB (gj (dv (aA (aa 2) (af (aa 0) ad)) ad) (gh (dv (aA (bv (aa 1) (ay (bb (aa 2) (af (aa 0) ad)) (af (aa 0) ad))) (af (aa 0) ad)) ad)))))),λds R h=>?_])
 .obtain⟨w,h,s,x,y,rfl,_⟩:=h;rfl
 .obtain⟨w,h,s,x,y,rfl,hw,hh,Li,hs,j_,hR⟩:=h;refine#[_,rfl,hh,ite2 (λc=>?_) (λc=>?_)]
  .have c':=of_decide_eq_true c;refine#[_,rfl,#[hh,Li],_,rfl,.inr #[Md,Md],_,rfl,hw,?_];have e:decide ((x-y/h*s)%w=0)=decide (y%h=0/\(x-y/h*s)%w=0):=by simp[c']
   have g:R (.bl (decide ((x-y/h*s)%w=0))):=by rw[e];exact hR
   exact g
  .have c':=of_decide_eq_false (H8.mpr c);have e:decide (y%h=0/\(x-y/h*s)%w=0)=false:=by simp[c']
   rw[e]at hR;exact hR
abbrev wo(V:Bx):Prop:=V.D 2 "_law_both" mf CJ
def FS(T:V.T "_law_both" me mf)(M4:pC V)(Qq:wn V):wo V:=by
  refine Tx.okDW T sc__law_both (λds R h=>?_) (λ_ _ _ _ _ _ _ J hr=>⟨_,((ai (am 2 sc__law_both.nd (bb (ay (af (aa 0) ad) (af (aa 1) ad)) (aD M4 hr (ac (af (aa 0) ad) (ac (af (aa 1) ad) ae)))))
      (ai (am 3 sc__law_both.nd (af (aa 0) ad))
      (ai (gq PassesOwn.never (zF (ay (aa 2) (aa 3)) ad) (ai (am 4 sc__law_both.nd (aA (ay (af (aa 0) ad) (bb (aa 3) (af (aa 0) ad))) (af (aa 0) ad)))
        (ai (gq PassesOwn.never (gf (aa 4) (aa 2)) (ai (bn (cm (aD Qq hr (ac (aa 1) (ac (aa 4) (ac (aa 3) ae))))) (ao (aB (aI (ac (aa 2) (ac (aa 3) (ac (aa 4) ae)))))) aW)
          (ao (am 4 sc__law_both.nd (aj (aa 4) (af (aa 0) ad))))))
        (ao (am 3 sc__law_both.nd (aj (aa 3) (af (aa 0) ad)))))))
      (ao (aB cN)))))),λds R h=>?_⟩)
  . let#[_,_,_,_,_,_,rfl,_]:=h;rfl
  . let#[w1,h1,s1,w2,h2,s2,rfl,f1,f2,hR]:=h;let#[a1,a2,a3,a4,a5,a6]:=f1;let#[b1,b2,b3,b4,b5,b6]:=f2;let#[g,u,W,Hh,S,A,M1,eW,M]:=CI #[a1,a2,a3,a4,a5,a6] #[b1,b2,b3,b4,b5,b6];have R7:=hR W Hh S A M;have wb:W<=518400:=by
      have:=(kW a1 b1 M1).2.1;have:=bK (a:=w1) (d:=w2) (A:=720) (B:=720) Md Md;lia
    have mw:=M.w0;have mh:=M.h0;have ms:=M.s0;have UQ:=M.sw;refine#[λx=>x=.int W,#[_,rfl,_,rfl,.inl #[Md,Md],_,rfl,_,rfl,w1,w2,rfl,λG q0 q1 q2 q3=>?_],?_]
    . have eG:=M1.gcd q0 q1 q2 q3;subst eG;have hg:=M1.pos a1;have Qr:=M1.le a1;exact#[#[hg,Md],by rw[<-eW]]
    intro _ rfl;k_places;refine#[λx=>x=.int h1,#[_,rfl,rfl],?_];intro _ rfl;k_places;let#[i0,j0,eS,eH]:=M.up1;have T6:1<=j0:=by
      rcases(Md:j0<=0\/1<=j0)with z|z
      . have:=IG z (show 0<=h1 by lia);lia
      . exact z
    refine#[λm z=>∃(j:Int) (o:Option D),z=[be (.tup [.int w1,.int h1,.int s1]),be (.tup [.int w2,.int h2,.int s2]),be (.int W),be (.int (j*h1)),o]/\1<=j/\j<=j0/\m=(j0-j).toNat,#[_,1,_,by rw[Int.one_mul];rfl,Md,T6,rfl],?_];intro m z#[j,o,rfl,LL,T7,rfl];k_places;have T8:0<j*h1:=HN Md a3;have T9:j*h1<=Hh:=by
      rw[eH];exact HZ T7 Md
    have UR:=KH T9 (show 0<=W by lia);refine#[.inl #[Md,Md],ite2 (λc=>?_) (λc=>?_)]
    . have c':=of_decide_eq_true c;have US:j*h1<=720:=by
        have:=(cT (w:=W) (h:=j*h1) mw T8).2;lia
      have T_:j*h1/h1=j:=Ib _ Md;refine#[λx=>∃v:Int,x=.int v/\0<=v/\v<w1/\∃i,v=i*w1+j*s1,#[_,rfl,_,rfl,#[Md,Md],.inl #[Md,Md],_,rfl,a1,_,rfl,cU a1,cV a1,?_],?_]
      . rw[T_];refine#[-(s1*j/w1),?_];have:=IP (s1*j) w1;rw[this];have e1:s1*j=j*s1:=HY _ _;have e2:w1*(s1*j/w1)=s1*j/w1*w1:=HY _ _;rw[e2,J2];lia
      intro _#[x0,rfl,x1,x2,i1,R8];k_places;refine#[λm z=>∃(x:Int),z=[be (.tup [.int w1,.int h1,.int s1]),be (.tup [.int w2,.int h2,.int s2]),be (.int W),be (.int (j*h1)),be (.int x)]/\0<=x/\(∃i,x=i*w1+j*s1)/\(j=j0->x<=S)/\m=(W-x).toNat,#[_,x0,rfl,x1,#[i1,R8],λej=>?_,rfl],?_]
      . subst ej;let#[k,ek,k0]:=CK a1 x2 x1 ms eS #[i1,R8];have:=J0 k0 (show 0<=w1 by lia);lia
      intro m z#[x,rfl,y0,#[i2,ex],yS,rfl];k_places;refine ite2 (λc=>?_) (λc=>?_)
      . have cW:=of_decide_eq_true c;refine#[w2,h2,s2,x,j*h1,rfl,b1,b3,Md,b5,Md,?_];refine ite2 (λq=>?_) (λq=>?_)
        . have q':=of_decide_eq_true q;let#[i3,k3,e3,e4]:=CH q';let#[z1,z2]:=M.high a3 LL #[i2,ex] #[i3,k3,e3,e4];have Qt:j*h1=Hh:=by lia
          have:=z2 Qt y0 cW;subst this;have:=R7.1 (by rw[<-Qt];lia);rw[<-Qt]at this;exact#[Mn,this]
        . have q':=of_decide_eq_false (H8.mpr q);refine#[λd=>d=.int (x+w1),#[_,rfl,rfl],?_];intro _ rfl;k_places;refine#[_,Md,x+w1,rfl,Md,#[i2+1,Np],λej=>?_,rfl];subst ej;have hx:=yS rfl;have ne:x≠S:=by
            intro rfl;let#[i4,j4,e5,e6]:=M.up2;exact q' (in_fam (i:=i4) (j:=j4) b3 e5 (by rw[<-eH];exact e6))
          have:∃t:Int,S=x+t*w1:=#[i0-i2,by rw[ex];grind];let#[t,et]:=this;have t1:1<=t:=by
            rcases(Md:t<=0\/1<=t)with z|z
            . have:=IG z (show 0<=w1 by lia);lia
            . exact z
          have:=HZ t1 (show 0<=w1 by lia);lia
      . have cW:=of_decide_eq_false (H8.mpr c);have UT:j<j0:=by
          rcases(Md:j<j0\/j=j0)with z|z
          . exact z
          . have:=yS z;lia
        refine#[λd=>d=.int ((j+1)*h1),#[_,rfl,by congr 1;grind],?_];intro _ rfl;k_places;exact#[_,Md,j+1,_,rfl,Md,Md,rfl]
    . have c':=of_decide_eq_false (H8.mpr c);exact R7.2 Md
abbrev wr(V:Bx):Prop:=V.D 3 "_law_family" mj CL
def FT(T:V.T "_law_family" mi mj)(OL:wm V)(Qv:wo V):wr V:=by
  refine Tx.okDW T sc__law_family (λds R h=>?_) (λ_ _ _ _ _ _ _ J hr=>⟨_,((ai (am 1 sc__law_family.nd (aD OL hr (ac (af (aa 0) ad) ae)))
      (ai (ie 2 PassesOwn.never rfl sc__law_family.nd (Aa (aa 0) ad) (ai (am 1 sc__law_family.nd (aD Qv hr (ac (aa 1) (ac (aD OL hr (ac (aa 2) ae)) ae))))
        (ao (bn (rM (aa 1) cN) (ao (aB cN)) aW))))
      (ao (aB (aa 1)))))),λds R h=>?_⟩)
  . let#[_,_,rfl,_]:=h;rfl
  . let#[ls,n,rfl,k_,hg,hR]:=h;cases ls with
    |nil=>exact absurd rfl k_
    |cons l0 ls=>
    refine#[λx=>∃w h s:Int,x=.tup [.int w,.int h,.int s]/\FamOf l0.o0 l0.o1 l0.t0 l0.t1 w h s/\w*h<=288,#[_,bZ (j:=0) rfl,l0,n,rfl,(hg l0 Hy).1,(hg l0 Hy).2,λw h s f q=>#[w,h,s,rfl,f,q]],?_];intro _#[w0,h0,s0,rfl,f0,q0];k_places;have ec:cutD (JA Leaf.D (l0::ls)) (be 1) w6=ls.map Leaf.D:=by rw[HR,cut1]
    refine#[λk z=>∃(w h s:Int) (o:Option D),z=[be (.lst ((l0::ls).map Leaf.D)),be (.tup [.int w,.int h,.int s]),o]/\Fam0 w h s/\w*h<=720/\∀x y,InF w h s x y↔bR (l0::ls.take k) x y,#[w0,h0,s0,_,rfl,#[f0.1,f0.2.1,f0.2.2.1,f0.2.2.2.1],Md,λx y=>?_],?_,?_]
    . rw[f0.lat];constructor
      . intro q l z;rcases Hx.mp z with e|e
        . rw[e];exact q
        . cases e
      . intro q;exact q l0 Hy
    . intro k v z hk#[w,h,s,o,rfl,fm,R9,lat];k_places;rw[ec,HI]at hk;have r_:k<ls.length:=by
        rcases IV k ls.length with q|q
        . exact q
        . rw[Io q]at hk;cases hk
      have MZ:ls[k]?=be ls[k]:=HP r_;rw[MZ]at hk;cases hk;let#[gd,nr]:=hg ls[k] (Hz _ (Im r_));have NU:∀l∈ls.drop (k+1),l.Good/\l.Near n:=λl q=>hg l (Hz _ (Kk q));have Lw:∀x y,bR (l0::ls) x y↔(bR (l0::ls.take k) x y/\ls[k].Lat x y)/\bR (ls.drop (k+1)) x y:=λx y=>by
        have ed:ls=ls.take k++ls[k]::ls.drop (k+1):=by rw[<-IQ r_,K6]
        constructor
        . intro q;refine#[#[λl z=>?_,q _ (Hz _ (Im r_))],λl z=>q l (Hz _ (Kk z))];rcases Hx.mp z with e|e
          . exact q l (e ▸ Hy)
          . exact q l (Hz _ (List.mem_of_mem_take e))
        . intro#[#[q1,q2],q3]l z;rcases Hx.mp z with e|e
          . exact q1 l (e ▸ Hy)
          . rw[ed]at e;rcases HX.mp e with e|e
            . exact q1 l (Hz _ e)
            . rcases Hx.mp e with e|e
              . rw[e];exact q2
              . exact q3 l e
      have k6:∀x y,bR (l0::ls.take (k+1)) x y↔bR (l0::ls.take k) x y/\ls[k].Lat x y:=λx y=>by
        rw[take_snoc MZ];constructor
        . intro q;refine#[λl z=>q l ?_,q _ (Hz _ (HU _ Hy))];rcases Hx.mp z with e|e
          . rw[e];exact Hy
          . exact Hz _ (IR _ e)
        . intro#[q1,q2]l z;rcases Hx.mp z with e|e
          . exact q1 l (e ▸ Hy)
          . rcases HX.mp e with e|e
            . exact q1 l (Hz _ e)
            . rw[Hv.mp e];exact q2
      generalize ls[k]=l at gd nr Lw k6;let#[p1,p2]:=cT fm.w0 fm.h0;refine#[λx=>(∃w h s:Int,x=.tup [.int w,.int h,.int s]/\Fam0 w h s/\w*h<=720/\∀x y,InF w h s x y↔bR (l0::ls.take (k+1)) x y)\/(x=.non/\R .non),#[l,n,rfl,gd,nr,λw2 h2 s2 f2 b2=>?_],?_]
      . let#[r1,r2]:=cT f2.1 f2.2.1;refine#[w,h,s,w2,h2,s2,rfl,#[fm.w0,Md,fm.h0,Md,fm.s0,fm.sw],#[f2.1,Md,f2.2.1,Md,f2.2.2.1,f2.2.2.2.1],λW Hh S A M=>#[λq=>?_,λq=>?_]]
        . refine .inl #[W,Hh,S,rfl,#[M.w0,M.h0,M.s0,M.sw],q,λx y=>?_];rw[M.lat,lat,f2.lat,k6];exact Iff.rfl
        . refine .inr #[rfl,?_];let#[w3,h3,s3,f3,e3]:=vc (ls.drop (k+1)) W Hh S #[M.w0,M.h0,M.s0,M.sw] NU;refine(hR w3 h3 s3 f3 λx y=>?_).2 ?_
          . rw[e3,M.lat,lat,f2.lat,Lw];exact Iff.rfl
          . have:=(InF.le M.w0 M.h0 f3.w0 f3.h0 (λx y z=>((e3 x y).mp z).1)).1;lia
      . rintro _ (⟨W,Hh,S,rfl,Ua,q,e'⟩|⟨rfl,hn⟩);k_places
        . try simp only[Ki,Kj]
          exact#[W,Hh,S,_,rfl,Ua,q,e']
        . try simp only[Ki,Kj]
          exact hn
    . intro z#[w,h,s,o,rfl,fm,R9,lat];k_places;rw[ec,HE,JH]at lat;exact(hR w h s fm lat).1 R9
abbrev wt(V:Bx):Prop:=V.D 4 "_law_over" mm CN
def FU(T:V.T "_law_over" ml mm)(uX:V.m "max")(Qw:wr V):wt V:=by
 refine Tx.okDW T sc__law_over (λds R h=>?_) (λ_ _ _ _ _ _ _ J hr=>⟨_,((ai (am 2 sc__law_over.nd (aj (af (aa 0) ad) (af (aa 1) ad)))
   (ai (bn (cO (fg (ko (gv rfl uX (ac (af (aa 0) ad) (ac (af (aa 1) ad) ae))) ad) (fb (rM (aD Qw hr (ac (aa 2) ae)) cN)))) (ao (aB (aa 0))) aW)
   (ao (aB (aU (ac (aj (aj (aj (aj aq (af (aa 0) ad)) aq) (af (aa 1) ad)) aq) (ac (aj ad (gv rfl uX (ac (af (aa 0) ad) (ac (af (aa 1) ad) ae)))) (ac (aa 2) ae))))))))),λds R h=>?_⟩)
 .obtain⟨_,_,rfl,_⟩:=h;rfl
 .obtain⟨p,q,rfl,wp,wq,dp,dq,OM,ON⟩:=h;have n1:=Pat.leaves_32 dp;have n2:=Pat.leaves_32 dq;refine#[λx=>x=.lst ((Pat.over p q).leaves.map Leaf.D),#[_,rfl,_,rfl,?_,?_],?_]
  .rw[HE,HE];lia
  .rw[Pat.leaves,Ia]
  intro _ rfl;k_places;refine#[_,rfl,_,rfl,ite2 (λc=>OM) (λc=>?_)];have c':=of_decide_eq_false (H8.mpr c);have ep:p.depth<5/\q.depth<5:=by
   split at c'<;>lia
  refine#[(Pat.over p q).leaves,(Pat.over p q).depth,rfl,?_,λl hl=>Pat.leaf_good (p:=.over p q) #[wp,wq] l hl,λw h s f lat=>#[λsm=>?_,λ_=>OM]]
  .intro z;have:(Pat.over p q).leaves.length=0:=by rw[z];rfl
   rw[Pat.leaves,HF]at this;have:=Pat.leaves_pos p;lia
  have t1:=Pat.text_short wp dp;have t2:=Pat.text_short wq dq;have l1:("(":Lq).length=1:=rfl;have l2:("|":Lq).length=1:=rfl;have l3:(")":Lq).length=1:=rfl;have Ub:(Pat.over p q).Fits:=#[w,h,s,#[f,λx y=>(lat x y).trans (Pat.lat_leaves (.over p q) x y)],sm];refine#[_,rfl,?_,?_,_,rfl,?_,?_,_,rfl,_,rfl,Mn,?_]
  .lia
  .rw[aw];lia
  .rw[aw,aw];lia
  .rw[aw,aw,aw];lia
  have g:=ON ep.1 ep.2 Ub;have e:(1+(if(q.depth:Int)>(p.depth:Int)then(q.depth:Int)else(p.depth:Int)))=(((Pat.over p q).depth:Nat):Int):=by
   rw[Pat.depth];split<;>lia
  unfold Pat.D at g;rw[<-e]at g;exact g
abbrev wu(V:Bx):Prop:=V.D 5 "_law_pattern" mo CO
def FV(T:V.T "_law_pattern" mn mo)(uB:V.m "range")(MV:pA V)(OO:wk V)(OP:wl V)(OQ:wt V):wu V:=by
  refine Tx.okDW T sc__law_pattern (λds R h=>?_) (λ_ _ _ _ _ _ _ J hr=>⟨_,((ai (am 2 sc__law_pattern.nd (aD MV hr (ac (aa 0) (ac (aa 1) (ac ad ae)))))
      (ai (am 3 sc__law_pattern.nd (aD OO hr (ac (aa 0) (ac (aj (aa 1) ad) ae))))
      (ai (cF 4 PassesOwn.never rfl sc__law_pattern.nd uB (aA (af (aa 2) ad) ad) (ai (am 5 sc__law_pattern.nd (af (aa 2) (aj ad (ay ad (aa 4)))))
        (ao (dY (bg (aA (aa 5) ad) ad) (ao (am 3 sc__law_pattern.nd (aD OP hr (ac (aa 3) (ac (bb (aa 5) ad) ae))))) (ai (am 6 sc__law_pattern.nd (aD OO hr (ac (aa 0) (ac (aj (aj (aa 1) ad) (ay ad (aa 4))) ae))))
         (ai (dY (bg (aA (bb (aa 5) ad) ad) ad) (ao (am 6 sc__law_pattern.nd (aD OP hr (ac (aa 6) (ac (af (aa 2) (aj ad (ay ad (aa 4)))) ae))))) aW)
         (ao (am 3 sc__law_pattern.nd (af (aU (ac (aD OQ hr (ac (aa 3) (ac (aa 6) ae))) (ac (aD OQ hr (ac (aa 6) (ac (aa 3) ae))) ae))) (aA (bb (aa 5) ad) ad))))))))))
      (ao (aB (aa 3))))))),λds R h=>?_⟩)
  . let#[_,_,rfl,_]:=h;rfl
  . let#[ns,k,rfl,hk,hR]:=h;refine#[λx=>∃xs:List Int,x=.lst (xs.map D.int)/\xs.length=13/\Drawn xs,#[ns,k,13,rfl,hk,Mh,λxs h1 h2=>#[xs,rfl,h1,h2]],?_];intro _#[xs,rfl,hl,hd];k_places;refine#[λx=>∃p:Pat,x=p.D/\p.Ok,#[ns,k+2,rfl,Md,λL a b c d h1 h2 h3 h4 h5 h6=>#[.mot L a b c d,rfl,#[h1,h2,h3,h4,h5,h6],by simp[Pat.depth],Pat.fits_mot h2 h3 h4 h5 h6]],?_];intro _#[p0,rfl,M6];k_places;have a0:=cG (xs:=xs) (k:=0) Mh (show 0<xs.length by lia);have h7:=cU (a:=cell xs 0) (show(0:Int)<7 by decide);have h8:=cV (a:=cell xs 0) (show(0:Int)<7 by decide);refine#[_,a0,Mh,#[Md,Md],λi z=>∃(p:Pat) (o1 o2 o3:Option D),z=[be (.rol (ns.map D.int)),be (.int k),be (.lst (xs.map D.int)),be p.D,o1,o2,o3]/\p.Ok,#[p0,_,_,_,rfl,M6],?_,?_]
    . intro i v z hi#[p,o1,o2,o3,rfl,ok];k_places;let#[z_,rfl]:=cA hi;have a1:=cG (xs:=xs) (k:=1+2*(i:Int)) Md Md;have a2:=cG (xs:=xs) (k:=2+2*(i:Int)) Md Md;generalize cell xs (1+2*(i:Int))=st at a1;generalize cell xs (2+2*(i:Int))=sv at a2;refine#[λx=>x=.int st,#[.inr #[Md,Md],_,a1,rfl],?_];intro _ rfl;k_places;refine#[λz=>∃(p:Pat) (o3:Option D),z=[be (.rol (ns.map D.int)),be (.int k),be (.lst (xs.map D.int)),be p.D,be (.int i),be (.int st),o3]/\p.Ok,#[Mh,ite2 (λc=>?_) (λc=>?_)],?_]
      . refine#[λx=>∃p:Pat,x=p.D/\p.Ok,#[#[Mh,Mh],p,_,rfl,ok.wf,ok.deep,by have:=Pat.text_short ok.wf ok.deep;lia,Wraps.of ok λq hq=>#[q,rfl,hq]],?_];intro _#[q,rfl,m4];k_places;exact#[q,_,rfl,m4]
      . refine#[λx=>∃p:Pat,x=p.D/\p.Ok,#[.inr #[Md,Md],ns,k+4+2*(i:Int),rfl,Md,λL a b c d h1 h2 h3 h4 h5 h6=>#[.mot L a b c d,rfl,#[h1,h2,h3,h4,h5,h6],by simp[Pat.depth],Pat.fits_mot h2 h3 h4 h5 h6]],?_];intro _#[q,rfl,m4];k_places;refine#[λz=>∃(q:Pat),z=[be (.rol (ns.map D.int)),be (.int k),be (.lst (xs.map D.int)),be p.D,be (.int i),be (.int st),be q.D]/\q.Ok,#[#[Mh,Mh],Mh,ite2 (λc=>?_) (λc=>?_)],?_]
        . refine#[λx=>∃p:Pat,x=p.D/\p.Ok,#[.inr #[Md,Md],_,a2,q,_,rfl,m4.wf,m4.deep,by have:=Pat.text_short m4.wf m4.deep;lia,Wraps.of m4 λq hq=>#[q,rfl,hq]],?_];intro _#[q,rfl,m4];k_places;exact#[q,rfl,m4]
        . exact#[q,rfl,m4]
        intro _#[q,rfl,m4];k_places;refine#[λx=>∃p:Pat,x=p.D/\p.Ok,?_,?_]
        . have f6:∀r r':Pat,r.Ok->r'.Ok->∃x,atI [r.D,r'.D] (st/4%2)=be x/\∃p:Pat,x=p.D/\p.Ok:=λr r' hr Uc=>by
            rcases(Md:st/4%2=0\/st/4%2=1)with e|e<;>rw[e]
            . exact#[_,rfl,r,rfl,hr]
            . exact#[_,rfl,r',rfl,Uc]
          have R_:p.depth<5->q.depth<5->(Pat.over p q).Fits->(Pat.over p q).Ok:=λd1 d2 ft=>#[#[ok.wf,m4.wf],by simp only[Pat.depth];lia,ft];have Sa:q.depth<5->p.depth<5->(Pat.over q p).Fits->(Pat.over q p).Ok:=λd1 d2 ft=>#[#[m4.wf,ok.wf],by simp only[Pat.depth];lia,ft];refine#[p,q,rfl,ok.wf,m4.wf,ok.deep,m4.deep,?_,λd1 d2 ft=>?_]<;>refine#[q,p,rfl,m4.wf,ok.wf,m4.deep,ok.deep,?_,λd3 d4 Sb=>?_]<;>refine#[Mn,#[Mh,Mh],Mh,?_]
          . exact f6 _ _ ok m4
          . exact f6 _ _ ok (Sa d3 d4 Sb)
          . exact f6 _ _ (R_ d1 d2 ft) m4
          . exact f6 _ _ (R_ d1 d2 ft) (Sa d3 d4 Sb)
        intro _#[q',rfl,Qx];k_places;exact#[q',_,rfl,Qx]
      intro _#[q,o3,rfl,m4];k_places;exact#[q,_,_,_,rfl,m4]
    . intro z#[p,o1,o2,o3,rfl,ok];k_places;exact hR p ok
abbrev wv(V:Bx):Prop:=V.D 2 "_law_leaf_shows" my Ct
def FW(T:V.T "_law_leaf_shows" mv my)(uB:V.m "range")(uA:V.m "len")(uE:V.m "int")(M5:pD V):wv V:=by
 refine Tx.okDW T sc__law_leaf_shows (λds R h=>?_) (λ_ _ _ _ _ _ _ J hr=>⟨_,((ai (am 3 sc__law_leaf_shows.nd (af (aa 0) ad))
   (ai (am 4 sc__law_leaf_shows.nd (aj (aj (ay (af (aa 3) ad) (aa 1)) (ay (af (aa 3) ad) (aa 2))) (af (aa 3) ad)))
   (ai (am 5 sc__law_leaf_shows.nd (aj (aj (ay (af (aa 3) ad) (aa 1)) (ay (af (aa 3) ad) (aa 2))) (af (aa 3) ad)))
   (ai (cF 6 PassesOwn.never rfl sc__law_leaf_shows.nd uB (bJ uA (ac (af (aa 0) ad) ae)) (ao (cF 7 PassesOwn.never rfl sc__law_leaf_shows.nd uB (bJ uA (ac (af (af (aa 0) ad) (aa 6)) ae)) (ao (bn (cO (kr (cE (af (af (af (aa 0) ad) (aa 6)) (aa 7)) aq) (kq (cm (aD M5 hr (ac (af (aa 0) ad) (ac (af (aa 0) ad) (ac (bv (aa 4) (aa 7)) (ac (bv (aa 5) (aa 6)) ae))))))))) (ao (aB (af (af (aa 0) ad) (gu uE (ac (af (af (af (aa 0) ad) (aa 6)) (aa 7)) ae))))) aW)))))
   (ao (aB ad))))))),λds R h=>?_⟩)
 .obtain⟨_,_,_,rfl,_⟩:=h;rfl
 .obtain⟨l,x,y,rfl,ok,hR⟩:=h;let#[hm,wd,Ud,LX]:=id ok.rows;refine#[λd=>d=.tup [.int l.w0,.int l.w1,.int l.w2,.int l.w3,.int l.w4,.int l.w5],#[_,rfl,rfl],?_];intro _ rfl;k_places;refine#[λd=>d=.int (l.w0*x+l.w1*y+l.w4),#[_,rfl,.inl (n64 ok.w0),_,rfl,.inl (n64 ok.w1),_,rfl,rfl],?_];intro _ rfl;k_places;refine#[λd=>d=.int (l.w2*x+l.w3*y+l.w5),#[_,rfl,.inl (n64 ok.w2),_,rfl,.inl (n64 ok.w3),_,rfl,rfl],?_];intro _ rfl;k_places;have LY:R (.int (match l.hit x y with|some c=>cell l.hues ((c:Int)-48)|none=>0)):=hR;unfold Leaf.hit at LY;generalize l.w0*x+l.w1*y+l.w4=U at LY ⊢;generalize l.w2*x+l.w3*y+l.w5=V at LY ⊢;generalize ef:(λi j=>onB l.a l.b l.c l.d (U-i) (V-j))=f at LY;have e0:∀i j,f i j=onB l.a l.b l.c l.d (U-i) (V-j):=λi j=>by rw[<-ef]
  have b9:((l.rows.map D.str).length:Int).toNat=l.rows.length:=Mn
  refine#[_,rfl,#[Md,Qu],λk z=>∃o1 o2:Option D,z=[be l.D,be (.int x),be (.int y),be (.tup [.int l.w0,.int l.w1,.int l.w2,.int l.w3,.int l.w4,.int l.w5]),be (.int U),be (.int V),o1,o2]/\bQ f 0 l.rows=bQ f k (l.rows.drop k),#[_,_,rfl,rfl],?_,?_]
  .rintro j v z hj⟨o1,o2,rfl,hs⟩;k_places;let#[LI,rfl]:=cA hj;rw[b9]at LI;have NV:l.rows[j]?=be l.rows[j]:=HP LI;have I_:l.rows.drop j=l.rows[j]::l.rows.drop (j+1):=IQ LI;let#[t7,G_]:=LX l.rows[j] (Im LI);generalize l.rows[j]=row at NV I_ t7 G_;have Mx:=at_str NV;have k8:=bq row;refine#[_,rfl,_,Mx,Md,#[Md,Md],λi z=>∃o2:Option D,z=[be l.D,be (.int x),be (.int y),be (.tup [.int l.w0,.int l.w1,.int l.w2,.int l.w3,.int l.w4,.int l.w5]),be (.int U),be (.int V),be (.int j),o2]/\scanRow (λi=>f i j) 0 (cs row)=scanRow (λi=>f i j) i ((cs row).drop i),#[_,rfl,rfl],?_,?_]
   .rintro i v z hi⟨o2,rfl,M7⟩;k_places;let#[z_,rfl]:=cA hi;have Qy:i<(cs row).length:=by lia
    have LM:(cs row).drop i=(cs row)[i]::(cs row).drop (i+1):=IQ Qy;have NW:=G_ (cs row)[i] (Im Qy);have Qz:atI (cs row) (i:Int)=be (cs row)[i]:=bZ (HP Qy);generalize (cs row)[i]=c at LM NW Qz;refine#[_,rfl,_,Mx,c,#[Md,Qz],ite2 (λq=>?_) (λq=>?_)]
    .have x_:¬c=46:=by
      intro z;have:(#[[c].toArray]:Lq)=".":=one_sign.mpr z;simp[this]at q
     refine#[_,rfl,_,rfl,l.a,l.b,l.c,l.d,U-i,V-j,rfl,ok.a.lt,ok.b.lt,ok.c.lt,ok.d.lt,ok.ne,?_];refine ite2 (λq2=>?_) (λq2=>?_)
     .have f6:f i j=true:=by rw[e0];exact q2
      have Ue:49<=c/\c<=54:=by unfold aN at NW;lia
      refine#[_,rfl,_,rfl,_,Mx,c,#[Md,Qz],_,#[digit_of Ue,by show 1<=640;decide],_,cG Md (by rw[ok.many];lia),?_];rw[hs,I_,bQ,M7,LM,scanRow,if_pos #[x_,f6]]at LY;exact LY
     .have f6:¬f i j=true:=by rw[e0];exact q2
      refine#[_,rfl,?_];rw[M7,LM,scanRow,if_neg (λz=>f6 z.2)]
    .have x_:c=46:=by
      rcases Classical.em (c=46)with z|z
      .exact z
      .exact absurd (by
        have:¬(#[[c].toArray]:Lq)=".":=λw=>z (one_sign.mp w);simp[this]) q
     refine#[_,rfl,?_];rw[M7,LM,scanRow,if_neg (λz=>z.1 x_)]
   .rintro z⟨o2,rfl,M7⟩;k_places;refine#[_,_,rfl,?_];have hn:((row.length:Int).toNat)=(cs row).length:=by lia
    rw[cx,hn,Kl (Hw _),scanRow]at M7;rw[hs,I_,bQ,M7]
  .rintro z⟨o1,o2,rfl,hs⟩;k_places;rw[cx,b9,Kl (Hw _),bQ]at hs;rw[hs]at LY;exact LY
abbrev ww(V:Bx):Prop:=V.D 3 "_law_shows" mB Cu
def FX(T:V.T "_law_shows" mz mB)(QA:wv V):ww V:=by
 refine Tx.okDW T sc__law_shows (λds R h=>?_) (λ_ _ _ _ _ _ _ J hr=>⟨_,((ai (ie 3 PassesOwn.never rfl sc__law_shows.nd (aa 0) (ai (am 4 sc__law_shows.nd (aD QA hr (ac (aa 3) (ac (aa 1) (ac (aa 2) ae)))))
    (ao (bn (cE (aa 4) ad) (ao (aB (aa 4))) aW))))
   (ao (aB ad)))),λds R h=>?_⟩)
 .obtain⟨_,_,_,rfl,_⟩:=h;rfl
 .obtain⟨ls,x,y,rfl,ok,hR⟩:=h;refine#[λk z=>∃o1 o2:Option D,z=[be (.lst (ls.map Leaf.D)),be (.int x),be (.int y),o1,o2]/\aZ ls x y=aZ (ls.drop k) x y,#[_,_,rfl,rfl],?_,?_]
  .rintro k v z hk⟨o1,o2,rfl,hs⟩;k_places;rw[HI]at hk;have r_:k<ls.length:=by
    rcases IV k ls.length with q|q
    .exact q
    .rw[Io q]at hk;cases hk
   rw[HP r_]at hk;cases hk;have ed:ls.drop k=ls[k]::ls.drop (k+1):=IQ r_;have Sc:=ok ls[k] (Im r_);generalize ls[k]=l at ed Sc;refine#[λd=>d=.int (l.shows x y),#[l,x,y,rfl,Sc,rfl],?_];intro _ rfl;k_places;refine ite2 (λq=>?_) (λq=>?_)
   .have q':¬l.shows x y=0:=by simpa using q
    rw[hs,ed,aZ,if_pos q']at hR;exact hR
   .have q':l.shows x y=0:=by simpa using q
    refine#[_,_,rfl,?_];rw[hs,ed,aZ,if_neg (λz=>z q')]
  .rintro z⟨o1,o2,rfl,hs⟩;k_places;rw[HE,Kl (Hw _),aZ]at hs;rw[hs]at hR;exact hR
def FY:SpD:=λds R=>∃(p:Pat) (w h:Int),ds=[.lst (p.leaves.map Leaf.D),.int w,.int h]/\p.Ok/\0<=w/\w<=30/\0<=h/\h<=30/\R (.lst (aF p w 0 h.toNat))
abbrev wx(V:Bx):Prop:=V.D 4 "_law_floor_rows" mC FY
def FZ(T:V.T "_law_floor_rows" iK mC)(uB:V.m "range")(QB:ww V):wx V:=by
 refine Tx.okDW T sc__law_floor_rows (λds R h=>?_) (λ_ _ _ _ _ _ _ J hr=>⟨_,((ai (gm 3 sc__law_floor_rows.nd ae)
   (ai (cF 4 PassesOwn.never rfl sc__law_floor_rows.nd uB (aa 2) (ao (gp 3 (kA (ii rfl (compScope (by change dA _ (ag iK) ["_law_leaves","_law_wide","_law_high","_law_lines_here","_law_y"] _=true;decide+kernel)) uB (aa 1) (λcl s0 H0 fp=>(af aq (aD QB hr (ac (aa 0) (ac (aa 5) (ac (aa 4) ae)))))))))))
   (dX 3 (ao (aB (aa 3))))))),λds R h=>?_⟩)
 .obtain⟨_,_,_,rfl,_⟩:=h;rfl
 .obtain⟨p,w,h,rfl,ok,w0,w7,h0,h7,hR⟩:=h;have dp:=ok.deep;refine#[Mn,?_];refine#[#[Md,Md],λk z=>∃o,z=[be (.lst (p.leaves.map Leaf.D)),be (.int w),be (.int h),be (.own (aF p w 0 k)),o],#[_,rfl],?_,?_]
  .rintro k v z hk⟨o,rfl⟩;k_places;let#[y',rfl]:=cA hk;refine#[#[Md,Md],by rw[cx];lia,λi ys=>ys=rowD p 0 k i,rfl,?_,?_]
   .rintro i v ys hi hl rfl;let#[Lk,rfl]:=cA hi;refine#[p.leaves,i,k,rfl,Pat.leaf_ok ok.wf Md,?_];rw[Pat.show_leaves ok.wf Md];let#[b0,b6]:=Pat.show_le ok.wf Md (i:Int) k;refine#[_,#[Mh,vA b0 b6],?_];show rowD p 0 k i++_=rowD p 0 k (i+1);rw[<-vF,Jd]
   .rintro ys hl rfl;rw[cx];let#[ys,e1,e2,e3]:=vG p 0 (k:Int) (n:=w.toNat) Md;refine#[ys,e1,e2,?_];rw[e3];refine#[by unfold aF;simp;lia,be (.int k),?_];rw[<-pr,Jd];rfl
  .rintro z⟨o,rfl⟩;k_places;rw[cx];exact hR
def F4:SpM:=λds M R _=>∃a q f w,ds=[.ptr a,.str w]/\a≠q/\M=Fl.M f a q/\f.ds.length<=20/\∀q',a≠q'->R .non ((f.keep w).M a q')
abbrev wy(V:Bx):Prop:=V.Q 1 "Floor" "keep" mF F4
def F5(T:V.Tm "Floor" "keep" "Floor.keep" mD mF)(QC:V.gi "KEPT" 20)(Ll:V.a "Floor" "deeds")(uH:V.a "Floor" "laid")(uQ:V.a "Floor" "pattern"):wy V:=by
 refine CalMth.drop (Txm.okM T EE (λds M R RX h=>?_) (λ_ _ _ _ _ _ _ J hr hx=>#[_,((ax (cu Ll (ah (aa 0)) (Eg (Ef (aE Ll (ah (aa 0))) (kK (aG (sZ (aG (ah (aa 1)) (aG (aE uQ (ah (aa 0))) (aG (aE uH (ah (aa 0))) aX)))) aX))) (vO (ah (bU (fw QC)))) vN)))),λds M R RX c5 h=>?_]))
 .obtain⟨_,_,⟨_,_,_,_,rfl,_⟩,_⟩:=h;rfl
 .obtain⟨R,RX,⟨a,q,f,w,rfl,ne,rfl,hl,hR⟩,rfl,rfl⟩:=h;have nk:∀{p:Pi},p∉av (f.M a q)->p≠a/\p≠q:=λ{p} h=>#[λe=>h (e ▸ Hz _ Hy),λe=>h (e ▸ Hy)];refine#[_,Fl.ma ne,_,vU,_,Fl.ma ne,_,jt,_,Fl.ma ne,_,fS,le_b rfl,le_b rfl,λp1 h1=>?_];let#[n1,m1]:=nk h1;refine#[_,_,(fQ m1).trans Fl.mq,cL,by rw[HE];show _+1<=_;lia,λp2 h2=>?_];have v4:p2≠p1/\p2∉av (f.M a q):=#[λe=>h2 (e ▸ Hy),λz=>h2 (Hz _ z)];let#[n2,m2]:=nk v4.2;refine#[_,cL,λp3 h3=>?_];have Uf:p3≠p2/\p3∉av ((p1,.lst [])::f.M a q):=#[λe=>h3 (e ▸ Hy),λz=>h3 (Hz _ z)];let#[n3,m3]:=nk λz=>Uf.2 (Hz _ z);refine#[_,(fQ n3).trans ((fQ n2).trans ((fQ n1).trans (Fl.ma ne))),le_b rfl,_,#[?_,?_],hR p3 (Ne.symm n3)]
  .rw[fR n3,fR n2,fR n1,show f.M a q=[(q,.lst (f.ds.map Deed.D)),(a,.ins "Floor" (f.fs q))]from rfl,fR (Ne.symm ne),dP];have e1:cutD (f.ds.map Deed.D++[D.tup [.str w,f.d,.int f.l]]) (be (-20)) w6=(f.keep w).ds.map Deed.D:=by
    rw[Fh];show _=JA Deed.D (Jn _ _);rw[List.map_drop,Ia,HF,HE];rfl
   have e2:putD ("deeds":Lq) (.ptr p3) (f.fs q)=(f.keep w).fs p3:=rfl;rw[e1,e2];intro e he;rcases Hx.mp he with rfl|he
   .exact Hy
   .rw[Hv.mp he];simp
  .exact Fl.nd (Ne.symm n3)
abbrev pE(V:Bx):Prop:=V.X 1 "refuse_far" mH DC
def F6(T:V.T "refuse_far" mG mH)(uX:V.m "max")(uS:V.m "abs")(QE:V.gi "FAR" 1000000000000)(QF:V.n "TooFar"):pE V:=by
 refine Tx.okXW T EF (λds R RX h=>?_) (λ_ _ _ _ _ _ _ J hr hx=>#[_,((ao (bn (km (gv rfl uX (ac (eZ uS (ac (aa 0) ae)) (ac (eZ uS (ac (aa 1) ae)) ae))) (fw QE)) (ao (Ap QF hx rfl (ac aq ae))) aW))),λds R RX c5 h=>?_])
 .obtain⟨_,_,rfl,_⟩:=h;rfl
 .obtain⟨x,y,rfl,h1,h2⟩:=h;refine ite2 (λc=>?_) (λc=>?_)
  .have c':=of_decide_eq_true c;refine#[le_b rfl,?_];rw[c5];refine h2 λ⟨⟨a1,a2⟩,a3,a4⟩=>?_;split at c'<;>split at c'<;>split at c'<;>lia
  .have c':¬_:=λz=>c (decide_eq_true z);refine h1 ?_;unfold bw;split at c'<;>split at c'<;>split at c'<;>lia
abbrev gT(V:Bx):Prop:=V.D 1 "home" mJ B6
def F7(T:V.T "home" mI mJ):gT V:=by
 refine Tx.okDW T sc_home (λds R h=>?_) (λ_ _ _ _ _ _ _ J hr=>⟨_,((ai (am 3 sc_home.nd (af (aa 0) ad))
   (ai (am 4 sc_home.nd (af (aa 0) ad))
   (ai (am 5 sc_home.nd (af (aa 0) ad))
   (ao (aB (aI (ac (aA (bv (aa 1) (ay (bb (aa 2) (aa 4)) (aa 5))) (aa 3)) (ac (aA (aa 2) (aa 4)) ae))))))))),λds R h=>?_⟩)
 .obtain⟨w,h,s,x,y,rfl,_⟩:=h;rfl
 .obtain⟨w,h,s,x,y,rfl,hw,hh,Li,hs,j_,hR⟩:=h;refine#[λd=>d=.int w,#[_,rfl,rfl],?_];intro _ rfl;k_places;refine#[λd=>d=.int h,#[_,rfl,rfl],?_];intro _ rfl;k_places;refine#[λd=>d=.int s,#[_,rfl,rfl],?_];intro _ rfl;k_places;exact#[#[hh,Li],.inr #[Md,Md],hw,hh,Mn,hR]
variable{n j:Nat}
def ok_Motif_shows(hL:1<=n)(T:V.Tm "Motif" "shows" "Motif.shows" iL cC)(J_:gT V)(LZ:V.a "Motif" "hues")(uO:V.a "Motif" "shifts"):V.Q (n+1) "Motif" "shows" cC (ofX (bY (j+1) "Motif")):=by
 refine Txm.okM T EG (λds M R RX h=>?_) (λ_ _ _ _ _ _ _ J hr hx=>#[_,((ax (aH (Bz (jX hr) (aE LZ (ah (aa 0))) (aG (aO (hn:=Nk) (CalD.toM J_) hx hr (aG (aE uO (ah (aa 0))) (aG (ah (aa 1)) (aG (ah (aa 2)) aX)))) (aG (ah ad) aX)))))),λds M R RX c5 h=>?_])
 .obtain⟨_,_,_,_,_,rfl,_⟩:=h;rfl
 .obtain⟨p,k,v,X,Y,rfl,hv,f_,hd,hc,hR⟩:=h;cases p with
  |over p q=>exact absurd (show("Over":Lq)="Motif" from hc) KK
  |sh a b p=>exact absurd (show("Shifted":Lq)="Motif" from hc) KK
  |mir p=>exact absurd (show("Mirror":Lq)="Motif" from hc) KK
  |tur p=>exact absurd (show("Turn":Lq)="Motif" from hc) KK
  |hue f g p=>exact absurd (show("Rehue":Lq)="Motif" from hc) KK
  |mot L a b c d=>
   let#[sh,hu,rfl,h0,h1]:=hv;let#[hL,ha,hb,Ld,g_,hn]:=f_;let#[w,h,s,F,rfl,rfl]:=h1 hn;unfold B12 at ha hb Ld g_;let#[b1,b2,b3]:=F.bd (N:=288) (by
    have m1:=bK (a:=a) (d:=d) (A:=12) (B:=12) Md Md;have m2:=bK (a:=b) (d:=c) (A:=12) (B:=12) Md Md;lia)
   refine#[_,#[rfl,rfl],_,Dq,_,#[rfl,rfl],_,lv,w,h,s,X,Y,rfl,F.1,F.2.1,Md,F.2.2.1,Md,?_];have e:=motif_shows hL F hn X Y;rw[Pat.show]at hR;rw[<-e]at hR;exact hR
def F8(hL:1<=n)(T:V.Tm "Over" "shows" "Over.shows" iM iN)(v9:V.a "Over" "above")(uU:V.a "Over" "below")(uG:∀x,x∈(["Motif","Over","Shifted","Mirror","Turn","Rehue"]:List Lq)->V.Q n x "shows" cC (ofX (bY j x))):V.Q (n+1) "Over" "shows" iN (ofX (bY (j+1) "Over")):=by
 refine Txm.okM T sc_Over_shows (λds M R RX h=>?_) (λ_ _ _ _ _ _ _ J hr hx=>⟨_,((au (aM 3 sc_Over_shows.nd (aY (hn:=Nk) uG hx hr (aE v9 (ah (aa 0))) (az (ac (aa 1) (ac (aa 2) ae)))))
   (ax (aH (gA (bG (bg (aa 3) ad)) (aY (hn:=Nk) uG hx hr (aE uU (ah (aa 0))) (az (ac (aa 1) (ac (aa 2) ae)))) (ah (aa 3))))))),λds M R RX c5 h=>?_⟩)
 .obtain⟨_,_,_,_,_,rfl,_⟩:=h;rfl
 .obtain⟨p,k,v,X,Y,rfl,hv,f_,hd,hc,hR⟩:=h;cases p with
  |mot L a b c d=>exact absurd (show("Motif":Lq)="Over" from hc) KK
  |sh a b p=>exact absurd (show("Shifted":Lq)="Over" from hc) KK
  |mir p=>exact absurd (show("Mirror":Lq)="Over" from hc) KK
  |tur p=>exact absurd (show("Turn":Lq)="Over" from hc) KK
  |hue f g p=>exact absurd (show("Rehue":Lq)="Over" from hc) KK
  |over p q=>
   let#[u,u',rfl,hu,NY]:=hv;let#[fs,rfl,_,hf]:=hu.objm;let#[gs,rfl,_,hg]:=NY.objm;rw[Pat.depth]at hd;refine#[λd M'=>d=.int (p.show X Y)/\M'=M,#[_,#[rfl,rfl],_,rfl,p.cls,p.cls_mem,fs,#[rfl,rfl],hf,p,_,_,X,Y,rfl,hu,f_.1,Md,rfl,rfl,rfl],?_];intro _ _#[rfl,rfl];k_places;rw[Pat.show]at hR;show if decide (p.show X Y=0)=true then _ else _
   refine ite2 (λe=>?_) (λe=>?_)
   .have e':=of_decide_eq_true e;rw[if_neg (λz=>z e')]at hR;exact#[_,#[rfl,rfl],_,fM KK,q.cls,q.cls_mem,gs,#[rfl,rfl],hg,q,_,_,X,Y,rfl,NY,f_.2,Md,rfl,hR]
   .have e':p.show X Y≠0:=λz=>e (decide_eq_true z);rw[if_pos e']at hR;exact hR
def F9(hL:1<=n)(T:V.Tm "Shifted" "shows" "Shifted.shows" iO iP)(uW:V.a "Shifted" "form")(L4:V.a "Shifted" "y")(L5:V.a "Shifted" "x")(uG:∀x,x∈(["Motif","Over","Shifted","Mirror","Turn","Rehue"]:List Lq)->V.Q n x "shows" cC (ofX (bY j x))):V.Q (n+1) "Shifted" "shows" iP (ofX (bY (j+1) "Shifted")):=by
 refine Txm.okM T EH (λds M R RX h=>?_) (λ_ _ _ _ _ _ _ J hr hx=>#[_,((ax (aH (aY (hn:=Nk) uG hx hr (aE uW (ah (aa 0))) (aG (dB (ah (aa 1)) (aE L5 (ah (aa 0)))) (aG (dB (ah (aa 2)) (aE L4 (ah (aa 0)))) aX)))))),λds M R RX c5 h=>?_])
 .obtain⟨_,_,_,_,_,rfl,_⟩:=h;rfl
 .obtain⟨p,k,v,X,Y,rfl,hv,f_,hd,hc,hR⟩:=h;cases p with
  |mot L a b c d=>exact absurd (show("Motif":Lq)="Shifted" from hc) KK
  |over p q=>exact absurd (show("Over":Lq)="Shifted" from hc) KK
  |mir p=>exact absurd (show("Mirror":Lq)="Shifted" from hc) KK
  |tur p=>exact absurd (show("Turn":Lq)="Shifted" from hc) KK
  |hue f g p=>exact absurd (show("Rehue":Lq)="Shifted" from hc) KK
  |sh a b p=>
   let#[u,rfl,hu]:=hv;let#[fs,rfl,_,hf]:=hu.objm;rw[Pat.depth]at hd;exact#[_,#[rfl,rfl],_,rfl,p.cls,p.cls_mem,fs,#[rfl,rfl],hf,_,#[rfl,rfl],_,fM KK,_,#[rfl,rfl],_,lw KK KK,p,_,_,X-a,Y-b,rfl,hu,f_.2.2,Md,rfl,hR]
def Ga(hL:1<=n)(T:V.Tm "Mirror" "shows" "Mirror.shows" iQ iR)(v_:V.a "Mirror" "form")(uG:∀x,x∈(["Motif","Over","Shifted","Mirror","Turn","Rehue"]:List Lq)->V.Q n x "shows" cC (ofX (bY j x))):V.Q (n+1) "Mirror" "shows" iR (ofX (bY (j+1) "Mirror")):=by
 refine Txm.okM T EI (λds M R RX h=>?_) (λ_ _ _ _ _ _ _ J hr hx=>#[_,((ax (aH (aY (hn:=Nk) uG hx hr (aE v_ (ah (aa 0))) (az (ac (bU (aa 1)) (ac (aa 2) ae))))))),λds M R RX c5 h=>?_])
 .obtain⟨_,_,_,_,_,rfl,_⟩:=h;rfl
 .obtain⟨p,k,v,X,Y,rfl,hv,f_,hd,hc,hR⟩:=h;cases p with
  |mot L a b c d=>exact absurd (show("Motif":Lq)="Mirror" from hc) KK
  |over p q=>exact absurd (show("Over":Lq)="Mirror" from hc) KK
  |sh a b p=>exact absurd (show("Shifted":Lq)="Mirror" from hc) KK
  |tur p=>exact absurd (show("Turn":Lq)="Mirror" from hc) KK
  |hue f g p=>exact absurd (show("Rehue":Lq)="Mirror" from hc) KK
  |mir p=>
   let#[u,rfl,hu]:=hv;let#[fs,rfl,_,hf]:=hu.objm;rw[Pat.depth]at hd;exact#[_,#[rfl,rfl],_,rfl,p.cls,p.cls_mem,fs,#[rfl,rfl],hf,p,_,_,-X,Y,rfl,hu,f_,Md,rfl,hR]
def Gb(hL:1<=n)(T:V.Tm "Turn" "shows" "Turn.shows" iS iT)(uZ:V.a "Turn" "form")(uG:∀x,x∈(["Motif","Over","Shifted","Mirror","Turn","Rehue"]:List Lq)->V.Q n x "shows" cC (ofX (bY j x))):V.Q (n+1) "Turn" "shows" iT (ofX (bY (j+1) "Turn")):=by
 refine Txm.okM T EJ (λds M R RX h=>?_) (λ_ _ _ _ _ _ _ J hr hx=>#[_,((ax (aH (aY (hn:=Nk) uG hx hr (aE uZ (ah (aa 0))) (az (ac (aa 2) (ac (bU (aa 1)) ae))))))),λds M R RX c5 h=>?_])
 .obtain⟨_,_,_,_,_,rfl,_⟩:=h;rfl
 .obtain⟨p,k,v,X,Y,rfl,hv,f_,hd,hc,hR⟩:=h;cases p with
  |mot L a b c d=>exact absurd (show("Motif":Lq)="Turn" from hc) KK
  |over p q=>exact absurd (show("Over":Lq)="Turn" from hc) KK
  |sh a b p=>exact absurd (show("Shifted":Lq)="Turn" from hc) KK
  |mir p=>exact absurd (show("Mirror":Lq)="Turn" from hc) KK
  |hue f g p=>exact absurd (show("Rehue":Lq)="Turn" from hc) KK
  |tur p=>
   let#[u,rfl,hu]:=hv;let#[fs,rfl,_,hf]:=hu.objm;rw[Pat.depth]at hd;exact#[_,#[rfl,rfl],_,rfl,p.cls,p.cls_mem,fs,#[rfl,rfl],hf,p,_,_,Y,-X,rfl,hu,f_,Md,rfl,hR]
def Gc(hL:1<=n)(T:V.Tm "Rehue" "shows" "Rehue.shows" iU iV)(uV:V.a "Rehue" "form")(L6:V.a "Rehue" "old")(L7:V.a "Rehue" "new")(uG:∀x,x∈(["Motif","Over","Shifted","Mirror","Turn","Rehue"]:List Lq)->V.Q n x "shows" cC (ofX (bY j x))):V.Q (n+1) "Rehue" "shows" iV (ofX (bY (j+1) "Rehue")):=by
 refine Txm.okM T sc_Rehue_shows (λds M R RX h=>?_) (λ_ _ _ _ _ _ _ J hr hx=>⟨_,((au (aM 3 sc_Rehue_shows.nd (aY (hn:=Nk) uG hx hr (aE uV (ah (aa 0))) (az (ac (aa 1) (ac (aa 2) ae)))))
   (ax (aH (gA (ir (ah (aa 3)) (aE L6 (ah (aa 0)))) (aE L7 (ah (aa 0))) (ah (aa 3))))))),λds M R RX c5 h=>?_⟩)
 .obtain⟨_,_,_,_,_,rfl,_⟩:=h;rfl
 .obtain⟨p,k,v,X,Y,rfl,hv,f_,hd,hc,hR⟩:=h;cases p with
  |mot L a b c d=>exact absurd (show("Motif":Lq)="Rehue" from hc) KK
  |over p q=>exact absurd (show("Over":Lq)="Rehue" from hc) KK
  |sh a b p=>exact absurd (show("Shifted":Lq)="Rehue" from hc) KK
  |mir p=>exact absurd (show("Mirror":Lq)="Rehue" from hc) KK
  |tur p=>exact absurd (show("Turn":Lq)="Rehue" from hc) KK
  |hue f g p=>
   let#[u,rfl,hu]:=hv;let#[fs,rfl,_,hf]:=hu.objm;rw[Pat.depth]at hd;refine#[λd M'=>d=.int (p.show X Y)/\M'=M,#[_,#[rfl,rfl],_,rfl,p.cls,p.cls_mem,fs,#[rfl,rfl],hf,p,_,_,X,Y,rfl,hu,f_.2.2,Md,rfl,rfl,rfl],?_];intro _ _#[rfl,rfl];k_places;rw[Pat.show]at hR;unfold bL at hR;refine#[_,#[rfl,rfl],_,fM KK,ite2 (λe=>?_) (λe=>?_)]
   .rw[if_pos (of_decide_eq_true e)]at hR;exact#[_,#[rfl,rfl],_,lw KK KK,hR]
   .rw[if_neg (λz=>e (decide_eq_true z))]at hR;exact hR
def Gd(Sd:V.Tm "Motif" "shows" "Motif.shows" iL cC)(Se:V.Tm "Over" "shows" "Over.shows" iM iN)(Sf:V.Tm "Shifted" "shows" "Shifted.shows" iO iP)(Sg:V.Tm "Mirror" "shows" "Mirror.shows" iQ iR)(Sh:V.Tm "Turn" "shows" "Turn.shows" iS iT)(Si:V.Tm "Rehue" "shows" "Rehue.shows" iU iV)(J_:gT V)(LZ:V.a "Motif" "hues")(uO:V.a "Motif" "shifts")(v9:V.a "Over" "above")(uU:V.a "Over" "below")(uW:V.a "Shifted" "form")(L4:V.a "Shifted" "y")(L5:V.a "Shifted" "x")(v_:V.a "Mirror" "form")(uZ:V.a "Turn" "form")(uV:V.a "Rehue" "form")(L6:V.a "Rehue" "old")(L7:V.a "Rehue" "new"):∀j x,x∈(["Motif","Over","Shifted","Mirror","Turn","Rehue"]:List Lq)->V.Q (1+j) x "shows" cC (ofX (bY j x)):=by
 intro j;induction j with
 |zero=>
  intro x hx;simp only[Hx,II,or_false]at hx;rcases hx with rfl|rfl|rfl|rfl|rfl|rfl
  .exact CalMth.never Sd (λds M R RX=>fO)
  .exact CalMth.never Se (λds M R RX=>fO)
  .exact CalMth.never Sf (λds M R RX=>fO)
  .exact CalMth.never Sg (λds M R RX=>fO)
  .exact CalMth.never Sh (λds M R RX=>fO)
  .exact CalMth.never Si (λds M R RX=>fO)
 |succ j NZ=>
  intro x hx;simp only[Hx,II,or_false]at hx;rcases hx with rfl|rfl|rfl|rfl|rfl|rfl
  .exact ok_Motif_shows (n:=1+j) (j:=j) Nk Sd J_ LZ uO
  .exact F8 (n:=1+j) (j:=j) Nk Se v9 uU NZ
  .exact F9 (n:=1+j) (j:=j) Nk Sf uW L4 L5 NZ
  .exact Ga (n:=1+j) (j:=j) Nk Sg v_ NZ
  .exact Gb (n:=1+j) (j:=j) Nk Sh uZ NZ
  .exact Gc (n:=1+j) (j:=j) Nk Si uV L6 L7 NZ
abbrev wz(V:Bx):Prop:=∀x,x∈(["Motif","Over","Shifted","Mirror","Turn","Rehue"]:List Lq)->V.Q 7 x "shows" cC (ofX (bY 6 x))
abbrev wA(V:Bx):Prop:=V.X 8 "cell_at" mL DD
def Ge(T:V.T "cell_at" mK mL)(Mz:pE V)(M8:V.a "Pattern" "form")(uG:wz V):wA V:=by
 refine CalMM.nilX (Tx.okM T EK (λds M R RX h=>?_) (λ_ _ _ _ _ _ _ J hr hx=>⟨_,((au (bP (aO (CalX.toM Mz) hx hr (az (ac (aa 1) (ac (aa 2) ae)))))
   (ax (aH (aY uG hx hr (aE M8 (ah (aa 0))) (az (ac (aa 1) (ac (aa 2) ae)))))))),λds M R RX c5 h=>?_⟩))
 .obtain⟨_,R0,x8,⟨_,_,_,_,rfl,_⟩,_⟩:=h;rfl
 .obtain⟨rfl,R0,x8,⟨p,d,x,y,rfl,⟨w,h,s,fs,rfl,e1,e2,hp⟩,ok,h1,h2⟩,hR,hX⟩:=h;let#[k,v,e3,hv]:=hp.form;let#[gs,rfl,_,hg]:=hv.objm;have UU:=ok.deep;refine#[x,y,rfl,λhn=>?_,λhn=>?_]
  .exact#[_,#[rfl,rfl],_,e3,p.cls,p.cls_mem,gs,#[rfl,rfl],hg,p,k,_,x,y,rfl,hv,ok.wf,Md,rfl,hR _ _ (h1 hn)]
  .rw[c5];exact hX _ _ _ (h2 hn)
abbrev pF(V:Bx):Prop:=V.D 9 "row_from" mM DF
def Gf(T:V.T "row_from" iW mM)(uB:V.m "range")(QG:wA V)(uR:V.gs "SIGNS" ".123456"):pF V:=by
 refine Tx.okDW T EL (λds R h=>?_) (λ_ _ _ _ _ _ _ J hr=>#[_,((ao (aB (kA (ii rfl (compScope (by change dA _ (ag iW) ["pattern","x","y","many"] _=true;decide+kernel)) uB (aa 3) (λcl s0 H0 fp=>(af (fz uR) (aD (CalX.no QG) hr (ac (aa 0) (ac (aj (aa 1) (aa 4)) (ac (aa 2) ae))))))))))),λds R h=>?_])
 .obtain⟨_,_,_,_,_,rfl,_⟩:=h;rfl
 .obtain⟨p,d,x,y,n,rfl,hd,ok,hn,LV,p9,hy,hR⟩:=h;let#[w,h,s,fs,rfl,_]:=id hd;refine#[#[Md,Md],by rw[cx];lia,λk ys=>ys=rowD p x y k,rfl,?_,?_]
  .rintro k v ys hk hl rfl;let#[y',rfl]:=cA hk;let#[b0,b6]:=Pat.show_le ok.wf (by have:=ok.deep;lia) (x+(k:Int)) y;unfold bw at LV p9;exact#[p,.obj "Pattern" fs,x+(k:Int),y,rfl,hd,ok,λ_=>#[_,#[Mh,vA b0 b6],vF p x y k],λz=>z #[#[Md,Md],hy]]
  .rintro ys hl rfl;rw[cx,IM];let#[ys,e1,e2,e3]:=vG p x y hn;refine#[ys,e1,e2,?_];rw[e3];exact hR
def wB:SpD:=λds R=>∃f q,ds=[.obj "Floor" (Fl.fs f q)]/\f.Ok/\R (.lst (aF f.p f.w 0 f.l.toNat))
variable{f:Fl}
def wC{a q:Pi}(ne:a≠q)(ok:f.Ok){R:D->MS->Prop}{RX:XDM}(h:R (.lst (aF f.p f.w 0 f.l.toNat)) (f.M a q)):lend (λds R _=>wB ds R) [.ptr a] (f.M a q) R RX:=by
 refine#[a,_,_,Fl.ma ne,f,q,?_,ok,Fi _ _ _ _,h];show[lendD a _ (.ptr a)]=_;unfold lendD;simp
abbrev pG(V:Bx):Prop:=V.QD 10 "Floor" "rows" mN wB
def Gg(T:V.Tm "Floor" "rows" "Floor.rows" iX mN)(uB:V.m "range")(M9:pF V)(uH:V.a "Floor" "laid")(uP:V.a "Floor" "width")(uQ:V.a "Floor" "pattern"):pG V:=by
 refine Txm.okDW T EM (λds R h=>?_) (λ_ _ _ _ _ _ _ J hr=>#[_,((ao (aB (ii rfl (compScope (by change dA _ (ag iX) ["self"] _=true;decide+kernel)) uB (fv uH (aa 0)) (λcl s0 H0 fp=>(aD M9 hr (ac (fv uQ (aa 0)) (ac ad (ac (aa 1) (ac (fv uP (aa 0)) ae)))))))))),λds R h=>?_])
 .obtain⟨_,_,rfl,_⟩:=h;rfl
 .obtain⟨f,q,rfl,ok,hR⟩:=h;have l0:=ok.l0;have l1:=ok.l1;have h2:=ok.h2;have w1:=ok.w1;have w2:=ok.w2;refine#[rfl,_,fS,#[Md,Md],by rw[cx];lia,λk ys=>ys=aF f.p f.w 0 k,rfl,?_,?_]
  .rintro k v ys hk hl rfl;let#[y',rfl]:=cA hk;refine#[rfl,_,jt,rfl,_,gQ,f.p,f.d,0,k,f.w.toNat,by rw[Ie Md],ok.is,ok.ok,Md,#[Md,Md],#[Md,Md],#[Md,Md],?_];show aF f.p f.w 0 k++_=aF f.p f.w 0 (k+1);rw[<-pr,Jd]
  .rintro ys hl rfl;rw[cx];exact hR
def S_Floor_lay:SpM:=λds M R RX=>∃a q f n,ds=[.ptr a,.int n]/\a≠q/\M=Fl.M f a q/\f.Ok/\1<=n/\n<=1000/\(f.h-f.l<n->RX "NoRow" [] (f.M a q))/\(n<=f.h-f.l->∀q',a≠q'->R (.lst (aF f.p f.w f.l n.toNat)) ((f.lay n).M a q'))
def Fl.ok_new{p:Pat}{d:D}{w h:Int}(is:cf p d)(ok:p.Ok)(w1:1<=w)(w2:w<=30)(h1:1<=h)(h2:h<=30):(Fl.mk p d w h 0 []).Ok:=#[is,ok,w1,w2,h1,h2,Int.le_refl 0,Ip (show(0:Int)<=1 by decide) h1,HS _,λ_ h=>nomatch h]
def Fl.Ok.keep(ok:f.Ok)(w:Lq):(f.keep w).Ok:=by
 refine#[ok.is,ok.ok,ok.w1,ok.w2,ok.h1,ok.h2,ok.l0,ok.l1,?_,λe he=>?_]
 .show(Jn _ _).length<=20;rw[IS,HF,JP];have:=ok.de;lia
 .rcases HX.mp (Kk he)with z|z
  .exact ok.dd e z
  .rw[Hv.mp z];exact#[ok.is,ok.ok,ok.l0,ok.l1]
def Fl.Ok.lay{n:Int}(ok:f.Ok)(n0:0<=n)(hn:n<=f.h-f.l):(f.lay n).Ok:=by
 have l0:=ok.l0;have k:=ok.keep "lay";exact#[ok.is,ok.ok,ok.w1,ok.w2,ok.h1,ok.h2,by show 0<=f.l+n;lia,by show f.l+n<=f.h;lia,k.de,k.dd]
abbrev wE(V:Bx):Prop:=V.Q 11 "Floor" "lay" iY S_Floor_lay/\V.Qd 11 "Floor" "lay" iY [.int 1] S_Floor_lay
def Gh(T:V.Td "Floor" "lay" "Floor.lay" mQ iY [.int 1])(uX:V.m "max")(uT:V.a "Floor" "height")(uH:V.a "Floor" "laid")(QH:wy V)(M_:pG V)(QI:V.n "NoRow"):wE V:=by
 refine Txd.okMd T sc_Floor_lay (λds M R RX h=>?_) (λ_ _ _ _ _ _ _ J hr hx=>⟨_,((au (bu (AL (ah (aa 1)) (dB (aE uT (ah (aa 0))) (aE uH (ah (aa 0))))) (ax (tD QI hx rfl (az (ac aq ae)))) bo)
   (au (bP (aY (CalMth.one QH) hx hr (ah (aa 0)) (az (ac aq ae))))
   (au (aM 2 sc_Floor_lay.nd (aE uH (ah (aa 0))))
   (au (cu uH (ah (aa 0)) (ah (aj (aa 2) (gv rfl uX (ac (aa 1) (ac ad ae))))))
   (ax (aH (Ea (cr (CalMth.one (CalMth.lendD M_)) hx hr (ah (aa 0))) (vO (ah (aa 2))) vN)))))))),λds M R RX c5 h=>?_⟩)
 .obtain⟨_,_,⟨_,_,_,_,rfl,_⟩,_⟩:=h;rfl
 .obtain⟨R,RX,⟨a,q,f,n,rfl,ne,rfl,ok,n1,n2,hX,hR⟩,rfl,rfl⟩:=h;have l0:=ok.l0;have l1:=ok.l1;refine#[_,Fl.ma ne,_,ju,_,Fl.ma ne,_,fS,ite2 (λc=>?_) (λc=>?_)]
  .have c':=of_decide_eq_true c;refine#[le_b rfl,?_];rw[c5];exact#[_,Fl.sub ne,hX c']
  have hc:n<=f.h-f.l:=by have:¬(f.h-f.l<n):=λz=>c (decide_eq_true z);lia
  refine#[_,Hv.mpr rfl,_,Fl.ma ne,rfl,a,q,f,"lay",rfl,ne,rfl,ok.de,λq' n4=>?_];refine#[λd M'=>d=.int f.l/\M'=(f.keep "lay").M a q',#[_,Fl.ma n4,_,fS,rfl,rfl],?_];intro _ _#[rfl,rfl];k_places;have eM:mput ((f.keep "lay").M a q') a (.ins "Floor" (putD "laid" (.int (f.l+if 0>n then 0 else n)) ((f.keep "lay").fs q')))=(f.lay n).M a q':=by
   rw[Fl.put n4,if_neg Md];rfl
  refine#[_,Fl.ma n4,le_b rfl,?_];rw[eM];have el:(f.lay n).l.toNat=f.l.toNat+n.toNat:=by show(f.l+n).toNat=_;lia
  refine#[_,Hv.mpr rfl,_,Fl.ma n4,rfl,?_];dsimp only[mNil];refine wC n4 (ok.lay Md hc) ?_;rw[el];show ∃N,subM N _/\R (.lst (cutD (aF f.p f.w 0 _) (be f.l) w6)) N;rw[vV _ _ _ l0];exact#[_,Fl.sub n4,hR hc q' n4]
def Gi:SpM:=λds M R _=>∃a q f n b,ds=[.ptr a,.int n,.bl b]/\a≠q/\M=Fl.M f a q/\f.Ok/\1<=n/\n<=1000/\(f.h-f.l<n->R (.lst [.bl true,.non]) (f.M a q))/\(n<=f.h-f.l->∀q',a≠q'->R (.lst [.bl false,.lst (aF f.p f.w f.l n.toNat)]) ((f.lay n).M a q'))
abbrev pH(V:Bx):Prop:=V.Ek ["MotifError","WrongSign","OneLine","TooGreat","TooFar","NoRow"]
abbrev wF(V:Bx):Prop:=V.MM 12 "_law_lay" mU Gi
def Gj(T:V.T "_law_lay" mR mU)(OR:wE V)(ek:pH V):wF V:=by
 refine(Tx.okM T sc__law_lay (λds M R RX h=>?_) (λ_ _ _ _ _ _ _ J hr hx=>⟨_,((au (aM 3 sc__law_lay.nd (ah cN))
   (au (aM 4 sc__law_lay.nd (ah bz))
   (au (tU (λpn xe J hp hx=>(ax (gB (bG (cO (kr (bg (aa 1) ad) (kq (cm (aa 2)))))) (ax (aM 3 sc__law_lay.nd (Ed OR.2 hx hr (ah (aa 0))))) (ax (aM 3 sc__law_lay.nd (aY (CalMth.one OR.1) hx hr (ah (aa 0)) (az (ac (aa 1) ae)))))))) (λ_=>(Av ek (λe=>(ao (am 4 sc__law_lay.nd bz))) sL)))
   (ax (aH (ah (aU (ac (aa 4) (ac (aa 3) ae)))))))))),λds M R RX c5 h=>?_⟩))
 .obtain⟨_,_,_,_,_,rfl,_⟩:=h;rfl
 .obtain⟨a,q,f,n,b,rfl,ne,rfl,ok,n1,n2,hX,hR⟩:=h;refine#[λd M'=>d=.non/\M'=f.M a q,#[rfl,rfl],?_];intro _ _#[rfl,rfl];k_places;refine#[λd M'=>d=.bl false/\M'=f.M a q,#[rfl,rfl],?_];intro _ _#[rfl,rfl];k_places;refine#[λz M' x fs=>z=[be (.ptr a),be (.int n),be (.bl b),be .non,be (.bl false)]/\M'=f.M a q/\x="NoRow"/\f.h-f.l<n,λJ hJ=>?_,?_]
  .let P:D->MS->Prop:=λd M'=>n<=f.h-f.l/\∃q',a≠q'/\d=.lst (aF f.p f.w f.l n.toNat)/\M'=(f.lay n).M a q'
   have lay:S_Floor_lay [.ptr a,.int n] (f.M a q) P (λx fs M'=>J.RM [be (.ptr a),be (.int n),be (.bl b),be .non,be (.bl false)] M' x fs):=
    #[a,q,f,n,rfl,ne,rfl,ok,n1,n2,λc=>by rw[hJ];exact#[rfl,rfl,rfl,c],λc q' n4=>#[c,q',n4,rfl,rfl]]
   refine#[λz M'=>n<=f.h-f.l/\∃q',a≠q'/\z=[be (.ptr a),be (.int n),be (.bl b),be (.lst (aF f.p f.w f.l n.toNat)),be (.bl false)]/\M'=(f.lay n).M a q',ite2 (λc=>ite2 (λ_=>?_) (λ_=>?_)) (λ_=>?_),λz M' ⟨c,q',n4,e1,e2⟩=>?_]
   .have c':n=1:=of_decide_eq_true c;subst c';exact#[P,#[_,Fl.ma ne,rfl,lay],λd M' ⟨c,q',n4,e1,e2⟩=>#[c,q',n4,by rw[e1];rfl,e2]]
   .exact#[P,#[_,Hv.mpr rfl,_,Fl.ma ne,rfl,lay],λd M' ⟨c,q',n4,e1,e2⟩=>#[c,q',n4,by rw[e1];rfl,e2]]
   .exact#[P,#[_,Hv.mpr rfl,_,Fl.ma ne,rfl,lay],λd M' ⟨c,q',n4,e1,e2⟩=>#[c,q',n4,by rw[e1];rfl,e2]]
   .subst e1 e2;exact#[le_b rfl,hR c q' n4]
  .rintro z M' x fs⟨rfl,rfl,rfl,c⟩;k_places;refine#[#[Mn,Mn],?_];rw[if_pos KK];exact#[λd=>d=.bl true,rfl,λd e=>by subst e;exact#[#[le_b rfl,hX c],NoOwn.of rfl]]
def Gk:SpD:=λds R=>∃(p:Pat) (n v:Int),ds=[p.D,.int n,.int v]/\p.Ok/\∀t w k,Bad t w k->R (.lst [.str t,.tup [.str w,.int k]])
abbrev wG(V:Bx):Prop:=V.D 2 "_law_bad" mW Gk
def Gm(T:V.T "_law_bad" mV mW)(uF:V.m "str")(uA:V.m "len")(MX:pB V):wG V:=by
 refine Tx.okDW T sc__law_bad (λds R h=>?_) (λ_ _ _ _ _ _ _ J hr=>⟨_,((ai (am 3 sc__law_bad.nd (bv (aA (aa 2) ad) ad))
   (ai (am 4 sc__law_bad.nd (aj ad (aA (bb (aa 2) ad) ad)))
   (ai (am 5 sc__law_bad.nd (bv (aA (bb (aa 2) ad) ad) ad))
   (ai (am 6 sc__law_bad.nd (aD MX hr (ac (aU (ac aq ae)) (ac (aI (ac (aa 4) (ac (aa 5) ae))) (ac (aI (ac (ay (aa 4) (aa 3)) (ac (ay (aa 5) (aa 3)) ae))) ae)))))
   (ai (am 7 sc__law_bad.nd (aj aq (cR uF (ac (aj ad (aA (aa 2) ad)) ae))))
   (ai (am 7 sc__law_bad.nd (aj (aa 7) (af (aU (ac aq (ac aq ae))) (aA (bb (aa 2) ad) ad))))
   (ai (am 8 sc__law_bad.nd (af (aa 0) ad))
   (ai (dY (ko (af (aa 0) ad) ad) (ao (am 8 sc__law_bad.nd aq)) aW)
   (ai (bn (bg (aa 1) ad) (ai (am 9 sc__law_bad.nd (aA (aa 2) (bJ uA (ac (aa 8) ae))))
    (ao (aB (aU (ac (fC (aa 8) fA (fB (aa 9))) (ac (aI (ac aq (ac (aa 9) ae))) ae)))))) aW)
   (ai (bn (bg (aa 1) ad) (ao (aB (aU (ac (aj (aa 8) (af aq (aA (aa 2) ad))) (ac (aI (ac aq (ac (bJ uA (ac (aa 8) ae)) ae))) ae))))) aW)
   (ai (bn (cO (kr (bg (aa 1) ad) (kq (bg (aA (aa 2) ad) ad)))) (ao (aB (aU (ac (aj (aj (aj (aj aq (aa 8)) aq) (aa 6)) aq) (ac (aI (ac aq (ac (aj ad (bJ uA (ac (aa 8) ae))) ae))) ae))))) aW)
   (ai (bn (bg (aa 1) ad) (ao (aB (aU (ac (aj (aj (aj (aj aq (aa 6)) aq) (aa 8)) aq) (ac (aI (ac aq (ac ad ae))) ae))))) aW)
   (ai (bn (bg (aa 1) ad) (ao (aB (aU (ac (aa 7) (ac (aI (ac aq (ac (bU ad) ae))) ae))))) aW)
   (ai (bn (bg (aa 1) ad) (ao (aB (aU (ac (aj (aj (aj (aj aq (aa 7)) aq) (aa 6)) aq) (ac (aI (ac aq (ac (aj ad (bJ uA (ac (aa 7) ae))) ae))) ae))))) aW)
   (ai (am 8 sc__law_bad.nd (aj (aj (aj aq (aa 8)) aq) (aa 6)))
   (ao (aB (aU (ac (aa 8) (ac (aI (ac aq (ac (bJ uA (ac (aa 8) ae)) ae))) ae))))))))))))))))))))),λds R h=>?_⟩)
 .obtain⟨_,_,_,rfl,_⟩:=h;rfl
 .obtain⟨p,n,v,rfl,ok,hR⟩:=h;let#[t,et,ht]:∃t:Int,v%7-3=t/\-3<=t/\t<=3:=#[_,rfl,Md,Md];let#[a,ea,ha]:∃a:Int,1+v/7%3=a/\1<=a/\a<=3:=#[_,rfl,Md,Md];let#[b,eb,hb]:∃b:Int,v/21%7-3=b/\-3<=b/\b<=3:=#[_,rfl,Md,Md];let#[c,ec,hc]:∃c:Int,1+v%6=c/\1<=c/\c<=6:=#[_,rfl,Md,Md];let#[j,ej,hj]:∃j:Int,v/6%2=j/\(j=0\/j=1):=#[_,rfl,Md];refine#[λx=>x=.int t,#[Mh,congrArg D.int et],?_];intro _ rfl;k_places;refine#[λx=>x=.int a,#[#[Mh,Mh],Mh,congrArg D.int ea],?_];intro _ rfl;k_places;refine#[λx=>x=.int b,#[#[Mh,Mh],Mh,congrArg D.int eb],?_];intro _ rfl;k_places;have ls:=FD ha hb ht;have lt:(linP a b t).text.length<=100:=kZ rows2 RA RA (gR ha hb ht).1 (gR ha hb ht).2;refine#[λx=>x=.str (linP a b t).text,#[le_b rfl,le_b rfl,.inr #[Md,Md],.inr #[Md,Md],le_b rfl,["2"],a,b,a*t,b*t,rfl,rows2,RA,RA,(gR ha hb ht).1,(gR ha hb ht).2,rfl],?_];intro _ rfl;k_places;have fl:((toString c:String):Lq).length=1:=by rw[<-bq];show(numL c).length=1;rw[hueL hc];rfl
  have MB:("([1;12,0;0,10]|[":Lq).length=16:=KK
  refine#[λx=>x=.str (("([1;12,0;0,10]|[":Lq)++(toString c:String)),?_,?_]
  .refine#[Mh,?_,?_]
   .rw[ec];lia
   .rw[ec];exact#[by rw[MB,fl];decide,rfl]
  intro _ rfl;k_places;have gt:=FF hc hj;have gl:(gP c j).text.length<=40:=by
   rw[<-gt,aw,aw,MB,fl];rcases hj with rfl|rfl
   .exact JT rfl
   .exact JT rfl
  refine#[λx=>x=.str (gP c j).text,?_,?_]
  .refine#[le_b rfl,#[Mh,Mh],Mh,.str (gS j),?_,?_,?_]
   .rw[ej];rcases hj with rfl|rfl<;>rfl
   .rw[<-gt,aw]at gl;lia
   .rw[<-gt]
  intro _ rfl;k_places;refine#[λx=>x=.str p.text,#[_,rfl,rfl],?_];intro _ rfl;k_places;refine#[λz=>∃p8:Pat,p8.Ok/\p8.depth<=4/\z=[be p.D,be (.int n),be (.int v),be (.int t),be (.int a),be (.int b),be (.str (linP a b t).text),be (.str (gP c j).text),be (.str p8.text),w6],#[_,rfl,ite2 (λq=>?_) (λq=>?_)],?_]
  .refine#[λx=>x=.str "[1;1,0;0,1]",rfl,?_];intro _ rfl;k_places;exact#[Pat.mot ["1"] 1 0 0 1,#[#[vZ.1,b12 1 Mh,b12 0 Mh,b12 0 Mh,b12 1 Mh,Mh],Mh,Pat.fits_mot (b12 1 Mh) (b12 0 Mh) (b12 0 Mh) (b12 1 Mh) Mh],Mh,rfl]
  .have q':¬((5:Int)<=(p.depth:Int)):=λe=>q (decide_eq_true e);exact#[p,ok,Md,rfl]
  intro _#[p8,y_,d8,rfl];k_places;have l8:=Pat.text_short y_.wf y_.deep;have e8:=lf p8;have pos:1<=p8.text.length:=by
   rw[e8];cases p8<;>simp[Pat.tl,motL]
  have c8:=Pat.cal_of y_.wf y_.fits;have o1:("(":Lq).length=1:=rfl;have o2:("|":Lq).length=1:=rfl;have o3:(")":Lq).length=1:=rfl;have dl:(linP a b t).depth=0:=rfl;have mx:∀x:Nat,x<=4->1+max x 0<=5:=λx h=>Md
  have UV:(linP a b t).text.length=(linP a b t).tl.length:=lf _;refine ite2 (λ_=>?_) (λ_=>ite2 (λ_=>?_) (λ_=>?_))
  .obtain⟨k,hk,y'⟩:∃k:Nat,v%(p8.text.length:Int)=(k:Int)/\k<p8.text.length:=by
    have m1:=IE v (show(p8.text.length:Int)≠0 by lia);have m2:=IF v (show 0<(p8.text.length:Int)by lia);exact#[(v%(p8.text.length:Int)).toNat,Md,Md]
   refine#[λx=>x=.int (k:Int),#[Md,Md,congrArg D.int hk],?_];intro _ rfl;k_places;have s1:=Txt.slice_le p8.text w6 (be (k:Int));exact#[Md,le_b rfl,le_b rfl,hR _ _ _ (bad_wrong Md (vX y_.wf.syn y_.deep Md (by rw[FC Md,bW])))]
  .have Sj:("[](|);,:/smth.0123456789- ~":Lq).length=27:=by decide+kernel
   let#[x,hx]:∃x,atI (cs "[](|);,:/smth.0123456789- ~") (v%27)=be x:=by
    have hh:(v%27).toNat<(cs "[](|);,:/smth.0123456789- ~").length:=by rw[bq,Sj];lia
    have:=bZ (HP hh);rw[Ie Md]at this;exact#[_,this]
   have x1:(#[[x].toArray]:Lq).length=1:=rfl;have:=hR (p8.text++#[[x].toArray]) "wrong" p8.tl.length (bad_wrong (by rw[aw];lia) (FA y_.wf.syn y_.deep (by rw[bC,bW])));rw[<-e8]at this;exact#[Mh,x,#[by rw[Sj];decide,hx],by rw[x1];lia,Md,le_b rfl,le_b rfl,this]
  have N1:R (.lst [.str (Pat.over p8 (linP a b t)).text,.tup [.str "line",.int (2+(p8.text.length:Int))]]):=by
   refine hR _ _ _ (bad_line y_.wf.syn ls (by rw[Pat.depth,dl];exact mx _ d8) #[c8,trivial,λ_ z=>absurd z pw] (k:=0+1+p8.tl.length+1) ?_ Md);rw[Pat.lineAt,Pat.wf_line _ y_.wf];exact pv a b t _
  have N2:R (.lst [.str (Pat.over (linP a b t) p8).text,.tup [.str "line",.int 1]]):=by
   refine hR _ _ _ (bad_line ls y_.wf.syn (by rw[Pat.depth,dl,Nat.max_comm];exact mx _ d8) #[trivial,c8,λz _=>absurd z pw] (k:=1) ?_ Mh);rw[Pat.lineAt,pv]
  have gw:(gP c j).Wf:=#[vZ,(wa hc j).1];have N3:R (.lst [.str (Pat.over (gP c j) (linP a b t)).text,.tup [.str "line",.int (2+((gP c j).text.length:Int))]]):=by
   refine hR _ _ _ (bad_line gw.syn ls (by rw[Pat.depth,dl,wc];decide) #[we hc j,trivial,λ_ z=>absurd z pw] (k:=0+1+(gP c j).tl.length+1) ?_ (by have:=lf (gP c j);lia));rw[Pat.lineAt,Pat.wf_line _ gw];exact pv a b t _
  have N4:R (.lst [.str (gP c j).text,.tup [.str "great",.int (-1)]]):=
   hR _ _ _ (.inr #[_,rfl,gw.syn,by rw[wc];decide,we hc j,(λk e=>by rw[Pat.wf_line 0 gw]at e;cases e),λ_ _=>.inr (.inr #[rfl,rfl,rfl,rfl]),λ_ z=>absurd z (FE c j)])
  refine ite2 (λq2=>#[Mh,ite2 (λ_=>?_) (λ_=>ite2 (λ_=>?_) (λz=>absurd q2 z))]) (λq2=>iteF (ite2 (λz=>absurd z q2) (λ_=>ite2 (λ_=>?_) (λ_=>ite2 (λ_=>?_) (λ_=>?_)))))
  .refine#[?_,?_,?_,?_,Md,le_b rfl,le_b rfl,N1]
   .rw[o1];lia
   .rw[aw,o1,o2];lia
   .rw[aw,aw,o1,o2];lia
   .rw[aw,aw,aw,o1,o2,o3];lia
  .refine#[?_,?_,?_,?_,le_b rfl,le_b rfl,N2]
   .rw[o1];lia
   .rw[aw,o1,o2];lia
   .rw[aw,aw,o1,o2];lia
   .rw[aw,aw,aw,o1,o2,o3];lia
  .exact#[le_b rfl,le_b rfl,N4]
  .refine#[?_,?_,?_,?_,Md,le_b rfl,le_b rfl,N3]
   .rw[o1];lia
   .rw[aw,o1,o2];lia
   .rw[aw,aw,o1,o2];lia
   .rw[aw,aw,aw,o1,o2,o3];lia
  .refine#[λx=>x=.str (((("(":Lq)++p8.text)++"|")++(linP a b t).text),#[?_,?_,?_,rfl],?_]
   .rw[o1];lia
   .rw[aw,o1,o2];lia
   .rw[aw,aw,o1,o2];lia
   intro _ rfl;k_places;have ul:(((("(":Lq)++p8.text)++"|")++(linP a b t).text).length=1+p8.text.length+1+(linP a b t).text.length:=by rw[aw,aw,aw,o1,o2]
   have uc:cs (((("(":Lq)++p8.text)++"|")++(linP a b t).text)=40::(p8.tl++124::(linP a b t).tl):=by
    rw[bC,bC,bC,bW,bW];show([40]++p8.tl++[124])++_=_;simp
   have ut:(Pat.over p8 (linP a b t)).tl=cs (((("(":Lq)++p8.text)++"|")++(linP a b t).text)++[41]:=by
    rw[uc];show 40::(p8.tl++124::((linP a b t).tl++[41]))=_;simp
   have ud:(Pat.over p8 (linP a b t)).depth<=5:=by rw[Pat.depth,dl];exact mx _ d8
   have Sk:=bq (((("(":Lq)++p8.text)++"|")++(linP a b t).text);refine#[by rw[ul];lia,le_b rfl,le_b rfl,hR _ _ _ (bad_wrong (by rw[ul];lia) (vX (p:=.over p8 (linP a b t)) #[y_.wf.syn,ls] ud ?_ ?_))]
   .rw[ut,HF,Sk,JP];exact Jw _
   .rw[ut,<-Sk,List.take_left'];rfl
abbrev pI(V:Bx):Prop:=V.E 1 "WrongSign" mZ Dy
def Gn(T:V.Te "WrongSign" "WrongSign.__init__" mY mZ)(Na:V.b "MotifError")(uAZ:V.ea "WrongSign")(QJ:V.xf "WrongSign" "place"):pI V:=by
 refine Txe.okE T EN (λds R h=>?_) (λ_ _ _ _ _ _ _ J hr=>#[_,((sI Na uAZ (ac (aa 1) ae) (sJ uAZ QJ (aa 1) sH))),λds R h=>?_])
 .obtain⟨i,rfl,_⟩:=h;rfl
 .obtain⟨i,rfl,hR⟩:=h;exact#[le_b rfl,rfl,hR]
abbrev eO(V:Bx):Prop:=V.Q 1 "Reading" "may_take" nh CV
def Go(T:V.Tm "Reading" "may_take" "Reading.may_take" ng nh)(uA:V.m "len")(L8:V.a "Reading" "text")(uI:V.a "Reading" "place"):eO V:=by
 refine Txm.okM T EO (λds M R RX h=>?_) (λ_ _ _ _ _ _ _ J hr hx=>⟨_,((au (bu (mt_w (iw (ir (aE uI (ah (aa 0))) (tf uA (aG (aE L8 (ah (aa 0))) aX))) (iu (AM (kI (aE L8 (ah (aa 0))) (aE uI (ah (aa 0)))) (ah (aa 1)))))) (ax (aH (ah aq))) bo)
   (au (cu uI (ah (aa 0)) (iq (aE uI (ah (aa 0))) (ah ad)))
   (ax (aH (kI (aE L8 (ah (aa 0))) (dB (aE uI (ah (aa 0))) (ah ad)))))))),λds M R RX c5 h=>?_⟩)
 .obtain⟨_,_,_,_,_,rfl,_⟩:=h;rfl
 .obtain⟨a,t,k,l,al,rfl,rfl,f8,hR⟩:=h;refine#[_,aS,_,dH,_,aS,_,ll,HG f8.sz Mh,?_];cases l with
  |nil=>
   refine ifdT (by rw[f8.nil]) (ifT rfl ?_);exact hR
  |cons c l=>
   have lt:=f8.lt;refine ifdF Md ?_;refine#[_,aS,_,ll,_,aS,_,dH,c,#[HG f8.sz Mh,bZ f8.get],?_];refine ite2 (λe=>?_) (λe=>?_)
   .have e2:(!(!(Builtin.Str.occurrences al #[[c].toArray] 0 al.length 1).isEmpty))=true:=e;rw[vi]at e2;have nc:c∉cs al:=by simpa using e2
    rw[dI nc,dJ nc]at hR;exact hR
   .have e2:¬(!(!(Builtin.Str.occurrences al #[[c].toArray] 0 al.length 1).isEmpty))=true:=e;rw[vi]at e2;have nc:c∈cs al:=by simpa using e2
    rw[eE nc,eF nc]at hR;refine#[_,aS,_,dH,_,aS,le_b rfl,?_];rw[show mput (RdM a t k) a (.ins "Reading" (putD ("place":Lq) (.int ((k:Int)+1)) (rdF t k)))=RdM a t (k+1)by rw[CT];exact fK];refine#[_,aS,_,ll,_,aS,_,dH,c,#[HG f8.sz Mh,?_],hR];rw[show((k+1:Nat):Int)-1=(k:Int)by lia];exact bZ f8.get
abbrev dh(V:Bx):Prop:=V.Q 3 "Reading" "take" nn CW
def Gp(T:V.Tm "Reading" "take" "Reading.take" nj nn)(uI:V.a "Reading" "place")(uL:eO V)(uM:pI V):dh V:=by
 refine Txm.okM T sc_Reading_take (λds M R RX h=>?_) (λ_ _ _ _ _ _ _ J hr hx=>⟨_,((au (aM 2 sc_Reading_take.nd (aY (CalMth.one uL) hx hr (ah (aa 0)) (az (ac (aa 1) ae))))
   (au (bu (bG (bg (aa 2) aq)) (ax (kL uM hr hx rfl (aG (aE uI (ah (aa 0))) aX))) bo)
   (ax (aH (ah (aa 2))))))),λds M R RX c5 h=>?_⟩)
 .obtain⟨_,_,_,_,_,rfl,_⟩:=h;rfl
 .obtain⟨a,t,k,l,al,rfl,rfl,f8,hR,hX⟩:=h;refine#[λd M'=>d=.str (mayS al l)/\M'=RdM a t (k+mayN al l),#[_,Hv.mpr rfl,_,aS,cZ,a,t,k,l,al,rfl,rfl,f8,rfl,rfl],?_];intro _ _#[rfl,rfl];k_places;have no:(∀c l',l=c::l'->c∉cs al)->mayS al l=""/\mayN al l=0:=λh=>by
   cases l with
   |nil=>exact#[rfl,rfl]
   |cons c l=>exact#[dI (h c l rfl),dJ (h c l rfl)]
  by_cases h:∃c l',l=c::l'/\c∈cs al
  .obtain⟨c,l',rfl,hc⟩:=h;rw[eE hc,eF hc];exact hR c l' rfl hc
  .have h':∀c l',l=c::l'->c∉cs al:=λc l' e hc=>h #[c,l',e,hc];let#[e1,e2]:=no h';rw[e1,e2];refine#[_,aS,_,dH,le_b rfl,(k:Int),rfl,?_];rw[c5];exact hX h' _
abbrev wH(V:Bx):Prop:=V.MM 4 "line_from" nt C5
def Gq(T:V.T "line_from" nq nt)(uB:V.m "range")(uR:V.gs "SIGNS" ".123456")(uC:dh V)(uL:eO V):wH V:=by
 refine(Tx.okM T sc_line_from (λds M R RX h=>?_) (λ_ _ _ _ _ _ _ J hr hx=>⟨_,((au (aM 3 sc_line_from.nd (ah aq))
   (au (Bd 4 PassesOwn.leaving rfl sc_line_from.nd uB (ah (aa 2)) (ax (aM 3 sc_line_from.nd (iq (ah (aa 3)) (gA (bG (gf (aa 4) (aa 1))) (aY (CalMth.one uC) hx hr (ah (aa 0)) (az (ac (fz uR) ae))) (aY (CalMth.one uL) hx hr (ah (aa 0)) (az (ac (fz uR) ae))))))))
   (ax (aH (ah (aa 3))))))),λds M R RX c5 h=>?_⟩))
 .obtain⟨_,_,_,_,_,_,rfl,_⟩:=h;rfl
 .obtain⟨a,t,k,l,n,m,rfl,rfl,f8,UW,UX,hR,hX⟩:=h;refine#[λd M'=>d=.str ""/\M'=RdM a t k,#[rfl,rfl],?_];intro _ _#[rfl,rfl];k_places;refine#[#[Md,Md],λi z M'=>i<=m/\∃col,z=[be (.ptr a),be (.int n),be (.int m),be (.str #[(sgPre i l).toArray]),col]/\M'=RdM a t (k+(sgPre i l).length)/\min i n<=(sgPre i l).length,#[HS _,w6,rfl,rfl,Mn],?_,?_]
  .rintro i x z M' hi⟨UY,col,rfl,rfl,QK⟩;k_places;let#[Lk,rfl]:=cA hi;have Lk:i<m:=by lia
   have UZ:=iC i l;rcases sgPre_succ i l with⟨c,l',h1,h2,h3,h4⟩|⟨l',h1,h2,h3⟩
   .have d9:At t (k+(sgPre i l).length) (c::l'):=by have:=f8;rw[h1]at this;exact this.app
    refine#[λd M'=>d=.str #[(sgPre (i+1) l).toArray]/\M'=RdM a t (k+(sgPre i l).length+1),?_,?_]
    .refine ite2 (λ_=>?_) (λ_=>?_)
     .refine#[_,Hv.mpr rfl,_,aS,ce,a,t,_,_,".123456",rfl,rfl,d9,λc' l2 e hc=>?_,λe_=>absurd (signs_is.mpr h3) (e_ c l' rfl)];cases e;refine#[by rw[len_of_list,show(#[[c].toArray]:Lq).length=1 from rfl];lia,?_,rfl];rw[show(#[[c].toArray]:Lq)=#[[c].toArray]from rfl,str_of_list,h4]
     .refine#[_,Hv.mpr rfl,_,aS,cZ,a,t,_,_,".123456",rfl,rfl,d9,?_];rw[eE (signs_is.mpr h3),eF (signs_is.mpr h3)];refine#[by rw[len_of_list,show(#[[c].toArray]:Lq).length=1 from rfl];lia,?_,rfl];rw[show(#[[c].toArray]:Lq)=#[[c].toArray]from rfl,str_of_list,h4]
    .rintro _ _⟨rfl,rfl⟩;k_places;refine#[Lk,_,rfl,?_,?_]
     .rw[h4,HF];rfl
     .rw[h4,HF,h2];show _<=i+1;lia
   .have d9:At t (k+(sgPre i l).length) l':=by have:=f8;rw[h1]at this;exact this.app
    have e_:∀c l2,l'=c::l2->c∉cs ".123456":=λc l2 q z=>by
     have:=h2 c l2 q;rw[signs_is.mp z]at this;cases this
    have K9:mayS ".123456" l'=""/\mayN ".123456" l'=0:=by
     cases l' with
     |nil=>exact#[rfl,rfl]
     |cons c l2=>exact#[dI (e_ c l2 rfl),dJ (e_ c l2 rfl)]
    refine#[λd M'=>d=.str #[(sgPre (i+1) l).toArray]/\M'=RdM a t (k+(sgPre i l).length)/\¬i<n,?_,?_]
    .refine ite2 (λc=>?_) (λc=>?_)
     .have c':=of_decide_eq_true c;refine#[_,Hv.mpr rfl,_,aS,ce,a,t,_,_,".123456",rfl,rfl,d9,λc' l2 e hc=>absurd hc (e_ c' l2 e),λ_ M'=>?_];rw[c5];have:=hX (by rw[h3 m Md];lia) M';rw[h3 m Md]at this;exact this
     .have c':¬i<n:=λz=>c (decide_eq_true Md);refine#[_,Hv.mpr rfl,_,aS,cZ,a,t,_,_,".123456",rfl,rfl,d9,?_];rw[K9.1,K9.2];refine#[by rw[len_of_list,show("":Lq).length=0 from rfl];lia,?_,rfl,c'];rw[show("":Lq)=#[([]:List Nat).toArray]from rfl,str_of_list,H9,h3 (i+1) Md]
    .rintro _ _⟨rfl,rfl,LX⟩;k_places;refine#[Lk,_,rfl,by rw[h3 (i+1) Md],?_];rw[h3 (i+1) Md];lia
  .intro z M' hz;rw[cx,IM]at hz;let#[_,col,rfl,rfl,QK]:=hz;exact hR Md
abbrev wI(V:Bx):Prop:=V.MM 5 "lines_from" nv C8
def Gr(T:V.T "lines_from" nu nv)(uA:V.m "len")(OS:wH V)(OT:V.gi "LONGEST" 8)(uL:eO V):wI V:=by
  refine(Tx.okM T sc_lines_from (λds M R RX h=>?_) (λ_ _ _ _ _ _ _ J hr hx=>⟨_,((au (aM 1 sc_lines_from.nd (kK (aG (aO (CalMM.frame OS) hx hr (az (ac (aa 0) (ac ad (ac (fw OT) ae))))) aX)))
      (au (aM 2 sc_lines_from.nd (tf uA (aG (Bf (ah (aa 1)) (ah ad)) aX)))
      (au (A6 PassesOwn.leaving (mt_w (sY (sV (tI uA (ah (aa 1))) (ah (fw OT))) (sX (ir (aY (CalMth.one (CalMth.frame uL)) hx hr (ah (aa 0)) (az (ac aq ae))) (ah aq))))) (ax (bP (Bh (ah (aa 1)) (aO (CalMM.frame OS) hx hr (az (ac (aa 0) (ac (aa 2) (ac (aa 2) ae)))))))))
      (tJ 1 (ax (aH (ah (aa 1))))))))),λds M R RX c5 h=>?_⟩))
  . let#[_,_,_,_,rfl,_]:=h;rfl
  . let#[a,t,k,l,rfl,rfl,f8,hR,hX]:=h;let#[l1,MB,hg]:=sgPre_split 8 l;have Sl:=sgPre_sign 8 l;have LN:=iC 8 l;refine#[λd M'=>∃p,p≠a/\1<=(sgPre 8 l).length/\d=.ptr p/\M'=(p,.lst [.str #[(sgPre 8 l).toArray]])::RdM a t (k+(sgPre 8 l).length),#[[],RdM a t k,rfl,a,t,k,l,1,8,rfl,rfl,f8,Mh,Mh,λh1=>#[by show 1<=1000;decide,λp hp=>?_],λh1 M'=>?_],?_]
    . exact#[p,λe=>hp (by rw[e];exact Hv.mpr rfl),h1,rfl,rfl]
    . rw[c5];refine hX _ (λr=>?_) _;have e0:sgPre 8 l=[]:=JY Md;rw[e0]at MB hg ⊢;rw[MB];have:=vm (w:=1) (n:=0) (x:=[]) (l:=l1) (λc z=>nomatch z) Mh Mh (λ_=>rfl) (hg.resolve_left Mh) r k;refine walk_bad (λz=>nomatch z) λc l' q=>?_;rw[eB];unfold cY;rw[hg.resolve_left Mh c l' q,if_neg HH];exact if_pos (.inl rfl)
    intro _ _#[p,Ug,h1,rfl,rfl];k_places;refine#[λd M'=>d=.int (sgPre 8 l).length/\M'=(p,.lst [.str #[(sgPre 8 l).toArray]])::RdM a t (k+(sgPre 8 l).length),#[_,db,_,rfl,by rw[len_of_list];lia,by rw[len_of_list],rfl],?_];intro _ _#[rfl,rfl];k_places;refine#[λm z M'=>∃(L:List (List Nat)) (w0:Nat) (l2:List Nat),RowsL L (sgPre 8 l).length/\l=rowsL L++l2/\LinAt w0 (sgPre 8 l).length L.length l2/\(∀r,walk (.lin 0 0 0::r) l k=walk (.lin w0 (sgPre 8 l).length (L.length-1)::r) l2 (k+(rowsL L).length))/\m=8-L.length/\z=[be (.ptr a),be (.ptr p),be (.int (sgPre 8 l).length)]/\M'=(p,.lst (lstD L))::RdM a t (k+(rowsL L).length),#[7,[sgPre 8 l],0,l1,#[Mn,h1,LN,λx hx=>?_],MB,#[h1,Mn,λ_=>hg,λz=>absurd z Mn],λr=>?_,rfl,rfl,rfl],?_]
    . rw[Hv.mp hx];exact#[rfl,Sl]
    . have:=fJ (w:=0) (k:=0) (r:=r) (sgPre 8 l) 0 l1 k Sl Qu;rw[<-MB,Je]at this;exact this
    intro m z M'#[L,w0,l2,hL,Me,MC,hw,rfl,rfl,rfl];k_places;have G':=hL.many;have p7:At t (k+(rowsL L).length) l2:=by have:=f8;rw[Me]at this;exact this.app
    have N5:(lstD L).length=L.length:=by simp[lstD]
    have done:(L.length=8\/∀l',l2≠47::l')->R (.lst (lstD L)) (RdM a t (k+(rowsL L).length)):=λst=>hR L _ l2 hL Me λr=>by rw[hw r,C7 MC Md st]
    refine#[_,db,?_];rw[N5];refine ite2 (λc=>?_) (λc=>?_)
    . have c':L.length<8:=by have:=of_decide_eq_true c;lia
      refine#[_,Hv.mpr rfl,_,C6 Ug,cZ,[(p,_)],RdM a t _,rfl,a,t,_,l2,"/",rfl,rfl,p7,?_];by_cases Sm:∃l',l2=47::l'
      . let#[l3,rfl]:=Sm;have Sn:(47:Nat)∈cs "/":=by decide
        rw[eE Sn,eF Sn];let#[l4,QL,Uh]:=sgPre_split (sgPre 8 l).length l3;have QM:=sgPre_sign (sgPre 8 l).length l3;have Ui:=iC (sgPre 8 l).length l3;refine#[#[_,db],[(p,_)],RdM a t _,rfl,a,t,_,l3,(sgPre 8 l).length,(sgPre 8 l).length,rfl,rfl,p7.next,Hw _,LN,λh2=>?_,λh2 M'=>?_]
        . have b9:(sgPre (sgPre 8 l).length l3).length=(sgPre 8 l).length:=by lia
          refine#[_,db,by rw[N5];lia,?_];refine#[8-(L.length+1),Md,L++[sgPre (sgPre 8 l).length l3],(sgPre 8 l).length,l4,#[by rw[HF];simp;lia,h1,LN,λx hx=>?_],?_,#[h1,by rw[HF];simp,λz=>?_,λ_=>rfl],λr=>?_,by rw[HF];rfl,rfl,?_]
          . rcases HX.mp hx with q|q
            . exact hL.each x q
            . rw[Hv.mp q];exact#[b9,QM]
          . rw[iD L _ (λq=>by rw[q]at G';simp at G'),Ii,Ih,<-QL];exact Me
          . rw[HF]at z;simp at z;rw[z]at G';simp at G'
          . rw[hw r,vk MC c' r];have:=fJ (w:=(sgPre 8 l).length) (k:=L.length) (r:=r) (sgPre (sgPre 8 l).length l3) 0 l4 (k+(rowsL L).length+1) QM (by rw[if_pos Md];lia);rw[<-QL,Je,b9]at this;rw[this,iD L _ (λq=>by rw[q]at G';simp at G'),HF,HF];show walk (.lin _ _ L.length::r) l4 _=walk (.lin _ _ (L.length+1-1)::r) l4 _;congr 1;rw[HA,b9];lia
          . show mput ((p,MO.lst (lstD L))::RdM a t _) p _=_;rw[vj,iD L _ (λq=>by rw[q]at G';simp at G')];show _::RdM a t _=_;congr 1
            . simp[lstD]
            . congr 1;simp;lia
        . rw[c5];refine hX _ (λr=>?_) _;rw[hw r,vk MC c' r];have:=vm (w:=(sgPre 8 l).length) (n:=L.length) QM h2 LN (λq=>Md) (Uh.resolve_left Md) r (k+(rowsL L).length+1);rw[<-QL]at this;exact this
      . have e_:∀l',l2≠47::l':=λl' q=>Sm #[l',q];have K9:mayS "/" l2=""/\mayN "/" l2=0:=by
          cases l2 with
          |nil=>exact#[rfl,rfl]
          |cons c l3=>
            have:c∉cs "/":=λq=>e_ l3 (by rw[show c=47 from Hv.mp q]);exact#[dI this,dJ this]
        rw[K9.1,K9.2];refine#[_,db,?_];rw[show mdel ([(p,MO.lst (lstD L))]++RdM a t (k+(rowsL L).length+0)) p=RdM a t (k+(rowsL L).length)from lq];exact done (.inr e_)
    . have c':L.length=8:=by
        have:¬((L.length:Int)<8):=λz=>c (decide_eq_true z);lia
      refine#[_,db,?_];rw[lq];exact done (.inl c')
abbrev wJ(V:Bx):Prop:=V.MM 4 "number_from" ny C3
def Gs(T:V.T "number_from" nw ny)(uE:V.m "int")(uL:eO V)(uC:dh V):wJ V:=by
  refine(Tx.okM T sc_number_from (λds M R RX h=>?_) (λ_ _ _ _ _ _ _ J hr hx=>⟨_,((au (bu (ir (aY (CalMth.one uL) hx hr (ah (aa 0)) (az (ac aq ae))) (ah aq)) (ax (aH (ah ad))) bo)
      (au (aM 1 sc_number_from.nd (iq (aY (CalMth.one uL) hx hr (ah (aa 0)) (az (ac aq ae))) (aY (CalMth.one uC) hx hr (ah (aa 0)) (az (ac aq ae)))))
      (au (gB (bG (cm (AJ (aa 1) (ac aq ae)))) (ax (aM 1 sc_number_from.nd (iq (ah (aa 1)) (aY (CalMth.one uL) hx hr (ah (aa 0)) (az (ac aq ae)))))) bo)
      (ax (aH (ah (gu uE (ac (aa 1) ae))))))))),λds M R RX c5 h=>?_⟩))
  . let#[_,_,_,_,rfl,_]:=h;rfl
  . let#[a,t,k,l,rfl,rfl,f8,hR,hX]:=h;refine#[_,Hv.mpr rfl,_,aS,cZ,a,t,k,l,"0",rfl,rfl,f8,?_];by_cases z0:∃l',l=48::l'
    . let#[l',rfl]:=z0;have e0:(48:Nat)∈cs "0":=by decide
      rw[eE e0,eF e0];refine hR 0 l' RA ?_ λe r=>?_
      . rw[show numL 0=[48]by decide+kernel];rfl
      . rw[show numL 0=[48]by decide+kernel,aK (st':=.sign e::r) Nr];rfl
    have n0:mayS "0" l=""/\mayN "0" l=0:=by
      cases l with
      |nil=>exact#[rfl,rfl]
      |cons c l=>
        have:c∉cs "0":=λq=>z0 #[l,by rw[show c=48 from Hv.mp q]];exact#[dI this,dJ this]
    rw[n0.1,n0.2];let#[pre,l1,hp,rfl,hS,hN,h0]:∃pre l1,(pre=[]\/pre=[45])/\l=pre++l1/\mayS "-" l=⟨pre.toArray⟩/\mayN "-" l=pre.length/\(pre=[]->∀c l',l1=c::l'->c≠48/\c≠45):=by
      by_cases z1:∃l',l=45::l'
      . let#[l',rfl]:=z1;exact#[[45],l',.inr rfl,rfl,rfl,rfl,λq=>nomatch q]
      . refine#[[],l,.inl rfl,rfl,?_];cases l with
        |nil=>exact#[rfl,rfl,λ_ c l' q=>nomatch q]
        |cons c l=>
          have:c∉cs "-":=λq=>z1 #[l,by rw[show c=45 from Hv.mp q]];refine#[dI this,dJ this,λ_ c' l' q=>?_];cases q;exact#[λe=>z0 #[l,by rw[e]],λe=>z1 #[l,by rw[e]]]
    have d9:=f8.app;refine#[λd M'=>∃c l2,l1=c::l2/\(49<=c/\c<=57)/\d=.str #[(pre++[c]).toArray]/\M'=RdM a t (k+pre.length+1),?_,?_]
    . refine#[_,Hv.mpr rfl,_,aS,cZ,a,t,k,_,"-",rfl,rfl,f8,?_];rw[hS,hN];refine#[_,Hv.mpr rfl,_,aS,ce,a,t,k+pre.length,l1,"123456789",rfl,rfl,d9,λc l2 e hc=>?_,λe_ M'=>?_]
      . refine#[?_,c,l2,e,digits19.mp hc,?_,rfl]
        . rcases hp with rfl|rfl<;>simp[Str.length]
        . rw[show(#[[c].toArray]:Lq)=#[[c].toArray]from rfl,str_of_list]
      . rw[c5];exact hX _ (C0 hp rfl (λc l' q=>λz=>e_ c l' q (digits19.mpr z)) h0 k) M'
    . intro _ _#[c,l2,rfl,hc,rfl,rfl];k_places;have p7:=d9.next;refine#[λz M'=>∃x l3,((c=49/\∃d,(48<=d/\d<=50)/\x=[d])\/(x=[]/\(c=49->∀d l',l3=d::l'->¬(48<=d/\d<=50))))/\l2=x++l3/\z=[be (.ptr a),be (.str #[(pre++c::x).toArray])]/\M'=RdM a t (k+pre.length+1+x.length),?_,?_]
      . show if Txt.endswith #[(pre++[c]).toArray] "1"=true then _ else _
        rw[C1];refine ite2 (λe=>?_) (λe=>?_)
        . have e':=of_decide_eq_true e;by_cases z2:∃d l3,l2=d::l3/\(48<=d/\d<=50)
          . let#[d,l3,rfl,hd]:=z2;refine#[λv M'=>v=.str #[(pre++[c,d]).toArray]/\M'=RdM a t (k+pre.length+1+1),#[_,Hv.mpr rfl,_,aS,cZ,a,t,_,_,"012",rfl,rfl,p7,?_],?_]
            . rw[eE (digits02.mpr hd),eF (digits02.mpr hd)];refine#[?_,?_,rfl]
              . rcases hp with rfl|rfl<;>simp[Str.length]
              . rw[show(#[[d].toArray]:Lq)=#[[d].toArray]from rfl,str_of_list];simp
            . intro _ _#[rfl,rfl];k_places;exact#[[d],l3,.inl #[e',d,hd,rfl],rfl,rfl,rfl]
          . have e_:∀d l',l2=d::l'->¬(48<=d/\d<=50):=λd l' q z=>z2 #[d,l',q,z];have hm:mayS "012" l2=""/\mayN "012" l2=0:=by
              cases l2 with
              |nil=>exact#[rfl,rfl]
              |cons d l2=>exact#[dI (λq=>e_ d l2 rfl (digits02.mp q)),dJ (λq=>e_ d l2 rfl (digits02.mp q))]
            refine#[λv M'=>v=.str #[(pre++[c]).toArray]/\M'=RdM a t (k+pre.length+1),#[_,Hv.mpr rfl,_,aS,cZ,a,t,_,_,"012",rfl,rfl,p7,?_],?_]
            . rw[hm.1,hm.2];refine#[?_,?_,rfl]
              . rcases hp with rfl|rfl<;>simp[Str.length,show(Str.ofString "").cps.size=0 from rfl]
              . rw[show("":Lq)=#[([]:List Nat).toArray]from rfl,str_of_list];simp
            . intro _ _#[rfl,rfl];k_places;exact#[[],l2,.inr #[rfl,λ_=>e_],rfl,rfl,rfl]
        . have e':¬c=49:=λz=>e (decide_eq_true z);exact#[[],l2,.inr #[rfl,λz=>absurd z e'],rfl,rfl,rfl]
      . intro _ _#[x,l3,hx,rfl,rfl,rfl];k_places;have hn:isNumL (pre++c::x):=by
          rcases hx with⟨rfl,d,hd,rfl⟩|⟨rfl,_⟩
          . rcases hp with rfl|rfl
            . exact .inr (.inl #[d,hd,rfl])
            . exact .inr (.inr (.inr #[d,hd,rfl]))
          . rcases hp with rfl|rfl
            . exact .inl #[c,Md,rfl]
            . exact .inr (.inr (.inl #[c,hc,rfl]))
        let#[v,hv,ev]:=CP hn;refine#[v,#[?_,?_],?_]
        . rw[<-ev];exact lm hv
        . rw[<-ev];have:=bE hv;rw[<-bq]at this ⊢;show(numL v).length<=640;exact HG this Mh
        . have:=hR v l3 hv (by rw[ev];simp) λe r=>by rw[ev];exact CZ hp hc hx k e r rfl
          rw[ev]at this;have e2:k+(pre++c::x).length=k+pre.length+1+x.length:=Qu
          rw[e2]at this;exact this
abbrev jx(V:Bx):Prop:=V.MM 5 "shift_from" nA C4
def Gu(T:V.T "shift_from" nz nA)(OU:wJ V)(uC:dh V):jx V:=by
 refine(Tx.okM T sc_shift_from (λds M R RX h=>?_) (λ_ _ _ _ _ _ _ J hr hx=>⟨_,((au (aM 1 sc_shift_from.nd (aO OU hx hr (az (ac (aa 0) ae))))
   (au (bP (aY (CalMth.one uC) hx hr (ah (aa 0)) (az (ac aq ae))))
   (ax (aH (sZ (aG (ah (aa 1)) (aG (aO OU hx hr (az (ac (aa 0) ae))) aX)))))))),λds M R RX c5 h=>?_⟩))
 .obtain⟨_,_,_,_,rfl,_⟩:=h;rfl
 .obtain⟨a,t,k,l,rfl,rfl,f8,hR,hX⟩:=h;refine#[λd M'=>∃x l1,B12 x/\l=numL x++l1/\(∀e r,walk (.num::.sign e::r) l k=walk (.sign e::r) l1 (k+(numL x).length))/\d=.int x/\M'=RdM a t (k+(numL x).length),#[a,t,k,l,rfl,rfl,f8,λx l' hx e hw=>#[x,l',hx,e,hw,rfl,rfl],λj hj M'=>?_],?_]
  .rw[c5];exact hX j (λr=>hj _) M'
  intro _ _#[x,l1,i8,rfl,t7,rfl,rfl];k_places;have d9:=f8.app;refine#[_,Hv.mpr rfl,_,aS,ce,a,t,_,l1,",",rfl,rfl,d9,λc l2 e hc=>?_,λe_ M'=>?_]
  .have ec:c=44:=Hv.mp hc;subst ec;subst e;refine#[a,t,_,l2,rfl,rfl,d9.next,λy l' hy e hw=>?_,λj hj M'=>?_]
   .subst e;refine#[Mn,hR x y l' i8 hy rfl λe r=>?_];rw[t7 44 _,eJ,hw e r]
   .rw[c5];refine hX j (λr=>?_) M';rw[t7 44 _,eJ,hj]
  .rw[c5];refine hX _ (λr=>?_) M';rw[t7 44 _,eI λl' q=>e_ 44 l' q Mh]
abbrev pJ(V:Bx):Prop:=V.D 1 "levelled" nC B7
def Gv(T:V.T "levelled" nB nC):pJ V:=by
 refine Tx.okDW T sc_levelled (λds R h=>?_) (λ_ _ _ _ _ _ _ J hr=>⟨_,((ai (gq PassesOwn.never (cE (af (aa 1) ad) ad) (ai (am 2 sc_levelled.nd (zv (af (aa 0) ad) (af (aa 1) ad)))
    (ai (am 3 sc_levelled.nd (aI (ac (bv (af (aa 0) ad) (ay (aa 2) (af (aa 1) ad))) (ac (bv (af (aa 0) ad) (ay (aa 2) (af (aa 1) ad))) ae))))
    (ai (am 0 sc_levelled.nd (aa 1))
    (ao (am 1 sc_levelled.nd (aa 3)))))))
   (ai (dY (gf (af (aa 0) ad) ad) (ao (am 0 sc_levelled.nd (aI (ac (bU (af (aa 0) ad)) (ac (bU (af (aa 0) ad)) ae))))) aW)
   (ao (aB (aI (ac (aa 0) (ac (aa 1) ae)))))))),λds R h=>?_⟩)
 .obtain⟨a,b,c,d,rfl,_⟩:=h;rfl
 .obtain⟨a,b,c,d,rfl,hb,hd,hR⟩:=h;refine#[λm z=>∃(f0 f1 s0 s1:Int) (t r:Option D),z=[be (.tup [.int f0,.int f1]),be (.tup [.int s0,.int s1]),t,r]/\Uni a b c d f0 f1 s0 s1/\f1.natAbs<4611686018427387904/\s1.natAbs<4611686018427387904/\m=s1.natAbs,#[_,a,b,c,d,w6,w6,rfl,Uni.refl a b c d,hb,hd,rfl],?_];intro m z#[f0,f1,s0,s1,t,r,rfl,hu,hf,hs,rfl];k_places;refine#[_,rfl,ite2 (λcc=>?_) (λcc=>?_)]
  .have c':¬s1=0:=by simpa using cc
   let#[g1,g2]:=fdm f1 s1 c';refine#[λd=>d=.int (f1.fdiv s1),#[_,rfl,_,rfl,#[c',hs],rfl],?_];intro _ rfl;k_places;refine#[λd=>d=.tup [.int (f0-f1.fdiv s1*s0),.int (f1-f1.fdiv s1*s1)],#[_,rfl,_,rfl,.inl #[Md,Md],_,rfl,_,rfl,.inl #[Md,Md],Mn,rfl],?_];intro _ rfl;k_places;refine#[λd=>d=.tup [.int s0,.int s1],rfl,?_];intro _ rfl;k_places;refine#[λd=>d=.tup [.int (f0-f1.fdiv s1*s0),.int (f1-f1.fdiv s1*s1)],rfl,?_];intro _ rfl;k_places;exact#[_,g1,s0,s1,_,_,_,_,rfl,hu.step _,hs,Md,rfl]
  .have c':s1=0:=by simpa using cc
   subst c';refine#[λz=>∃p0 p1:Int,z=[be (.tup [.int p0,.int p1]),be (.tup [.int s0,.int 0]),t,r]/\Lev a b c d p0 p1 s0,#[_,rfl,ite2 (λe=>?_) (λe=>?_)],?_]
   .have e':=of_decide_eq_true e;refine#[λd=>d=.tup [.int (-f0),.int (-f1)],#[_,rfl,_,rfl,Mn,rfl],?_];intro _ rfl;k_places;exact#[_,_,rfl,Md,hu.neg]
   .have e':=of_decide_eq_false (H8.mpr e);exact#[_,_,rfl,Md,hu]
   .rintro _⟨p0,p1,rfl,hL⟩;k_places;exact#[Mn,hR p0 p1 s0 hL]
abbrev pK(V:Bx):Prop:=V.D 2 "spread" nF B8
def Gw(T:V.T "spread" nE nF)(uS:V.m "abs")(Nb:pJ V):pK V:=by
 refine Tx.okDW T sc_spread (λds R h=>?_) (λ_ _ _ _ _ _ _ J hr=>⟨_,((ai (bn (bg (ay (af (aa 0) ad) (af (aa 1) ad)) (ay (af (aa 0) ad) (af (aa 1) ad))) (ao (aB cN)) aW)
   (ai (am 2 sc_spread.nd (aD Nb hr (ac (aa 0) (ac (aa 1) ae))))
   (ai (am 3 sc_spread.nd (eZ uS (ac (af (af (aa 2) ad) ad) ae)))
   (ao (aB (aI (ac (aa 3) (ac (af (af (aa 2) ad) ad) (ac (aA (af (af (aa 2) ad) ad) (aa 3)) ae)))))))))),λds R h=>?_⟩)
 .obtain⟨a,b,c,d,rfl,_⟩:=h;rfl
 .obtain⟨a,b,c,d,rfl,ha,hb,hc,hd,hN,hR⟩:=h;refine#[_,rfl,_,rfl,.inl #[Md,Md],_,rfl,_,rfl,.inl #[Md,Md],ite2 (λe=>?_) (λe=>?_)]
  .exact hN (of_decide_eq_true e)
  .have e':=of_decide_eq_false (H8.mpr e);refine#[λx=>∃p0 p1 q0:Int,x=.tup [.tup [.int p0,.int p1],.tup [.int q0,.int 0]]/\Lev a b c d p0 p1 q0,#[a,b,c,d,rfl,hb,hd,λp0 p1 q0 hL=>#[p0,p1,q0,rfl,hL]],?_];intro _#[p0,p1,q0,rfl,hL];k_places;have hF:=gE e' hL;refine#[λx=>x=.int (if q0<0 then -q0 else q0),#[_,rfl,_,rfl,rfl],?_];intro _ rfl;k_places;exact#[_,rfl,_,rfl,_,rfl,_,rfl,hF.1,Mn,hR e' _ _ _ hF]
abbrev wK(V:Bx):Prop:=V.MM 2 "hues_by_home" nH Dd
def Gx(T:V.T "hues_by_home" nG nH)(MD:V.m "enumerate")(J_:gT V)(uR:V.gs "SIGNS" ".123456"):wK V:=by
 refine(Tx.okM T sc_hues_by_home (λds M R RX h=>?_) (λ_ _ _ _ _ _ _ J hr hx=>⟨_,((au (aM 2 sc_hues_by_home.nd Bw)
   (au (Bn PassesOwn.leaving rfl MD (ah (aa 0)) (dg_cons 3 sc_hues_by_home.nd (dg_cons 4 sc_hues_by_home.nd dZ)) (ax (Bo PassesOwn.leaving rfl MD (ah (aa 4)) (dg_cons 5 sc_hues_by_home.nd (dg_cons 6 sc_hues_by_home.nd dZ)) (ax (gB (bG (cE (aa 6) aq)) (ax (bP (BA (jX hr) (ah (aa 2)) (az (ac (aD J_ hr (ac (aa 1) (ac (aa 5) (ac (aa 3) ae)))) (ac (sS (fz uR) (ac (aa 6) ae)) ae)))))) bo)))))
   (tJ 2 (ax (aH (ah (aa 2)))))))),λds M R RX c5 h=>?_⟩))
 .obtain⟨_,_,_,_,_,rfl,_⟩:=h;rfl
 .obtain⟨L,wd,w,h,s,rfl,hL,hw,hh,Li,hs,j_,hR⟩:=h;have Ud:=hL.w8;refine#[λd M'=>∃p,p∉av M/\d=.ptr p/\M'=(p,.dti [])::M,λp hp=>#[p,hp,rfl,rfl],?_];intro _ _#[p,hp,rfl,rfl];k_places;refine#[λj z M'=>∃(kv:List ((Int×Int)×Int)) (x3 x4 x5 x6:Option D),hAll w h s j (L.drop j) kv=hAll w h s 0 L []/\kv.length<=8*j/\z=[be (.lst (lstD L)),be (.tup [.int w,.int h,.int s]),be (.ptr p),x3,x4,x5,x6]/\M'=(p,.dti kv)::M,#[[],w6,w6,w6,w6,rfl,Mn,rfl,rfl],?_,?_]
  .rintro j d z M' hd⟨kv,x3,x4,x5,x6,e1,Uj,rfl,rfl⟩;k_places;let#[x,i8,rfl]:=Db hd;have hj:j<L.length:=(HJ.mp i8).1;have U0:=hL.many;let#[xl,xs]:=hL.each x (Ji i8);rw[vo i8]at e1;refine#[Da xs,λi z M'=>∃(LO:List ((Int×Int)×Int)) (x5 x6:Option D),hRow w h s j i (x.drop i) LO=hRow w h s j 0 x kv/\LO.length<=8*j+i/\i<=x.length/\z=[be (.lst (lstD L)),be (.tup [.int w,.int h,.int s]),be (.ptr p),be (.int j),be (.str #[x.toArray]),x5,x6]/\M'=(p,.dti LO)::M,#[kv,x5,x6,rfl,Md,HS _,rfl,rfl],?_,?_]
   .rintro i d z M' Ou⟨LO,y5,y6,e2,QN,hi,rfl,rfl⟩;k_places;let#[c,hc,rfl]:=Dc Ou;have Lk:i<x.length:=(HJ.mp hc).1;have sc:=xs c (Ji hc);rw[vo hc,hRow]at e2;refine#[λz M'=>∃N6:List ((Int×Int)×Int),hRow w h s j (i+1) (x.drop (i+1)) N6=hRow w h s j 0 x kv/\N6.length<=8*j+(i+1)/\z=[be (.lst (lstD L)),be (.tup [.int w,.int h,.int s]),be (.ptr p),be (.int j),be (.str #[x.toArray]),be (.int i),be (.str #[[c].toArray])]/\M'=(p,.dti N6)::M,?_,?_]
    .show if(!decide ((#[[c].toArray]:Lq)="."))=true then _ else _;by_cases x_:c=46
     .subst x_;rw[if_pos rfl]at e2;exact#[LO,e2,Md,rfl,rfl]
     .rw[if_neg x_]at e2;refine ifT (by simp[one_sign,x_]) ?_;have c6:49<=c/\c<=54:=by unfold aN at sc;lia
      let#[ix,rest,ho,Po]:=C9 c6;refine#[#[_,db],w,h,s,i,j,rfl,hw,hh,Li,hs,j_,ix,rest,ho,_,db,by have:=vn LO (hmX w h s i j) ((j:Int)%h) ((c:Int)-48);lia,λv=>?_];rw[vj,Po];exact#[_,e2,by have:=vn LO (hmX w h s i j) ((j:Int)%h) ((c:Int)-48);lia,rfl,rfl]
    .rintro z M'⟨N6,e3,h3,rfl,rfl⟩;k_places;exact#[N6,_,_,e3,h3,Lk,rfl,rfl]
   .rintro z M' hz;rw[fD,len_of_list]at hz;let#[LO,y5,y6,e2,QN,hi,rfl,rfl]:=hz;rw[K8]at e2;refine#[LO,_,_,_,_,?_,Md,rfl,rfl];rw[<-e1,hAll,<-e2];rfl
  .rintro z M' hz;rw[show(lstD L).length=L.length by simp[lstD]]at hz;let#[kv,x3,x4,x5,x6,e1,Uj,rfl,rfl]:=hz;rw[K8]at e1;refine#[_,db,?_];rw[lq];have e2:kv=hAll w h s 0 L []:=e1;rw[<-e2]at hR;exact hR
abbrev wL(V:Bx):Prop:=V.M 3 "Motif" nJ De
def Gy(T:V.Ti "Motif" "Motif.__init__" nI nJ)(Nd:pK V)(QO:wK V)(L9:V.a "Motif" "place")(uO:V.a "Motif" "shifts")(LZ:V.a "Motif" "hues"):wL V:=by
 refine Txi.okIM T EQ (λds R h=>?_) (λ_ _ _ _ _ _ _ J hr hx=>⟨_,((au (cu L9 (ah (aa 0)) (ah (aa 1)))
   (au (cu uO (ah (aa 0)) (ah (aD Nd hr (ac (aa 3) (ac (aa 4) ae)))))
   (ax (cu LZ (ah (aa 0)) (gA (sW (aE uO (ah (aa 0))) (ah cN)) Bv (aO QO hx hr (aG (ah (aa 2)) (aG (aE uO (ah (aa 0))) aX))))))))),λa ds R e_ h=>?_⟩)
 .obtain⟨_,_,_,_,_,_,_,rfl,_⟩:=h;rfl
 .obtain⟨k,L,wd,x,y,u,v,rfl,hL,i8,hy,hu,hv,h0,h1⟩:=h;unfold B12 at i8 hy hu hv;refine#[_,cH,le_b rfl,?_];rw[fK,Df];refine#[x,y,u,v,rfl,Md,Md,Md,Md,λe=>?_,λe w h s F=>?_]
  .refine#[_,cH,le_b rfl,?_];rw[fK,vp];refine#[_,cH,_,lr,?_];refine#[_,cH,le_b rfl,?_];rw[fK,vq];exact#[_,rfl,h0 e]
  .refine#[_,cH,le_b rfl,?_];rw[fK,vp];refine#[_,cH,_,lr,?_];let#[b1,b2,b3]:=F.bd (N:=288) (by
    have m1:=bK (a:=x) (d:=v) (A:=12) (B:=12) Md Md;have m2:=bK (a:=y) (d:=u) (A:=12) (B:=12) Md Md;lia)
   refine#[_,cH,_,lr,L,wd,w,h,s,rfl,hL,F.1,F.2.1,Md,F.2.2.1,Md,?_];refine#[_,cH,le_b rfl,?_];rw[fK,vq];exact#[_,rfl,h1 e w h s F]
abbrev pL(V:Bx):Prop:=V.MM 6 "motif_from" nM Dm
def Gz(T:V.T "motif_from" nK nM)(QP:wI V)(LP:jx V)(uI:V.a "Reading" "place")(QQ:wL V)(uC:dh V):pL V:=by
  refine(Tx.okM T sc_motif_from (λds M R RX h=>?_) (λ_ _ _ _ _ _ _ J hr hx=>⟨_,((au (aM 1 sc_motif_from.nd (aE uI (ah (aa 0))))
      (au (bP (aY (CalMth.one uC) hx hr (ah (aa 0)) (az (ac aq ae))))
      (au (aM 2 sc_motif_from.nd (aO QP hx hr (az (ac (aa 0) ae))))
      (au (bP (aY (CalMth.one uC) hx hr (ah (aa 0)) (az (ac aq ae))))
      (au (aM 3 sc_motif_from.nd (aO LP hx hr (az (ac (aa 0) ae))))
      (au (bP (aY (CalMth.one uC) hx hr (ah (aa 0)) (az (ac aq ae))))
      (au (aM 4 sc_motif_from.nd (aO LP hx hr (az (ac (aa 0) ae))))
      (au (bP (aY (CalMth.one uC) hx hr (ah (aa 0)) (az (ac aq ae))))
      (ax (aH (ah (kE QQ hr (ac (aa 1) (ac (aa 2) (ac (aa 3) (ac (aa 4) ae))))))))))))))))),λds M R RX c5 h=>?_⟩))
  . let#[_,_,_,_,rfl,_]:=h;rfl
  . let#[a,t,k,l,rfl,rfl,f8,hR,hX]:=h;refine#[λd M'=>d=.int k/\M'=RdM a t k,#[_,aS,_,dH,rfl,rfl],?_];intro _ _#[rfl,rfl];k_places;refine#[_,Hv.mpr rfl,_,aS,ce,a,t,_,l,"[",rfl,rfl,f8,λc l1 e hc=>?_,λe_ M'=>?_]
    . have ec:c=91:=Hv.mp hc;subst ec;subst e;have hb:∀r,walk (.pat 5::r) (91::l1) k=walk (motW r) l1 (k+1):=λr=>aK (by rw[bT];rfl);refine#[λd M'=>∃(L:List (List Nat)) (w:Nat) (l2:List Nat),RowsL L w/\l1=rowsL L++l2/\(∀r,walk (.lin 0 0 0::r) l1 (k+1)=walk (.sign 59::r) l2 (k+1+(rowsL L).length))/\d=.lst (lstD L)/\M'=RdM a t (k+1+(rowsL L).length),#[a,t,_,l1,rfl,rfl,f8.next,λL w l' h1 h2 h3=>#[L,w,l',h1,h2,h3,rfl,rfl],λj hj M'=>?_],?_]
      . rw[c5];exact hX j (λr=>by rw[hb];exact hj _) M'
      intro _ _#[L,w,l2,hL,rfl,G_,rfl,rfl];k_places;have p7:=f8.next.app;have NO:∀r,walk (.pat 5::r) (91::(rowsL L++l2)) k=walk (.sign 59::.num::.sign 44::.num::.sign 59::.num::.sign 44::.num::.sign 93::r) l2 (k+1+(rowsL L).length):=λr=>by rw[hb];exact G_ _
      refine#[_,Hv.mpr rfl,_,aS,ce,a,t,_,l2,";",rfl,rfl,p7,λc l3 e hc=>?_,λe_ M'=>?_]
      . have ec:c=59:=Hv.mp hc;subst ec;subst e;have LQ:=p7.next;have QR:∀r,walk (.pat 5::r) (91::(rowsL L++59::l3)) k=walk (.num::.sign 44::.num::.sign 59::.num::.sign 44::.num::.sign 93::r) l3 (k+1+(rowsL L).length+1):=λr=>by rw[NO,eJ]
        refine#[λd M'=>∃x y l4,B12 x/\B12 y/\l3=numL x++44::(numL y++l4)/\(∀e r,walk (.num::.sign 44::.num::.sign e::r) l3 (k+1+(rowsL L).length+1)=walk (.sign e::r) l4 (k+1+(rowsL L).length+1+(numL x).length+1+(numL y).length))/\d=.tup [.int x,.int y]/\M'=RdM a t (k+1+(rowsL L).length+1+(numL x).length+1+(numL y).length),#[a,t,_,l3,rfl,rfl,LQ,λx y l' h1 h2 h3 h4=>#[x,y,l',h1,h2,h3,h4,rfl,rfl],λj hj M'=>?_],?_]
        . rw[c5];exact hX j (λr=>by rw[QR];exact hj _) M'
        intro _ _#[x,y,l4,i8,hy,rfl,So,rfl,rfl];k_places;have N7:At t (k+1+(rowsL L).length+1+(numL x).length+1+(numL y).length) l4:=LQ.app.next.app;refine#[_,Hv.mpr rfl,_,aS,ce,a,t,_,l4,";",rfl,rfl,N7,λc l5 e hc=>?_,λe_ M'=>?_]
        . have ec:c=59:=Hv.mp hc;subst ec;subst e;have N8:=N7.next;have Sq:∀r,walk (.pat 5::r) (91::(rowsL L++59::(numL x++44::(numL y++59::l5)))) k=walk (.num::.sign 44::.num::.sign 93::r) l5 (k+1+(rowsL L).length+1+(numL x).length+1+(numL y).length+1):=λr=>by rw[QR,So,eJ]
          refine#[λd M'=>∃u v l6,B12 u/\B12 v/\l5=numL u++44::(numL v++l6)/\(∀e r,walk (.num::.sign 44::.num::.sign e::r) l5 (k+1+(rowsL L).length+1+(numL x).length+1+(numL y).length+1)=walk (.sign e::r) l6 (k+1+(rowsL L).length+1+(numL x).length+1+(numL y).length+1+(numL u).length+1+(numL v).length))/\d=.tup [.int u,.int v]/\M'=RdM a t (k+1+(rowsL L).length+1+(numL x).length+1+(numL y).length+1+(numL u).length+1+(numL v).length),#[a,t,_,l5,rfl,rfl,N8,λx y l' h1 h2 h3 h4=>#[x,y,l',h1,h2,h3,h4,rfl,rfl],λj hj M'=>?_],?_]
          . rw[c5];exact hX j (λr=>by rw[Sq];exact hj _) M'
          intro _ _#[u,v,l6,hu,hv,rfl,Sr,rfl,rfl];k_places;have QS:At t (k+1+(rowsL L).length+1+(numL x).length+1+(numL y).length+1+(numL u).length+1+(numL v).length) l6:=N8.app.next.app;refine#[_,Hv.mpr rfl,_,aS,ce,a,t,_,l6,"]",rfl,rfl,QS,λc l7 e hc=>?_,λe_ M'=>?_]
          . have ec:c=93:=Hv.mp hc;subst ec;subst e;let#[OM,ON]:=Dl hL;have Ss:(Pat.mot (L.map λx=>(#[x.toArray]:Lq)) x y u v).tl=motL L x y u v:=by rw[Pat.tl,ON]
            have N9:∀w,FormOf (Pat.mot (L.map λx=>(#[x.toArray]:Lq)) x y u v) k w->R w (RdM a t (k+1+(rowsL L).length+1+(numL x).length+1+(numL y).length+1+(numL u).length+1+(numL v).length+1)):=λw hw=>by
              have:=hR (Pat.mot (L.map λx=>(#[x.toArray]:Lq)) x y u v) l7 #[OM,i8,hy,hu,hv] rfl (by rw[Ss];simp[motL]) w hw;rw[Ss]at this;have e:k+(motL L x y u v).length=k+1+(rowsL L).length+1+(numL x).length+1+(numL y).length+1+(numL u).length+1+(numL v).length+1:=by
                simp[motL];lia
              rw[e]at this;exact this
            refine#[k,L,w,x,y,u,v,rfl,hL,i8,hy,hu,hv,λe=>?_,λe w h s F=>?_]
            . exact N9 _ #[.non,[],rfl,λ_=>rfl,λz=>absurd e z]
            . exact N9 _ #[_,_,rfl,λz=>absurd z e,λ_=>#[w,h,s,F,rfl,by rw[ON]]]
          . rw[c5];refine hX _ (λr=>?_) M';rw[Sq,Sr,eI λl' q=>e_ 93 l' q Mh]
        . rw[c5];refine hX _ (λr=>?_) M';rw[QR,So,eI λl' q=>e_ 59 l' q Mh]
      . rw[c5];refine hX _ (λr=>?_) M';rw[NO,eI λl' q=>e_ 59 l' q Mh]
    . rw[c5];refine hX _ (λr=>?_) M';refine walk_bad (λz=>nomatch z) λc l' q=>?_;rw[bT];unfold bS;have:¬c=91:=λz=>e_ c l' q (by rw[z];decide);rw[if_neg this,if_pos rfl]
abbrev pM(V:Bx):Prop:=V.M 1 "Mirror" nO Di
def GA(T:V.Ti "Mirror" "Mirror.__init__" nN nO)(v_:V.a "Mirror" "form"):pM V:=by
 refine Txi.okI T ER (λds R h=>?_) (λ_ _ _ _ _ _ _ J hr=>#[_,((bN v_ (aa 1) eg)),λds R h=>?_])
 .obtain⟨_,_,rfl,_⟩:=h;rfl
 .obtain⟨x,fs,rfl,hR⟩:=h;exact#[Mh,hR]
abbrev pN(V:Bx):Prop:=V.M 1 "Turn" nQ Dj
def GB(T:V.Ti "Turn" "Turn.__init__" nP nQ)(uZ:V.a "Turn" "form"):pN V:=by
 refine Txi.okI T ES (λds R h=>?_) (λ_ _ _ _ _ _ _ J hr=>#[_,((bN uZ (aa 1) eg)),λds R h=>?_])
 .obtain⟨_,_,rfl,_⟩:=h;rfl
 .obtain⟨x,fs,rfl,hR⟩:=h;exact#[Mh,hR]
abbrev pO(V:Bx):Prop:=V.M 1 "Over" nS Dg
def GC(T:V.Ti "Over" "Over.__init__" nR nS)(v9:V.a "Over" "above")(uU:V.a "Over" "below"):pO V:=by
 refine Txi.okI T ET (λds R h=>?_) (λ_ _ _ _ _ _ _ J hr=>#[_,((bN v9 (aa 1) (bN uU (aa 2) eg))),λds R h=>?_])
 .obtain⟨_,_,_,_,rfl,_⟩:=h;rfl
 .obtain⟨x,y,fs,gs,rfl,hR⟩:=h;refine#[Mh,le_b rfl,?_];show R (putD _ _ (putD _ _ []));rw[putD,putD,if_neg KK];exact hR
abbrev pP(V:Bx):Prop:=V.M 1 "Shifted" nV Dh
def GD(T:V.Ti "Shifted" "Shifted.__init__" nU nV)(uW:V.a "Shifted" "form")(L5:V.a "Shifted" "x")(L4:V.a "Shifted" "y"):pP V:=by
 refine Txi.okI T EU (λds R h=>?_) (λ_ _ _ _ _ _ _ J hr=>#[_,((bN uW (aa 1) (bN L5 (aa 2) (bN L4 (aa 3) eg)))),λds R h=>?_])
 .obtain⟨_,_,_,_,rfl,_⟩:=h;rfl
 .obtain⟨x,fs,a,b,rfl,hR⟩:=h;refine#[Mh,le_b rfl,le_b rfl,?_];show R (putD _ _ (putD _ _ (putD _ _ [])));rw[show putD ("x":Lq) (.int a) (putD ("form":Lq) (.obj x fs) [])=([("form",.obj x fs),("x",.int a)]:List (Lq×D))by rw[putD,putD,if_neg KK];rfl,putD,if_neg KK,putD,if_neg KK];exact hR
abbrev pQ(V:Bx):Prop:=V.M 1 "Rehue" nX Dk
def GE(T:V.Ti "Rehue" "Rehue.__init__" nW nX)(uV:V.a "Rehue" "form")(L6:V.a "Rehue" "old")(L7:V.a "Rehue" "new"):pQ V:=by
 refine Txi.okI T EV (λds R h=>?_) (λ_ _ _ _ _ _ _ J hr=>#[_,((bN uV (aa 1) (bN L6 (aa 2) (bN L7 (aa 3) eg)))),λds R h=>?_])
 .obtain⟨_,_,_,_,rfl,_⟩:=h;rfl
 .obtain⟨x,fs,a,b,rfl,hR⟩:=h;refine#[Mh,le_b rfl,le_b rfl,?_];show R (putD _ _ (putD _ _ (putD _ _ [])));rw[show putD ("old":Lq) (.int a) (putD ("form":Lq) (.obj x fs) [])=([("form",.obj x fs),("old",.int a)]:List (Lq×D))by rw[putD,putD,if_neg KK];rfl,putD,if_neg KK,putD,if_neg KK];exact hR
def GF(hL:6<=n)(T:V.T "over_from" iZ gM)(uK:V.MM n "form_from" cK (dL j))(N_:pO V)(uC:dh V):V.MM (n+1) "over_from" gM (vw j):=by
 refine Tx.okM T sc_over_from (λds M R RX h=>?_) (λ_ _ _ _ _ _ _ J hr hx=>⟨_,((au (aM 2 sc_over_from.nd (aO (hn:=Nk) uK hx hr (az (ac (aa 0) (ac (aa 1) ae)))))
   (au (bP (aY (hn:=Nk) (CalMth.one uC) hx hr (ah (aa 0)) (az (ac aq ae))))
   (au (aM 3 sc_over_from.nd (aO (hn:=Nk) uK hx hr (az (ac (aa 0) (ac (aa 1) ae)))))
   (au (bP (aY (hn:=Nk) (CalMth.one uC) hx hr (ah (aa 0)) (az (ac aq ae))))
   (ax (aH (ah (kE (hn:=Nk) N_ hr (ac (aa 2) (ac (aa 3) ae))))))))))),λds M R RX c5 h=>?_⟩)
 .obtain⟨_,_,_,_,_,rfl,_⟩:=h;rfl
 .obtain⟨a,t,k,l,d,rfl,rfl,f8,MF,LL,hR,hX⟩:=h;refine#[λv M'=>∃p l1,p.Syn/\p.depth+d<=5/\l=p.tl++l1/\FormOf p k v/\M'=RdM a t (k+p.tl.length),#[a,t,k,l,d,rfl,rfl,f8,MF,LL,λp l' h1 h2 h3 v h4=>#[p,l',h1,h2,h3,h4,rfl],λi hi M'=>?_],?_]
  .rw[c5];exact hX i (λr=>hi _) M'
  intro v _#[p,l1,hp,QT,rfl,hv,rfl];k_places;let#[fs,rfl]:=hv.obj;have d9:=f8.app;have t7:∀r,walk (.pat d::.sign 124::.pat d::.sign 41::r) (p.tl++l1) k=walk (.sign 124::.pat d::.sign 41::r) l1 (k+p.tl.length):=λr=>cB hp d _ l1 k QT;refine#[_,Hv.mpr rfl,_,aS,ce,a,t,_,l1,"|",rfl,rfl,d9,λc l2 e hc=>?_,λe_ M'=>?_]
  .have ec:c=124:=Hv.mp hc;subst ec;subst e;refine#[λv M'=>∃q l3,q.Syn/\q.depth+d<=5/\l2=q.tl++l3/\FormOf q (k+p.tl.length+1) v/\M'=RdM a t (k+p.tl.length+1+q.tl.length),#[a,t,_,l2,d,rfl,rfl,d9.next,MF,LL,λp l' h1 h2 h3 v h4=>#[p,l',h1,h2,h3,h4,rfl],λi hi M'=>?_],?_]
   .rw[c5];exact hX i (λr=>by rw[t7,eJ];exact hi _) M'
   intro v _#[q,l3,hq,Su,rfl,Sv,rfl];k_places;let#[gs,rfl]:=Sv.obj;have LQ:=d9.next.app;have Uk:∀r,walk (.pat d::.sign 124::.pat d::.sign 41::r) (p.tl++124::(q.tl++l3)) k=walk (.sign 41::r) l3 (k+p.tl.length+1+q.tl.length):=λr=>by rw[t7,eJ,cB hq d _ l3 _ Su]
   refine#[_,Hv.mpr rfl,_,aS,ce,a,t,_,l3,")",rfl,rfl,LQ,λc l4 e hc=>?_,λe_ M'=>?_]
   .have ec:c=41:=Hv.mp hc;subst ec;subst e;exact#[_,_,_,_,rfl,hR p q l4 hp hq QT Su rfl _ _ hv Sv]
   .rw[c5];refine hX _ (λr=>?_) M';rw[Uk,eI λl' q=>e_ 41 l' q Mh]
  .rw[c5];refine hX _ (λr=>?_) M';rw[t7,eI λl' q=>e_ 124 l' q Mh]
def GH(hL:6<=n)(T:V.T "shifted_from" ja gN)(LP:jx V)(uK:V.MM n "form_from" cK (dL j))(Oa:pP V)(uC:dh V):V.MM (n+1) "shifted_from" gN (vx j):=by
 refine Tx.okM T sc_shifted_from (λds M R RX h=>?_) (λ_ _ _ _ _ _ _ J hr hx=>⟨_,((au (aM 2 sc_shifted_from.nd (aO (hn:=Nk) LP hx hr (az (ac (aa 0) ae))))
   (au (bP (aY (hn:=Nk) (CalMth.one uC) hx hr (ah (aa 0)) (az (ac aq ae))))
   (ax (aH (iA (hn:=Nk) Oa hr (aG (aO (hn:=Nk) uK hx hr (az (ac (aa 0) (ac (aa 1) ae)))) (aG (ah (af (aa 2) ad)) (aG (ah (af (aa 2) ad)) aX))))))))),λds M R RX c5 h=>?_⟩)
 .obtain⟨_,_,_,_,_,rfl,_⟩:=h;rfl
 .obtain⟨a,t,k,l,d,rfl,rfl,f8,MF,LL,hR,hX⟩:=h;refine#[λv M'=>∃x y l1,B12 x/\B12 y/\l=numL x++44::(numL y++l1)/\(∀e r,walk (.num::.sign 44::.num::.sign e::r) l k=walk (.sign e::r) l1 (k+(numL x).length+1+(numL y).length))/\v=.tup [.int x,.int y]/\M'=RdM a t (k+(numL x).length+1+(numL y).length),#[a,t,_,l,rfl,rfl,f8,λx y l' h1 h2 h3 h4=>#[x,y,l',h1,h2,h3,h4,rfl,rfl],λi hi M'=>?_],?_]
  .rw[c5];exact hX i (λr=>hi _) M'
  intro _ _#[x,y,l1,i8,hy,rfl,t7,rfl,rfl];k_places;have d9:At t (k+(numL x).length+1+(numL y).length) l1:=f8.app.next.app;refine#[_,Hv.mpr rfl,_,aS,ce,a,t,_,l1,":",rfl,rfl,d9,λc l2 e hc=>?_,λe_ M'=>?_]
  .have ec:c=58:=Hv.mp hc;subst ec;subst e;refine#[a,t,_,l2,d,rfl,rfl,d9.next,MF,LL,λp l' h1 h2 h3 v h4=>?_,λi hi M'=>?_]
   .obtain⟨fs,rfl⟩:=h4.obj;subst h3;exact#[_,rfl,_,rfl,_,_,_,_,rfl,hR x y p l' i8 hy h1 h2 rfl _ h4]
   .rw[c5];refine hX i (λr=>?_) M';rw[t7,eJ];exact hi _
  .rw[c5];refine hX _ (λr=>?_) M';rw[t7,eI λl' q=>e_ 58 l' q Mh]
def GI(hL:6<=n)(T:V.T "rehue_from" jb gO)(uE:V.m "int")(uK:V.MM n "form_from" cK (dL j))(Ob:pQ V)(uC:dh V):V.MM (n+1) "rehue_from" gO (vy j):=by
 refine Tx.okM T sc_rehue_from (λds M R RX h=>?_) (λ_ _ _ _ _ _ _ J hr hx=>⟨_,((au (aM 2 sc_rehue_from.nd (tm uE (aG (aY (hn:=Nk) (CalMth.one uC) hx hr (ah (aa 0)) (az (ac aq ae))) aX)))
   (au (aM 3 sc_rehue_from.nd (tm uE (aG (aY (hn:=Nk) (CalMth.one uC) hx hr (ah (aa 0)) (az (ac aq ae))) aX)))
   (ax (aH (iA (hn:=Nk) Ob hr (aG (aO (hn:=Nk) uK hx hr (az (ac (aa 0) (ac (aa 1) ae)))) (aG (ah (aa 2)) (aG (ah (aa 3)) aX))))))))),λds M R RX c5 h=>?_⟩)
 .obtain⟨_,_,_,_,_,rfl,_⟩:=h;rfl
 .obtain⟨a,t,k,l,d,rfl,rfl,f8,MF,LL,hR,hX⟩:=h;refine#[λv M'=>∃c l1,(49<=c/\c<=54)/\l=c::l1/\v=.int ((c:Int)-48)/\M'=RdM a t (k+1),#[_,Hv.mpr rfl,_,aS,ce,a,t,_,l,"123456",rfl,rfl,f8,λc l1 e hc=>?_,λe_ M'=>?_],?_]
  .exact#[_,#[digit_of (hue_dig.mp hc),le_b rfl],c,l1,hue_dig.mp hc,e,rfl,rfl]
  .rw[c5];exact hX _ (λr=>vt e_) M'
  intro _ _#[c,l1,hc,rfl,rfl,rfl];k_places;refine#[λv M'=>∃e l2,(49<=e/\e<=54)/\l1=e::l2/\v=.int ((e:Int)-48)/\M'=RdM a t (k+2),#[_,Hv.mpr rfl,_,aS,ce,a,t,_,l1,"123456",rfl,rfl,f8.next,λc l1 e hc=>?_,λe_ M'=>?_],?_]
  .exact#[_,#[digit_of (hue_dig.mp hc),le_b rfl],c,l1,hue_dig.mp hc,e,rfl,rfl]
  .rw[c5];exact hX _ (λr=>by rw[lu hc,vt e_]) M'
  intro _ _#[e,l2,he,rfl,rfl,rfl];k_places;refine#[a,t,_,l2,d,rfl,rfl,f8.next.next,MF,LL,λp l' h1 h2 h3 v h4=>?_,λi hi M'=>?_]
  .obtain⟨fs,rfl⟩:=h4.obj;subst h3;exact#[_,_,_,_,rfl,hR c e p l' hc he h1 h2 rfl _ h4]
  .rw[c5];refine hX i (λr=>?_) M';rw[lu hc,lu he];exact hi _
def GJ(hL:6<=n)(T:V.T "form_from" jc cK)(Ul:V.MM n "over_from" gM (vw j))(Um:V.MM n "shifted_from" gN (vx j))(uK:V.MM n "form_from" cK (dL j))(Uo:V.MM n "rehue_from" gO (vy j))(Oc:pL V)(Od:V.gi "DEEP" 5)(Oe:pM V)(Of:pN V)(uL:eO V):V.MM (n+1) "form_from" cK (dL (j+1)):=by
 refine Tx.okM T sc_form_from (λds M R RX h=>?_) (λ_ _ _ _ _ _ _ J hr hx=>⟨_,((au (aM 2 sc_form_from.nd (gA (bG (gf (aa 1) (fw Od))) (aY (hn:=Nk) (CalMth.one uL) hx hr (ah (aa 0)) (az (ac aq ae))) (ah aq)))
   (au (bu (bG (bg (aa 2) aq)) (ax (aH (aO (hn:=Nk) Ul hx hr (az (ac (aa 0) (ac (aj (aa 1) ad) ae)))))) bo)
   (au (bu (bG (bg (aa 2) aq)) (ax (aH (aO (hn:=Nk) Um hx hr (az (ac (aa 0) (ac (aj (aa 1) ad) ae)))))) bo)
   (au (bu (bG (bg (aa 2) aq)) (ax (aH (iA (hn:=Nk) Oe hr (aG (aO (hn:=Nk) uK hx hr (az (ac (aa 0) (ac (aj (aa 1) ad) ae)))) aX)))) bo)
   (au (bu (bG (bg (aa 2) aq)) (ax (aH (iA (hn:=Nk) Of hr (aG (aO (hn:=Nk) uK hx hr (az (ac (aa 0) (ac (aj (aa 1) ad) ae)))) aX)))) bo)
   (au (bu (bG (bg (aa 2) aq)) (ax (aH (aO (hn:=Nk) Uo hx hr (az (ac (aa 0) (ac (aj (aa 1) ad) ae)))))) bo)
   (ax (aH (aO (hn:=Nk) Oc hx hr (az (ac (aa 0) ae)))))))))))),λds M R RX c5 h=>?_⟩)
 .obtain⟨_,_,_,_,_,rfl,_⟩:=h;rfl
 .obtain⟨a,t,k,l,d,rfl,rfl,f8,MF,LL,hR,hX⟩:=h;have U1:d<=5:=by lia
  refine#[λv M'=>(v=.str ""/\M'=RdM a t k/\(d=5\/∀c l',l=c::l'->c∉cs "(smth"))\/(∃c l',l=c::l'/\c∈cs "(smth"/\d<5/\v=.str #[[c].toArray]/\M'=RdM a t (k+1)),?_,?_]
  .show if decide ((d:Int)<5)=true then _ else _
   refine ite2 (λc=>?_) (λc=>?_)
   .have c':d<5:=by have:=of_decide_eq_true c;lia
    refine#[_,Hv.mpr rfl,_,aS,cZ,a,t,_,l,"(smth",rfl,rfl,f8,?_];by_cases h:∃c l',l=c::l'/\c∈cs "(smth"
    .obtain⟨c,l',rfl,hc⟩:=h;rw[eE hc,eF hc];exact .inr #[c,l',rfl,hc,c',rfl,rfl]
    .have e_:∀c l',l=c::l'->c∉cs "(smth":=λc l' e hc=>h #[c,l',e,hc];have hm:mayS "(smth" l=""/\mayN "(smth" l=0:=by
      cases l with
      |nil=>exact#[rfl,rfl]
      |cons c l=>exact#[dI (e_ c l rfl),dJ (e_ c l rfl)]
     rw[hm.1,hm.2];exact .inl #[rfl,rfl,.inr e_]
   .have c':d=5:=by
     have:¬((d:Int)<5):=λz=>c (decide_eq_true z);lia
    exact .inl #[rfl,rfl,.inl c']
  rintro _ _ (⟨rfl,rfl,e_⟩|⟨c,l1,rfl,hc,ge,rfl,rfl⟩);k_places
  .refine#[a,t,k,l,rfl,rfl,f8,λp l' h1 h2 h3 v h4=>hR p l' h1 Md h3 v h4,λi hi M'=>?_];rw[c5];exact hX i (λr=>by rw[Dn e_];exact hi r) M'
  have d9:=f8.next;have hj:1<=j:=Md
  have Up:cs "(smth"=[40,115,109,116,104]:=rfl;rw[Up]at hc;simp only[Hx,II,or_false]at hc;have nd:¬d=5:=Md
  rcases hc with rfl|rfl|rfl|rfl|rfl
  .have hw:∀r,walk (.pat d::r) (40::l1) k=walk (.pat (d+1)::.sign 124::.pat (d+1)::.sign 41::r) l1 (k+1):=λr=>aK (by rw[bT];unfold bS;rw[if_neg Mh,if_neg nd,if_pos rfl]);refine#[a,t,k+1,l1,d+1,rfl,rfl,d9,Md,hj,λp q l' h1 h2 h3 h4 h5 u u' h6 h7=>?_,λi hi M'=>?_]
   .have:=hR (.over p q) l' #[h1,h2] (by rw[Pat.depth];lia) (by rw[h5,Pat.tl];simp) _ #[u,u',rfl,h6,h7];have e:k+(Pat.over p q).tl.length=k+1+p.tl.length+1+q.tl.length+1:=by rw[Pat.tl];simp;lia
    rw[e]at this;exact this
   .rw[c5];exact hX i (λr=>by rw[hw];exact hi r) M'
  .have hw:∀r,walk (.pat d::r) (115::l1) k=walk (.num::.sign 44::.num::.sign 58::.pat (d+1)::r) l1 (k+1):=λr=>aK (by rw[bT];unfold bS;rw[if_neg Mh,if_neg nd,if_neg Mh,if_pos rfl]);refine#[a,t,k+1,l1,d+1,rfl,rfl,d9,Md,hj,λx y p l' h1 h2 h3 h4 h5 u h6=>?_,λi hi M'=>?_]
   .have:=hR (.sh x y p) l' #[h1,h2,h3] (by rw[Pat.depth];lia) (by rw[h5,Pat.tl];simp) _ #[u,rfl,h6];have e:k+(Pat.sh x y p).tl.length=k+1+(numL x).length+1+(numL y).length+1+p.tl.length:=by rw[Pat.tl];simp;lia
    rw[e]at this;exact this
   .rw[c5];exact hX i (λr=>by rw[hw];exact hi r) M'
  .have hw:∀r,walk (.pat d::r) (109::l1) k=walk (.pat (d+1)::r) l1 (k+1):=λr=>aK (by rw[bT];unfold bS;rw[if_neg Mh,if_neg nd,if_neg Mh,if_neg Mh,if_neg Mh,if_pos (.inl rfl)]);refine#[a,t,k+1,l1,d+1,rfl,rfl,d9,Md,hj,λp l' h1 h2 h3 v h4=>?_,λi hi M'=>?_]
   .obtain⟨fs,rfl⟩:=h4.obj;have:=hR (.mir p) l' h1 (by rw[Pat.depth];lia) (by rw[h3,Pat.tl];simp) _ #[_,rfl,h4];have e:k+(Pat.mir p).tl.length=k+1+p.tl.length:=by rw[Pat.tl];simp;lia
    rw[e]at this;exact#[_,_,rfl,this]
   .rw[c5];exact hX i (λr=>by rw[hw];exact hi r) M'
  .have hw:∀r,walk (.pat d::r) (116::l1) k=walk (.pat (d+1)::r) l1 (k+1):=λr=>aK (by rw[bT];unfold bS;rw[if_neg Mh,if_neg nd,if_neg Mh,if_neg Mh,if_neg Mh,if_pos (.inr rfl)]);refine#[a,t,k+1,l1,d+1,rfl,rfl,d9,Md,hj,λp l' h1 h2 h3 v h4=>?_,λi hi M'=>?_]
   .obtain⟨fs,rfl⟩:=h4.obj;have:=hR (.tur p) l' h1 (by rw[Pat.depth];lia) (by rw[h3,Pat.tl];simp) _ #[_,rfl,h4];have e:k+(Pat.tur p).tl.length=k+1+p.tl.length:=by rw[Pat.tl];simp;lia
    rw[e]at this;exact#[_,_,rfl,this]
   .rw[c5];exact hX i (λr=>by rw[hw];exact hi r) M'
  .have hw:∀r,walk (.pat d::r) (104::l1) k=walk (.hue::.hue::.pat (d+1)::r) l1 (k+1):=λr=>aK (by rw[bT];unfold bS;rw[if_neg Mh,if_neg nd,if_neg Mh,if_neg Mh,if_pos rfl]);refine#[a,t,k+1,l1,d+1,rfl,rfl,d9,Md,hj,λc e p l' h1 h2 h3 h4 h5 u h6=>?_,λi hi M'=>?_]
   .have:=hR (.hue ((c:Int)-48) ((e:Int)-48) p) l' #[Md,Md,h3] (by rw[Pat.depth];lia) (by rw[h5,Pat.tl,iE h1,iE h2];simp) _ #[u,rfl,h6];have e:k+(Pat.hue ((c:Int)-48) ((e:Int)-48) p).tl.length=k+1+2+p.tl.length:=by rw[Pat.tl,iE h1,iE h2];simp;lia
    rw[e]at this;exact this
   .rw[c5];exact hX i (λr=>by rw[hw];exact hi r) M'
def GK(Uq:V.T "over_from" iZ gM)(Ur:V.T "shifted_from" ja gN)(Us:V.T "rehue_from" jb gO)(Sw:V.T "form_from" jc cK)(N_:pO V)(uC:dh V)(LP:jx V)(Oa:pP V)(uE:V.m "int")(Ob:pQ V)(Oc:pL V)(Od:V.gi "DEEP" 5)(Oe:pM V)(Of:pN V)(uL:eO V):∀j,V.MM (6+2*j) "form_from" cK (dL j):=by
 intro j;induction j with
 |zero=>exact CalMM.never Sw (λds M R RX=>Do)
 |succ j ih=>
  have Og:=ih;have QU:=GF (n:=6+2*j) (j:=j) Nk Uq Og N_ uC;have QV:=GH (n:=6+2*j) (j:=j) Nk Ur LP Og Oa uC;have QW:=GI (n:=6+2*j) (j:=j) Nk Us uE Og Ob uC;have Og:=Cal.mono ih (Iz _);exact GJ (n:=6+2*j+1) (j:=j) Nk Sw QU QV Og QW Oc Od Oe Of uL
abbrev wM(V:Bx):Prop:=V.M 1 "Reading" nZ CU
def GL(T:V.Ti "Reading" "Reading.__init__" nY nZ)(L8:V.a "Reading" "text")(uI:V.a "Reading" "place"):wM V:=by
 refine Txi.okI T EW (λds R h=>?_) (λ_ _ _ _ _ _ _ J hr=>#[_,((bN L8 (aa 1) (bN uI ad eg))),λds R h=>?_])
 .obtain⟨_,rfl,_⟩:=h;rfl
 .obtain⟨t,rfl,hR⟩:=h;refine#[Mh,le_b rfl,?_];show R (putD _ _ (putD _ _ []));rw[putD,putD,if_neg KK];exact hR
abbrev wO(V:Bx):Prop:=V.M 1 "Pattern" og Dx
def GM(T:V.Ti "Pattern" "Pattern.__init__" oa og)(QX:V.a "Pattern" "text")(Lm:V.a "Pattern" "shifts")(M8:V.a "Pattern" "form"):wO V:=by
 refine Txi.okI T EY (λds R h=>?_) (λ_ _ _ _ _ _ _ J hr=>#[_,((bN QX (aa 1) (bN Lm (aa 2) (bN M8 (aa 3) eg)))),λds R h=>?_])
 .obtain⟨_,_,_,_,_,_,rfl,_⟩:=h;rfl
 .obtain⟨t,w,h,s,x,fs,rfl,hR⟩:=h;refine#[Mh,le_b rfl,le_b rfl,?_];show R (putD _ _ (putD _ _ (putD _ _ [])));rw[show putD ("shifts":Lq) (.tup [.int w,.int h,.int s]) (putD ("text":Lq) (.str t) [])=([("text",.str t),("shifts",.tup [.int w,.int h,.int s])]:List (Lq×D))by rw[putD,putD,if_neg KK];rfl,putD,if_neg KK,putD,if_neg KK];exact hR
abbrev pR(V:Bx):Prop:=V.E 1 "OneLine" oi Dz
def GN(T:V.Te "OneLine" "OneLine.__init__" oh oi)(Na:V.b "MotifError")(uAV:V.ea "OneLine")(QY:V.xf "OneLine" "place"):pR V:=by
 refine Txe.okE T EZ (λds R h=>?_) (λ_ _ _ _ _ _ _ J hr=>#[_,((sI Na uAV (ac (aa 1) ae) (sJ uAV QY (aa 1) sH))),λds R h=>?_])
 .obtain⟨i,rfl,_⟩:=h;rfl
 .obtain⟨i,rfl,hR⟩:=h;exact#[le_b rfl,rfl,hR]
abbrev wP(V:Bx):Prop:=V.D 2 "measure" ol Cb
def GO(T:V.T "measure" oj ol)(Nb:pJ V):wP V:=by
 refine Tx.okDW T sc_measure (λds R h=>?_) (λ_ _ _ _ _ _ _ J hr=>⟨_,((ai (am 2 sc_measure.nd (af (aD Nb hr (ac (aI (ac ad (ac (aa 0) ae))) (ac (aI (ac ad (ac (aa 1) ae))) ae))) ad))
   (ao (aB (aI (ac (af (aa 2) ad) (ac (af (aa 2) ad) ae))))))),λds R h=>?_⟩)
 .obtain⟨x,y,rfl,_⟩:=h;rfl
 .obtain⟨x,y,rfl,hx,hy,hR⟩:=h;refine#[λd=>∃p0 p1:Int,d=.tup [.int p0,.int p1]/\Meas x y p1 p0,#[Mn,Mn,1,x,0,y,rfl,hx,hy,λp0 p1 q0 hL=>#[_,rfl,p0,p1,rfl,tZ #[hL.1,hL.2]]],?_];intro _#[p0,p1,rfl,hM];k_places;exact#[_,rfl,_,rfl,Mn,hR p1 p0 hM]
abbrev pS(V:Bx):Prop:=V.D 3 "met" oq Cd
def GP(T:V.T "met" om oq)(Oh:wP V):pS V:=by
 refine Tx.okDW T sc_met (λds R h=>?_) (λ_ _ _ _ _ _ _ J hr=>⟨_,((ai (am 2 sc_met.nd (aD Oh hr (ac (af (aa 0) ad) (ac (af (aa 1) ad) ae))))
   (ai (am 3 sc_met.nd (bb (ay (af (aa 0) ad) (af (aa 1) ad)) (af (aa 2) ad)))
   (ai (am 4 sc_met.nd (bb (ay (af (aa 0) ad) (af (aa 1) ad)) (af (aD Oh hr (ac (af (aa 0) ad) (ac (af (aa 1) ad) ae))) ad)))
   (ai (am 5 sc_met.nd (ay (bb (aa 4) (af (aa 0) ad)) (af (aa 0) ad)))
   (ai (am 6 sc_met.nd (bv (ay (bb (aa 4) (af (aa 1) ad)) (af (aa 1) ad)) (aa 5)))
   (ai (am 7 sc_met.nd (bb (af (aa 2) ad) (af (aD Oh hr (ac (af (aa 2) ad) (ac (aa 6) ae))) ad)))
   (ai (am 8 sc_met.nd (ay (bb (ay (aa 7) (aa 6)) (af (aa 2) ad)) (af (aa 2) ad)))
   (ao (aB (aI (ac (aa 3) (ac (ay (aa 4) (aa 7)) (ac (aA (aj (ay (aa 7) (aa 5)) (ay (aa 8) (af (aa 0) ad))) (aa 3)) ae)))))))))))))),λds R h=>?_⟩)
 .obtain⟨_,_,_,_,_,_,rfl,_⟩:=h;rfl
 .obtain⟨w1,h1,s1,w2,h2,s2,rfl,a1,a2,a3,a4,a5,a6,b1,b2,b3,b4,b5,b6,hR⟩:=h;refine#[λd=>∃g u:Int,d=.tup [.int g,.int u]/\Meas w1 w2 g u,#[_,rfl,_,rfl,w1,w2,rfl,Nk,Nk,λg u M=>#[g,u,rfl,M]],?_];intro _#[g,u,rfl,M1];k_places;have hg:=M1.pos a1;have Qr:=M1.le a1;refine#[λd=>d=.int (w1*w2/g),#[_,rfl,_,rfl,.inl (b64B a1 a2),_,rfl,d30B hg (Ip Qr a2),rfl],?_];intro _ rfl;k_places;refine#[λd=>∃k u':Int,d=.int (h1*h2/k)/\Meas h1 h2 k u',#[_,rfl,_,rfl,.inl (b64B a3 a4),_,rfl,_,rfl,h1,h2,rfl,Nk,Nk,λk u' M=>#[_,rfl,d30B (M.pos a3) (Ip (M.le a3) a4),k,u',rfl,M]],?_];intro _#[k,u',rfl,M2];k_places;let#[r0,r1,r2,r3,r4,r5]:=kW a3 b3 M2;have Ut:h1*h2<=1125899906842624:=by
   have:=bK (a:=h1) (d:=h2) (A:=33554432) (B:=33554432) Nk Nk;omega
  refine#[λd=>d=.int (h1*h2/k/h1*s1),#[_,rfl,d30B a3 a4,_,rfl,.inr (s64B a5 a6 a2),rfl],?_];intro _ rfl;k_places;refine#[λd=>d=.int (h1*h2/k/h2*s2-h1*h2/k/h1*s1),#[_,rfl,d30B b3 b4,_,rfl,.inr (s64B b5 b6 b2),rfl],?_];intro _ rfl;k_places;have t1:=bK (a:=h1*h2/k/h1) (d:=s1) (A:=33554432) (B:=33554432) Nk Nk;have t2:=bK (a:=h1*h2/k/h2) (d:=s2) (A:=33554432) (B:=33554432) Nk Nk;refine#[λd=>∃gg x9:Int,d=.int (g/gg)/\Meas g (h1*h2/k/h2*s2-h1*h2/k/h1*s1) gg x9,#[_,rfl,_,rfl,g,_,rfl,Nk,Nk,λgg x9 M=>#[_,rfl,d30B (M.pos hg) (Ip (M.le hg) (Ip Qr a2)),gg,x9,rfl,M]],?_];intro _#[gg,x9,rfl,M3];k_places;have LJ:=M3.pos hg;have c1:0<=g/gg:=Km Nk Nk;have c2:g/gg<=g:=Kn _ Nk;have c4:=BX (c:=g/gg) (gap:=h1*h2/k/h2*s2-h1*h2/k/h1*s1) (N:=2251799813685248) hg c1 c2 Nk;have mr:=kU a1 b1 a3 b3 M1 M2 M3;refine#[λd=>d=.int (g/gg*(h1*h2/k/h2*s2-h1*h2/k/h1*s1)/g*u),#[.inl #[Nk,Nk],_,rfl,#[Nk,Nk],_,rfl,.inl #[Nk,Nk],rfl],?_];intro _ rfl;k_places;let#[w0,w3,_]:=kW a1 b1 M1;have Uu:w1*w2<=1125899906842624:=by
   have:=bK (a:=w1) (d:=w2) (A:=33554432) (B:=33554432) Nk Nk;omega
  have NO:=bK (a:=h1*h2/k) (d:=g/gg) (A:=1125899906842624) (B:=33554432) Nk Nk;exact#[.inl #[Nk,Nk],.inl #[Nk,Nk],_,rfl,.inr #[Nk,Nk],w0,Mn,hR _ _ _ _ mr]
abbrev pT(V:Bx):Prop:=V.D 1 "mirrored" ou B9
def GQ(T:V.T "mirrored" ot ou):pT V:=by
 refine Tx.okDW T E1 (λds R h=>?_) (λ_ _ _ _ _ _ _ J hr=>#[_,((ao (aB (aI (ac (af (aa 0) ad) (ac (af (aa 0) ad) (ac (aA (bU (af (aa 0) ad)) (af (aa 0) ad)) ae))))))),λds R h=>?_])
 .obtain⟨w,h,s,rfl,_⟩:=h;rfl
 .obtain⟨w,h,s,rfl,hw,hR⟩:=h;exact#[_,rfl,_,rfl,_,rfl,_,rfl,hw,Mn,hR]
abbrev pU(V:Bx):Prop:=V.D 3 "turned" oy Ca
def GR(T:V.T "turned" ow oy)(Nd:pK V):pU V:=by
 refine Tx.okDW T E2 (λds R h=>?_) (λ_ _ _ _ _ _ _ J hr=>#[_,((ao (aB (aD Nd hr (ac (aI (ac ad (ac (af (aa 0) ad) ae))) (ac (aI (ac (bU (af (aa 0) ad)) (ac (af (aa 0) ad) ae))) ae)))))),λds R h=>?_])
 .obtain⟨w,h,s,rfl,_⟩:=h;rfl
 .obtain⟨w,h,s,rfl,hw,hh,G_,Li,hs,j_,hR⟩:=h;have hp:0<w*h:=HN hw hh;have hn:¬0*s=w* -h:=by rw[JI];lia
  exact#[_,rfl,Mn,_,rfl,_,rfl,Mn,0,w,-h,s,rfl,Md,Md,Md,Md,λe=>absurd e hn,λ_ w' h' s' f=>hR w' h' s' f]
def ok_Motif_family(hL:3<=n)(T:V.Tm "Motif" "family" "Motif.family" jd cD)(uO:V.a "Motif" "shifts")(L9:V.a "Motif" "place")(uN:pR V):V.Q (n+1) "Motif" "family" cD (ofX (bX (j+1) "Motif")):=by
 refine Txm.okM T E3 (λds M R RX h=>?_) (λ_ _ _ _ _ _ _ J hr hx=>⟨_,((au (bu (sW (aE uO (ah (aa 0))) (ah cN)) (ax (kL (hn:=Nk) uN hr hx rfl (aG (aE L9 (ah (aa 0))) aX))) bo)
   (ax (aH (aE uO (ah (aa 0))))))),λds M R RX c5 h=>?_⟩)
 .obtain⟨_,_,_,rfl,_⟩:=h;rfl
 .obtain⟨p,k,v,rfl,hv,hs,hd,hc,gV,hX,hR⟩:=h;cases p with
  |over p q=>exact absurd (show("Over":Lq)="Motif" from hc) KK
  |sh a b p=>exact absurd (show("Shifted":Lq)="Motif" from hc) KK
  |mir p=>exact absurd (show("Mirror":Lq)="Motif" from hc) KK
  |tur p=>exact absurd (show("Turn":Lq)="Motif" from hc) KK
  |hue f g p=>exact absurd (show("Rehue":Lq)="Motif" from hc) KK
  |mot L a b c d=>
   let#[sh,hu,rfl,h0,h1]:=hv;refine#[_,#[rfl,rfl],_,lv,?_];by_cases e:a*d=b*c
   .rw[h0 e];refine#[_,#[rfl,rfl],_,Dp,le_b rfl,(k:Int),rfl,?_];rw[c5];exact hX k (by rw[Pat.lineAt,if_pos e])
   .obtain⟨w,h,s,F,rfl,rfl⟩:=h1 e;exact#[_,#[rfl,rfl],_,lv,hR (by rw[Pat.lineAt,if_neg e]) w h s (Pat.Fam.mot F)]
def GS(hL:3<=n)(T:V.Tm "Over" "family" "Over.family" je jg)(Oi:pS V)(v9:V.a "Over" "above")(uU:V.a "Over" "below")(uJ:∀x,x∈(["Motif","Over","Shifted","Mirror","Turn","Rehue"]:List Lq)->V.Q n x "family" cD (ofX (bX j x))):V.Q (n+1) "Over" "family" jg (ofX (bX (j+1) "Over")):=by
 refine Txm.okM T sc_Over_family (λds M R RX h=>?_) (λ_ _ _ _ _ _ _ J hr hx=>⟨_,((au (aM 1 sc_Over_family.nd (cr (hn:=Nk) uJ hx hr (aE v9 (ah (aa 0)))))
   (ax (aH (aO (hn:=Nk) (CalD.toM Oi) hx hr (aG (ah (aa 1)) (aG (cr (hn:=Nk) uJ hx hr (aE uU (ah (aa 0)))) aX))))))),λds M R RX c5 h=>?_⟩)
 .obtain⟨_,_,_,rfl,_⟩:=h;rfl
 .obtain⟨p,k,v,rfl,hv,hs,hd,hc,gV,hX,hR⟩:=h;cases p with
  |mot L a b c d=>exact absurd (show("Motif":Lq)="Over" from hc) KK
  |sh a b p=>exact absurd (show("Shifted":Lq)="Over" from hc) KK
  |mir p=>exact absurd (show("Mirror":Lq)="Over" from hc) KK
  |tur p=>exact absurd (show("Turn":Lq)="Over" from hc) KK
  |hue f g p=>exact absurd (show("Rehue":Lq)="Over" from hc) KK
  |over p q=>
   let#[u,u',rfl,hu,NY]:=hv;let#[fs,rfl,hf,_]:=hu.objm;let#[gs,rfl,hg,_]:=NY.objm;rw[Pat.depth]at hd;refine#[λd M'=>(∃w h s,p.lineAt (k+1)=w6/\p.Fam w h s/\d=.tup [.int w,.int h,.int s])/\M'=M,#[_,#[rfl,rfl],_,rfl,p.cls,p.cls_mem,fs,#[rfl,rfl],hf,p,k+1,_,rfl,hu,hs.1,Md,rfl,gV.1,λi hi=>?_,λhn w h s F=>#[#[w,h,s,hn,F,rfl],rfl]],?_]
   .rw[c5];exact hX i (by rw[Pat.lineAt,hi])
   intro _ _#[#[w1,h1,s1,QZ,F1,rfl],rfl];k_places;refine#[_,#[rfl,rfl],_,fM KK,q.cls,q.cls_mem,gs,#[rfl,rfl],hg,q,k+1+p.tl.length+1,_,rfl,NY,hs.2,Md,rfl,gV.2.1,λi hi=>?_,λLf w2 h2 s2 F2=>?_]
   .rw[c5];exact hX i (by rw[Pat.lineAt,QZ];exact hi)
   .obtain⟨f1,f2⟩:=gV.2.2 (Pat.line_wf _ hs.1 QZ) (Pat.line_wf _ hs.2 Lf);let#[a1,a2,a3,a4,a5,a6]:=f1.small F1;let#[b1,b2,b3,b4,b5,b6]:=f2.small F2;exact#[w1,h1,s1,w2,h2,s2,rfl,a1,a2,a3,a4,a5,a6,b1,b2,b3,b4,b5,b6,λw h s A MR=>hR (by rw[Pat.lineAt,QZ];exact Lf) w h s (Pat.Fam.over F1 F2 MR)]
def GT(hL:3<=n)(T:V.Tm "Shifted" "family" "Shifted.family" jh ji)(uW:V.a "Shifted" "form")(uJ:∀x,x∈(["Motif","Over","Shifted","Mirror","Turn","Rehue"]:List Lq)->V.Q n x "family" cD (ofX (bX j x))):V.Q (n+1) "Shifted" "family" ji (ofX (bX (j+1) "Shifted")):=by
 refine Txm.okM T E4 (λds M R RX h=>?_) (λ_ _ _ _ _ _ _ J hr hx=>#[_,((ax (aH (cr (hn:=Nk) uJ hx hr (aE uW (ah (aa 0))))))),λds M R RX c5 h=>?_])
 .obtain⟨_,_,_,rfl,_⟩:=h;rfl
 .obtain⟨p,k,v,rfl,hv,hs,hd,hc,gV,hX,hR⟩:=h;cases p with
  |mot L a b c d=>exact absurd (show("Motif":Lq)="Shifted" from hc) KK
  |over p q=>exact absurd (show("Over":Lq)="Shifted" from hc) KK
  |mir p=>exact absurd (show("Mirror":Lq)="Shifted" from hc) KK
  |tur p=>exact absurd (show("Turn":Lq)="Shifted" from hc) KK
  |hue f g p=>exact absurd (show("Rehue":Lq)="Shifted" from hc) KK
  |sh a b p=>
   let#[u,rfl,hu]:=hv;let#[fs,rfl,hf,_]:=hu.objm;rw[Pat.depth]at hd;refine#[_,#[rfl,rfl],_,rfl,p.cls,p.cls_mem,fs,#[rfl,rfl],hf,p,_,_,rfl,hu,hs.2.2,Md,rfl,gV,λi hi=>?_,λhn w h s F=>?_]
   .rw[c5];exact hX i (by rw[Pat.lineAt];exact hi)
   .exact hR (by rw[Pat.lineAt];exact hn) w h s (F.sh a b)
def GU(hL:3<=n)(T:V.Tm "Mirror" "family" "Mirror.family" jj jk)(Oj:pT V)(v_:V.a "Mirror" "form")(uJ:∀x,x∈(["Motif","Over","Shifted","Mirror","Turn","Rehue"]:List Lq)->V.Q n x "family" cD (ofX (bX j x))):V.Q (n+1) "Mirror" "family" jk (ofX (bX (j+1) "Mirror")):=by
 refine Txm.okM T E5 (λds M R RX h=>?_) (λ_ _ _ _ _ _ _ J hr hx=>#[_,((ax (aH (aO (hn:=Nk) (CalD.toM Oj) hx hr (aG (cr (hn:=Nk) uJ hx hr (aE v_ (ah (aa 0)))) aX))))),λds M R RX c5 h=>?_])
 .obtain⟨_,_,_,rfl,_⟩:=h;rfl
 .obtain⟨p,k,v,rfl,hv,hs,hd,hc,gV,hX,hR⟩:=h;cases p with
  |mot L a b c d=>exact absurd (show("Motif":Lq)="Mirror" from hc) KK
  |over p q=>exact absurd (show("Over":Lq)="Mirror" from hc) KK
  |sh a b p=>exact absurd (show("Shifted":Lq)="Mirror" from hc) KK
  |tur p=>exact absurd (show("Turn":Lq)="Mirror" from hc) KK
  |hue f g p=>exact absurd (show("Rehue":Lq)="Mirror" from hc) KK
  |mir p=>
   let#[u,rfl,hu]:=hv;let#[fs,rfl,hf,_]:=hu.objm;rw[Pat.depth]at hd;refine#[_,#[rfl,rfl],_,rfl,p.cls,p.cls_mem,fs,#[rfl,rfl],hf,p,_,_,rfl,hu,hs,Md,rfl,gV,λi hi=>?_,λhn w h s F=>?_]
   .rw[c5];exact hX i (by rw[Pat.lineAt];exact hi)
   .exact#[w,h,s,rfl,F.f.w0,hR (by rw[Pat.lineAt];exact hn) w h _ F.mir]
def GV(hL:3<=n)(T:V.Tm "Turn" "family" "Turn.family" jl jm)(Ol:pU V)(uZ:V.a "Turn" "form")(uJ:∀x,x∈(["Motif","Over","Shifted","Mirror","Turn","Rehue"]:List Lq)->V.Q n x "family" cD (ofX (bX j x))):V.Q (n+1) "Turn" "family" jm (ofX (bX (j+1) "Turn")):=by
 refine Txm.okM T E6 (λds M R RX h=>?_) (λ_ _ _ _ _ _ _ J hr hx=>#[_,((ax (aH (aO (hn:=Nk) (CalD.toM Ol) hx hr (aG (cr (hn:=Nk) uJ hx hr (aE uZ (ah (aa 0)))) aX))))),λds M R RX c5 h=>?_])
 .obtain⟨_,_,_,rfl,_⟩:=h;rfl
 .obtain⟨p,k,v,rfl,hv,hs,hd,hc,gV,hX,hR⟩:=h;cases p with
  |mot L a b c d=>exact absurd (show("Motif":Lq)="Turn" from hc) KK
  |over p q=>exact absurd (show("Over":Lq)="Turn" from hc) KK
  |sh a b p=>exact absurd (show("Shifted":Lq)="Turn" from hc) KK
  |mir p=>exact absurd (show("Mirror":Lq)="Turn" from hc) KK
  |hue f g p=>exact absurd (show("Rehue":Lq)="Turn" from hc) KK
  |tur p=>
   let#[u,rfl,hu]:=hv;let#[fs,rfl,hf,_]:=hu.objm;rw[Pat.depth]at hd;refine#[_,#[rfl,rfl],_,rfl,p.cls,p.cls_mem,fs,#[rfl,rfl],hf,p,_,_,rfl,hu,hs,Md,rfl,gV.1,λi hi=>?_,λhn w h s F=>?_]
   .rw[c5];exact hX i (by rw[Pat.lineAt];exact hi)
   .obtain⟨a1,a2,a3,a4,a5,a6⟩:=(gV.2 (Pat.line_wf _ hs hn)).small F;exact#[w,h,s,rfl,a1,a3,Md,Md,a5,Md,λw' h' s' F'=>hR (by rw[Pat.lineAt];exact hn) w' h' s' (F.tur F')]
def GW(hL:3<=n)(T:V.Tm "Rehue" "family" "Rehue.family" jn jp)(uV:V.a "Rehue" "form")(uJ:∀x,x∈(["Motif","Over","Shifted","Mirror","Turn","Rehue"]:List Lq)->V.Q n x "family" cD (ofX (bX j x))):V.Q (n+1) "Rehue" "family" jp (ofX (bX (j+1) "Rehue")):=by
 refine Txm.okM T E7 (λds M R RX h=>?_) (λ_ _ _ _ _ _ _ J hr hx=>#[_,((ax (aH (cr (hn:=Nk) uJ hx hr (aE uV (ah (aa 0))))))),λds M R RX c5 h=>?_])
 .obtain⟨_,_,_,rfl,_⟩:=h;rfl
 .obtain⟨p,k,v,rfl,hv,hs,hd,hc,gV,hX,hR⟩:=h;cases p with
  |mot L a b c d=>exact absurd (show("Motif":Lq)="Rehue" from hc) KK
  |over p q=>exact absurd (show("Over":Lq)="Rehue" from hc) KK
  |sh a b p=>exact absurd (show("Shifted":Lq)="Rehue" from hc) KK
  |mir p=>exact absurd (show("Mirror":Lq)="Rehue" from hc) KK
  |tur p=>exact absurd (show("Turn":Lq)="Rehue" from hc) KK
  |hue f g p=>
   let#[u,rfl,hu]:=hv;let#[fs,rfl,hf,_]:=hu.objm;rw[Pat.depth]at hd;refine#[_,#[rfl,rfl],_,rfl,p.cls,p.cls_mem,fs,#[rfl,rfl],hf,p,_,_,rfl,hu,hs.2.2,Md,rfl,gV,λi hi=>?_,λhn w h s F=>?_]
   .rw[c5];exact hX i (by rw[Pat.lineAt];exact hi)
   .exact hR (by rw[Pat.lineAt];exact hn) w h s (F.hue f g)
def GX(Sx:V.Tm "Motif" "family" "Motif.family" jd cD)(Sy:V.Tm "Over" "family" "Over.family" je jg)(Sz:V.Tm "Shifted" "family" "Shifted.family" jh ji)(SA:V.Tm "Mirror" "family" "Mirror.family" jj jk)(SE:V.Tm "Turn" "family" "Turn.family" jl jm)(SG:V.Tm "Rehue" "family" "Rehue.family" jn jp)(uO:V.a "Motif" "shifts")(L9:V.a "Motif" "place")(uN:pR V)(Oi:pS V)(v9:V.a "Over" "above")(uU:V.a "Over" "below")(uW:V.a "Shifted" "form")(Oj:pT V)(v_:V.a "Mirror" "form")(Ol:pU V)(uZ:V.a "Turn" "form")(uV:V.a "Rehue" "form"):∀j x,x∈(["Motif","Over","Shifted","Mirror","Turn","Rehue"]:List Lq)->V.Q (3+j) x "family" cD (ofX (bX j x)):=by
 intro j;induction j with
 |zero=>
  intro x hx;simp only[Hx,II,or_false]at hx;rcases hx with rfl|rfl|rfl|rfl|rfl|rfl
  .exact CalMth.never Sx (λds M R RX=>fN)
  .exact CalMth.never Sy (λds M R RX=>fN)
  .exact CalMth.never Sz (λds M R RX=>fN)
  .exact CalMth.never SA (λds M R RX=>fN)
  .exact CalMth.never SE (λds M R RX=>fN)
  .exact CalMth.never SG (λds M R RX=>fN)
 |succ j Om=>
  intro x hx;simp only[Hx,II,or_false]at hx;rcases hx with rfl|rfl|rfl|rfl|rfl|rfl
  .exact ok_Motif_family (n:=3+j) (j:=j) Nk Sx uO L9 uN
  .exact GS (n:=3+j) (j:=j) Nk Sy Oi v9 uU Om
  .exact GT (n:=3+j) (j:=j) Nk Sz uW Om
  .exact GU (n:=3+j) (j:=j) Nk SA Oj v_ Om
  .exact GV (n:=3+j) (j:=j) Nk SE Ol uZ Om
  .exact GW (n:=3+j) (j:=j) Nk SG uV Om
abbrev wQ(V:Bx):Prop:=V.MM 18 "form_from" cK (dL 6)
abbrev wR(V:Bx):Prop:=∀x,x∈(["Motif","Over","Shifted","Mirror","Turn","Rehue"]:List Lq)->V.Q 9 x "family" cD (ofX (bX 6 x))
abbrev jy(V:Bx):Prop:=V.X 19 "read" oA S_read
def GY(T:V.T "read" oz oA)(uA:V.m "len")(uK:wQ V)(Q0:V.gi "MOST" 720)(uI:V.a "Reading" "place")(Q1:wM V)(Q2:wO V)(uJ:wR V)(uM:pI V)(Q3:V.n "TooGreat"):jy V:=by
 refine CalMM.nilX (Tx.okM T sc_read (λds M R RX h=>?_) (λ_ _ _ _ _ _ _ J hr hx=>⟨_,((au (aM 1 sc_read.nd (AW Q1 hr (az (ac (aa 0) ae))))
   (au (aM 2 sc_read.nd (aO uK hx hr (az (ac (aa 1) (ac ad ae)))))
   (au (bu (sV (aE uI (ah (aa 1))) (ah (bJ uA (ac (aa 0) ae)))) (ax (kL uM hr hx rfl (aG (aE uI (ah (aa 1))) aX))) bo)
   (au (aM 3 sc_read.nd (cr uJ hx hr (ah (aa 2))))
   (au (bu (bG (km (ay (af (aa 3) ad) (af (aa 3) ad)) (fw Q0))) (ax (tD Q3 hx rfl (az (ac aq ae)))) bo)
   (ax (aH (ah (kE Q2 hr (ac (aa 0) (ac (aa 3) (ac (aa 2) ae))))))))))))),λds M R RX c5 h=>?_⟩))
 .obtain⟨_,R0,x8,h,_⟩:=h;rcases h with⟨_,_,rfl,_⟩|⟨_,rfl,_⟩<;>rfl
 .obtain⟨rfl,R0,x8,h,hR,hX⟩:=h;let#[t,ht,Uv,K']:∃t:Lq,ds=[.str t]/\t.length<=100000/\((∃k:Nat,cb t=be k/\x8 "WrongSign" [("place",.int k)])\/∃p:Pat,t=p.text/\p.Syn/\p.depth<=5/\p.Cal/\(∀k:Nat,p.lineAt 0=be k->x8 "OneLine" [("place",.int k)])/\(p.lineAt 0=w6->¬p.Fits->x8 "TooGreat" [])/\(p.lineAt 0=w6->p.Fits->∀d,cf p d->R0 d)):=by
   rcases h with⟨t,k,e,h1,h2,h3⟩|⟨p,e,h1,h2,h3⟩
   .exact#[t,e,h1,.inl #[k,h2,h3]]
   .exact#[p.text,e,by have:=Pat.syn_short h1 h2;lia,.inr #[p,rfl,h1,h2,h3]]
  subst ht;have f8:At t 0 (cs t):=#[rfl,HS _,Uv];refine#[λd M'=>∃a,d=.ptr a/\M'=RdM a t 0,#[t,rfl,λa _=>#[a,rfl,rfl]],?_];intro _ _#[a,rfl,rfl];k_places;refine#[λv M'=>∃p l',p.Syn/\p.depth<=5/\cs t=p.tl++l'/\FormOf p 0 v/\M'=RdM a t p.tl.length,#[a,t,0,cs t,0,rfl,rfl,f8,rfl,Mh,λp l' h1 h2 h3 v h4=>#[p,l',h1,Md,h3,h4,by rw[Je]],λi hi M'=>?_],?_]
  .rw[c5];have hw:cb t=be i:=hi [];rcases K' with⟨k,h1,h2⟩|⟨p,rfl,h1,h2,_⟩
   .rw[hw]at h1;cases h1;exact hX _ _ _ h2
   .rw[lh h1 h2]at hw;cases hw
  intro v _#[p,l',hp,QT,hl,hv,rfl];k_places;have hw:cb t=walk [] l' p.tl.length:=by
   unfold cb;rw[hl,cB hp 0 [] l' 0 Md,Je]
  have b9:t.length=p.tl.length+l'.length:=by rw[<-bq,hl,HF]
  refine#[_,aS,_,dH,Md,ite2 (λc=>?_) (λc=>?_)]
  .have c':=of_decide_eq_true c;refine#[_,aS,_,dH,le_b rfl,(p.tl.length:Int),rfl,?_];rw[c5];have G_:cb t=be p.tl.length:=by
    rw[hw];cases l' with
    |nil=>simp at b9;lia
    |cons c l=>simp[walk,step,aP,aQ]
   rcases K' with⟨k,h1,h2⟩|⟨q,rfl,h1,h2,_⟩
   .rw[G_]at h1;cases h1;exact hX _ _ _ h2
   .rw[lh h1 h2]at G_;cases G_
  have c':¬((p.tl.length:Int)<(t.length:Int)):=λz=>c (decide_eq_true z);have Uw:l'=[]:=JY Md;subst Uw;rcases K' with⟨k,h1,h2⟩|⟨q,rfl,h1,h2,gV,Q4,MG,On⟩
  .rw[hw]at h1;cases h1
  let#[rfl,_]:=Dw (p:=q) (q:=p) (x:=[]) (y:=[]) h1 hp (by rw[<-bW,hl];simp);let#[fs,rfl,hf,_]:=hv.objm;refine#[λd M'=>∃w h s,q.lineAt 0=w6/\q.Fam w h s/\d=.tup [.int w,.int h,.int s],#[q.cls,q.cls_mem,fs,#[rfl,rfl],hf,q,0,_,rfl,hv,hp,Md,rfl,gV,λi hi=>?_,λhn w h s F=>#[w,h,s,hn,F,rfl]],?_]
  .rw[c5];exact hX _ _ _ (Q4 i hi)
  intro _ M'#[w,h,s,hn,F,rfl];k_places;have f_:=Pat.line_wf 0 hp hn;have Sr:=Pat.cal_w f_ gV F;have T4:=F.f.w0;refine#[_,rfl,_,rfl,.inl #[Md,Md],ite2 (λc=>?_) (λc=>?_)]
  .have c2:=of_decide_eq_true c;refine#[le_b rfl,?_];rw[c5];refine hX _ _ _ (MG hn λ⟨w',h',s',F',hb⟩=>?_);let#[rfl,rfl,_]:=F.uniq F';lia
  .have c2:¬(720<w*h):=λz=>c (decide_eq_true z);refine⟨_,_,_,_,_,_,rfl,hR _ _ (On hn #[w,h,s,F,Md] _ ⟨w,h,s,_,rfl,rfl,fM KK,⟨F,#[0,_,lw KK KK,hv],by
    have:=FormOf.nl hv;unfold noL at this;simp[noLF,noL,noLs,this]⟩⟩)⟩
abbrev jz(V:Bx):Prop:=V.D 1 "_law_whole" oC B2
def GZ(T:V.T "_law_whole" oB oC)(uD:V.m "isinstance")(Q5:V.m "bool")(uE:V.m "int"):jz V:=by
 refine Tx.okDW T E8 (λds R h=>?_) (λ_ _ _ _ _ _ _ J hr=>#[_,((ao (aB (gj (gk uD uE (aa 0) PyProof.Rows.boot_int zI) (gh (rN (gk uD Q5 (aa 0) PyProof.Rows.boot_bool kit_bool))))))),λds R h=>?_])
 .obtain⟨i,rfl,_⟩:=h;rfl
 .obtain⟨i,rfl,hR⟩:=h;exact hR
def G0:SpD:=λds R=>∃i w,ds=[.lst (bF i)]/\jw[i]?=be w/\R (.str w)
abbrev wS(V:Bx):Prop:=V.D 1 "_law_kind" oF G0
def G1(T:V.T "_law_kind" oE oF):wS V:=by
 refine Tx.okDW T E9 (λds R h=>?_) (λ_ _ _ _ _ _ _ J hr=>⟨_,((ai (bn (cE (Et (aa 0) bz) ad) (ao (aB aq)) aW)
   (ao (aB (af (aU (ac aq (ac aq (ac aq (ac aq (ac aq (ac aq (ac aq (ac aq ae))))))))) (BT (aa 0) bz)))))),λds R h=>?_⟩)
 .obtain⟨_,_,rfl,_⟩:=h;rfl
 .obtain⟨i,w,rfl,hw,hR⟩:=h;let#[hi,hw]:=Fy hw;let#[#[e1,e2],e3]:=Fx i hi;refine#[#[rfl,e2],?_];show ite ((!decide (((bF i).countP λw=>eqF w (.bl true):Nat)=(1:Int)))=true) _ _;refine ite2 (λc=>by rw[e1]at c;cases c) λ_=>?_;refine#[Mh,#[rfl,e2],by rw[e3];show i<8;lia,?_];show rdIx (.lst ((jw++[("":Lq)]).map D.str)) (.int ((bF i).findIdx _:Nat)) R;rw[e3];exact#[.str w,bZ (by rw[HI,hw];rfl),hR]
def G2:SiX:=λa ds R RX=>∃t w h,ds=[.str t,.int w,.int h]/\((∃p:Pat,t=p.text/\p.Ok/\∀d q,cf p d->a≠q->R (Fl.M #[p,d,w,h,0,[]] a q))\/S_read [.str t] (λ_=>False) λx fs=>∀M',RX x fs M')
abbrev pV(V:Bx):Prop:=V.NX 20 "Floor" oH G2
def G3(T:V.Ti "Floor" "Floor.__init__" oG oH)(LR:jy V)(uQ:V.a "Floor" "pattern")(MH:V.a "Floor" "text")(uP:V.a "Floor" "width")(uT:V.a "Floor" "height")(uH:V.a "Floor" "laid")(Ll:V.a "Floor" "deeds"):pV V:=by
 refine Txi.okNX T Fb (λa ds R RX h=>?_) (λ_ _ _ _ _ _ _ J hr hx=>⟨_,((au (cu uQ (ah (aa 0)) (aO (CalX.toM LR) hx hr (az (ac (aa 1) ae))))
   (au (cu MH (ah (aa 0)) (ah (aa 1)))
   (au (cu uP (ah (aa 0)) (ah (aa 2)))
   (au (cu uT (ah (aa 0)) (ah (aa 3)))
   (au (cu uH (ah (aa 0)) (ah ad))
   (ax (cu Ll (ah (aa 0)) (kK (az ae)))))))))),λa ds R RX c5 h=>?_⟩)
 .obtain⟨_,_,_,rfl,_⟩:=h;rfl
 .obtain⟨t,w,h,rfl,⟨p,rfl,ok,hR⟩|hX⟩:=h
  .refine Fz ok λd hd=>?_;refine#[_,cL,le_b rfl,?_];rw[dP];refine#[_,cL,le_b rfl,?_];rw[dP];refine#[_,cL,le_b rfl,?_];rw[dP];refine#[_,cL,le_b rfl,?_];rw[dP];refine#[_,cL,le_b rfl,?_];rw[dP];refine#[le_b rfl,λq hq=>?_];have ne:a≠q:=λe=>hq (e ▸ Hy);refine#[_,(fQ (Ne.symm ne)).trans cL,le_b rfl,?_];rw[fR (Ne.symm ne),dP];exact hR d q hd ne
  .refine S_read.mono hX (λ_ z=>z.elim) λx fs z=>?_;show J.RM _ _ x fs;rw[c5];exact z _
def G4:SpM:=λds M R RX=>∃a q f t,ds=[.ptr a,.str t]/\a≠q/\M=Fl.M f a q/\S_read [.str t] (λ_=>False) (λx fs=>RX x fs M)
abbrev wT(V:Bx):Prop:=V.Q 20 "Floor" "change" oJ G4
def G5(T:V.Tm "Floor" "change" "Floor.change" oI oJ)(LR:jy V):wT V:=by
 refine CalMth.drop (Txm.okM T sc_Floor_change (λds M R RX h=>?_) (λ_ _ _ _ _ _ _ J hr hx=>⟨_,((au (aM 2 sc_Floor_change.nd (aO (CalX.toM LR) hx hr (az (ac (aa 1) ae))))
   EA)),λds M R RX c5 h=>?_⟩))
 .obtain⟨_,_,⟨_,_,_,_,rfl,_⟩,_⟩:=h;rfl
 .obtain⟨R,RX,⟨a,q,f,t,rfl,ne,rfl,hX⟩,rfl,rfl⟩:=h;refine#[λ_ _=>False,S_read.mono hX (λ_ z=>z.elim) λx fs z=>?_,λ_ _ z=>z.elim];show J.RM _ _ x fs;rw[c5];exact#[_,Fl.sub ne,z]
def G6:SpM:=λds M R _=>∃(a q:Pi) (f:Fl) (n:Int) (t w:Lq) (k:Int),ds=[.int n,.str t,.ptr a]/\a≠q/\M=Fl.M f a q/\Bad t w k/\R (.tup [.str w,.int k]) (f.M a q)
abbrev wU(V:Bx):Prop:=V.MM 22 "_law_refusal" oM G6
def G7(T:V.T "_law_refusal" oK oM)(uD:V.m "isinstance")(Q6:V.m "ValueError")(LR:jy V)(K_:jz V)(Q7:wS V)(Q8:V.j "TooFar" [("WrongSign",false),("OneLine",false),("TooGreat",false)])(Q9:V.j "TooGreat" [("WrongSign",false),("OneLine",false),("TooGreat",true)])(OV:V.j "OneLine" [("WrongSign",false),("OneLine",true),("TooGreat",false)])(OW:V.j "WrongSign" [("WrongSign",true),("OneLine",false),("TooGreat",false)])(Q_:V.j "NothingKept" [("WrongSign",false),("OneLine",false),("TooGreat",false)])(Ra:V.j "Parted" [("WrongSign",false),("OneLine",false),("TooGreat",false)])(Rb:V.j "NoRow" [("WrongSign",false),("OneLine",false),("TooGreat",false)])(jv:V.jv [("WrongSign",true),("OneLine",true),("TooGreat",true)])(Nf:pV V)(Rc:wT V)(Re:V.x "place" ["WrongSign","OneLine"])(ek:pH V):wU V:=by
  refine(Tx.okM T sc__law_refusal (λds M R RX h=>?_) (λ_ _ _ _ _ _ _ J hr hx=>⟨_,((au (aM 3 sc__law_refusal.nd (ah (bU ad)))
      (au (aM 4 sc__law_refusal.nd (ah (aU ae)))
      (au (tU (λpn xe J hp hx=>(ax (gB (bG (bg (aa 0) ad)) (ax (bP (aO (CalX.toM LR) hx hr (az (ac (aa 1) ae))))) (ax (gB (bG (bg (aa 0) ad)) (ax (bP (vS Nf hx hr (az (ac (aa 1) (ac ad (ac ad ae))))))) (ax (bP (aY (CalMth.one Rc) hx hr (ah (aa 2)) (az (ac (aa 1) ae)))))))))) (λ_=>(Aw 5 ek sc__law_refusal.nd (λe=>(ai (am 4 sc__law_refusal.nd (aU (ac (dg OW uD (aa 5)) (ac (dg OV uD (aa 5)) (ac (dg Q9 uD (aa 5)) (ac (dg Q8 uD (aa 5)) ae))))))
         (ai (am 4 sc__law_refusal.nd (aj (aa 4) (aU (ac (dg Rb uD (aa 5)) (ac (dg Ra uD (aa 5)) (ac (dg Q_ uD (aa 5)) ae))))))
         (ai (am 4 sc__law_refusal.nd (aj (aa 4) (aU (ac (rN (Ev jv uD Q6 (aa 5))) ae))))
         (ao (dY (cO (fg (cm (dg OW uD (aa 5))) (fb (cm (dg OV uD (aa 5)))))) (ao (am 3 sc__law_refusal.nd (Az Re (aa 5)))) aW)))))) sL)))
      (au (bu (bG (fj (cm (aD K_ hr (ac (aa 3) ae))))) (ax (aH (ah cN))) bo)
      (ax (aH (ah (aI (ac (aD Q7 hr (ac (aa 4) ae)) (ac (aa 3) ae))))))))))),λds M R RX c5 h=>?_⟩))
  . let#[_,_,_,_,_,_,_,rfl,_]:=h;rfl
  . let#[a,q,f,n,t,w,k,rfl,ne,rfl,hb,hR]:=h;refine#[λd M'=>d=.int (-1)/\M'=f.M a q,#[rfl,rfl],?_];intro _ _#[rfl,rfl];k_places;refine#[λd M'=>d=.lst []/\M'=f.M a q,#[Mh,rfl,rfl],?_];intro _ _#[rfl,rfl];k_places;refine#[λz M' x fs=>z=[be (.int n),be (.str t),be (.ptr a),be (.int (-1)),be (.lst []),w6]/\M'=f.M a q/\ErrW w k x fs,λJ hJ=>#[λ_ _=>False,ite2 (λc=>?_) (λc=>#[λ_ _=>False,ite2 (λc=>?_) (λc=>?_),λ_ _ z=>z.elim]),λ_ _ z=>z.elim],?_]
    . refine S_read.mono hb (λ_ z=>z.elim) λx fs z=>?_;show J.RM _ _ x fs;rw[hJ];exact#[rfl,rfl,z]
    . refine λa' _=>#[t,3,3,rfl,.inr (S_read.mono hb (λ_ z=>z.elim) λx fs z M'=>?_)];show J.RM _ _ x fs;rw[hJ];exact#[rfl,rfl,z]
    . refine#[_,Hv.mpr rfl,_,Fl.ma ne,rfl,a,q,f,t,rfl,ne,rfl,S_read.mono hb (λ_ z=>z.elim) λx fs z=>?_];show J.RM _ _ x fs;rw[hJ];exact#[rfl,rfl,z]
    . rintro z M' x fs⟨rfl,rfl,⟨rfl,rfl,rfl⟩|⟨rfl,rfl,rfl⟩|⟨rfl,rfl,rfl,rfl⟩⟩;k_places
      . refine#[#[Mn,Mn],?_];rw[if_pos KK];refine#[λd=>d=.lst ((bF 0).take 4),#[_,_,_,rfl,.head _,_,_,_,rfl,.head _,_,_,_,rfl,.head _,_,_,_,rfl,.head _,le_b rfl,rfl],?_];intro _ rfl;k_places;refine#[λd=>d=.lst ((bF 0).take 7),#[_,_,_,rfl,.head _,_,_,_,rfl,.head _,_,_,_,rfl,.head _,le_b rfl,Mh,rfl],?_];intro _ rfl;k_places;refine#[λd=>d=.lst (bF 0),#[_,_,_,rfl,.head _,le_b rfl,Mh,rfl],?_];intro _ rfl;k_places;refine#[λz=>z=[be (.int n),be (.str t),be (.ptr a),be (.int k),be (.lst (bF 0)),be (.exc "WrongSign" [(("place":Lq),D.int k)])],#[_,_,_,rfl,.head _,iteT (iteT #[λd=>d=.int k,#[Mh,_,rfl,rfl],?_])],?_]
        . intro _ rfl;rfl
        intro _ rfl;k_places;exact#[#[_,rfl,iteF #[0,_,rfl,rfl,le_b rfl,hR]],NoOwn.of rfl]
      . refine#[#[Mn,Mn],?_];rw[if_pos KK];refine#[λd=>d=.lst ((bF 1).take 4),#[_,_,_,rfl,.tail _ (.head _),_,_,_,rfl,.tail _ (.head _),_,_,_,rfl,.tail _ (.head _),_,_,_,rfl,.tail _ (.head _),le_b rfl,rfl],?_];intro _ rfl;k_places;refine#[λd=>d=.lst ((bF 1).take 7),#[_,_,_,rfl,.tail _ (.head _),_,_,_,rfl,.tail _ (.head _),_,_,_,rfl,.tail _ (.head _),le_b rfl,Mh,rfl],?_];intro _ rfl;k_places;refine#[λd=>d=.lst (bF 1),#[_,_,_,rfl,.tail _ (.head _),le_b rfl,Mh,rfl],?_];intro _ rfl;k_places;refine#[λz=>z=[be (.int n),be (.str t),be (.ptr a),be (.int k),be (.lst (bF 1)),be (.exc "OneLine" [(("place":Lq),D.int k)])],#[_,_,_,rfl,.tail _ (.head _),iteF #[_,_,_,rfl,.tail _ (.head _),iteT #[λd=>d=.int k,#[Mh,_,rfl,rfl],?_]]],?_]
        . intro _ rfl;rfl
        intro _ rfl;k_places;exact#[#[_,rfl,iteF #[1,_,rfl,rfl,le_b rfl,hR]],NoOwn.of rfl]
      . refine#[#[Mn,Mn],?_];rw[if_pos KK];refine#[λd=>d=.lst ((bF 2).take 4),#[_,_,_,rfl,.tail _ (.tail _ (.head _)),_,_,_,rfl,.tail _ (.tail _ (.head _)),_,_,_,rfl,.tail _ (.tail _ (.head _)),_,_,_,rfl,.tail _ (.tail _ (.head _)),le_b rfl,rfl],?_];intro _ rfl;k_places;refine#[λd=>d=.lst ((bF 2).take 7),#[_,_,_,rfl,.tail _ (.tail _ (.head _)),_,_,_,rfl,.tail _ (.tail _ (.head _)),_,_,_,rfl,.tail _ (.tail _ (.head _)),le_b rfl,Mh,rfl],?_];intro _ rfl;k_places;refine#[λd=>d=.lst (bF 2),#[_,_,_,rfl,.tail _ (.tail _ (.head _)),le_b rfl,Mh,rfl],?_];intro _ rfl;k_places;refine#[λz=>z=[be (.int n),be (.str t),be (.ptr a),be (.int (-1)),be (.lst (bF 2)),be (.exc "TooGreat" [])],#[_,_,_,rfl,.tail _ (.tail _ (.head _)),iteF #[_,_,_,rfl,.tail _ (.tail _ (.head _)),iteF (by show _=_;rfl)]],?_];intro _ rfl;k_places;exact#[#[_,rfl,iteF #[2,_,rfl,rfl,le_b rfl,hR]],NoOwn.of rfl]
def G8:SpD:=λds R=>∃(p:Pat) (w lo:Int) (n:Nat),ds=[.lst (aF p w lo n),.lst (aF p w lo n)]/\n<=1000/\R (.bl true)
abbrev wV(V:Bx):Prop:=V.D 1 "_law_texts" oO G8
def G9(T:V.T "_law_texts" oN oO)(uA:V.m "len")(uD:V.m "isinstance")(LK:V.m "list")(uB:V.m "range")(uF:V.m "str"):wV V:=by
 refine Tx.okDW T sc__law_texts (λds R h=>?_) (λ_ _ _ _ _ _ _ J hr=>⟨_,((ai (bn (cO (fg (fj (cm (gk uD LK (aa 0) PyProof.Rows.boot_list kit_list))) (fb (cE (bJ uA (ac (aa 0) ae)) (bJ uA (ac (aa 1) ae)))))) (ao (aB bz)) aW)
   (ai (cF 2 PassesOwn.never rfl sc__law_texts.nd uB (bJ uA (ac (aa 1) ae)) (ao (bn (cO (fg (fj (cm (gk uD uF (af (aa 0) (aa 2)) PyProof.Rows.boot_str kit_str))) (fb (cE (af (aa 0) (aa 2)) (af (aa 1) (aa 2)))))) (ao (aB bz)) aW)))
   (ao (aB bz))))),λds R h=>?_⟩)
 .obtain⟨_,_,_,_,rfl,_⟩:=h;rfl
 .obtain⟨p,w,lo,n,rfl,n7,hR⟩:=h;have lp:(aF p w lo n).length=n:=by unfold aF;simp
  refine ite2 (λc=>absurd c Mn) λ_=>?_;refine#[#[Md,by rw[lp];lia],λk z=>∃o,z=[be (.lst (aF p w lo n)),be (.lst (aF p w lo n)),o],#[_,rfl],?_,?_]
  .rintro k v z hk⟨o,rfl⟩;k_places;let#[y',rfl]:=cA hk;rw[lp]at y';have ak:=Fv (p:=p) (w:=w) (lo:=lo) (show k<n by lia);exact#[_,ak,_,ak,_,ak,ite2 (λc=>absurd c Mn) λ_=>#[_,rfl]]
  .rintro z⟨o,rfl⟩;k_places;exact hR
def Ha:SpD:=λds R=>∃xs:List Int,ds=[.lst (xs.map D.int),.lst (xs.map D.int)]/\xs.length=7/\R (.bl true)
abbrev wW(V:Bx):Prop:=V.D 2 "_law_seven" oQ Ha
def Hb(T:V.T "_law_seven" oP oQ)(uA:V.m "len")(uD:V.m "isinstance")(LK:V.m "list")(uB:V.m "range")(K_:jz V):wW V:=by
 refine Tx.okDW T sc__law_seven (λds R h=>?_) (λ_ _ _ _ _ _ _ J hr=>⟨_,((ai (bn (cO (fg (fj (cm (gk uD LK (aa 0) PyProof.Rows.boot_list kit_list))) (fb (cE (bJ uA (ac (aa 0) ae)) ad)))) (ao (aB bz)) aW)
   (ai (cF 2 PassesOwn.never rfl sc__law_seven.nd uB ad (ao (bn (cO (fg (fj (cm (aD K_ hr (ac (af (aa 0) (aa 2)) ae)))) (fb (cE (af (aa 0) (aa 2)) (af (aa 1) (aa 2)))))) (ao (aB bz)) aW)))
   (ao (aB bz))))),λds R h=>?_⟩)
 .obtain⟨_,rfl,_⟩:=h;rfl
 .obtain⟨xs,rfl,x7,hR⟩:=h;refine ite2 (λc=>absurd c (by simp[x7])) λ_=>?_;refine#[#[Mh,Mh],λk z=>∃o,z=[be (.lst (xs.map D.int)),be (.lst (xs.map D.int)),o],#[_,rfl],?_,?_]
  .rintro k v z hk⟨o,rfl⟩;k_places;let#[y',rfl]:=cA hk;have k7:k<7:=y';have ak:atI (xs.map D.int) (k:Int)=be (.int (xs[k]' Nk)):=bZ (by rw[HI,HP Nk];rfl);exact#[_,ak,_,rfl,_,ak,_,ak,ite2 (λc=>absurd c Mn) λ_=>#[_,rfl]]
  .rintro z⟨o,rfl⟩;k_places;exact hR
def Hc:SpD:=λds R=>∃(p:Pat) (w lo:Int) (n:Nat),ds=[.lst (aF p w lo n)]/\p.Ok/\0<=w/\w<=30/\n<=30/\R (.lst ((cJ p 0 lo w.toNat n).map D.int))
abbrev wX(V:Bx):Prop:=V.D 1 "_law_counts" oS Hc
def Hd(T:V.T "_law_counts" oR oS):wX V:=by
 refine Tx.okDW T sc__law_counts (λds R h=>?_) (λ_ _ _ _ _ _ _ J hr=>⟨_,((ai (gm 1 sc__law_counts.nd (ac ad (ac ad (ac ad (ac ad (ac ad (ac ad (ac ad ae))))))))
   (ai (ie 2 PassesOwn.never rfl sc__law_counts.nd (aa 0) (ao (AI 3 PassesOwn.never rfl sc__law_counts.nd (aa 2) (ao (BP 1 (sS aq (ac (aa 3) ae)) ad)))))
   (dX 1 (ao (aB (aa 1))))))),λds R h=>?_⟩)
 .obtain⟨_,_,_,_,rfl,_⟩:=h;rfl
 .obtain⟨p,w,lo,n,rfl,ok,w0,w7,n7,hR⟩:=h;have e0:([.int 0,.int 0,.int 0,.int 0,.int 0,.int 0,.int 0]:List D)=(due7 p 0 lo w.toNat 0 0).map D.int:=rfl;refine#[Mh,?_];refine#[λk z=>∃o1 o2,z=[be (.lst (aF p w lo n)),be (.own ((due7 p 0 lo w.toNat k 0).map D.int)),o1,o2],#[_,_,rfl],?_,?_]
  .rintro k v z hk⟨o1,o2,rfl⟩;k_places;let#[y',rfl]:=Fp hk;refine#[Fs ok 0 (lo+k) w.toNat,λi z=>∃o2,z=[be (.lst (aF p w lo n)),be (.own ((due7 p 0 lo w.toNat k i).map D.int)),be (.str (aL p 0 (lo+k) w.toNat)),o2],#[_,rfl],?_,?_]
   .rintro i v z hi⟨o2,rfl⟩;k_places;let#[Lk,rfl]:=Ft hi;let#[u,u7,eu,e3,e4]:=Fj ok 0 lo w.toNat k i;let#[rest,ho]:=Fu u7;rw[eu];refine#[u,rest,ho,_,Md,by rw[HI,IM,e3];rfl,?_];rw[IM];exact#[_,by rw[<-e4];rfl]
   .rintro z⟨o2,rfl⟩;k_places;refine#[be (.str (aL p 0 (lo+k) w.toNat)),o2,?_];rw[fD,iF,Fk]
  .rintro z⟨o1,o2,rfl⟩;k_places;rw[show(aF p w lo n).length=n by unfold aF;simp,Fo];exact hR
abbrev wY(V:Bx):Prop:=V.D 10 "field_rows" oU DO
def Hf(T:V.T "field_rows" jq oU)(uB:V.m "range")(M9:pF V)(Lm:V.a "Pattern" "shifts"):wY V:=by
 refine Tx.okDW T Fc (λds R h=>?_) (λ_ _ _ _ _ _ _ J hr=>#[_,((ao (aB (ii rfl (compScope (by change dA _ (ag jq) ["pattern"] _=true;decide+kernel)) uB (af (fv Lm (aa 0)) ad) (λcl s0 H0 fp=>(aD M9 hr (ac (aa 0) (ac ad (ac (aa 1) (ac (af (fv Lm (aa 0)) ad) ae)))))))))),λds R h=>?_])
 .obtain⟨_,_,rfl,_⟩:=h;rfl
 .obtain⟨p,d,rfl,hd,ok,hR⟩:=h;let#[w,h,s,fs,rfl,e1,e2,hp]:=id hd;have F:=hp.toFam;have sm:=ok.fits.small F;have wh:w*h<=720:=by
   let#[w',h',s',f',hb]:=ok.fits;let#[rfl,rfl,_]:=F.uniq f';exact hb
  refine#[rfl,_,e2,_,rfl,#[Md,Md],by rw[cx];lia,λk ys=>ys=(HC k).map λ(y:Nat)=>D.str (aL p 0 (y:Int) w.toNat),rfl,?_,?_]
  .rintro k v ys hk hl rfl;let#[y',rfl]:=cA hk;refine#[rfl,_,e2,_,rfl,p,.obj "Pattern" fs,0,k,w.toNat,by rw[Ie Md],hd,ok,Md,#[Md,Md],#[Md,Md],#[Md,Md],?_];show _=JA _ (HC (k+1));rw[Jk,Ia];rfl
  .rintro ys hl rfl;rw[cx];exact hR w h s F wh sm.2.1 sm.2.2.2.1
abbrev C_round_row(V:Bx):Prop:=V.D 2 "round_row" oW DP
def Hg(T:V.T "round_row" oV oW)(J_:gT V):C_round_row V:=by
 refine Tx.okDW T sc_round_row (λds R h=>?_) (λ_ _ _ _ _ _ _ J hr=>⟨_,((ai (am 4 sc_round_row.nd (aD J_ hr (ac (aa 0) (ac (aa 2) (ac (aa 3) ae)))))
   (ai (am 5 sc_round_row.nd (af (aa 1) (af (aa 4) ad)))
   (ao (aB (aj (fC (aa 5) (fB (af (aa 4) ad)) fA) (fC (aa 5) fA (fB (af (aa 4) ad))))))))),λds R h=>?_⟩)
 .obtain⟨_,_,_,_,_,_,rfl,_⟩:=h;rfl
 .obtain⟨p,w,h,s,x,y,rfl,F,w7,h7,hR⟩:=h;have f:=F.f;have y0:=IE y (show h≠0 by have:=f.h0;lia);have y1:=IF y f.h0;refine#[λd=>d=.tup [.int (hmX w h s x y),.int (y%h)],#[w,h,s,x,y,rfl,f.w0,f.h0,Md,f.s0,by have:=f.sw;lia,rfl],?_];intro _ rfl;k_places;refine#[λd=>d=.str (aL p 0 (y%h) w.toNat),#[_,rfl,_,?_,rfl],?_]
  .have e:y%h=(((y%h).toNat:Nat):Int):=by lia
   rw[e];exact bZ (by rw[HI,Iw Md];simp)
  intro _ rfl;k_places;have l:=iF p 0 (y%h) w.toNat;refine#[_,rfl,Md,_,rfl,Md,?_];have e:=DN f.w0 f.h0 (λ_ _ q=>F.keeps q) x y;refine#[?_,?_]
  .rw[<-bq,<-bq,<-HF,<-bC,e,dM];simp;lia
  .rw[e];exact hR
abbrev wZ(V:Bx):Prop:=V.D 1 "count_sign" oY D0
def Hi(T:V.T "count_sign" oX oY)(uA:V.m "len"):wZ V:=by
 refine Tx.okDW T Fd (λds R h=>?_) (λ_ _ _ _ _ _ _ J hr=>#[_,((ao (aB (aj (ay (bb (aa 2) (bJ uA (ac (aa 0) ae))) (tW (aa 0) (ac (aa 1) ae))) (tW (fC (aa 0) fA (fB (aA (aa 2) (bJ uA (ac (aa 0) ae))))) (ac (aa 1) ae)))))),λds R h=>?_])
 .obtain⟨_,_,_,_,_,_,rfl,_⟩:=h;rfl
 .obtain⟨p,x,y,v,m,w,rfl,ok,v0,v6,w0,w7,m0,m1,kw,hR⟩:=h;have l:=iF p x y w;have q0:0<=m/(w:Int):=Km m0 Md;have q1:m/(w:Int)<=m:=Kn _ m0;have r0:=IE m (show(w:Int)≠0 by lia);have r1:=IF m (show 0<(w:Int)by lia);have er:m%(w:Int)=(((m%(w:Int)).toNat:Nat):Int):=by lia
  have e2:Txt.slice (aL p x y w) w6 (be (m%(w:Int)))=aL p x y (m%(w:Int)).toNat:=by
   rw[er,DZ p x y Md];rfl
  refine#[Md,#[by rw[l];lia,by rw[l];lia],.inl #[by rw[l];lia,by rw[l];lia],Md,by rw[l];lia,Md,?_];show R (.int (m/((aL p x y w).length:Int)*occC (aL p x y w) (bf v)+occC (Txt.slice (aL p x y w) w6 (be (m%((aL p x y w).length:Int)))) (bf v)));rw[l,e2,vK ok x y v0 v6,vK ok x y v0 v6];have MU:∀k:Nat,(λk:Nat=>p.show (x+k) y) (k+w)=(λk:Nat=>p.show (x+k) y) k:=λk=>by
   have:=kw (x+k) y;rw[Jp]at this;show p.show (x+((k+w:Nat):Int)) y=p.show (x+(k:Int)) y;rw[<-this,Jo,Kh]
  have:=DU (f:=λk:Nat=>p.show (x+k) y) w0 MU v m.toNat;have d1:m/(w:Int)=((m.toNat/w:Nat):Int):=by rw[Int.natCast_ediv,Ie m0]
  have d2:(m%(w:Int)).toNat=m.toNat%w:=by
   have:m%(w:Int)=((m.toNat%w:Nat):Int):=by rw[K1,Ie m0]
   lia
  rw[d1,d2,this];exact hR
abbrev pW(V:Bx):Prop:=V.X 11 "count_all" oZ D7
def Hj(T:V.T "count_all" jr oZ)(uX:V.m "max")(uB:V.m "range")(Rf:V.m "min")(MD:V.m "enumerate")(Mz:pE V)(Rg:wY V)(Rh:C_round_row V)(Ri:wZ V)(uR:V.gs "SIGNS" ".123456")(Lm:V.a "Pattern" "shifts"):pW V:=by
  refine Tx.okXW T sc_count_all (λds R RX h=>?_) (λ_ _ _ _ _ _ _ J hr hx=>⟨_,((ai (rS (sF Mz hx hr (ac (aa 1) (ac (aa 2) ae))))
      (ai (rS (sF Mz hx hr (ac (aa 3) (ac (aa 4) ae))))
      (ai (am 5 sc_count_all.nd (fv Lm (aa 0)))
      (ai (am 6 sc_count_all.nd (aD Rg hr (ac (aa 0) ae)))
      (ai (am 7 sc_count_all.nd (gv rfl uX (ac (aj (bv (aa 3) (aa 1)) ad) (ac ad ae))))
      (ai (am 8 sc_count_all.nd (ay (af (aa 5) ad) (af (aa 5) ad)))
      (ai (BI 9 rfl (compScope (by change dA _ (ag jr) ["pattern","left","top","right","bottom","family","rows","many","again","counts","y","times","row","hue","sign"] _=true;decide+kernel)) sc_count_all.nd (fz uR) (λcl s0 H0 fp=>ad))
      (ai (Al 10 PassesOwn.leaving rfl sc_count_all.nd uB (aa 2) (zU rfl Rf (ac (aj (aa 4) ad) (ac (aj (aa 2) (aa 8)) ae))) (ai (am 11 sc_count_all.nd (aj (bb (bv (aa 4) (aa 10)) (aa 8)) ad))
        (ai (am 12 sc_count_all.nd (aD Rh hr (ac (aa 5) (ac (aa 6) (ac (aa 1) (ac (aa 10) ae))))))
        (ao (BM PassesOwn.leaving rfl MD (fz uR) (dg_cons 13 sc_count_all.nd (dg_cons 14 sc_count_all.nd dZ)) (ao (Am 9 (aj (zY 9 (aa 13)) (ay (aa 11) (aD Ri hr (ac (aa 12) (ac (aa 14) (ac (aa 7) ae)))))) (aa 13))))))))
      (dX 9 (ao (aB (aa 9))))))))))))),λds R RX c5 h=>?_⟩)
  . let#[_,_,_,_,_,_,rfl,_]:=h;rfl
  . let#[p,d,left,top,right,b8,rfl,hd,ok,hR,hX]:=h;let#[w,h,s,fs,rfl,e1,e2,hp]:=id hd;have F:=hp.toFam;have sm:=ok.fits.small F;refine#[left,top,rfl,λn1=>?_,λn1=>by rw[c5];exact hX λz=>n1 #[z.1,z.2.1]];refine#[right,b8,rfl,λn2=>?_,λn2=>by rw[c5];exact hX λz=>n2 #[z.2.2.1,z.2.2.2]];have hR:=hR #[n1.1,n1.2,n2.1,n2.2];unfold bw at n1 n2;refine#[λd=>d=.tup [.int w,.int h,.int s],#[rfl,_,e2,rfl],?_];intro _ rfl;k_places;refine#[λd=>d=gK p w h/\w*h<=720,#[p,_,rfl,hd,ok,λw' h' s' F' hb _ _=>by let#[rfl,rfl,rfl]:=F.uniq F';exact#[rfl,hb]],?_];intro _#[rfl,hb];k_places;refine#[λd=>d=.int ((right-left+1).toNat:Nat),congrArg D.int (D6 _),?_];intro _ rfl;k_places;have Ux:0<w*h:=HN F.f.w0 F.f.h0;refine#[λd=>d=.int (w*h),#[_,rfl,_,rfl,.inl #[Md,Md],rfl],?_];intro _ rfl;k_places;generalize hm:(right-left+1).toNat=m at*;generalize hn:(b8-top+1).toNat=n at*;generalize hN:(w*h).toNat=N at*;refine#[KK,KK,λk ys=>ys=IB k (D.int 0),rfl,?_,?_]
    . intro k v ys hk hl rfl;show _=IB (k+1) _;rw[List.replicate_succ']
    intro ys hl rfl;have wN:w*h=(N:Int):=Md
    have Lk:=D3 (top:=top) hn wN;have U2:=vM n1.1 n2.1 hm;have U3:=vM n1.2 n2.2 hn;refine#[D4 #[n1.2.1,n1.2.2] #[n2.2.1,n2.2.2] Ux hb,λk z=>∃Rj Mv Mw y8 y9,z=[be (.obj "Pattern" fs),be (.int left),be (.int top),be (.int right),be (.int b8),be (.tup [.int w,.int h,.int s]),be (gK p w h),be (.int m),be (.int (w*h)),be (.own ((HC 7).map λ(v:Nat)=>D.int (cj p left top m n N k v))),Rj,Mv,Mw,y8,y9],#[w6,w6,w6,w6,w6,?_],?_,?_]
    . have e7:(bO (".123456":Lq)).length=7:=by decide+kernel
      rw[e7];rfl
    . intro k v z hk#[Rj,Mv,Mw,y8,y9,rfl];k_places;let#[y',rfl]:=range2_int hk;rw[Lk]at y';refine#[λd=>d=.int (((n:Int)-1-k)/N+1),#[#[Md,Md],?_],?_]
      . rw[wN];congr 3;exact D5 hn y'
      intro _ rfl;k_places;refine#[λd=>d=.str (aL p left (top+k) w.toNat),#[p,w,h,s,left,top+k,rfl,F,sm.2.1,sm.2.2.2.1,rfl],?_];intro _ rfl;k_places;refine#[KK,λi z=>∃y8 y9,z=[be (.obj "Pattern" fs),be (.int left),be (.int top),be (.int right),be (.int b8),be (.tup [.int w,.int h,.int s]),be (gK p w h),be (.int m),be (.int (w*h)),be (.own ((HC 7).map λ(v:Nat)=>D.int (if v<i then cj p left top m n N (k+1) v else cj p left top m n N k v))),be (.int (top+k)),be (.int (((n:Int)-1-k)/N+1)),be (.str (aL p left (top+k) w.toNat)),y8,y9],#[_,_,rfl],?_,?_]
      . intro i v z hi#[y8,y9,rfl];k_places;rw[D2]at hi;have i7:i<7:=by simpa using(HJ.mp hi).1
        have ev:v=.str #[[bf (i:Int)].toArray]:=by
          rw[HI,Iw i7]at hi;exact(Option.some.inj hi).symm
        subst ev;have ci:=vI (λk'=>p.show (left+k') (top+k)) i m;have tq:0<=((n:Int)-1-k)/N/\((n:Int)-1-k)/N<=(n:Int)-1-k:=#[Km Md Md,Kn _ Md];refine#[_,bZ (by rw[HI,Iw i7];rfl),p,left,top+k,i,m,w.toNat,rfl,ok,Md,Md,Md,Md,Md,Md,by rw[Ie Md];exact F.across,?_];refine#[.inl #[Md,Md],i,?_,?_]
        . unfold ixN;rw[if_pos Md,if_pos Qu];simp
        refine#[be (.int i),be (.str #[[bf (i:Int)].toArray]),?_];rw[IM,if_neg (IJ i)];have e:cj p left top m n N k i+(((n:Int)-1-k)/N+1)*cntN (λk'=>p.show (left+k') (top+k)) i m=cj p left top m n N (k+1) i:=rfl;rw[e];have q:=vL (n:=7) (i:=i) (λ(v:Nat)=>D.int (if v<i then cj p left top m n N (k+1) v else cj p left top m n N k v)) (λ(v:Nat)=>D.int (if v<i+1 then cj p left top m n N (k+1) v else cj p left top m n N k v)) (λv hv ne=>by
          by_cases c:v<i
          . rw[if_pos c,if_pos Md]
          . rw[if_neg c,if_neg Md])
        rw[if_pos (show i<i+1 by lia)]at q;rw[q];rfl
      . intro z#[y8,y9,rfl];k_places;refine#[be (.int (top+k)),be (.int (((n:Int)-1-k)/N+1)),be (.str (aL p left (top+k) w.toNat)),y8,y9,?_];have:∀v∈HC 7,D.int (if v<(bO (".123456":Lq)).length then cj p left top m n N (k+1) v else cj p left top m n N k v)=D.int (cj p left top m n N (k+1) v):=λv hv=>by
          rw[if_pos (by  have e7:(bO (".123456":Lq)).length=7:=by decide+kernel
                         rw[e7];simpa using hv)]
        rw[Jl this]
    . intro z#[Rj,Mv,Mw,y8,y9,rfl];k_places;have e:((HC ((if top+w*h<b8+1 then top+w*h else b8+1)-top).toNat).map λ(k:Nat)=>D.int (top+(k:Int))).length=min n N:=by simp[Lk]
      rw[e];have fold:∀v:Nat,cj p left top m n N (min n N) v=cI p v left top m n:=λv=>D1 Md (by rw[<-wN];exact F.down) v left top m n;simp only[fold];have e2:((HC 7).map λ(v:Nat)=>D.int (cI p v left top m n))=(cJ p left top m n).map D.int:=by unfold cJ;rw[Jb];rfl
      rw[e2];exact hR
def Hk:SpM:=λds M R _=>∃a q f,ds=[.ptr a]/\a≠q/\M=Fl.M f a q/\f.Ok/\R (.lst ((cJ f.p 0 0 f.w.toNat f.l.toNat).map D.int)) (f.M a q)
abbrev xa(V:Bx):Prop:=V.Q 12 "Floor" "lies" pe Hk
def Hl(T:V.Tm "Floor" "lies" "Floor.lies" pd pe)(Ng:pW V)(uH:V.a "Floor" "laid")(uP:V.a "Floor" "width")(uQ:V.a "Floor" "pattern"):xa V:=by
 refine Txm.okM T Fe (λds M R RX h=>?_) (λ_ _ _ _ _ _ _ J hr hx=>#[_,((ax (aH (aO (CalX.toM Ng) hx hr (aG (aE uQ (ah (aa 0))) (aG (ah ad) (aG (ah ad) (aG (dB (aE uP (ah (aa 0))) (ah ad)) (aG (dB (aE uH (ah (aa 0))) (ah ad)) aX))))))))),λds M R RX c5 h=>?_])
 .obtain⟨_,_,_,rfl,_⟩:=h;rfl
 .obtain⟨a,q,f,rfl,ne,rfl,ok,hR⟩:=h;have w1:=ok.w1;have w2:=ok.w2;have l0:=ok.l0;have l1:=ok.l1;have h2:=ok.h2;refine#[_,Fl.ma ne,_,jt,_,Fl.ma ne,_,gQ,_,Fl.ma ne,_,fS,f.p,f.d,0,0,f.w-1,f.l-1,rfl,ok.is,ok.ok,λ_=>?_,λz=>absurd #[#[Md,Md],#[Md,Md],#[Md,Md],Md,Md] z];rw[show(f.w-1-0+1).toNat=f.w.toNat by lia,show(f.l-1-0+1).toNat=f.l.toNat by lia];exact hR
def Hm:SpM:=λds M R _=>∃a q f,ds=[.ptr a]/\a≠q/\M=Fl.M f a q/\f.Ok/\R (.lst ((cJ f.p 0 f.l f.w.toNat (f.h-f.l).toNat).map D.int)) (f.M a q)
abbrev xb(V:Bx):Prop:=V.Q 12 "Floor" "still" ph Hm
def Hn(T:V.Tm "Floor" "still" "Floor.still" pf ph)(Ng:pW V)(uT:V.a "Floor" "height")(uP:V.a "Floor" "width")(uH:V.a "Floor" "laid")(uQ:V.a "Floor" "pattern"):xb V:=by
 refine Txm.okM T Ff (λds M R RX h=>?_) (λ_ _ _ _ _ _ _ J hr hx=>#[_,((ax (aH (aO (CalX.toM Ng) hx hr (aG (aE uQ (ah (aa 0))) (aG (ah ad) (aG (aE uH (ah (aa 0))) (aG (dB (aE uP (ah (aa 0))) (ah ad)) (aG (dB (aE uT (ah (aa 0))) (ah ad)) aX))))))))),λds M R RX c5 h=>?_])
 .obtain⟨_,_,_,rfl,_⟩:=h;rfl
 .obtain⟨a,q,f,rfl,ne,rfl,ok,hR⟩:=h;have w1:=ok.w1;have w2:=ok.w2;have l0:=ok.l0;have l1:=ok.l1;have h2:=ok.h2;refine#[_,Fl.ma ne,_,jt,_,Fl.ma ne,_,fS,_,Fl.ma ne,_,gQ,_,Fl.ma ne,_,ju,f.p,f.d,0,f.l,f.w-1,f.h-1,rfl,ok.is,ok.ok,λ_=>?_,λz=>absurd #[#[Md,Md],#[Md,Md],#[Md,Md],Md,Md] z];rw[show(f.w-1-0+1).toNat=f.w.toNat by lia,show(f.h-1-f.l+1).toNat=(f.h-f.l).toNat by lia];exact hR
def Ho:SpM:=λds M R _=>∃a q f,ds=[.ptr a]/\a≠q/\M=Fl.M f a q/\R (.int f.ds.length) (f.M a q)
abbrev xc(V:Bx):Prop:=V.Q 1 "Floor" "kept" pj Ho
def Hq(T:V.Tm "Floor" "kept" "Floor.kept" pi pj)(uA:V.m "len")(Ll:V.a "Floor" "deeds"):xc V:=by
 refine Txm.okM T Fg (λds M R RX h=>?_) (λ_ _ _ _ _ _ _ J hr hx=>#[_,((ax (aH (tI uA (aE Ll (ah (aa 0))))))),λds M R RX c5 h=>?_])
 .obtain⟨_,_,_,rfl,_⟩:=h;rfl
 .obtain⟨a,q,f,rfl,ne,rfl,hR⟩:=h;refine#[_,Fl.ma ne,_,vU,_,Fl.mq,?_];rw[HE];exact hR
def Hr:SpM:=λds M R _=>∃a q f,ds=[.ptr a,.str f.p.text,.tup [.int f.w,.int f.h],.lst (aF f.p f.w 0 f.l.toNat),.lst (aF f.p f.w f.l (f.h-f.l).toNat),.int f.ds.length]/\a≠q/\M=Fl.M f a q/\f.Ok/\R (.bl true) (f.M a q)
abbrev xg(V:Bx):Prop:=V.MM 13 "_law_view" pp Hr
def Hs(T:V.T "_law_view" pk pp)(uD:V.m "isinstance")(uF:V.m "str")(K_:jz V)(Rk:wV V)(OX:wW V)(OY:wX V)(MH:V.a "Floor" "text")(uP:V.a "Floor" "width")(uT:V.a "Floor" "height")(M_:pG V)(Rl:xa V)(Rm:xb V)(Rn:xc V):xg V:=by
 refine(Tx.okM T sc__law_view (λds M R RX h=>?_) (λ_ _ _ _ _ _ _ J hr hx=>⟨_,((au (bu (mt_w (iw (eN (dN (Ej uD uF (aE MH (ah (aa 0))) PyProof.Rows.boot_str kit_str))) (iu (kJ (aE MH (ah (aa 0))) (ah (aa 1)))))) (ax (aH (ah bz))) bo)
   (au (bu (mt_w (iw (eN (dN (aO (CalD.toM K_) hx hr (aG (aE uP (ah (aa 0))) aX)))) (iu (kJ (aE uP (ah (aa 0))) (ah (af (aa 2) ad)))))) (ax (aH (ah bz))) bo)
   (au (bu (mt_w (iw (eN (dN (aO (CalD.toM K_) hx hr (aG (aE uT (ah (aa 0))) aX)))) (iu (kJ (aE uT (ah (aa 0))) (ah (af (aa 2) ad)))))) (ax (aH (ah bz))) bo)
   (au (bu (eN (dN (aO (CalD.toM Rk) hx hr (aG (cr (CalMth.one (CalMth.lendD M_)) hx hr (ah (aa 0))) (aG (ah (aa 3)) aX))))) (ax (aH (ah bz))) bo)
   (au (bu (eN (dN (aO (CalD.toM OX) hx hr (aG (cr (CalMth.one Rl) hx hr (ah (aa 0))) (aG (ah (aD OY hr (ac (aa 3) ae))) aX))))) (ax (aH (ah bz))) bo)
   (au (bu (eN (dN (aO (CalD.toM OX) hx hr (aG (cr (CalMth.one Rm) hx hr (ah (aa 0))) (aG (ah (aD OY hr (ac (aa 4) ae))) aX))))) (ax (aH (ah bz))) bo)
   (au (aM 6 sc__law_view.nd (cr (CalMth.one Rn) hx hr (ah (aa 0))))
   (ax (aH (ah (gj (aD K_ hr (ac (aa 6) ae)) (gh (dv (aa 6) (aa 5))))))))))))))),λds M R RX c5 h=>?_⟩))
 .obtain⟨_,_,_,rfl,_⟩:=h;rfl
 .obtain⟨a,q,f,rfl,ne,rfl,ok,hR⟩:=h;have w1:=ok.w1;have w2:=ok.w2;have l0:=ok.l0;have l1:=ok.l1;have h2:=ok.h2;have ec:∀lo n,(cJ f.p 0 lo f.w.toNat n).length=7:=λlo n=>by unfold cJ;simp
  refine#[_,Fl.ma ne,_,vT,?_];dsimp only[ku];refine ite2 (λc=>nomatch c) λ_=>#[_,Fl.ma ne,_,vT,ite2 (λc=>absurd c Mn) λ_=>?_];refine#[_,Fl.ma ne,_,gQ,_,rfl,ite2 (λc=>nomatch c) λ_=>#[_,Fl.ma ne,_,gQ,_,rfl,ite2 (λc=>absurd c Mn) λ_=>?_]];refine#[_,Fl.ma ne,_,ju,_,rfl,ite2 (λc=>nomatch c) λ_=>#[_,Fl.ma ne,_,ju,_,rfl,ite2 (λc=>absurd c Mn) λ_=>?_]];refine#[_,Hv.mpr rfl,_,Fl.ma ne,rfl,?_];dsimp only[mNil];refine wC ne ok #[f.p,f.w,0,_,rfl,Md,ite2 (λc=>nomatch c) λ_=>?_];refine#[_,Hv.mpr rfl,_,Fl.ma ne,rfl,a,q,f,rfl,ne,rfl,ok,f.p,f.w,0,_,rfl,ok.ok,Md,w2,Md,_,rfl,ec _ _,ite2 (λc=>nomatch c) λ_=>?_];refine#[_,Hv.mpr rfl,_,Fl.ma ne,rfl,a,q,f,rfl,ne,rfl,ok,f.p,f.w,f.l,_,rfl,ok.ok,Md,w2,Md,_,rfl,ec _ _,ite2 (λc=>nomatch c) λ_=>?_];refine#[λd M'=>d=.int f.ds.length/\M'=f.M a q,#[_,Hv.mpr rfl,_,Fl.ma ne,rfl,a,q,f,rfl,ne,rfl,rfl,rfl],?_];intro _ _#[rfl,rfl];k_places;refine#[_,rfl,?_];show R (.bl (decide ((f.ds.length:Int)=f.ds.length))) (f.M a q);rw[decide_eq_true rfl];exact hR
def Ht{fa:Pi}{fd:Vd}(F:Fun V.K "law" "law" js fa fd)(uE:V.m "int")(Ro:wu V)(y7:pz V)(Rp:wx V)(Rq:wF V)(Rr:wG V)(Rs:wU V)(Rt:xg V)(Nf:pV V):FnOk V.P V.w V.K V.mg V.base (Exc.CX1 V.P V.w) 23 fa fd pq (lSp V.K fq):=by
 refine Ei (Fun.okM F sc_law (λds M R RX h=>?_) (λ_ _ _ _ _ _ J hr hx=>⟨_,((au (aM 1 sc_law.nd (ah (aD Ro hr (ac (aa 0) (ac ad ae)))))
   (au (aM 2 sc_law.nd (ah (aI (ac (aj ad (aA (aD y7 hr (ac (aa 0) (ac ad ae))) ad)) (ac (aj ad (aA (aD y7 hr (ac (aa 0) (ac ad ae))) ad)) ae)))))
   (au (aM 3 sc_law.nd (ah (aA (aD y7 hr (ac (aa 0) (ac ad ae))) (aj (af (aa 2) ad) ad))))
   (au (aM 4 sc_law.nd (ah (aD Rp hr (ac (af (aa 1) ad) (ac (af (aa 2) ad) (ac (af (aa 2) ad) ae))))))
   (au (aM 5 sc_law.nd (vS Nf hx hr (az (ac (af (aa 1) ad) (ac (af (aa 2) ad) (ac (af (aa 2) ad) ae))))))
   (au (bu (mt_w (sY (bG (km (aa 3) ad)) (sX (dN (kI (aO Rq hx hr (az (ac (aa 5) (ac (aa 3) (ac bz ae))))) (ah ad)))))) (ax (aH (ah bz))) bo)
   (au (BE (λ_=>(si rfl (aD Rr hr (ac (aa 1) (ac (aA (aD y7 hr (ac (aa 0) (ac ad ae))) ad) (ac (aD y7 hr (ac (aa 0) (ac ad ae))) ae)))) (dg_cons 6 sc_law.nd (dg_cons 7 sc_law.nd dZ)))))
   (au (El 8 PassesOwn.leaving rfl sc_law.nd (ah (aU (ac ad (ac ad (ac ad (ac ad ae)))))) (au (bu (Eo (jX hr) (aO Rs hx hr (az (ac (aa 8) (ac (aa 6) (ac (aa 5) ae))))) (ah (aa 7))) (ax (aH (ah bz))) bo)
    (ax (bu (eN (dN (aO Rt hx hr (az (ac (aa 5) (ac (af (aa 1) ad) (ac (aa 2) (ac (fC (aa 4) fA (fB (aa 3))) (ac (fC (aa 4) (fB (aa 3)) fA) (ac (gu uE (ac (zz (aa 3) ad) ae)) ae)))))))))) (ax (aH (ah bz))) bo))))
   (ax (aH (ah bz)))))))))))),λds M R RX c5 h=>?_⟩))
 .obtain⟨rfl,_,⟨ns,rfl,_⟩,rfl⟩:=h;rfl
 .obtain⟨rfl,R0,⟨ns,rfl,hl,hR⟩,rfl⟩:=h;refine#[λd M'=>M'=[]/\∃p:Pat,d=p.D/\p.Ok,#[ns,5,rfl,Mh,λp ok=>#[rfl,p,rfl,ok]],?_];intro _ _#[rfl,p,rfl,OZ];k_places;refine#[λd M'=>M'=[]/\∃w h:Int,d=.tup [.int w,.int h]/\(1<=w/\w<=5)/\1<=h/\h<=6,#[ns,0,rfl,Mh,Mh,ns,1,rfl,Mh,Mh,le_b rfl,rfl,_,_,rfl,#[Md,Md],Md,Md],?_];intro _ _#[rfl,w,h,rfl,#[w1,w2],h1,h2];k_places;refine#[λd M'=>M'=[]/\∃l:Nat,d=.int l/\(l:Int)<=h,#[ns,2,rfl,Mh,_,rfl,Md,rfl,(cell ns 2%(h+1)).toNat,by rw[Ie (IE _ Md)],by have:=IF (cell ns 2) (show 0<h+1 by lia);lia],?_];intro _ _#[rfl,l,rfl,l1];k_places;refine#[λd M'=>M'=[]/\d=.lst (aF p w 0 h.toNat),#[_,rfl,_,rfl,_,rfl,p,w,h,rfl,OZ,Md,Md,Md,Md,rfl,rfl],?_];intro _ _#[rfl,rfl];k_places;refine#[λd M'=>∃a qa d0,d=.ptr a/\a≠qa/\cf p d0/\M'=Fl.M #[p,d0,w,h,0,[]] a qa,#[_,rfl,_,rfl,_,rfl,λa _=>#[p.text,w,h,rfl,.inl #[p,rfl,OZ,λd0 qa is ne=>#[a,qa,d0,rfl,ne,is,rfl]]]],?_];intro _ _#[a,qa,d0,rfl,ne,is,rfl];k_places;have M6:=Fl.ok_new is OZ w1 Md h1 Md;refine(λ(hr:∀M',(∃f qa,a≠qa/\M'=Fl.M f a qa/\f.Ok/\f.p=p/\f.w=w/\f.h=h/\f.l=l/\(f.ds.length:Int)=if decide ((0:Int)<(l:Int))=true then 1 else 0)->_)=>ite2 (λc=>?_) (λc=>iteF (hr _ #[_,qa,ne,rfl,M6,rfl,rfl,rfl,?_,?_]))) ?_
  .have c':=of_decide_eq_true c;exact#[a,qa,_,l,true,rfl,ne,rfl,M6,Md,Md,λz=>absurd z (by show¬(h-0<(l:Int));lia),λ_ q' n4=>#[_,rfl,iteF (hr _ #[_,q',n4,rfl,M6.lay Md (by show(l:Int)<=h-0;lia),rfl,rfl,rfl,Jd _,by rw[if_pos c];rfl])]]
  .have c':¬(0<(l:Int)):=λz=>c (decide_eq_true z);show(0:Int)=l;lia
  .rw[if_neg c];rfl
  clear M6 is ne qa d0;intro M'#[f,qa,ne,rfl,SH,rfl,rfl,rfl,fl,fd];k_places;have l0:=SH.l0;have cut1:cutD (aF f.p f.w 0 f.h.toNat) w6 (be (l:Int))=aF f.p f.w 0 f.l.toNat:=by
   rw[Fw Md,fl,IM]
  have Ru:cutD (aF f.p f.w 0 f.h.toNat) (be (l:Int)) w6=aF f.p f.w f.l (f.h-f.l).toNat:=by
   have:=vV f.p f.w (l:=(l:Int)) (f.h-f.l).toNat Md;rw[show((l:Int)).toNat+(f.h-f.l).toNat=f.h.toNat by lia]at this;rw[this,fl]
  have ev:([.ptr a,.str f.p.text,.tup [.int f.w,.int f.h],.lst (cutD (aF f.p f.w 0 f.h.toNat) w6 (be (l:Int))),.lst (cutD (aF f.p f.w 0 f.h.toNat) (be (l:Int)) w6),.int (if decide ((0:Int)<(l:Int))=true then 1 else 0)]:List D)=[.ptr a,.str f.p.text,.tup [.int f.w,.int f.h],.lst (aF f.p f.w 0 f.l.toNat),.lst (aF f.p f.w f.l (f.h-f.l).toNat),.int f.ds.length]:=by
   rw[cut1,Ru,fd]
  refine#[ns,3,rfl,Mh,Mh,ns,4,rfl,Mh,f.p,_,_,rfl,OZ,λt x k hb=>#[rfl,?_,NoOwn.of rfl]];refine#[le_b rfl,λ_ z M=>∃o8,z=[be (.rol (ns.map D.int)),be f.p.D,be (.tup [.int f.w,.int f.h]),be (.int l),be (.lst (aF f.p f.w 0 f.h.toNat)),be (.ptr a),be (.str t),be (.tup [.str x,.int k]),o8]/\M=f.M a qa,#[_,rfl,rfl],?_,?_]
  .rintro i v z M hi⟨o8,rfl,rfl⟩;k_places;let#[n,rfl]:∃n:Int,v=.int n:=by
    have:=Ji hi;simp only[Hx,II,or_false]at this;rcases this with e|e|e|e<;>exact#[_,e]
   refine#[a,qa,f,n,t,x,k,rfl,ne,rfl,hb,#[rfl,rfl],?_];show if(!eqFs [.str x,.int k] [.str x,.int k])=true then _ else _;rw[FG];refine iteF ?_;refine#[_,rfl,a,qa,f,ev,ne,rfl,SH,iteF #[_,rfl,rfl]]
  .rintro z M⟨o8,rfl,rfl⟩;k_places;exact hR
end
local macro_rules | `(tactic| walk_at "b") => `(tactic| first | exact BF λ_ _ _ _ _ _ _ => rfl | exact bind2 λ_ _ _ _ _ _ _ _ => rfl | exact bind3 λ_ _ _ _ _ _ _ _ _ => rfl | exact bind4 λ_ _ _ _ _ _ _ _ _ _ => rfl | exact bind5 λ_ _ _ _ _ _ _ _ _ _ _ => rfl | exact bind6 λ_ _ _ _ _ _ _ _ _ _ _ _ => rfl)
local macro_rules | `(tactic| walk_at "bd") => `(tactic| exact λ_ _ _ _ _ _ _ _ _ _ _ _ _ _ h hs => ⟨.of_defaults rfl h hs rfl rfl, .of_defaults rfl h hs rfl rfl⟩)
structure TopIn(K:Ex):Prop where
 uGO:FnIn K "_law_at" ly
 uLO:FnIn K "_law_draws" lC
 uHG:FnIn K "_law_lines" lF
 uGJ:FnIn K "_law_shift_pair" lH
 uKV:FnIn K "_law_motif_text" lK
 uHP:FnIn K "_law_motif" lM
 uHL:FnIn K "_law_wrapped" iJ
 uGV:FnIn K "_law_gcd" lQ
 uGM:FnIn K "_law_on" lU
 uGP:FnIn K "_law_leaf_family" lW
 uLI:FnIn K "_law_in_family" lZ
 uIE:FnIn K "_law_both" me
 uHD:FnIn K "_law_family" mi
 uLB:FnIn K "_law_over" ml
 uKD:FnIn K "_law_pattern" mn
 uJM:FnIn K "_law_leaf_shows" mv
 uHV:FnIn K "_law_shows" mz
 uLT:FnIn K "_law_floor_rows" iK
 uJP:FnIn K "refuse_far" mG
 uMD:FnIn K "home" mI
 uHR:FnIn K "cell_at" mK
 uJL:FnIn K "row_from" iW
 uJJ:FnIn K "_law_lay" mR
 uHA:FnIn K "_law_bad" mV
 uLK:FnIn K "line_from" nq
 uKN:FnIn K "lines_from" nu
 uIW:FnIn K "number_from" nw
 uLF:FnIn K "shift_from" nz
 uIC:FnIn K "levelled" nB
 uIU:FnIn K "spread" nE
 uHN:FnIn K "hues_by_home" nG
 uKL:FnIn K "motif_from" nK
 uGT:FnIn K "over_from" iZ
 uGB:FnIn K "shifted_from" ja
 uJC:FnIn K "rehue_from" jb
 uKQ:FnIn K "form_from" jc
 uGR:FnIn K "measure" oj
 uIZ:FnIn K "met" om
 uHU:FnIn K "mirrored" ot
 uHT:FnIn K "turned" ow
 uHS:FnIn K "read" oz
 uFZ:FnIn K "_law_whole" oB
 uMC:FnIn K "_law_kind" oE
 uJQ:FnIn K "_law_refusal" oK
 uKO:FnIn K "_law_texts" oN
 uFV:FnIn K "_law_seven" oP
 uJS:FnIn K "_law_counts" oR
 uIF:FnIn K "field_rows" jq
 uKZ:FnIn K "round_row" oV
 uJZ:FnIn K "count_sign" oX
 uIJ:FnIn K "count_all" jr
 uLU:FnIn K "_law_view" pk
 uHQ:FnIn K "law" js
 uHF:NnIn K "len"
 uFX:NnIn K "range"
 uLH:NnIn K "int"
 uIG:NnIn K "str"
 uJE:NnIn K "list"
 uKW:NnIn K "abs"
 uLW:NnIn K "max"
 uGN:NnIn K "enumerate"
 uGH:NnIn K "isinstance"
 uGW:NnIn K "bool"
 uKM:NnIn K "ValueError"
 uLE:NnIn K "min"
 uY:ClIn K "Floor"
 uBS:ClIn K "Motif"
 uCJ:ClIn K "Over"
 uBM:ClIn K "Shifted"
 uEA:ClIn K "Mirror"
 uCO:ClIn K "Turn"
 uBT:ClIn K "Rehue"
 uEH:ClIn K "Pattern"
 uCI:ClIn K "Reading"
 uLJ:InIn K "Motif" "Motif.__init__" nI
 uIT:InIn K "Mirror" "Mirror.__init__" nN
 uJO:InIn K "Turn" "Turn.__init__" nP
 uGE:InIn K "Over" "Over.__init__" nR
 uHE:InIn K "Shifted" "Shifted.__init__" nU
 uIH:InIn K "Rehue" "Rehue.__init__" nW
 uJH:InIn K "Reading" "Reading.__init__" nY
 uHK:InIn K "Pattern" "Pattern.__init__" oa
 uGQ:InIn K "Floor" "Floor.__init__" oG
 uIP:MtIn K "Floor" "keep" "Floor.keep" mD
 uGG:MtIn K "Motif" "shows" "Motif.shows" iL
 uJN:MtIn K "Over" "shows" "Over.shows" iM
 uIY:MtIn K "Shifted" "shows" "Shifted.shows" iO
 uGI:MtIn K "Mirror" "shows" "Mirror.shows" iQ
 uHX:MtIn K "Turn" "shows" "Turn.shows" iS
 uLD:MtIn K "Rehue" "shows" "Rehue.shows" iU
 uJB:MtIn K "Floor" "rows" "Floor.rows" iX
 uHZ:MdIn K "Floor" "lay" "Floor.lay" mQ 1
 uFY:MtIn K "Reading" "may_take" "Reading.may_take" ng
 uLR:MtIn K "Reading" "take" "Reading.take" nj
 uKY:MtIn K "Motif" "family" "Motif.family" jd
 uGU:MtIn K "Over" "family" "Over.family" je
 uKJ:MtIn K "Shifted" "family" "Shifted.family" jh
 uIB:MtIn K "Mirror" "family" "Mirror.family" jj
 uLQ:MtIn K "Turn" "family" "Turn.family" jl
 uKK:MtIn K "Rehue" "family" "Rehue.family" jn
 uKR:MtIn K "Floor" "change" "Floor.change" oI
 uGA:MtIn K "Floor" "lies" "Floor.lies" pd
 uJF:MtIn K "Floor" "still" "Floor.still" pf
 uGS:MtIn K "Floor" "kept" "Floor.kept" pi
 uKI:NoIn K "Floor" "deeds"
 uGY:NoIn K "Floor" "laid"
 uIO:NoIn K "Floor" "pattern"
 uIS:NoIn K "Motif" "hues"
 uJX:NoIn K "Motif" "shifts"
 uLN:NoIn K "Over" "above"
 uLL:NoIn K "Over" "below"
 uKH:NoIn K "Shifted" "form"
 uGD:NoIn K "Shifted" "y"
 uKP:NoIn K "Shifted" "x"
 uLC:NoIn K "Mirror" "form"
 uKA:NoIn K "Turn" "form"
 uHO:NoIn K "Rehue" "form"
 uKX:NoIn K "Rehue" "old"
 uII:NoIn K "Rehue" "new"
 uMB:NoIn K "Pattern" "form"
 uKS:NoIn K "Floor" "width"
 uIX:NoIn K "Floor" "height"
 uFW:NoIn K "Reading" "text"
 uKU:NoIn K "Reading" "place"
 uJY:NoIn K "Motif" "place"
 uHB:NoIn K "Pattern" "text"
 uIM:NoIn K "Pattern" "shifts"
 uMA:NoIn K "Floor" "text"
 uJU:CiIn K "KEPT" 20
 uJT:CiIn K "FAR" 1000000000000
 uIV:CsIn K "SIGNS" ".123456"
 uKF:CiIn K "LONGEST" 8
 uJR:CiIn K "DEEP" 5
 uLP:CiIn K "MOST" 720
 eb:EbIn K
 uM:E1In K "WrongSign" "WrongSign.__init__" mY
 uAZ:EaIn K "WrongSign"
 uFP:NoIn K "WrongSign" "place"
 uHM:EgIn K "WrongSign"
 uN:E1In K "OneLine" "OneLine.__init__" oh
 uAV:EaIn K "OneLine"
 uES:NoIn K "OneLine" "place"
 uIN:EgIn K "OneLine"
 uAH:E0In K "TooGreat"
 uFL:E0In K "TooFar"
 uET:E0In K "NoRow"
 uLZ:EiIn K "MotifError"
 uLS:EmIn K "MotifError" "MotifError"
 uGK:EmIn K "MotifError" "WrongSign"
 uID:EmIn K "MotifError" "OneLine"
 uGZ:EmIn K "MotifError" "TooGreat"
 uGX:EmIn K "MotifError" "TooFar"
 uIQ:EmIn K "MotifError" "NoRow"
 uLA:EmIn K "WrongSign" "MotifError"
 uEU:EmIn K "WrongSign" "WrongSign"
 uFT:EmIn K "WrongSign" "OneLine"
 uFR:EmIn K "WrongSign" "TooGreat"
 uFU:EmIn K "WrongSign" "TooFar"
 uEZ:EmIn K "WrongSign" "NoRow"
 uJK:EmIn K "OneLine" "MotifError"
 uFJ:EmIn K "OneLine" "WrongSign"
 uFB:EmIn K "OneLine" "OneLine"
 uEP:EmIn K "OneLine" "TooGreat"
 uFM:EmIn K "OneLine" "TooFar"
 uFQ:EmIn K "OneLine" "NoRow"
 uKC:EmIn K "TooGreat" "MotifError"
 uFF:EmIn K "TooGreat" "WrongSign"
 uFE:EmIn K "TooGreat" "OneLine"
 uEV:EmIn K "TooGreat" "TooGreat"
 uFC:EmIn K "TooGreat" "TooFar"
 uFH:EmIn K "TooGreat" "NoRow"
 uKE:EmIn K "TooFar" "MotifError"
 uGL:EmIn K "TooFar" "WrongSign"
 uLY:EmIn K "TooFar" "OneLine"
 uJG:EmIn K "TooFar" "TooGreat"
 uJI:EmIn K "TooFar" "TooFar"
 uHY:EmIn K "TooFar" "NoRow"
 uLX:EmIn K "NoRow" "MotifError"
 uJA:EmIn K "NoRow" "WrongSign"
 uLM:EmIn K "NoRow" "OneLine"
 uHI:EmIn K "NoRow" "TooGreat"
 uJW:EmIn K "NoRow" "TooFar"
 uGC:EmIn K "NoRow" "NoRow"
 uAP:ExIn K "WrongSign"
 uAS:ExIn K "OneLine"
 uAO:ExIn K "TooGreat"
 uIR:YeIn K "TooFar"
 uJV:YeIn K "TooGreat"
 uIA:YeIn K "OneLine"
 uHW:YeIn K "WrongSign"
 uJD:YeIn K "NothingKept"
 uGF:EmIn K "WrongSign" "NothingKept"
 uKB:EmIn K "OneLine" "NothingKept"
 uHC:EmIn K "TooGreat" "NothingKept"
 uKT:YeIn K "Parted"
 uIK:EmIn K "WrongSign" "Parted"
 uHJ:EmIn K "OneLine" "Parted"
 uIL:EmIn K "TooGreat" "Parted"
 uKG:YeIn K "NoRow"
def Hu{V:Bx}{h:Heap}(t:TopIn V.K)(X:V.K.In h)(G:h.Ns SL V.mg){fa:Pi}{fd:Vd}(F:Fun V.K "law" "law" js fa fd):FnOk V.P V.w V.K V.mg V.base (Exc.CX1 V.P V.w) 23 fa fd pq (lSp V.K fq):=by
 have uA:=mg_none_of X G t.uHF;have uB:=mg_none_of X G t.uFX;have uE:=mg_none_of X G t.uLH;have uF:=mg_none_of X G t.uIG;have LK:=mg_none_of X G t.uJE;have uS:=mg_none_of X G t.uKW;have uX:=mg_none_of X G t.uLW;have MD:=mg_none_of X G t.uGN;have uD:=mg_none_of X G t.uGH;have Q5:=mg_none_of X G t.uGW;have Q6:=mg_none_of X G t.uKM;have Rf:=mg_none_of X G t.uLE;have Ll:=t.uY.a t.uKI;have uH:=t.uY.a t.uGY;have uQ:=t.uY.a t.uIO;have LZ:=t.uBS.a t.uIS;have uO:=t.uBS.a t.uJX;have v9:=t.uCJ.a t.uLN;have uU:=t.uCJ.a t.uLL;have uW:=t.uBM.a t.uKH;have L4:=t.uBM.a t.uGD;have L5:=t.uBM.a t.uKP;have v_:=t.uEA.a t.uLC;have uZ:=t.uCO.a t.uKA;have uV:=t.uBT.a t.uHO;have L6:=t.uBT.a t.uKX;have L7:=t.uBT.a t.uII;have M8:=t.uEH.a t.uMB;have uP:=t.uY.a t.uKS;have uT:=t.uY.a t.uIX;have L8:=t.uCI.a t.uFW;have uI:=t.uCI.a t.uKU;have L9:=t.uBS.a t.uJY;have QX:=t.uEH.a t.uHB;have Lm:=t.uEH.a t.uIM;have MH:=t.uY.a t.uMA;have QC:=t.uJU.g X G;have QE:=t.uJT.g X G;have uR:=t.uIV.g X G;have OT:=t.uKF.g X G;have Od:=t.uJR.g X G;have Q0:=t.uLP.g X G;have uAZ:=t.uM.a t.eb t.uAZ X G;have QJ:=t.uFP.all;have uAV:=t.uN.a t.eb t.uAV X G;have QY:=t.uES.all;have Q3:=t.uAH.k t.eb X G;have QF:=t.uFL.k t.eb X G;have QI:=t.uET.k t.eb X G;have Na:=t.uLZ.b X G;have Re:V.x "place" ["WrongSign","OneLine"]:=AllP.mem #[t.uHM.g uAZ t.uFP,t.uIN.g uAV t.uES,trivial];have ek:pH V:=BG #[(let ⟨C,N,bm,k,_⟩:=t.eb.k X G;#[C,N,bm,k]),(t.uM.c t.eb X G),(t.uN.c t.eb X G),(let ⟨C,N,bm,k,_⟩:=t.uAH.k t.eb X G;#[C,N,bm,k]),(let ⟨C,N,bm,k,_⟩:=t.uFL.k t.eb X G;#[C,N,bm,k]),(let ⟨C,N,bm,k,_⟩:=t.uET.k t.eb X G;#[C,N,bm,k]),trivial] #[#[t.uLS,t.uGK,t.uID,t.uGZ,t.uGX,t.uIQ,trivial],#[t.uLA,t.uEU,t.uFT,t.uFR,t.uFU,t.uEZ,trivial],#[t.uJK,t.uFJ,t.uFB,t.uEP,t.uFM,t.uFQ,trivial],#[t.uKC,t.uFF,t.uFE,t.uEV,t.uFC,t.uFH,trivial],#[t.uKE,t.uGL,t.uLY,t.uJG,t.uJI,t.uHY,trivial],#[t.uLX,t.uJA,t.uLM,t.uHI,t.uJW,t.uGC,trivial],trivial];have Q8:V.j "TooFar" [("WrongSign",false),("OneLine",false),("TooGreat",false)]:=let ⟨D,n,h,ty⟩:=t.uIR;#[D,mg_of X G n,br (isY (t.uM.c t.eb X G) t.uAP n h ty t.uFU KK) (br (isY (t.uN.c t.eb X G) t.uAS n h ty t.uFM KK) (br (isY (let ⟨C,N,bm,k,_⟩:=t.uAH.k t.eb X G;#[C,N,bm,k]) t.uAO n h ty t.uFC KK) (dO)))]
 have Q9:V.j "TooGreat" [("WrongSign",false),("OneLine",false),("TooGreat",true)]:=let ⟨D,n,h,ty⟩:=t.uJV;#[D,mg_of X G n,br (isY (t.uM.c t.eb X G) t.uAP n h ty t.uFR KK) (br (isY (t.uN.c t.eb X G) t.uAS n h ty t.uEP KK) (br (isY (let ⟨C,N,bm,k,_⟩:=t.uAH.k t.eb X G;#[C,N,bm,k]) t.uAO n h ty t.uEV KK) (dO)))]
 have OV:V.j "OneLine" [("WrongSign",false),("OneLine",true),("TooGreat",false)]:=let ⟨D,n,h,ty⟩:=t.uIA;#[D,mg_of X G n,br (isY (t.uM.c t.eb X G) t.uAP n h ty t.uFT KK) (br (isY (t.uN.c t.eb X G) t.uAS n h ty t.uFB KK) (br (isY (let ⟨C,N,bm,k,_⟩:=t.uAH.k t.eb X G;#[C,N,bm,k]) t.uAO n h ty t.uFE KK) (dO)))]
 have OW:V.j "WrongSign" [("WrongSign",true),("OneLine",false),("TooGreat",false)]:=let ⟨D,n,h,ty⟩:=t.uHW;#[D,mg_of X G n,br (isY (t.uM.c t.eb X G) t.uAP n h ty t.uEU KK) (br (isY (t.uN.c t.eb X G) t.uAS n h ty t.uFJ KK) (br (isY (let ⟨C,N,bm,k,_⟩:=t.uAH.k t.eb X G;#[C,N,bm,k]) t.uAO n h ty t.uFF KK) (dO)))]
 have Q_:V.j "NothingKept" [("WrongSign",false),("OneLine",false),("TooGreat",false)]:=let ⟨D,n,h,ty⟩:=t.uJD;#[D,mg_of X G n,br (isY (t.uM.c t.eb X G) t.uAP n h ty t.uGF KK) (br (isY (t.uN.c t.eb X G) t.uAS n h ty t.uKB KK) (br (isY (let ⟨C,N,bm,k,_⟩:=t.uAH.k t.eb X G;#[C,N,bm,k]) t.uAO n h ty t.uHC KK) (dO)))]
 have Ra:V.j "Parted" [("WrongSign",false),("OneLine",false),("TooGreat",false)]:=let ⟨D,n,h,ty⟩:=t.uKT;#[D,mg_of X G n,br (isY (t.uM.c t.eb X G) t.uAP n h ty t.uIK KK) (br (isY (t.uN.c t.eb X G) t.uAS n h ty t.uHJ KK) (br (isY (let ⟨C,N,bm,k,_⟩:=t.uAH.k t.eb X G;#[C,N,bm,k]) t.uAO n h ty t.uIL KK) (dO)))]
 have Rb:V.j "NoRow" [("WrongSign",false),("OneLine",false),("TooGreat",false)]:=let ⟨D,n,h,ty⟩:=t.uKG;#[D,mg_of X G n,br (isY (t.uM.c t.eb X G) t.uAP n h ty t.uEZ KK) (br (isY (t.uN.c t.eb X G) t.uAS n h ty t.uFQ KK) (br (isY (let ⟨C,N,bm,k,_⟩:=t.uAH.k t.eb X G;#[C,N,bm,k]) t.uAO n h ty t.uFH KK) (dO)))]
 have jv:V.jv [("WrongSign",true),("OneLine",true),("TooGreat",true)]:=br (isVE (t.uM.c t.eb X G) t.uAP) (br (isVE (t.uN.c t.eb X G) t.uAS) (br (isVE (let ⟨C,N,bm,k,_⟩:=t.uAH.k t.eb X G;#[C,N,bm,k]) t.uAO) (dO)));have y7:=FH (t.uGO.tx X G) uA;have MV:=FI (t.uLO.tx X G) uB y7;have Qj:=FJ (t.uHG.tx X G) uB uA;have Qk:=FK (t.uGJ.tx X G) uE;have MX:=FL (t.uKV.tx X G) uF;have OO:=FM (t.uHP.tx X G) MV Qj Qk MX;have OP:=FN (t.uHL.tx X G) uF LK uE;have M4:=FO (t.uGV.tx X G) uS;have M5:=FP (t.uGM.tx X G);have OL:=FQ (t.uGP.tx X G) uS M4 M5;have Qq:=FR (t.uLI.tx X G);have Qv:=FS (t.uIE.tx X G) M4 Qq;have Qw:=FT (t.uHD.tx X G) OL Qv;have OQ:=FU (t.uLB.tx X G) uX Qw;have Ro:=FV (t.uKD.tx X G) uB MV OO OP OQ;have QA:=FW (t.uJM.tx X G) uB uA uE M5;have QB:=FX (t.uHV.tx X G) QA;have Rp:=FZ (t.uLT.tx X G) uB QB;have QH:=F5 (t.uIP.txm t.uY) QC Ll uH uQ;have Mz:=F6 (t.uJP.tx X G) uX uS QE QF;have J_:=F7 (t.uMD.tx X G);have uG:wz V:=Gd (t.uGG.txm t.uBS) (t.uJN.txm t.uCJ) (t.uIY.txm t.uBM) (t.uGI.txm t.uEA) (t.uHX.txm t.uCO) (t.uLD.txm t.uBT) J_ LZ uO v9 uU uW L4 L5 v_ uZ uV L6 L7 6;have QG:=Ge (t.uHR.tx X G) Mz M8 uG;have M9:=Gf (t.uJL.tx X G) uB QG uR;have M_:=Gg (t.uJB.txm t.uY) uB M9 uH uP uQ;have OR:=Gh (t.uHZ.txd t.uY (by walk_at "bd")) uX uT uH QH M_ QI;have Rq:=Gj (t.uJJ.tx X G) OR ek;have Rr:=Gm (t.uHA.tx X G) uF uA MX;have uM:=Gn (t.uM.txe t.eb X G) Na uAZ QJ;have uL:=Go (t.uFY.txm t.uCI) uA L8 uI;have uC:=Gp (t.uLR.txm t.uCI) uI uL uM;have OS:=Gq (t.uLK.tx X G) uB uR uC uL;have QP:=Gr (t.uKN.tx X G) uA OS OT uL;have OU:=Gs (t.uIW.tx X G) uE uL uC;have LP:=Gu (t.uLF.tx X G) OU uC;have Nb:=Gv (t.uIC.tx X G);have Nd:=Gw (t.uIU.tx X G) uS Nb;have QO:=Gx (t.uHN.tx X G) MD J_ uR;have QQ:=Gy (t.uLJ.txi X G) Nd QO L9 uO LZ;have Oc:=Gz (t.uKL.tx X G) QP LP uI QQ uC;have Oe:=GA (t.uIT.txi X G) v_;have Of:=GB (t.uJO.txi X G) uZ;have N_:=GC (t.uGE.txi X G) v9 uU;have Oa:=GD (t.uHE.txi X G) uW L5 L4;have Ob:=GE (t.uIH.txi X G) uV L6 L7;have uK:wQ V:=GK (t.uGT.tx X G) (t.uGB.tx X G) (t.uJC.tx X G) (t.uKQ.tx X G) N_ uC LP Oa uE Ob Oc Od Oe Of uL 6;have Q1:=GL (t.uJH.txi X G) L8 uI;have Q2:=GM (t.uHK.txi X G) QX Lm M8;have uN:=GN (t.uN.txe t.eb X G) Na uAV QY;have Oh:=GO (t.uGR.tx X G) Nb;have Oi:=GP (t.uIZ.tx X G) Oh;have Oj:=GQ (t.uHU.tx X G);have Ol:=GR (t.uHT.tx X G) Nd;have uJ:wR V:=GX (t.uKY.txm t.uBS) (t.uGU.txm t.uCJ) (t.uKJ.txm t.uBM) (t.uIB.txm t.uEA) (t.uLQ.txm t.uCO) (t.uKK.txm t.uBT) uO L9 uN Oi v9 uU uW Oj v_ Ol uZ uV 6;have LR:=GY (t.uHS.tx X G) uA uK Q0 uI Q1 Q2 uJ uM Q3;have K_:=GZ (t.uFZ.tx X G) uD Q5 uE;have Q7:=G1 (t.uMC.tx X G);have Nf:=G3 (t.uGQ.txi X G) LR uQ MH uP uT uH Ll;have Rc:=G5 (t.uKR.txm t.uY) LR;have Rs:=G7 (t.uJQ.tx X G) uD Q6 LR K_ Q7 Q8 Q9 OV OW Q_ Ra Rb jv Nf Rc Re ek;have Rk:=G9 (t.uKO.tx X G) uA uD LK uB uF;have OX:=Hb (t.uFV.tx X G) uA uD LK uB K_;have OY:=Hd (t.uJS.tx X G);have Rg:=Hf (t.uIF.tx X G) uB M9 Lm;have Rh:=Hg (t.uKZ.tx X G) J_;have Ri:=Hi (t.uJZ.tx X G) uA;have Ng:=Hj (t.uIJ.tx X G) uX uB Rf MD Mz Rg Rh Ri uR Lm;have Rl:=Hl (t.uGA.txm t.uY) Ng uH uP uQ;have Rm:=Hn (t.uJF.txm t.uY) Ng uT uP uH uQ;have Rn:=Hq (t.uGS.txm t.uY) uA Ll;have Rt:=Hs (t.uLU.tx X G) uD uF K_ Rk OX OY MH uP uT M_ Rl Rm Rn;exact Ht F uE Ro y7 Rp Rq Rr Rs Rt Nf
def all_mk{l:JR}{w:U'}{K:Ex}{h:Heap}{mg:Lq->Option Os}{fa:Pi}(X:K.In h)(G:h.Ns SL mg)(NE:mg "law"=be (.ref fa))(t:TopIn K):
  ∃fd:Vd,(∀(s:SB) (v:Os),VY s fd #[[v],[]] [("_law_script",v)])/\∀base:Heap,K.In base->base.Ns SL mg->FnOk l.prog w K mg base (Exc.CX1 l.prog w) 23 fa fd ["_law_script"] (lSp K fq):=by
 let#[fd,b,F]:=t.uHQ.law X G NE (λ_ _ _ _ _ _ _=>rfl);exact#[fd,b,λbase _ _=>Hu (V:=#[l.prog,w,K,mg,base]) t X G F]
def law_walk{l:JR}{q:U5}{m7:List Lq}{XP:(Lq->Option Os)->Heap->Prop}{YP:U'->Heap->Prop}{d:DefRec}{K:Params->Ex}(hn:l.most=be 63)(Nn:d.params.defaults=[])
  (hY:∀(w:U') (h:Heap),YP w h->(K w.params).In h)
  (F:∀(w:U') (mg:Lq->Option Os) (fa:Pi) (h:Heap),(K w.params).In h->h.Ns SL mg->mg d.name=be (.ref fa)->
   ∃fd:Vd,(∀(s:SB) (u:Os),VY s fd #[[u],[]] [("_law_script",u)])/\∀base:Heap,(K w.params).In base->base.Ns SL mg->FnOk l.prog w (K w.params) mg base (Exc.CX1 l.prog w) 23 fa fd ["_law_script"] (lSp (K w.params) fq)):
  Kt q m7 XP YP l.row.toRowW d [] (λf vs=>PySem.call f vs):=
 L2.walk_of (n:=63) (k:=23) (x:="_law_script") (CX:=λw=>Exc.CX1 l.prog w) (sp:=λw=>lSp (K w.params) fq) hn Mh Nn #[rfl,Mh,Mh] hY F (λ_ _ a ns hl _ hS=>zO hl hS) λ_ _ _ _ _ h=>by let#[_,_,_,_,_,_,_,_,_,_,_,_,_,_,_,z]:=h;exact z
end My
open PySem PySem.W PyProof.Rows
set_option maxRecDepth 100000 in
set_option maxHeartbeats 0 in
theorem PySem.Challenge.cw_motiffield_k36_bad_texts_holds : PySem.Challenge.rw_motiffield_k36_bad_texts.Holds := by
  w_on;o_law;k_head;(case hw =>w_witness2)
  k_fill
  refine My.law_walk (l :=PySem.Challenge.rw_motiffield_k36_bad_texts) rfl rfl (λw h Y =>kIn_of Y) ?F
  case F =>
    intro w mg fa h KX G l_;refine My.all_mk KX G l_ ?_;constructor
    all_goals first|((with_reducible refine' My.fnIn_mk ?a ?l ?c ?k);(case a =>k_is);(case l =>k_is);(case c =>k_is);(case k =>k_is))|((with_reducible refine' My.nnIn_mk ?a);(case a =>k_is))|((with_reducible refine' My.noIn_mk ?a ?b);(case a =>k_is);(case b =>k_is))|((with_reducible refine' My.mtIn_mk ?a ?b ?i ?l ?c ?k);(case a =>k_is);(case b =>k_is);(case i =>k_is);(case l =>k_is);(case c =>k_is);(case k =>k_is))|((with_reducible refine' My.mdIn_mk ?a ?b ?i' ?l ?c ?k ?d);(case a =>k_is);(case b =>k_is);(case i' =>k_is);(case l =>k_is);(case c =>k_is);(case k =>k_is);(case d =>k_is))|((with_reducible refine' My.inIn_mk ?a ?mk ?b ?i ?kp ?l ?c ?k);(case a =>k_is);(case mk =>k_is);(case b =>k_is);(case i =>k_is);(case kp =>k_is);(case l =>k_is);(case c =>k_is);(case k =>k_is))|((with_reducible refine' My.clIn_mk ?a ?pg ?hd ?po ?sa ?ha ?hn ?ht ?hm);(case a =>k_is);(case pg =>k_is);(case hd =>k_is);(case po =>k_is);(case sa =>k_is);(case ha =>k_is);(case hn =>k_is);(case ht =>k_is);(case hm =>k_is))|((with_reducible refine' My.ciIn_mk ?a);(case a =>k_is))|((with_reducible refine' My.csIn_mk ?a);(case a =>k_is))|((with_reducible refine' My.ebIn_mk ?a ?kp ?o ?nk ?al ?ni);(case a =>k_is);(case kp =>k_is);(case o =>k_is);(case nk =>k_is);(case al =>rfl);(case ni =>k_is))|((with_reducible refine' My.e0In_mk ?b ?a ?kp ?o ?nk ?al ?ni);(case b =>k_is);(case a =>k_is);(case kp =>k_is);(case o =>k_is);(case nk =>k_is);(case al =>rfl);(case ni =>k_is))|((with_reducible refine' My.e1In_mk ?b ?a ?kp ?o ?j ?i ?l ?c ?k);(case b =>k_is);(case a =>k_is);(case kp =>k_is);(case o =>k_is);(case j =>k_is);(case i =>k_is);(case l =>k_is);(case c =>k_is);(case k =>k_is))|((with_reducible refine' My.eaIn_mk ?a ?b);(case a =>k_is);(case b =>k_is))|((with_reducible refine' My.egIn_mk ?a ?b ?c);(case a =>k_is);(case b =>k_is);(case c =>k_is))|((with_reducible refine' My.eiIn_mk ?a ?b ?c ?d);(case a =>k_is);(case b =>k_is);(case c =>k_is);(case d =>k_is))|((with_reducible refine' My.emIn_mkT ?e ?a ?c ?d);(case e =>decide);(case a =>k_is);(case c =>k_is);(case d =>k_is))|((with_reducible refine' My.emIn_mkF ?e ?a ?c ?d);(case e =>decide);(case a =>k_is);(case c =>k_is);(case d =>k_is))|((with_reducible refine' My.exIn_mk ?a ?b ?c ?d ?e ?f);(case a =>k_is);(case b =>k_is);(case c =>k_is);(case d =>k_is);(case e =>k_is);(case f =>k_is))|((with_reducible refine' My.yeIn_mk ?a ?b ?c);(case a =>k_is);(case b =>k_is);(case c =>k_is))
end
