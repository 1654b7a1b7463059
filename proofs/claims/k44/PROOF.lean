import PyProof.Rows.All
import Wide.All
import OpenK.AllK
import Wide.FinOn
import Lean
import PyProof.EqAt
import PyProof.EqKinds
import PyProof.TupleCall
import PySem.Challenge.RW_motiffield_k44_whole_floor
set_option compiler.extract_closed false
set_option Elab.async false
set_option linter.all false
set_option maxRecDepth 100000
set_option maxHeartbeats 4000000
def goN(s:String):=Lean.mkNode (String.append "Lean.Parser.Tactic.rcasesPat" s).toName
def goL(s:String)(a:Array Lean.Syntax):=goN "Lo" #[goN "Med" #[Lean.mkNullNode #[goN s a]],Lean.mkNullNode]
def goQ(f:Lean.Syntax->Lean.Syntax)(s:Lean.Syntax):=if s.isAtom then s else if s.isIdent then goL ".one" #[s] else if s[1].isMissing then goL ".ignore" s.getArgs else goL ".tuple" #[s[0],s[1].modifyArgs (·.map f),s[2]]
def goP:=goQ (goQ (goQ (goQ (goQ (goQ (goQ id))))))
local macro_rules|`(tactic|let$d:letDecl)=>let p:=d.raw[0];if p[0][0].getAtomVal=="#[" then pure (Lean.mkNode ``Lean.Parser.Tactic.obtain #[Lean.mkAtom "obtain",Lean.mkNullNode #[(goP p[0])[0]],Lean.mkNullNode p[2][0].getArgs,Lean.mkNullNode #[p[3],Lean.mkNullNode #[p[4]]]]) else Lean.Macro.throwUnsupported
local macro_rules|`($t\$c)=>pure (Lean.Syntax.mkApp (Lean.mkIdent `autoParam) #[t,c])
def goT(a:Nat)(x:Char):=a*52+(x.toNat-65)%32+x.toNat/97*26
local macro_rules|`(command|mutual$x*end)=>let d:=x[0]!.raw;let e:=x.back!.raw;if e[0].getAtomVal != "#check" then Lean.Macro.throwUnsupported else pure (Lean.mkNullNode (e[1][1].getArgs.map fun i=>d.setArg 1 (d[1].setArg 1 (d[1][1].setArg 0 (Lean.mkIdent (.mkSimple (.append "tw" (Nat.repr (i.getId.toString.toList.foldl goT 0)))))))))
def goD(m d:Lean.Syntax):Lean.MacroM Lean.Syntax:=if m.getHeadInfo?.isNone then pure (Lean.mkNode ``Lean.Parser.Command.declaration #[m.setArg 4 (Lean.mkNullNode #[Lean.mkNode ``Lean.Parser.Command.noncomputable #[Lean.mkAtom "noncomputable"]]),d]) else Lean.Macro.throwUnsupported
local macro_rules|`(command|$m:declModifiers $d:definition)=>goD m d
local macro_rules|`(command|$m:declModifiers $d:abbrev)=>goD m d
local macro_rules|`(#[$x,*])=>`(⟨$x,*⟩)
theorem KK{p:Prop}(h:p:=by lia):p:=h
theorem Nk{p:Prop}(h:p:=by decide):p:=h
theorem Nn{p:Prop}(h:p:=by decide+kernel):p:=h
theorem Nq{p:Prop}(h:p:=by simp):p:=h
theorem Nr{p:Prop}(h:p:=by k_memK):p:=h
theorem Oi{p:Prop}(h:p:=by grind):p:=h
theorem Ow{p:Prop}(h:p:=by omega):p:=h
theorem Oy{p:Prop}(h:p:=by cases d<;>first|exact#[_,rfl,h]|exact False.elim h):p:=h
theorem OE{p:Prop}(h:p:=by cases q:cd.mro with|nil=>rw[q]at hm;simp[aO]at hm|cons _ _=>rfl):p:=h
theorem Po{p:Prop}(h:p:=by rw[<-hY];rfl):p:=h
theorem Qh{p:Prop}(h:p:=by simp;lia):p:=h
theorem Ri{p:Prop}(h:p:=by unfold mroIn;rw[hc,J2,if_neg (by rw[ne];decide),eQ Nn hm]):p:=h
open PySem renaming Str->Mr
open Option renaming some->be,none->z6
open PySem renaming Value->Os,Addr->Pi,wpAny_bind->P3,Shared->SB,mainGlobals->SL,wpAny_pure->SZ,Stmt->VS,model->VT,Program->VU,Expr->VV,wpAny->VW,World->VX,Around->VY,starEach->VZ,assignEach->V0,attributeBase->V1,FuncData->V2,eval->V3,Pos->V4,wpAny_Call_Name_kw->V5,compareOp->V6,wpAny_newObj_type->V8,wpAny_mono->V9,swapsWith->V',bootBuiltins->V_,Obj->Wa,wpAny_loadPart_at->Wb,binaryOp->Wc,PassesOwn->Wd,excClassObj->We,wpAny_holding->Wg,wpAny_passesOwn->Wh,behindInMarks->Wi,sysModules->Wj,holding->Wk,Scope->Wl,wpAny_standAt->Wm,swapsWithSole->Wn,swappedStores->Wo,ExceptHandler->Wp,wpAny_getItem_str_slice->Wq,codeAny_mono->Wr,plainObj_wpAny_Assign_Attribute->Ws,wpAny_call->Wt,assign->Wu,wpAny_field->Wv,sliceBounds->Ww,codeAny_call_builtin->Wx,bindArgs->Wy,NameKind->Wz,wpAny_execs_nil->WA,wpAny_isSubtype_exc->WB,standAt->WC,Env->WD,wpAny_truthy_bool->WE,wpAny_pyIter_enum->WG,sizeLine_eq->WH,keywordEach->WI,backTo->WK,tupleKind->WL,noteFrame->WM,cLine->WN,BindsTo->WO,post_val_or_str->WQ,letOwnedTupleGo->WR,wpAny_setField->WS,rawInt->WT,getMethod->WU,codeAny->WV,isInstance->WW,wpAny_assign_Name->WY,callerA->WZ,backToKw->W0,wpAny_lookBehind->W1,setFlight->W2,pastItsLine_dict->W3,IsPart->W4,atKey->W5,valueAt->W6,getItem->W7,wpAny_loadPart->W8,wpAny_letOwnedTupleGo_enum->W9,handleBy->W',dictSetDefault->W_,call_meets->Xa,bindName->Xb,Operator->Xc,wpAny_comprehension_free->Xd,assignInOrder->Xe,bindL->Xf,bindC->Xg,ClassData->Xh,wpAny_nsSet1->Xi,setItem->Xk,seqIndex_neg->Xl,leaving->Xm,getAttr->Xn,codeAny_compStart_list->Xo,call_meetsIn->Xp,Sem->Xq,codeAny_handlers_test->Xs,wpAny_of_eq->Xt,wpAny_newFunctionEnv->Xu,seqIndex_of->Xv,callWith->Xw,Model->Xx,GenState->Xy,wpAny_handleBy_cons->Xz,wpAny_call_exc_subT->XA,wpAny_rule->XB,wpAny_entryPlaceOf->XC,wpAny_Name->XE,typeIs_str->XF,typeIs_int->XG,tupleKind_room_in1->XH,builtinsNs->XI,wpAny_frameOf_fun->XJ,setAttr->XM,release->XQ,relabel->XR,foldedSetIterable->XS,Tok->XU,Keyword->XW,CmpOp->XX
open PyProof.Rows renaming envOfC->V7,AllBare->WJ,assignInOrder_cons->WX,subscriptTail_builtinR->Xj,IntsAre->Xr,assignInOrder_nil->XT
open PySem.W renaming Frag->Ex,findIn->Iq,mroIn->Jn,OpenLaw->Kz,clsIn->KD,handedIn->K3,WalkO->La
open List renaming mem_singleton->Ih,length_map->Ij,mem_cons->Ik,range->Il,mem_cons_of_mem->Im,mem_cons_self->Ip,size_toArray->Ir,length_cons->Iu,replicate->Iw,length_append->Ix,getElem?_map->Iy,getElem?_set_ne->Iz,getElem?_eq_some_iff->IB,lookup_cons->IC,getElem?_eq_getElem->ID,mem_append_right->IE,map_cons->IH,map_append->II,mem_map->IJ,mem_append->IK,append_nil->IQ,getElem_mem->IR,append_assoc->IU,getElem?_eq_none->IV,getElem?_range->IY,getElem?_set_self->IZ,getElem?_append_left->Ja,length_set->Jc,replicate_succ->Jd,mem_of_getElem?->Jf,all_eq_true->Jg,mem_append_left->Jk,nodup_cons->Jo,getElem?_append_right->Jp,length_drop->Jq,flatten_cons->Jr,getD->Js,lookup->Jw,getElem?_set->JA,ext_getElem?->JB,drop->JC,take_of_length_le->JD,not_mem_nil->JF,drop_eq_getElem_cons->JG,length_take->JK,all_cons->JL,length_singleton->JM,map_nil->JN,find?_cons->JO,map->JP,range_succ->JR,map_congr_left->JS,nodup_append->JT,map_map->JW,length->J0,eq_nil_of_length_eq_zero->J3,take_length->J5,drop_zero->J6,mem_of_mem_drop->J8,filterMap_cons->Ka,getElem?_take_of_lt->Ke,any_cons->Kf,length_range->Km,set_cons_succ->Kr,of_mem_zip->Kt,getElem?_replicate->Ku,foldl->Kv,length_dropLast->Kw,contains_cons->KA,forIn_cons->KB,getElem?_drop->KR,drop_of_length_le->KU,set_cons_zero->KW,drop_eq_nil_of_le->KY,map_drop->KZ,mem_filter->K1,mem_filterMap->K2,filterMap_map->K5,foldl_cons->K7,nil_append->K9,nodup_nil->Le,length_nil->Lf,getElem_toArray->Li,take_succ->Ll,dropLast_cons₂->Lq,map_take->LU,take_range->LV,set_append_left->LW,set_append_right->LX,mem_or_eq_of_mem_set->LY,map_set->LZ,take_append_drop->L5,mem_of_mem_take->L6,drop_length->L7
open Nat renaming le_refl->Ii,le_trans->Io,ne_of_lt->Iv,lt_of_lt_of_le->IG,zero_le->IL,ne_of_gt->Jl,pow_succ->Ju,lt_irrefl->Jv,le_succ->Jy,succ_mul->Jz,min_eq_left->JJ,lt_or_ge->JQ,mul_le_mul->JU,pow_le_pow_right->JX,not_lt_zero->JZ,add_comm->J1,add_le_add->J4,le_of_lt->J9,le_of_eq->Kd,pow_pos->Kl,min_eq_right->Ko,sub_zero->Kp,mul_comm->Kx,le_of_not_lt->Ky,lt_succ_of_lt->KC,zero_add->KS,lt_succ_self->K4,lt_of_le_of_lt->Lb,lt_trans->Ld,log2_lt->Lg,add_sub_add_right->Lj,mul_le_mul_left->Lo,succ_ne_self->Lr,mul_le_mul_right->Lv,le_max_left->LB,le_max_right->LC,pow_add->LD,add_sub_cancel->LJ,mod_eq_of_lt->LP,mul_succ->LS,le_add_right->L4
open Bool renaming false_ne_true->IA,and_eq_true->IS,eq_false_iff->IT,eq_iff_iff->Kc,or_true->Kg,or_eq_true_iff->Lk
open Int renaming mul_pos->IF,toNat_of_nonneg->IM,mul_comm->IN,mul_le_mul_of_nonneg_right->IP,mul_ediv_cancel->IW,toNat_natCast->Jb,le_trans->Je,natAbs_mul->Jh,emod_nonneg->Ji,emod_lt_of_pos->Jj,mul_nonpos_of_nonpos_of_nonneg->Jt,emod_def->JE,zero_add->JH,natCast_add->JI,eq_of_mul_eq_mul_right->JV,emod_add_mul_ediv->JY,add_zero->J7,dvd_mul_of_dvd_right->Ki,mul_eq_zero->Kj,mul_neg->Kk,add_assoc->Kq,ediv_nonneg->Ks,natAbs_add_le->KF,mul_nonneg->KG,natAbs_sub_le->KH,fmod_eq_zero_of_dvd->KI,natCast_mul->KJ,neg_mul->KL,natAbs_neg->KM,eq_of_mul_eq_mul_left->KN,dvd_add->KO,sub_mul->KP,add_mul->KQ,ediv_le_self->K0,natAbs_eq_zero->Lh,le_ediv_of_mul_le->Ln,fmod_nonneg_of_pos->Ls,fmod_lt_of_pos->Lu,mul_emod_left->Lw,mul_le_mul_of_nonneg_left->Lx,le_natAbs->Ly,ofNat_le->Lz,dvd_mul_of_dvd_left->LA,mul_fdiv_cancel_of_fmod_eq_zero->LF,dvd_antisymm->LG,zero_mul->LH,mul_le_mul->LI,add_mul_emod_self_right->LL,add_mul_ediv_right->LM,dvd_add_left->LN,dvd_mul_right->LO,natCast_emod->LQ,ediv_eq_zero_of_lt->LR
open Option renaming bind_some->J2,getD_none->K6
open Array renaming length_toList->Kb,getElem?_eq_some_iff->Kh,all_toList->KE,getElem?_toList->K8,eq_empty_of_size_eq_zero->Lm,getElem?_eq_getElem->Lp,toList_inj->LK
open PySem.W (InitBack any_some callWith_K callWith_K0 cellsFrom_some cls_value codeIn codeRec_of emptyDict eq_bytes findCls findObj_own fnOf get_value hasDictIn hideAll hideAll_get hideAll_none hideAll_size instObj isFn isNs_of_in kIn_of keepIn ki_setAt ki_setBack kia_one kitOne kitx_bool kitx_dict kitx_float kitx_int kitx_list kitx_none kitx_own kitx_str kitx_tuple kun_itemsOf len_bytes lookIn make_core makesIn makes_of methodCall_KW methodObj method_cls method_fn mg_none_of mg_of ne_bytes nsIn nsMap_none_of_in nsOkIn of_hideAll osa_open plainGet plainGet_of plainOver readsIn specialIn tailIn tail_of_in takerIn takesIn truthy_bytes)
def qZ0(_:0=0:=by rfl):=0
nonrec def zA0:=qZ0._auto_1
def qZ1(_:0=0:=by decide):=0
nonrec def zA1:=qZ1._auto_1
def qZ2(_:0=0:=by first|exact .inl rfl|exact .inr rfl|assumption):=0
nonrec def zA2:=qZ2._auto_1
def qZ3(_:0=0:=by exact λ_=>rfl):=0
nonrec def zA3:=qZ3._auto_1
def qZ4(_:0=0:=by first|exact Or.inl rfl|exact Or.inr rfl):=0
nonrec def zA4:=qZ4._auto_1
def qZ5(_:0=0:=by first|exact Or.inl rfl|exact Or.inr (Or.inl rfl)|exact Or.inr (Or.inr rfl)):=0
nonrec def zA5:=qZ5._auto_1
def qZ6(_:0=0:=by exact λ_ _=>rfl):=0
nonrec def zA6:=qZ6._auto_1
def qZ7(_:0=0:=by walk_at "b"):=0
nonrec def zA7:=qZ7._auto_1
def qZ8(_:0=0:=by intros;rfl):=0
nonrec def zA8:=qZ8._auto_1
namespace PySem.W.Fast
mutual def tw:=Nat #check x ATJGFtgUknwk BRmcmZAiKPtN BvHJYsQNRnoK BDqKUtcbNMFG ALEYxOmzEvIR AfeMEInPNAiz AfMaknVunXFB ARxDemlCPpvp CEFhcYgVRvir BvJZoOKKUqMI BnppUSlJLYtt CBVchCgVuuJq AYObvZdFTlHJ AzlhmLUgEMgy BDMWViYnRFVB AeEFqkZuKXmo ALhBkeSAelMK BnPoALqxaCHn BjNFgvfRrrMS CMAAUCWzHMiz CAmJGyOUYSDD CGglBaGFeZUo BcjvwTvpUHUS AgfURVxSSbfQ BuytdRcSAZXJ ArmTAbrgRJEz CQwOfBjQfJVu BlCFkPygAPnu AWkxLVMcXjQx BTDHTraZIQuj CJVyBcyNbXmK BzDMBwjZnDgl BsaGgbPclsVn BFlYTaWVfCJC BBXFQjVpGFKk BgAetbBcpPGp BOwBQTNjGDQr BPtYtMsmfTPS AQhOhwGofYGU BORQjiEHIyQc BlDrfjCXKEiT AEGxCtpmymfN BAJPUEqDiLja BhOtevSKthti BZBilSAKGkrX BbQIqUipgXzP BIeHUoffKHNI BSsFGqqSTgKY BZDcTsOfKLuo CEgYCUkgfRxu CCGWWvbiEUZJ CNEsutudQnPb BVcNiSdHtvip BfZBdWwAtcCN BDHYphTyhGLs BCexxTfBHyFB AKvgdRDaWsrz CDjlfUZXrowO AQwrDmDWLppo CHoeGYxrixmH AuwMAmibnHGM AgrSTIlVvXjT CIOwZEeeoYSW CLXmKHQxWChl ACICEZHExTpR AvyJpBHrDlEL CJpHeUVSIItb AJSwfsuSgXRF AuvVVBaAMAjh BAsWphtsrWje ADFydRBghjyj CMoyNIsAkFLg AROOZEcJRMEk BKAPHpWhmIqV BUdYogWiOmUR BMVisCrISUJn ARSwlmlgmCLo AwgoFsHumjYa AFwqQyrCpcHo BRYMSJrEnKkv BzIbxbNWjzAQ BhULypITEImi CBHgHJoEiwpF BcXghqUqtjdf AbpUkEyrjwhf BGaBjEDRsNrA ABeIRDRSQgya AvQOtaEtkScC BAAsIEkHvwMc BIbaWmMHMulP AUCrRQadCRRg AOdPzNDurjwo CGCxNdEXgbRv BtWHrJKrGmQz AmNEOvjAoFII ArBEEAmmXVFA CMefMjsKecZw BtaZyjjpPlPm ALCXnBHqdQeS BTbSLNQhOGFu AixClUcPGqOZ BdtRfqQmIMUD BibqkjXKgvOd BBxwuRzjoGxR AoVzRhRYxcnF AdLrKCBeAxYO BrZIxjNAQgVp BDYpmPeVfNQk BVmZnJKICknO CGdOuMOvFExw BBCmPcChIQww BLpGpTXwKffa AojVcitrplfG BUMPDukAcmaF BjcCVEUKhOGV BIjdpYiOXBtf AkmOKAllYbzx AdiDGNYjYGWt BSRQUMnuFLBW BnoQYXsyKdKi ADlwWHmhvskI CRUSCxbEllNr AbmnZfaxLTeJ BvnOwdvFvWVT BvWuYheoATPl BeRnqrnWVXQA BpvKRKATanmd APpnxHnakdrO BGWbmpZCkYXu AyRRjURGpsWN ACjUusjpUosJ BtFIcdnTMhCg BWNBzPfyNDru BhAdmATIJjBG BpxTjZGiQvpx AJmRmLhGkjvm BAQLwaenfuCz BsfvfrnWXEFG CFRikdCLemAi CGFWXaeHdEpj BsLqaXsYVyvd AXfaeJOLdxBL BTQIJCuCBhUX BIkOBoOFdtad AYgjSHqkczhh AsxHdAiqjWGl BVyAOTeSBDVR COftRymIbdRa AeSvbERldYwh AJguDfvhhEjX BsDQajaxCSTI ACxJqDQqLpds AMOTAtUzOQKr CCqSpehqcYLv COAJajbatNke BgFNoWkDYzhX AFPpWZxNaoxP BRTONLKGOMto BhEvclJIppQj BAYOdhNUFDUc AfBmBGoEVjtI AkAQaGpFynTj CQrVEiuHGpBj BinDtLklfHmS AcUXMStdXsuC BhaOffeAApfg BrGvOFxAVLRA CHEFJbZvGLVM AXDoyWoBCwaX BoWaPurycttz CLyheqjENKVJ CTxEbDopAuue BMYtZedtesSY CMBWVhKDYrdP CCSWdhLsULlu COXVhcHoSFsJ AXZcFaJYHxjR AJcUXNpvgMZw CXBNAYgydhDi BmiDGIlaagIE CKVCopYCmlzn ARRYPWOxZhTW ATGWmeZBtPiD AeYoEUurltOJ BWFVONUSnUOm AdEzPyxvfHEu AOjTdMAykNBI BTYHSKcqIGkL AwTbsoNuuqcu BxuvhLfvEGsC ACjDmDYPruGT AuLeTOiNhKxm CPyTyGaOcixW BwqegsKsSeDu CKZsosanNNSl AsYRyKBeTWkF ATafZRONBsdC BBhRXJDCNVBX BMsCzWxydxMw AXIpihUFnoBg BvURqsWlhZTg CORRGtEOUpvo BFAalKbwBOYM BjsSVSNWLGCX AKgqaexTCYAL BoqlSUShrsdd BJDaXGPuChbJ BeqKZfpnRCQk CVmWrSGoKYFd ARPSeFAgBQXP AQdSJqgbpmOu AurgRTPxTjCq BHbngZDtaOLT CGWyxPewuKqy BpBlYyGXTjEi AAFVWxHYZHzb CBZmvplhxzNV AHbIGRxDQCUI AQznvikSjhGU ASrZDsIdQSCX ApzVMWwHibOQ AfhOUATdNqIR AkfhGtrHhRwz BtqeeWdbGnXl BhLrVIjLZthA AuKuCPEjPuXQ AkQlUdhrkksk BQRWctaurvYj CGgswkxaIInB BABrojwXuMWX AgTKQXQGyxzb AbntaesQxZZX BXvFVrkXjRPV BLQSMLOFNgDd AFbNvSqQgJck CDoMJAqswtbJ AEWpmnLMspkg CVUKEdGkscLA CCknACgmMvVH AAgrBkgDWsnj BTVkvVHsEyLQ CLljbjdePETa AhTEFWKrHHOm BGzfijWJnGRz CKWaVmarWRGt BnHQuoikFqzj BOFJThwnfxLk BNoHEvRyjTpU BhwcwSbMQZLh BsAFqsjEMMGd CFEoHTCvRRtl CGQxMCQwQBgH ABWCQkELHXde ATJWJWnPCmqr APydRJOaqYKG BRWhOmptmdno ByeJPmvhNWpQ BYWhWsVxftOg BdhHBYvzKYuA BCzYgxPnmRbo AtvhudwWCNDe AEQYkXjJEPYp AJECZQMsMoyP CDXgrqoxHxNO AcYrHlimcOdM BbouQNzqLyWE CLaWXgwHEgSX BHjWzwyaUjul AjISSeLeQMsG AhxZHeSUEpOL AljTAGyhAton CJsSPeFPxUGA BezliLLHHLvb CASqaajFVyyy AiAWUucxayNM BigMfLDeOBAa BkOLbzuAdffQ ApxaEhMwPDGk BLdASzxapolq AzEQGGBqwnuk AvPdzrMCnrUR BRrLJKciZhKS ACAfUEpYIFci AvjfVQWUZGys COmPHyJJhclN BgkjgRvPlvJM BBbNkflCezbH CQYxshRPjeJv BOpUvdOPOTKE BzQEcDBHfFmB CTNCpJKsQVfE BkVGMGrJaHeG AdiFSOgAxXQD AZbLFctOFdtN BIazKJcjzHSc BZdOIYbczKCB ABAnXFglblZF AYJEbpNHBzCD COZnnKOmmTtk BtloSpIIqcrO ASGYtozTJBww CXFoxDvBBcAo BiUREYILTZIr AMzaBjVHGUVx AJimGEYjUdAB AWsrSAvTsiLe AxkHPmwwDQBO CIwiPJGAIRXl BZapMmTXObXR BIvbGJbYYpQI BGHMIsNRXSKL CAQvZoQTvmIi BXzMLEicFsVx BfFmyXLAQEDb BIFklYOKZJkC ALRFQNTOdeGG AIMbgHHVhRMW ApfOjtECncAD CTTiTcEyYOjL AedEROTOKUAx CGRomtgrmKTr ApQyrtGyScZj CPiDYUoKselP BnCUCIqeUnnR AFhKFfVpLpkw BfXCNPyGvqpw BcxeSMAxcPcS CPDCWCVGIoxF BDnttctHMpRV ASnANsOEgJVB APySEGzjMJmF CSdHrrRNkyUs CLLlcgBDUJFY CCDiZiiybxdy BCDfLmUhXPsj AgojDXyGcmux BafbDrzwJafn BrstmogLiSdL CBgnfkEPfTUS AzORdovsrOCL BYppqmTGBByH BsFhaJrJWNgZ BoNQvlReQTNp BgYVuGUSUEfy AHsTbsoEetni CDWqSPYlBeDC BkVPPhTXpBgl AEVhIBRxRenR BLYvoMllCJdf BREQXWRsNTzO APKgMBgbJLVn BcnVxYnssyQx CCHtVBlFPCAq ASNKtHBrpatC BXOpiWtagmfF BIHoJhSMTfkX CJsYpEjrslne ByQYPqVlWuUO CTIZYGmwYgVh BUxJyCQFnRrQ AwERFtITyIor BNDbrfacvRmi BgquLBQYlHOI BISHqoXLELGe BndjhhyNFmaI ASCnlCAoENGk AMKzgxNLtsDl AJtkoPeXuJYD BmWXOJjteGaw BqmhHgBwXCvE AuqylDkGrGFd AbqwcUdFzjNx BgyEntAurnnV AxmfkoqbHjpf BeHKQoywknhF AxiFpHWcSHgd BXuSmCVOgUrV BitICfqnbzCR AfYlxNpXfclo ANbfKKiGTOvR BovcpNUOAShG CVfNAKywNeFe AFMznwqFFytQ AVWbADCHfdKn BogZoBgLconO BfliWqdqquyT AJnLjpHdpTbT BOhQWiATIyOt BsJssGUpbRdg CDarotxfzwqI AzwJrtjzEFTO AEsMpSNuWbKO AMroOrfIAaVq BUsaPLSTjroK BruisVMtCDQg BflpSivmVYBn AFuPkNsvqSuN BOigcLGKKDdA CRNTRevwIoge AqnslogXMiUW CObbtHJgJCiO BVkMiwxksHpQ COyDcTjzNgVF CXYhcIbCYMPT BYMRntKiGFEB BtklaKPbVuWj AyvKhrAcTxHC BlmeqSvwOeHv ADNnkwbrJLcQ BlrDiUACctEN ANZpNPxMXEiB AUBLavxkbIsM BYrSUCwXZccL BfjYqKxNyNlE BwOkuayvVkqK ApmuEIuJfJTY CBKnldSsXkHQ AxtkLbhAaule AknfqbWCZhqY BYxbEBjWqGcs ADVHPwgUlBzj BqfLXEYTHEbb BPduQKfCXjNm AqdCiHduQDEs AwxbNiGmXjdR BnNCAoTqMhGW ByifruuIUtGO AXOcJRdlSCch BciBoAxHLgfT AwvdMjYJrYqG BokShVVvVRIK CEsaySkzDWRH CPupQPGmXAqR AufwxFUGpOLx CPZqnEbimtCq AcEGTuOIciAx CTmsFijttIrf BUFQKJoFaucd BYBjapbzeeFj BwoWjlCKxUFH ATXGfSUXBqIv CFWXiBaFhHbi BcTQGkVPNLrO AMEtWItLrqOX BibSDzDfvOTa AnhSOUcoXGkj BYZfDSxLfcKe AyRqLZhgZjBp AGKcTlcGQLWo AtcWMMzFONaM BqyAnwEVZNiy BLtYVqpSeGHc CIszmGHrnXHH end
end PySem.W.Fast
section
namespace L2
open PySem PySem.Spec PyProof.Rows
abbrev Key:=Sum Int Mr
def eI:Key->Os->Bool
 |.inl k,v=>Value.isInt k v
 |.inr x,v=>Value.isStrOf x v
def keyH(w:VX):Key->Int
 |.inl k=>hashInt k
 |.inr x=>hashStr w x
def keyIs_shape:∀{k:Key} {v:Os},eI k v=true->(∃i t,k=Sum.inl i/\v=Value.int i t)\/(∃x t,k=Sum.inr x/\v=Value.str x t)
 |.inl i,v,h=>by
  let#[t,e]:=Value.isInt_shape (k:=i) (v:=v) h;exact .inl #[i,t,rfl,e]
 |.inr x,v,h=>by
  let#[t,e]:=Value.isStrOf_shape (x:=x) (v:=v) h;exact .inr #[x,t,rfl,e]
def xy(i:Int)(t:XU):eI (.inl i) (.int i t)=true:=by simp[eI,Value.isInt]
def xz(x:Mr)(t:XU):eI (.inr x) (.str x t)=true:=by simp[eI,Value.isStrOf]
def xA(a b:Int):decide ((Sum.inl a:Key)=Sum.inl b)=(a==b):=by
 by_cases e:a=b
 .subst e;simp
 .have h:¬(Sum.inl a:Key)=Sum.inl b:=λq=>e (Sum.inl.inj q);rw[decide_eq_false h];exact(beq_eq_false_iff_ne.mpr e).symm
def xB(a b:Mr):decide ((Sum.inr a:Key)=Sum.inr b)=decide (a=b):=by
 by_cases e:a=b
 .subst e;simp
 .have h:¬(Sum.inr a:Key)=Sum.inr b:=λq=>e (Sum.inr.inj q);rw[decide_eq_false h,decide_eq_false e]
def xC(a:Int)(b:Mr):decide ((Sum.inl a:Key)=Sum.inr b)=false:=decide_eq_false (λq=>nomatch q)
def xD(a:Mr)(b:Int):decide ((Sum.inr a:Key)=Sum.inl b)=false:=decide_eq_false (λq=>nomatch q)
def bS(prog:VU)(w:VX):PySem.KeyKind prog w Key where
 is:=eI
 hash:=keyH w
 inj:=λv a b ha hb=>by
  rcases keyIs_shape ha with⟨i,t,rfl,rfl⟩|⟨x,t,rfl,rfl⟩
  .rcases keyIs_shape hb with⟨j,u,rfl,e⟩|⟨y,u,rfl,e⟩
   .injection e with e1 _;rw[e1]
   .exact nomatch e
  .rcases keyIs_shape hb with⟨j,u,rfl,e⟩|⟨y,u,rfl,e⟩
   .exact nomatch e
   .injection e with e1 _;rw[e1]
 byValue:=λk v h=>by
  rcases keyIs_shape h with⟨i,t,rfl,rfl⟩|⟨x,t,rfl,rfl⟩<;>rfl
 pyHash:=λhv h=>by
  rcases keyIs_shape hv with⟨i,t,rfl,rfl⟩|⟨x,t,rfl,rfl⟩
  .exact wpAny_pyHash_int h
  .exact wpAny_pyHash_str h
 eqBool:=λhu hv h=>by
  rcases keyIs_shape hu with⟨i,t,rfl,rfl⟩|⟨x,t,rfl,rfl⟩
  .rcases keyIs_shape hv with⟨j,u,rfl,rfl⟩|⟨y,u,rfl,rfl⟩
   .rw[xA]at h;exact wpAny_eqBool_int h
   .rw[xC]at h;exact SeqAt.EqAt.int_str i t y u _ _ _ _ h
  .rcases keyIs_shape hv with⟨j,u,rfl,rfl⟩|⟨y,u,rfl,rfl⟩
   .rw[xD]at h;exact SeqAt.EqAt.str_int x t j u _ _ _ _ h
   .rw[xB]at h;exact wpAny_eqBool_str h
 «strs»:=λk x t v h=>by
  rcases keyIs_shape h with⟨i,u,rfl,e⟩|⟨y,u,rfl,e⟩
  .exact nomatch e
  .injection e with e1 _;subst e1;cases v<;>rfl
def mixKind_int(prog:VU)(w:VX)(i:Int)(t:XU):(bS prog w).is (.inl i) (.int i t)=true:=xy i t
def xE(prog:VU)(w:VX)(x:Mr)(t:XU):(bS prog w).is (.inr x) (.str x t)=true:=xz x t
inductive V where
 |non|bl (b:Bool)|int (i:Int)|str (x:Str)|byt (b:Array UInt8)|flt (b:UInt64)|ref (a:Pi)|ty (n:String)
 deriving DecidableEq
def RelV:V->Os->Prop
 |.non,u=>u=Value.none
 |.bl b,u=>u=Value.bool b
 |.int i,u=>∃t,u=Value.int i t
 |.str x,u=>∃t,u=Value.str x t
 |.byt b,u=>∃t,u=Value.bytes b t
 |.flt b,u=>∃t,u=Value.float b t
 |.ref a,u=>u=Value.ref a
 |.ty n,u=>u=Value.type n
abbrev Vals:List V->List Os->Prop:=Paired RelV
variable{xs:List V}{us:List Os}
def Vals.length(r:Vals xs us):xs.length=us.length:=Paired.length r
def Vals.get:∀{xs:List V} {us:List Os} {i:Nat} {x:V},Vals xs us->xs[i]?=be x->∃u,us[i]?=be u/\RelV x u
 |_,_,_,_,.nil,e=>by simp at e
 |_,_,0,_,.cons r _,e=>by simp at e;subst e;exact#[_,rfl,r]
 |_,_,i+1,x,.cons _ t,e=>by
  let#[u,h1,h2]:=Vals.get (i:=i) (x:=x) t (by simpa using e);exact#[u,by simpa using h1,h2]
def Vals.set{x:V}{u:Os}(r:RelV x u):∀{xs:List V} {us:List Os} (i:Nat),Vals xs us->Vals (xs.set i x) (us.set i u)
 |_,_,_,.nil=>.nil
 |_,_,0,.cons _ t=>.cons r t
 |_,_,i+1,.cons q t=>.cons q (Vals.set r i t)
def Vals.append:∀{xs ys:List V} {us ws:List Os},Vals xs us->Vals ys ws->Vals (xs++ys) (us++ws):=by
 intro xs ys us ws h s;induction h with
 |nil=>exact s
 |cons r _ e=>exact .cons r e
def Vals.take:∀{xs:List V} {us:List Os} (n:Nat),Vals xs us->Vals (xs.take n) (us.take n)
 |_,_,0,_=>.nil
 |_,_,_+1,.nil=>.nil
 |_,_,n+1,.cons r t=>.cons r (Vals.take n t)
def Vals.drop:∀{xs:List V} {us:List Os} (n:Nat),Vals xs us->Vals (xs.drop n) (us.drop n)
 |_,_,0,r=>r
 |_,_,_+1,.nil=>.nil
 |_,_,n+1,.cons _ t=>Vals.drop n t
def RelO:Option V->Option Os->Prop
 |some v,be u=>RelV v u
 |none,z6=>True
 |_,_=>False
def KV{κ:Type}:List (κ×V)->List (κ×Os)->Prop:=Paired λ(p:κ×V) (q:κ×Os)=>p.1=q.1/\RelV p.2 q.2
def kV:Key->V
 |.inl i=>.int i
 |.inr x=>.str x
inductive HO where
  |lst (xs:List V)
  |tup (xs:List V)
  |dK (a_:List (Key×V))|dT (a_:List (List Key×V))
  |set (S:Int->Bool) (n:Nat)
  |ins (C dx:Pi) (fs:List (Mr×V))
  |own (x:Pi)
  |xd (fs:List (Mr×V))
  |met (f x:Pi)
  |rng (lo hi:Int)
  |frz (o:Wa) (u:HO)
  |tbl (ps:Array Os)
  |ext (φ:Heap->Prop)
abbrev Hp:=Pi->Option HO
def upd(H:Hp)(a:Pi)(o:HO):Hp:=λb=>if b=a then be o else H b
variable{H:Hp}{a:Pi}{o:HO}
def aC:upd H a o a=be o:=by unfold upd;rw[if_pos rfl]
variable{b:Pi}
def ar(h:b≠a):upd H a o b=H b:=by unfold upd;rw[if_neg h]
def xF{u:HO}(h:H a=be o)(h':H b=be u)(d:o≠u):a≠b:=by
 intro e;subst e;rw[h]at h';exact d (Option.some.inj h')
def bM(h:H a=be o)(h':H b=z6):a≠b:=by
 intro e;subst e;rw[h]at h';cases h'
section
variable (P:VU)(w:VX)
def ObjOk(H:Hp)(h:Heap)(a:Pi):HO->Prop
 |.lst xs=>xs.length<=sizeLine/\∃(its:List Os) (n:Nat),Vals xs its/\h.get? a=be {cls:=.type "list",data:=.seq its.toArray n}
 |.tup xs=>xs.length<=sizeLine/\∃its:List Os,Vals xs its/\IsTup h a its.toArray
 |.dK a_=>a_.length<=sizeLine/\(a==Wj)=false/\∃vs,KV a_ vs/\h.DictOf (bS P w) a vs
 | .dT a_=>a_.length<=sizeLine/\(a==Wj)=false/\∃xs:List (List Key×Pi×Os),
   Paired (λ(p:List Key×V) (q:List Key×Pi×Os)=>p.1=q.1/\H q.2.1=be (.tup (p.1.map kV))/\RelV p.2 q.2.2) a_ xs/\
   ∃o es ep,h.get? a=be o/\o.ExactDict/\o.data=.dict es ep/\es.toList=xs.map (entryOfKey (WL (bS P w)))/\(xs.map (·.1)).Nodup
 |.set S n=>h.SetOf (intKind P w) a S n
 | .ins C dx fs=>H dx=be (.own a)/\fs.length<=1000/\dx≠a/\h.get? a=be (instObj C dx)/\
   ∃mA,h.Ns1 dx mA/\(∀f,RelO (fs.lookup f) (mA f))/\PySem.Within mA (fs.map (·.1))
 |.own _=>∃o,h.get? a=be o
 |.xd fs=>∃mA,h.Ns1 a mA/\∀f,RelO (fs.lookup f) (mA f)
 |.rng lo hi=>∃t u v,h.get? a=be {cls:=.type "range",data:=.fields [.int lo t,.int hi u,.int 1 v].toArray}
 |.frz o u=>h.get? a=be o/\ObjOk H h a u
 |.tbl ps=>h.get? a=be {cls:=.none,data:=.fields ps}
 |.met f x=>h.get? a=be (methodObj (.ref f) (.ref x))
 |.ext φ=>φ h/\(∃o,h.get? a=be o)/\∀h1 h2:Heap,φ h1->(∀o,h1.get? a=be o->h2.get? a=be o)->φ h2
def HOk(H:Hp)(h:Heap):Prop:=∀a o,H a=be o->ObjOk P w H h a o
end
section
variable {P:VU}{w:VX}{H H':Hp}{h h':Heap}{a:Pi}{o:HO}
def ObjOk.lt(x:ObjOk P w H h a o):a<h.objs.size:=by
 cases o with
 |lst xs=>let#[_,_,_,_,e]:=x;exact Heap.lt_size e
 |tup xs=>let#[_,_,_,p]:=x;exact p.lt
 |dK a_=>let#[_,_,_,_,o,_,_,e,_]:=x;exact Heap.lt_size e
 |dT a_=>let#[_,_,_,_,o,_,_,e,_]:=x;exact Heap.lt_size e
 |set S n=>let#[o,_,_,_,e,_]:=x;exact Heap.lt_size e
 |ins C dx fs=>let#[_,_,_,e,_]:=x;exact Heap.lt_size e
 |own y=>let#[_,e]:=x;exact Heap.lt_size e
 |xd fs=>let#[_,#[_,_,_,e,_],_]:=x;exact Heap.lt_size e
 |rng lo hi=>let#[_,_,_,e]:=x;exact Heap.lt_size e
 |frz ob u=>let#[e,_]:=x;exact Heap.lt_size e
 |tbl ps=>exact Heap.lt_size (show h.get? a=be _ from x)
 |met f y=>exact Heap.lt_size (show h.get? a=be _ from x)
 |ext φ=>let#[_,#[_,e],_]:=x;exact Heap.lt_size e
def Paired.mapP{α β:Type}{F G:α->β->Prop}:∀{l₁:List α} {l₂:List β},Paired F l₁ l₂->(∀a b,F a b->G a b)->Paired G l₁ l₂:=by
 intro l₁ l₂ h f;induction h with
 |nil=>exact .nil
 |cons r _ e=>exact .cons (f _ _ r) e
def ObjOk.stay(x:ObjOk P w H h a o)(k:∀b u,(b=a\/H b=be (.own a))->h.get? b=be u->h'.get? b=be u)
  (ho:∀b,H b=be (.own a)->H' b=be (.own a)) (ht:∀b xs,H b=be (.tup xs)->H' b=be (.tup xs)):ObjOk P w H' h' a o:=by
 induction o with
 |lst xs=>let#[z,its,n,r,e]:=x;exact#[z,its,n,r,k _ _ (.inl rfl) e]
 |tup xs=>let#[z,its,r,ob,e,c]:=x;exact#[z,its,r,ob,k _ _ (.inl rfl) e,c]
 |dK a_=>let#[z,y,vs,r,ob,es,ep,e,c]:=x;exact#[z,y,vs,r,ob,es,ep,k _ _ (.inl rfl) e,c]
 |dT a_=>
  let#[z,y,xs,r,ob,es,ep,e,c]:=x;exact#[z,y,xs,Paired.mapP r λp q z=>#[z.1,ht _ _ z.2.1,z.2.2],ob,es,ep,k _ _ (.inl rfl) e,c]
 |set S n=>let#[ob,es,ep,t,e,c]:=x;exact#[ob,es,ep,t,k _ _ (.inl rfl) e,c]
 |ins C dx fs=>
  let#[d,z,ne,e,mA,#[od,es,ep,e2,c],r]:=x;exact#[ho _ d,z,ne,k _ _ (.inl rfl) e,mA,#[od,es,ep,k _ _ (.inr d) e2,c],r]
 |own y=>let#[ob,e]:=x;exact#[ob,k _ _ (.inl rfl) e]
 |xd fs=>let#[mA,#[od,es,ep,e,c],r]:=x;exact#[mA,#[od,es,ep,k _ _ (.inl rfl) e,c],r]
 |rng lo hi=>let#[t,u,v,e]:=x;exact#[t,u,v,k _ _ (.inl rfl) e]
 |frz ob u ih=>let#[e,q]:=x;exact#[k _ _ (.inl rfl) e,ih q]
 |tbl ps=>
  have e:h.get? a=be {cls:=.none,data:=.fields ps}:=x;show h'.get? a=be {cls:=.none,data:=.fields ps};exact k a _ (.inl rfl) e
 |met f y=>
  have e:h.get? a=be (methodObj (.ref f) (.ref y)):=x;show h'.get? a=be (methodObj (.ref f) (.ref y));exact k a _ (.inl rfl) e
 |ext φ=>let#[p,#[o,e],st]:=x;exact#[st _ _ p λo q=>k _ _ (.inl rfl) q,#[o,k _ _ (.inl rfl) e],st]
def HOk.lt(x:HOk P w H h)(e:H a=be o):a<h.objs.size:=(x a o e).lt
def HOk.fresh(x:HOk P w H h)(e:h.objs.size<=a):H a=none:=by
 cases q:H a with
 |none=>rfl
 |some u=>exact absurd (IG (x.lt q) e) (Jv _)
def HOk.kept(x:HOk P w H h)(k:∀b u,h.get? b=be u->h'.get? b=be u):HOk P w H h':=λa o e=>
 (x a o e).stay (λb u _ q=>k b u q) (λ_ q=>q) λ_ _ q=>q
def HOk.laid(x:HOk P w H h)(k:∀b u,h.get? b=be u->h'.get? b=be u)(hp:h.objs.size<=a)(new:ObjOk P w (upd H a o) h' a o):HOk P w (upd H a o) h':=λb u e=>by
 have hn:=x.fresh hp;by_cases hb:b=a
 .subst hb;rw[aC]at e;cases e;exact new
 .rw[ar hb]at e;exact(x b u e).stay (λc v _ q=>k c v q) (λc q=>by rw[ar (bM q hn)];exact q) λc xs q=>by rw[ar (bM q hn)];exact q
end
def Rd(H:Hp)(a:Pi)(u:HO):Prop:=H a=be u\/∃o,H a=be (.frz o u)
variable{P:VU}{w:VX}{h:Heap}
def Rd.ok{u:HO}(r:Rd H a u)(x:HOk P w H h):ObjOk P w H h a u:=by
 rcases r with r|⟨o,r⟩
 .exact x a u r
 .let#[_,q]:=x a _ r;exact q
def Mut:Option HO->Prop
 |some (.lst _)=>True
 |some (.dK _)=>True
 |some (.dT _)=>True
 |some (.set _ _)=>True
 |some (.ins _ _ _)=>True
 |some (.ext _)=>True
 |_=>False
section
variable {P:VU}{w:VX}{H:Hp}{h h':Heap}{x e:Pi}{o':HO}
def HOk.write(ok:HOk P w H h)(mu:Mut (H x))(he:e=x\/H e=be (.own x))(k:∀b u,b≠e->h.get? b=be u->h'.get? b=be u)(Md:∃u,h'.get? e=be u)
  (new:ObjOk P w (upd H x o') h' x o'):HOk P w (upd H x o') h':=λb u q=>by
 have nown:∀c y,H c=be (.own y)->c≠x:=λc y r z=>by subst z;rw[r]at mu;exact mu
 have PU:∀c xs,H c=be (.tup xs)->c≠x:=λc xs r z=>by subst z;rw[r]at mu;exact mu
 by_cases hb:b=x
 .subst hb;rw[aC]at q;cases q;exact new
 .rw[ar hb]at q;by_cases Ng:b=e
  .have q':H b=be (.own x):=by
    rcases he with z|z
    .exact absurd (Ng.trans z) hb
    .rw[Ng];exact z
   rw[q]at q';cases q';let#[v,hv]:=Md;exact#[v,by rw[Ng];exact hv]
  .refine(ok b u q).stay (λc v hc r=>k c v ?_ r) (λc r=>by rw[ar (nown c b r)];exact r) λc xs r=>by rw[ar (PU c xs r)];exact r
   rcases hc with rfl|hc
   .exact Ng
   .rintro rfl;rcases he with z|z
    .exact nown c b hc z
    .rw[hc]at z;cases z;exact hb rfl
end
structure Un(fs ex:List Pi)(H H':Hp)(h h':Heap):Prop where
 keep:∀b o,h.get? b=be o->H b=z6->b∉fs->b∉ex->h'.get? b=be o
 slot:∀b o,h.get? b=be o->H b=z6->b∈fs->b∉ex->∃sl,h'.get? b=be {o with slots:=sl}
 free:∀b o,h.get? b=be o->H b=z6->b∉ex->H' b=z6
 there:∀b o,h.get? b=be o->b∉ex->∃o',h'.get? b=be o'
 tups:∀b xs,H b=be (.tup xs)->H' b=be (.tup xs)
 frzs:∀b o u,H b=be (.frz o u)->H' b=be (.frz o u)
 tbls:∀b ps,H b=be (.tbl ps)->∃more,H' b=be (.tbl (ps++more))
section
variable {fs m8 ex Sj:List Pi}{H H1 H2:Hp}{h h1 h2 h':Heap}{a x e:Pi}{o:HO}
def Un.any(u:Un fs ex H H1 h h1){b:Pi}{ob:Wa}(q:h.get? b=be ob)(n:H b=z6)(hx:b∉ex):∃sl,h1.get? b=be {ob with slots:=sl}:=by
 by_cases hb:b∈fs
 .exact u.slot b ob q n hb hx
 .exact#[ob.slots,u.keep b ob q n hb hx]
def Un.kept(k:∀b u,h.get? b=be u->h'.get? b=be u):Un fs ex H H h h':=
 #[λb ob q _ _ _=>k b ob q,λb ob q _ _ _=>#[ob.slots,k b ob q],λ_ _ _ n _=>n,λb ob q _=>#[ob,k b ob q],λ_ _ q=>q,λ_ _ _ q=>q,λ_ ps q=>#[[].toArray,by rw[q];simp]]
def Un.refl:Un fs ex H H h h:=Un.kept λ_ _ q=>q
def Un.laid(k:∀b u,h.get? b=be u->h'.get? b=be u)(hp:h.objs.size<=a)(hn:H a=z6):Un fs ex H (upd H a o) h h' where
 keep:=λb u q _ _ _=>k b u q
 slot:=λb u q _ _ _=>#[u.slots,k b u q]
 free:=λb u q n _=>by rw[ar (Iv (IG (Heap.lt_size q) hp))];exact n
 there:=λb u q _=>#[u,k b u q]
 tups:=λb xs q=>by rw[ar (bM q hn)];exact q
 frzs:=λb u xs q=>by rw[ar (bM q hn)];exact q
 tbls:=λb ps q=>#[[].toArray,by rw[ar (bM q hn),q];simp]
def Un.write(mu:Mut (H x))(he:e=x\/H e=be (.own x))(k:∀b u,b≠e->h.get? b=be u->h'.get? b=be u)(Md:∃u,h'.get? e=be u):Un fs ex H (upd H x o) h h':=by
 have hx:∀b,H b=z6->b≠x:=λb n z=>by subst z;rw[n]at mu;exact mu
 have hb:∀b,H b=z6->b≠e:=λb n z=>by
  subst z;rcases he with r|r
  .exact hx b n r
  .rw[n]at r;cases r
 have hm:∀b u,H b=be u->¬Mut (be u)->b≠x:=λb u q nm z=>by subst z;rw[q]at mu;exact nm mu
 refine⟨λb u q n _ _=>k b u (hb b n) q,λb u q n _ _=>#[u.slots,k b u (hb b n) q],λb u q n _=>by rw[ar (hx b n)];exact n,λb u q _=>?_,
  λb xs q=>by rw[ar (hm b _ q λz=>z)];exact q,λb u xs q=>by rw[ar (hm b _ q λz=>z)];exact q,λb ps q=>#[[].toArray,by rw[ar (hm b _ q λz=>z),q];simp]⟩
 by_cases Ng:b=e
 .subst Ng;exact Md
 .exact#[u,k b u Ng q]
end
def trk(h:Heap)(H:Hp):List Pi:=(Il h.objs.size).filter λa=>(H a).isSome
def hidT(h:Heap)(H:Hp):Heap:=hideAll h (trk h H)
def xG(h:Heap)(H:Hp):(hidT h H).objs.size=h.objs.size:=hideAll_size _ _
def xH{o:Wa}(e:h.get? b=be o)(n:H b=z6):(hidT h H).get? b=be o:=
 hideAll_get _ e λhm=>by
  have q:(H b).isSome=true:=(K1.mp hm).2;rw[n]at q;simp at q
def xI{o:Wa}(e:(hidT h H).get? b=be o):h.get? b=be o/\H b=none:=by
 have e':h.get? b=be o:=of_hideAll (trk h H) e;refine#[e',?_];cases q:H b with
 |none=>rfl
 |some x=>
  have hm:b∈trk h H:=K1.mpr #[List.mem_range.mpr (Heap.lt_size e'),by simp[q]];have z:(hidT h H).get? b=none:=hideAll_none (trk h H) hm;rw[z]at e;cases e
structure Mod(K:Ex)(mg:Str->Option Os)(base:Heap):Prop where
 kin:K.In base
 glob:base.Ns SL mg
 blt:∃mb,base.Ns XI mb/\∀x:Mr,x≠"__name__"->mb x=V_ x
 nolimit:base.NoLimit
structure Cx where
 prog:VU
 w:VX
 K:Ex
 mg:Mr->Option Os
 base:Heap
 A:VY
 N:List Mr
 s₀:SB
 H₀:Hp
 env:WD
 outer:List WD
 stack:List WD
 ex:List Pi
 fn:Mr->Bool
 calm:Bool
 pn:List (Pi×Wa)
 xe:Os->SB->Prop
abbrev zSE(X:Cx)(e:VV)(es:List VV):Prop:=VZ (e::es) X.env=(false,V3 e X.env)::VZ es X.env
abbrev zPL(X:Cx)(p:V4)(es:List VV):Prop:=(WK p (VZ es X.env)).any (·.1)=false
abbrev zHF(X:Cx)(p:V4)(es:List VV):Prop:=((WK p (VZ es X.env)).all (λx=>!x.1)&&(W0 p (WI [] X.env)).all (λx=>x.1.isSome)&&decide (es.length+([]:List XW).length+(if([]:List XW).isEmpty then 0 else 1)<30))=true
abbrev zFN(X:Cx)(x:Mr):Prop:=X.fn x=true\/X.env.scope.names.lookup x=be .local
abbrev zND(x:Mr):Prop:=(x==("__debug__":Mr))=false
abbrev zNC(x:Mr):Prop:=(x==("__classdict__":Mr))=false
abbrev zFS(X:Cx)(e:VV)(y:Os):Prop:=XS e X.env y=pure y
def frs(l:List WD):List Pi:=l.filterMap (·.frame)
abbrev Cx.fs(X:Cx):List Pi:=frs X.outer
def Vis(sc:Wl)(x:Mr):Prop:=sc.names.lookup x=be .local\/sc.names.lookup x=be .cell\/sc.names.lookup x=be .free
def Loc(sc:Wl)(x:Mr):Prop:=sc.names.lookup x=be .local\/sc.names.lookup x=be .cell
def Look(env:WD)(h:Heap)(m:Mr->Option Os)(x:Mr)(u:Os):Prop:=
 (env.kindOf x=be .local/\m x=be u)\/((env.kindOf x=be .cell\/env.kindOf x=be .free)/\∃c,env.cells.lookup x=be c/\h.IsCell c (be u))
structure Cx.Ok(X:Cx):Prop where
 mod:Mod X.K X.mg X.base
 kind:X.env.scope.kind=.function
 glob:X.env.globals=SL
 blt:X.env.builtins=XI
 above:X.s₀.heap.objs.size<=X.env.locals
 inj:∀x y c,X.env.cells.lookup x=be c->X.env.cells.lookup y=be c->x=y
 has:∀x,(X.env.kindOf x=be .cell\/X.env.kindOf x=be .free)->∃c,X.env.cells.lookup x=be c
 cab:∀x c,X.fn x=true->X.env.cells.lookup x=be c->X.s₀.heap.objs.size<=c
 hd:X.calm=true->X.A.handled=z6
 frames:X.A.frames=be X.stack
 stk:X.stack=X.outer\/(X.stack=X.env::X.outer/\X.env.frame=be X.env.locals)
 exf:∀b∈X.ex,b≠X.env.locals/\∀x c,X.env.cells.lookup x=be c->c≠b
 bs:∀b o,X.base.get? b=be o->X.s₀.heap.get? b=be o/\X.H₀ b=z6
 bsz:X.base.objs.size<=X.s₀.heap.objs.size
 noex:∀b o,X.base.get? b=be o->b∉X.ex
 exfs:∀b∈X.ex,b∉X.fs
 funs:X.s₀.heap.FunFrames X.base X.outer
 frf:∀b∈X.fs,X.H₀ b=z6
structure Inv(X:Cx)(pins:List (Pi×Wa))(σ:List (Option V))(H:Hp)(s:SB):Prop where
 ok:X.Ok
 os:s.os=X.s₀.os
 bare:WJ s.gens
 base:Un X.fs X.ex X.H₀ H X.s₀.heap s.heap
 loc:∃m,s.heap.Ns X.env.locals m/\∀(i:Nat) (x:Mr) (v:V),X.N[i]?=be x->σ[i]?=be (be v)->Vis X.env.scope x->∃u,RelV v u/\Look X.env s.heap m x u
 cell:∀x c,X.env.cells.lookup x=be c->∃v,s.heap.IsCell c v
 free:H X.env.locals=z6
 freeC:∀x c,X.env.cells.lookup x=be c->H c=z6
 pin:∀p∈X.pn++pins,s.heap.get? p.1=be p.2/\H p.1=z6/\p.1≠X.env.locals/\p.1∉X.fs/\∀v,p.2.data≠.cell v
 hok:HOk X.prog X.w H s.heap
 len:σ.length=X.N.length
section
variable {X:Cx}{pins:List (Pi×Wa)}{σ:List (Option V)}{H H':Hp}{s:SB}{h':Heap}
def Cx.Ok.nofr(ok:X.Ok){b:Pi}{o:Wa}(e:X.base.get? b=be o):b∉X.fs:=λhb=>by
 have:=(ok.funs.mem hb).1;rw[e]at this;cases this
def Inv.bs(I:Inv X pins σ H s):∀b o,X.base.get? b=be o->s.heap.get? b=be o/\H b=none:=λb o e=>
 #[I.base.keep b o (I.ok.bs b o e).1 (I.ok.bs b o e).2 (I.ok.nofr e) (I.ok.noex b o e),I.base.free b o (I.ok.bs b o e).1 (I.ok.bs b o e).2 (I.ok.noex b o e)]
def Inv.bk(I:Inv X pins σ H s):∀b o,X.base.get? b=be o->s.heap.get? b=be o:=λb o e=>(I.bs b o e).1
def Inv.mod(I:Inv X pins σ H s):Mod X.K X.mg X.base:=I.ok.mod
def Inv.kIn(I:Inv X pins σ H s):X.K.In s.heap:=I.ok.mod.kin.keeps I.bk
def Inv.lt(I:Inv X pins σ H s):X.env.locals<s.heap.objs.size:=let ⟨_,hn,_⟩:=I.loc;hn.lt
def Inv.sz(I:Inv X pins σ H s):X.s₀.heap.objs.size<=s.heap.objs.size:=Io I.ok.above (J9 I.lt)
def Inv.nofs(I:Inv X pins σ H s){a:Pi}(h:s.heap.objs.size<=a):a∉X.fs:=λhb=>by
 let#[_,o,ho,_]:=I.ok.funs.mem hb;exact absurd (IG (Heap.lt_size ho) (Io I.sz h)) (Jv _)
def Inv.cne(I:Inv X pins σ H s):∀x c,X.env.cells.lookup x=be c->c≠X.env.locals:=λx c e z=>by
 let#[v,o,ho,hd]:=I.cell x c e;let#[m,#[o',es,ep,Nh,f9,_],_]:=I.loc;rw[z,Nh]at ho;cases ho;rw[f9]at hd;cases hd
def Inv.funs(I:Inv X pins σ H s):s.heap.FunFrames X.base X.outer:=by
 have all:∀(l:List WD),(∀b∈frs l,b∈X.fs)->X.s₀.heap.FunFrames X.base l->s.heap.FunFrames X.base l:=by
  intro l;induction l with
  |nil=>intro _ _;trivial
  |cons env r ih=>
   intro hs hl;let#[hk,#[L,o,hf,hn,ho,hd],hr]:=hl;have hL:L∈X.fs:=hs L (by unfold frs;rw[Ka,hf];exact Ip);let#[sl,e]:=I.base.slot L o ho (I.ok.frf L hL) hL λz=>I.ok.exfs L z hL;exact#[hk,#[L,_,hf,hn,e,hd],ih (λb hb=>hs b (by unfold frs;rw[Ka,hf];exact Im _ hb)) hr]
 exact all X.outer (λ_ hb=>hb) I.ok.funs
def Inv.stack(I:Inv X pins σ H s):s.heap.FunFrames X.base X.stack:=by
 rcases I.ok.stk with e|⟨e,hf⟩
 .rw[e];exact I.funs
 .rw[e];let#[m,hn,_]:=I.loc;refine .cons (by rw[I.ok.kind];decide) hf hn ?_ I.funs;exact Heap.get?_none_of_le (Io I.ok.bsz I.ok.above)
def Inv.stkSub(I:Inv X pins σ H s):∀b∈frs X.stack,b∈X.env.locals::X.fs:=λb hb=>by
 rcases I.ok.stk with e|⟨e,hf⟩
 .rw[e]at hb;exact Im _ hb
 .rw[e]at hb;unfold frs at hb;rw[Ka,hf]at hb;exact hb
def Inv.stkFree(I:Inv X pins σ H s):∀b∈frs X.stack,H b=none:=λb hb=>by
 rcases Ik.mp (I.stkSub b hb)with e|hb
 .rw[e];exact I.free
 .let#[_,o,ho,_]:=I.ok.funs.mem hb;exact I.base.free b o ho (I.ok.frf b hb) λz=>I.ok.exfs b z hb
variable{g':Array Xy}{ch:List Pi}
def Inv.step{t':Nat}{d':Drawn}(I:Inv X pins σ H s)
  (Me:∀b∈ch,(b∈X.ex\/X.s₀.heap.objs.size<=b)/\b≠X.env.locals/\(∀x c,X.env.cells.lookup x=be c->c≠b)/\∀p∈X.pn++pins,p.1≠b)
  (keep:∀b o,b≠X.env.locals->b∉X.fs->b∉ch->s.heap.get? b=be o->H b=z6->h'.get? b=be o)
  (slot:∀b o,b≠X.env.locals->b∈X.fs->b∉ch->s.heap.get? b=be o->H b=z6->∃sl,h'.get? b=be {o with slots:=sl}) (free:∀b o,b∉ch->s.heap.get? b=be o->H b=z6->H' b=z6)
  (there:∀b o,b∉ch->s.heap.get? b=be o->∃o',h'.get? b=be o')
  (tups:∀b xs,H b=be (.tup xs)->H' b=be (.tup xs)) (frzs:∀b o u,H b=be (.frz o u)->H' b=be (.frz o u)) (tbls:∀b ps,H b=be (.tbl ps)->∃more,H' b=be (.tbl (ps++more)))
  (ns:∀m,s.heap.Ns X.env.locals m->h'.Ns X.env.locals m) (hok:HOk X.prog X.w H' h') (hg:WJ g'):
  Inv X pins σ H' {s with heap:=h',gens:=g',drawn:=d',toks:=t'}:=by
 have Sk:∀b o,X.s₀.heap.get? b=be o->b≠X.env.locals:=λb o e=>Iv (IG (Heap.lt_size e) I.ok.above);have Pj:∀b o,X.s₀.heap.get? b=be o->b∉X.ex->b∉ch:=λb o e hx hb=>by
  rcases(Me b hb).1 with z|z
  .exact hx z
  .exact absurd (IG (Heap.lt_size e) z) (Jv _)
 have n5:∀x c,X.env.cells.lookup x=be c->∀v,s.heap.IsCell c v->h'.IsCell c v:=λx c e v ⟨o,ho,hd⟩=>by
  have Of:c∉ch:=λz=>(Me c z).2.2.1 x c e rfl;by_cases hc:c∈X.fs
  .let#[sl,q]:=slot c o (I.cne x c e) hc Of ho (I.freeC x c e);exact#[_,q,hd]
  .exact#[o,keep c o (I.cne x c e) hc Of ho (I.freeC x c e),hd]
 refine#[I.ok,I.os,hg,#[λb o e n hb hx=>?_,λb o e n hb hx=>?_,λb o e n hx=>?_,λb o e hx=>?_,λb xs e=>tups b xs (I.base.tups b xs e),λb o xs e=>frzs b o xs (I.base.frzs b o xs e),λb ps e=>?_],?_,λx c e=>?_,?_,λx c e=>?_,λp hp=>?_,hok,I.len]
 .exact keep b o (Sk b o e) hb (Pj b o e hx) (I.base.keep b o e n hb hx) (I.base.free b o e n hx)
 .let#[sl,e1]:=I.base.slot b o e n hb hx;let#[y9,e2]:=slot b _ (Sk b o e) hb (Pj b o e hx) e1 (I.base.free b o e n hx);exact#[y9,e2]
 .let#[o',e1]:=I.base.there b o e hx;exact free b o' (Pj b o e hx) e1 (I.base.free b o e n hx)
 .let#[o',e1]:=I.base.there b o e hx;exact there b o' (Pj b o e hx) e1
 .let#[m1,e1]:=I.base.tbls b ps e;let#[m2,e2]:=tbls b _ e1;exact#[m1++m2,by rw[e2,Array.append_assoc]]
 .let#[m,hn,hl]:=I.loc;refine#[m,ns m hn,λi x v e1 e2 e3=>?_];let#[u,r,l]:=hl i x v e1 e2 e3;refine#[u,r,?_];rcases l with l|⟨k,c,e,z⟩
  .exact .inl l
  .exact .inr #[k,c,e,n5 x c e _ z]
 .let#[v,z]:=I.cell x c e;exact#[v,n5 x c e v z]
 .let#[m,#[o,_,_,ho,_],_]:=I.loc;exact free _ o (λz=>(Me _ z).2.1 rfl) ho I.free
 .let#[v,o,ho,hd]:=I.cell x c e;exact free c o (λz=>(Me c z).2.2.1 x c e rfl) ho (I.freeC x c e)
 .let#[e,n,ne,nf,d]:=I.pin p hp;have Of:p.1∉ch:=λz=>(Me p.1 z).2.2.2 p hp rfl;exact#[keep p.1 p.2 ne nf Of e n,free p.1 p.2 Of e n,ne,nf,d]
def Inv.un{t':Nat}(I:Inv X pins σ H s)(u:Un X.fs [] H H' s.heap h')(hok:HOk X.prog X.w H' h'):Inv X pins σ H' {s with heap:=h',toks:=t'}:=by
 let#[m,#[o,es,ep,ho,r],_]:=id I.loc;let#[sl,hL]:=u.any ho I.free Nq;exact I.step (g':=s.gens) (d':=s.drawn) (ch:=[]) (λ_ z=>nomatch z) (λb o _ hb _ e n=>u.keep b o e n hb Nq) (λb o _ hb _ e n=>u.slot b o e n hb Nq) (λb o _ e n=>u.free b o e n Nq) (λb o _ e=>u.there b o e Nq) u.tups u.frzs u.tbls (λm' hm=>by
  let#[o',l5,PV,Nh,r']:=hm;rw[ho]at Nh;cases Nh;exact#[_,l5,PV,hL,r']) hok I.bare
def Inv.call{t':Nat}{d':Drawn}(I:Inv X pins σ H s)(u:Un (frs X.stack) ch H H' s.heap h')(hok:HOk X.prog X.w H' h')(hg:WJ g')
  (Me:∀b∈ch,(b∈X.ex\/X.s₀.heap.objs.size<=b)/\b≠X.env.locals/\(∀x c,X.env.cells.lookup x=be c->c≠b)/\∀p∈X.pn++pins,p.1≠b):
  Inv X pins σ H' {s with heap:=h',gens:=g',drawn:=d',toks:=t'}:=by
 let#[m,#[o,es,ep,ho,r],_]:=id I.loc;let#[sl,hL]:=u.any ho I.free λz=>(Me _ z).2.1 rfl;exact I.step (ch:=ch) Me (λb o hL hb hc e n=>u.keep b o e n (λz=>(Ik.mp (I.stkSub b z)).elim hL hb) hc) (λb o _ _ hc e n=>u.any e n hc) (λb o hc e n=>u.free b o e n hc) (λb o hc e=>u.there b o e hc) u.tups u.frzs u.tbls (λm' hm=>by
  let#[o',l5,PV,Nh,r']:=hm;rw[ho]at Nh;cases Nh;exact#[_,l5,PV,hL,r']) hok hg
def Inv.turned{t':Nat}{it:Pi}(I:Inv X pins σ H s)(k:∀b o,b≠it->s.heap.get? b=be o->h'.get? b=be o)(hn:H it=z6)(hL:it≠X.env.locals)
  (h1:it∈X.ex\/X.s₀.heap.objs.size<=it) (h2:∀x c,X.env.cells.lookup x=be c->c≠it) (h3:∀p∈X.pn++pins,p.1≠it):Inv X pins σ H {s with heap:=h',toks:=t'}:=by
 have Ni:∀b u,H b=be u->b≠it:=λb u e z=>by rw[z,hn]at e;cases e
 refine I.step (g':=s.gens) (d':=s.drawn) (ch:=[it]) (λb hb=>?_) (λb o _ _ hc e _=>k b o (λz=>hc (by simp[z])) e) (λb o _ _ hc e _=>#[o.slots,k b o (λz=>hc (by simp[z])) e]) (λ_ _ _ _ n=>n)
  (λb o hc e=>#[o,k b o (λz=>hc (by simp[z])) e]) (λ_ _ e=>e) (λ_ _ _ e=>e) (λb ps e=>#[[].toArray,by rw[e];simp]) (λm hm=>?_) (λb u e=>?_) I.bare
 .have e:b=it:=by simpa using hb
  subst e;exact#[h1,hL,h2,h3]
 .let#[o,es,ep,ho,r]:=hm;exact#[o,es,ep,k _ o (Ne.symm hL) ho,r]
 .refine(I.hok b u e).stay (λc v hc q=>k c v ?_ q) (λ_ q=>q) λ_ _ q=>q;rcases hc with z|z
  .rw[z];exact Ni b u e
  .exact Ni c _ z
def Inv.tok(I:Inv X pins σ H s)(t:Nat):Inv X pins σ H {s with toks:=t}:=I.un (h':=s.heap) (t':=t) Un.refl I.hok
def Inv.kept{t':Nat}(I:Inv X pins σ H s)(k:∀b u,s.heap.get? b=be u->h'.get? b=be u):Inv X pins σ H {s with heap:=h',toks:=t'}:=I.un (Un.kept k) (I.hok.kept k)
def Inv.laid{a:Pi}{o:HO}{t':Nat}(I:Inv X pins σ H s)(k:∀b u,s.heap.get? b=be u->h'.get? b=be u)(hp:s.heap.objs.size<=a)(new:ObjOk X.prog X.w (upd H a o) h' a o):
  Inv X pins σ (upd H a o) {s with heap:=h',toks:=t'}:=I.un (Un.laid k hp (I.hok.fresh hp)) (I.hok.laid k hp new)
def Inv.write{x e:Pi}{o:HO}{t':Nat}(I:Inv X pins σ H s)(mu:Mut (H x))(he:e=x\/H e=be (.own x))(k:∀b u,b≠e->s.heap.get? b=be u->h'.get? b=be u)(Md:∃u,h'.get? e=be u)
  (new:ObjOk X.prog X.w (upd H x o) h' x o):Inv X pins σ (upd H x o) {s with heap:=h',toks:=t'}:=I.un (Un.write mu he k Md) (I.hok.write mu he k Md new)
def Inv.pins_of{MV:List (Pi×Wa)}(I:Inv X pins σ H s)(h:∀p∈MV,s.heap.get? p.1=be p.2/\H p.1=z6/\p.1≠X.env.locals/\p.1∉X.fs/\∀v,p.2.data≠.cell v):Inv X MV σ H s:=
 #[I.ok,I.os,I.bare,I.base,I.loc,I.cell,I.free,I.freeC,λp hp=>(IK.mp hp).elim (λz=>I.pin p (Jk _ z)) (h p),I.hok,I.len]
variable{x:Mr}{i:Nat}
def ju{N:List Mr}(hN:N.Nodup){j:Nat}(a:N[i]?=be x)(b:N[j]?=be x):i=j:=by
 let#[h1,e1]:=IB.mp a;let#[h2,e2]:=IB.mp b;exact(List.getElem_inj hN).mp (e1.trans e2.symm)
variable{E:Os->SB->Prop}{Q:Unit->SB->Prop}
def qC{M:Xx}{A:VY}{v:V}{u:Os}(I:Inv X pins σ H s)(hN:X.N.Nodup)(hi:X.N[i]?=be x)(hx:Loc X.env.scope x)(r:RelV v u)
  (h:∀s',Inv X pins (σ.set i (be v)) H s'->(∃a,Heap.SameBut a s.heap s'.heap/\(a=X.env.locals\/X.env.cells.lookup x=be a))->Q () s') (hf:zFN X x\zA2):VW M A (storeName X.env x u) Q E s:=by
 let#[m,hn,hl]:=id I.loc;have D_:(X.env.scope.kind== .class||(X.env.scope.kind== .module&&X.env.locals !=X.env.globals))=false:=by rw[I.ok.kind];rfl
 have hiσ:i<σ.length:=by rw[I.len];exact(IB.mp hi).1
 have cne:=I.cne;have g6:∀{a:Pi} {h':Heap},(∃o,s.heap.get? a=be o/\H a=z6)->Heap.SameBut a s.heap h'->HOk X.prog X.w H h':=λ{a h'} ha hs b ob e=>by
  let#[_,_,l7]:=ha;refine(I.hok b ob e).stay (λc w' hc q=>(hs.2 c ?_).trans q) (λ_ q=>q) λ_ _ q=>q;rintro rfl;rcases hc with rfl|hc
  .rw[l7]at e;cases e
  .rw[l7]at hc;cases hc
 rcases hx with hk|hk
 .refine wpAny_storeName_local hk hn (λh' i9 hs=>?_) D_;let#[oL,_,_,Sl,_]:=id hn;refine h _ #[I.ok,I.os,I.bare,#[λb o e n hb hx=>?_,λb o e n hb hx=>?_,I.base.free,λb o e hx=>?_,I.base.tups,I.base.frzs,I.base.tbls],#[_,i9,λj y v' e1 e2 e3=>?_],λy c e=>?_,I.free,I.freeC,λp hp=>?_,g6 #[oL,Sl,I.free] hs,by simpa using I.len] #[_,hs,.inl rfl]
  .exact(hs.2 b (Iv (IG (Heap.lt_size e) I.ok.above))).trans (I.base.keep b o e n hb hx)
  .let#[sl,e1]:=I.base.slot b o e n hb hx;exact#[sl,(hs.2 b (Iv (IG (Heap.lt_size e) I.ok.above))).trans e1]
  .let#[o',e1]:=I.base.there b o e hx;exact#[o',(hs.2 b (Iv (IG (Heap.lt_size e) I.ok.above))).trans e1]
  .by_cases hj:j=i
   .subst hj;rw[hi]at e1;cases e1;rw[IZ hiσ]at e2;cases e2;exact#[u,r,.inl #[hk,Nq]]
   .rw[Iz (Ne.symm hj)]at e2;let#[u',r',q]:=hl j y v' e1 e2 e3;refine#[u',r',?_];rcases q with⟨k,e⟩|⟨k,c,e,z⟩
    .refine .inl #[k,?_];have:y≠x:=λe=>hj (ju hN e1 (e ▸ hi));simp[this,e]
    .exact .inr #[k,c,e,z.sameBut hs (cne y c e)]
  .let#[w',z]:=I.cell y c e;exact#[w',z.sameBut hs (cne y c e)]
  .let#[e,n,ne,nf,d]:=I.pin p hp;exact#[(hs.2 p.1 ne).trans e,n,ne,nf,d]
 .have Og:X.fn x=true:=by
   rcases hf with z|z
   .exact z
   .rw[z]at hk;cases hk
  let#[c,hc]:=I.ok.has x (.inl hk);let#[w',z]:=I.cell x c hc;refine wpAny_storeName_cell I.ok.kind hk hc z (λh' Mn hs=>?_);let#[oc,Sm,PX]:=id z;refine h {s with heap:=h'} #[I.ok,I.os,I.bare,#[λb o e n hb hx=>?_,λb o e n hb hx=>?_,I.base.free,λb o e hx=>?_,I.base.tups,I.base.frzs,I.base.tbls],#[m,hn.sameBut hs (Ne.symm (cne x c hc)),λj y v' e1 e2 e3=>?_],λy c' e=>?_,I.free,I.freeC,λp hp=>?_,g6 #[oc,Sm,I.freeC x c hc] hs,by simpa using I.len] #[c,hs,.inr hc]
  .exact(hs.2 b (Iv (IG (Heap.lt_size e) (I.ok.cab x c Og hc)))).trans (I.base.keep b o e n hb hx)
  .let#[sl,e1]:=I.base.slot b o e n hb hx;exact#[sl,(hs.2 b (Iv (IG (Heap.lt_size e) (I.ok.cab x c Og hc)))).trans e1]
  .let#[o',e1]:=I.base.there b o e hx;exact#[o',(hs.2 b (Iv (IG (Heap.lt_size e) (I.ok.cab x c Og hc)))).trans e1]
  .by_cases hj:j=i
   .subst hj;rw[hi]at e1;cases e1;rw[IZ hiσ]at e2;cases e2;exact#[u,r,.inr #[.inl hk,c,hc,Mn]]
   .rw[Iz (Ne.symm hj)]at e2;let#[u',r',q]:=hl j y v' e1 e2 e3;refine#[u',r',?_];rcases q with q|⟨k,c',e,z'⟩
    .exact .inl q
    .refine .inr #[k,c',e,z'.sameBut hs ?_];rintro rfl;exact hj (ju hN e1 (I.ok.inj _ _ _ e hc ▸ hi))
  .by_cases Sn:c'=c
   .subst Sn;exact#[_,Mn]
   .let#[w2,z2]:=I.cell y c' e;exact#[w2,z2.sameBut hs Sn]
  .let#[e,n,ne,nf,d]:=I.pin p hp;refine#[(hs.2 p.1 ?_).trans e,n,ne,nf,d];intro q;rw[q,Sm]at e;have q':oc=p.2:=Option.some.inj e;exact d w' (by rw[<-q'];exact PX)
def eJ{M:Xx}{A:VY}{v:V}{u:Os}(I:Inv X pins σ H s)(hN:X.N.Nodup)(hi:X.N[i]?=be x)(hx:Loc X.env.scope x)(r:RelV v u)
  (h:∀s',Inv X pins (σ.set i (be v)) H s'->Q () s') (hf:zFN X x\zA2):VW M A (storeName X.env x u) Q E s:=
 qC I hN hi hx r (λs' I' _=>h s' I') hf
def Inv.call'{s':SB}(I:Inv X pins σ H s)(ho:s'.os=s.os)(u:Un (frs X.stack) ch H H' s.heap s'.heap)(hok:HOk X.prog X.w H' s'.heap)(hg:WJ s'.gens)
  (Me:∀b∈ch,(b∈X.ex\/X.s₀.heap.objs.size<=b)/\b≠X.env.locals/\(∀x c,X.env.cells.lookup x=be c->c≠b)/\∀p∈X.pn++pins,p.1≠b):Inv X pins σ H' s':=by
 let#[h',g',d',t',o']:=s';have e:o'=s.os:=ho;subst e;exact I.call (g':=g') (t':=t') (d':=d') u hok hg Me
end
abbrev XK:=Os->Option Pi->Hp->Prop
abbrev St:=List (Option V)
abbrev VK:=V->Hp->Prop
abbrev TE:=St->Hp->VK->Prop
abbrev TT:=St->Hp->(Bool->Hp->Prop)->Prop
abbrev TA:=St->Hp->(List V->Hp->Prop)->Prop
structure Ends where
 nx:St->Hp->Prop
 rt:VK
 bk:St->Hp->Prop:=λ_ _=>False
 ct:St->Hp->Prop:=λ_ _=>False
abbrev TS:=Ends->St->Hp->Prop
def EP(X:Cx)(pins:List (Pi×Wa))(σ:St)(Q:VK)(u:Os)(s':SB):Prop:=∃v H',Inv X pins σ H' s'/\RelV v u/\Q v H'
def TP(X:Cx)(pins:List (Pi×Wa))(σ:St)(Q:Bool->Hp->Prop)(b:Bool)(s':SB):Prop:=∃H',Inv X pins σ H' s'/\Q b H'
def AP(X:Cx)(pins:List (Pi×Wa))(σ:St)(Q:List V->Hp->Prop)(us:List Os)(s':SB):Prop:=∃vs H',Inv X pins σ H' s'/\Vals vs us/\Q vs H'
def SP(X:Cx)(pins:List (Pi×Wa))(D:Ends)(f:Flow)(s':SB):Prop:=
 match f with
 |.next=>∃σ' H',Inv X pins σ' H' s'/\D.nx σ' H'
 |.brk=>∃σ' H',Inv X pins σ' H' s'/\D.bk σ' H'
 |.cont=>∃σ' H',Inv X pins σ' H' s'/\D.ct σ' H'
 |.ret u=>∃v σ' H',Inv X pins σ' H' s'/\RelV v u/\D.rt v H'
def PE(X:Cx)(e:VV)(t:TE):Prop:=
 ∀(pins:List (Pi×Wa)) (s:SB) (σ:St) (H:Hp) (Q:VK),Inv X pins σ H s->t σ H Q->VW (VT X.prog X.w) X.A (V3 e X.env) (EP X pins σ Q) X.xe s
def PT(X:Cx)(e:VV)(t:TT):Prop:=
 ∀(pins:List (Pi×Wa)) (s:SB) (σ:St) (H:Hp) (Q:Bool->Hp->Prop),Inv X pins σ H s->t σ H Q->VW (VT X.prog X.w) X.A (isTrue e X.env (V3 e X.env)) (TP X pins σ Q) X.xe s
def PW(X:Cx)(e:VV)(t:TT):Prop:=
 ∀(gt:Xq Os) (pins:List (Pi×Wa)) (s:SB) (σ:St) (H:Hp) (Q:Bool->Hp->Prop),Inv X pins σ H s->t σ H Q->VW (VT X.prog X.w) X.A (isTrue e X.env gt) (TP X pins σ Q) X.xe s
variable{X:Cx}
def PW.pt{e:VV}{t:TT}(h:PW X e t):PT X e t:=h _
def PA(X:Cx)(es:List VV)(t:TA):Prop:=
 ∀(pos:V4) (pins:List (Pi×Wa)) (s:SB) (σ:St) (H:Hp) (Q:List V->Hp->Prop),Inv X pins σ H s->t σ H Q->VW (VT X.prog X.w) X.A (spliced (WK pos (VZ es X.env))) (AP X pins σ Q) X.xe s
def PS(X:Cx)(st:VS)(t:TS):Prop:=
 ∀(pins:List (Pi×Wa)) (s:SB) (σ:St) (H:Hp) (D:Ends),Inv X pins σ H s->t D σ H->VW (VT X.prog X.w) X.A (exec st X.env) (SP X pins D) X.xe s
def PSs(X:Cx)(st:List VS)(t:TS):Prop:=
 ∀(pins:List (Pi×Wa)) (s:SB) (σ:St) (H:Hp) (D:Ends),Inv X pins σ H s->t D σ H->VW (VT X.prog X.w) X.A (execs st X.env) (SP X pins D) X.xe s
variable{A:VY}{E:Os->SB->Prop}{s:SB}
def thn{α:Type}{t:Xq α}{Q Q':α->SB->Prop}{M:Xx}(h:VW M A t Q E s)(hQ:∀a s,Q a s->Q' a s):VW M A t Q' E s:=V9 h hQ λ_ _ x=>x
section
variable {X:Cx}
def tVar(i:Nat):TE:=λσ H Q=>∃v,σ[i]?=be (be v)/\Q v H
def tC(v:V):TE:=λ_ H Q=>Q v H
variable{x:Mr}{pos:V4}
def cN{i:Nat}(hN:X.N[i]?=be x)(hv:Vis X.env.scope x)(hd:zND x\zA1)(g7:zNC x\zA1):PE X (.Name x pos) (tVar i):=by
 intro pins s σ H Q I h;let#[v,e,h]:=h;let#[m,hn,hl]:=I.loc;let#[u,r,l]:=hl i x v hN e hv;have e_:EP X pins σ Q u s:=#[v,H,I,r,h];rcases l with⟨hk,hm⟩|⟨hk,c,hc,n6⟩
 .exact XE (wpAny_loadName_local I.ok.kind hk hn hm e_) hd
 .rcases hk with hk|hk
  .exact XE (wpAny_loadName_cell I.ok.kind hk hc n6 e_) hd
  .exact XE (wpAny_loadName_free I.ok.kind hk hc n6 e_ g7) hd
def xJ{i j pos}:PE X (.Constant (.int i) j pos) (tC (.int i)):=λ_ _ _ H _ I h=>wpAny_Constant_int #[.int i,H,I.tok _,#[_,rfl],h]
def xK{b j pos}:PE X (.Constant (.bool b) j pos) (tC (.bl b)):=λ_ _ _ H _ I h=>Constant_bool #[.bl b,H,I,rfl,h]
def xL{j pos}:PE X (.Constant .none j pos) (tC .non):=λ_ _ _ H _ I h=>Constant_none #[.non,H,I,rfl,h]
def qD{x j pos}:PE X (.Constant (.str x) j pos) (tC (.str x)):=λ_ _ _ H _ I h=>Calls.Constant_str #[.str x,H,I.tok _,#[_,rfl],h]
def Gl(X:Cx)(x:Mr):Prop:=X.env.kindOf x=be .globalImplicit
variable{E Q:Os->SB->Prop}{pins:List (Pi×Wa)}{u:Os}
def cz{s:SB}{σ:St}{H:Hp}(I:Inv X pins σ H s)(hg:Gl X x)(hm:X.mg x=be u)(h:Q u s)
  (hd:zND x\zA1):VW (VT X.prog X.w) X.A (V3 (.Name x pos) X.env) Q E s:=
 Calls.Name_function_global I.ok.kind hg (Calls.loadGlobal_global (by rw[I.ok.glob];exact I.mod.glob.keeps I.bk) hm h) hd
def dN{s:SB}{σ:St}{H:Hp}(I:Inv X pins σ H s)(hg:Gl X x)(hm:X.mg x=z6)(hv:V_ x=be u)(h:Q u s)
  (hn:(x≠"__name__")\zA1) (hd:zND x\zA1):VW (VT X.prog X.w) X.A (V3 (.Name x pos) X.env) Q E s:=by
 let#[mb,h1,h2]:=I.mod.blt;exact Calls.Name_function_global I.ok.kind hg (Calls.loadGlobal_builtin (by rw[I.ok.glob];exact I.mod.glob.keeps I.bk) hm (by rw[I.ok.blt];exact h1.keeps I.bk) ((h2 x hn).trans hv) h) hd
def xM{v:V}(hg:Gl X x)(hm:X.mg x=be u)(r:RelV v u)(hd:zND x\zA1):PE X (.Name x pos) (tC v):=
 λ_ _ _ H _ I h=>cz I hg hm #[v,H,I,r,h] hd
def qE{v:V}(hg:Gl X x)(hm:X.mg x=z6)(hv:V_ x=be u)(r:RelV v u)(hn:(x≠"__name__")\zA1)(hd:zND x\zA1):PE X (.Name x pos) (tC v):=
 λ_ _ _ H _ I h=>dN I hg hm hv #[v,H,I,r,h] hn hd
variable {a b:VV}{ta tb:TE}{pos:V4}
variable {tA Mo:TT}{rest:List VV}
def tAnd(t u:TT):TT:=λσ H Q=>t σ H λc H1=>if c=true then u σ H1 Q else Q false H1
def tOr(t u:TT):TT:=λσ H Q=>t σ H λc H1=>if c=true then Q true H1 else u σ H1 Q
def tNot(t:TT):TT:=λσ H Q=>t σ H λc H1=>Q (!c) H1
def qF(ha:PT X a tA):PW X (.BoolOp .And [a] pos) tA:=by
 intro wh pins s σ H Q I h;refine isTrue_and (thn (ha pins s σ H Q I h) λc s1 e=>?_);cases c with
 |true=>exact isTrue_and_nil e
 |false=>exact e
def qG(ha:PT X a tA):PW X (.BoolOp .Or [a] pos) tA:=by
 intro wh pins s σ H Q I h;refine isTrue_or (thn (ha pins s σ H Q I h) λc s1 e=>?_);cases c with
 |false=>exact isTrue_or_nil e
 |true=>exact e
def qH(ha:PT X a tA)(hb:PW X (.BoolOp .And (b::rest) pos) Mo):PW X (.BoolOp .And (a::b::rest) pos) (tAnd tA Mo):=by
 intro wh pins s σ H Q I h;refine isTrue_and (thn (ha pins s σ H _ I h) λc s1 c7=>?_);let#[H1,I1,q1]:=c7;cases c with
 |true=>exact hb wh pins s1 σ H1 Q I1 q1
 |false=>exact#[H1,I1,q1]
def qI(ha:PT X a tA)(hb:PW X (.BoolOp .Or (b::rest) pos) Mo):PW X (.BoolOp .Or (a::b::rest) pos) (tOr tA Mo):=by
 intro wh pins s σ H Q I h;refine isTrue_or (thn (ha pins s σ H _ I h) λc s1 c7=>?_);let#[H1,I1,q1]:=c7;cases c with
 |true=>exact#[H1,I1,q1]
 |false=>exact hb wh pins s1 σ H1 Q I1 q1
def qJ(ha:PT X a tA):PT X (.UnaryOp .Not a pos) (tNot tA):=by
 intro pins s σ H Q I h;exact isTrue_not (ha pins s σ H (λc H1=>Q (!c) H1) I h)
def xN(ta tb:TE):TE:=λσ H Q=>ta σ H λx H1=>∃c,x=.bl c/\if c=true then tb σ H1 Q else Q (.bl false) H1
def xO(ta:TE):TE:=λσ H Q=>ta σ H λx H1=>∃c,x=.bl c/\Q (.bl (!c)) H1
def xP{op}{t:TE}(h:PE X a t):PE X (.BoolOp op [a] pos) t:=λpins s σ H Q I hw=>BoolOp_one (h pins s σ H Q I hw)
def xQ(ha:PE X a ta)(hb:PE X (.BoolOp .And (b::rest) pos) tb):PE X (.BoolOp .And (a::b::rest) pos) (xN ta tb):=by
 intro pins s σ H Q I h;refine BoolOp_and (thn (ha pins s σ H _ I h) λv s1 c7=>?_);let#[x,H1,I1,r1,q1]:=c7;let#[c,rfl,q1]:=q1;cases r1;refine WE ?_;cases c with
 |true=>exact hb pins s1 σ H1 Q I1 q1
 |false=>exact#[.bl false,H1,I1,rfl,q1]
def xR(ha:PE X a ta):PE X (.UnaryOp .Not a pos) (xO ta):=by
 intro pins s σ H Q I h;refine UnaryOp_ (thn (ha pins s σ H _ I h) λv s1 c7=>?_);let#[x,H1,I1,r1,q1]:=c7;let#[c,rfl,q1]:=q1;cases r1;exact not_of (WE #[.bl (!c),H1,I1,rfl,q1])
def tIf(t:TT)(ta tb:TE):TE:=λσ H Q=>t σ H λc H1=>if c=true then ta σ H1 Q else tb σ H1 Q
def xS{c:VV}(hc:PT X c tA)(ha:PE X a ta)(hb:PE X b tb):PE X (.IfExp c a b pos) (tIf tA ta tb):=by
 intro pins s σ H Q I h;refine wpAny_IfExp (thn (hc pins s σ H _ I h) λd s1 c7=>?_);let#[H1,I1,q1]:=c7;cases d with
 |true=>exact ha pins s1 σ H1 Q I1 q1
 |false=>exact hb pins s1 σ H1 Q I1 q1
end
def SqL(K:Ex)(H:Hp)(a:Pi)(xs:List V):Prop:=
 Rd H a (.lst xs)\/
  ∃(o:Wa) (its:Array Os) (n:Nat),K.lookup a=be o/\o.cls=.type "list"/\o.dict=z6/\o.data=.seq its n/\its.size<=sizeLine/\Vals xs its.toList
def SqT(K:Ex)(H:Hp)(a:Pi)(xs:List V):Prop:=
 Rd H a (.tup xs)\/
  ∃(o:Wa) (its:Array Os) (n:Nat),K.lookup a=be o/\o.cls=.type "tuple"/\o.data=.seq its n/\its.size<=sizeLine/\Vals xs its.toList
def absV:Os->Option V
 |.none=>be .non
 |.bool b=>be (.bl b)
 |.int i _=>be (.int i)
 |.str x _=>be (.str x)
 |.bytes b _=>be (.byt b)
 |.float b _=>be (.flt b)
 |.ref a=>be (.ref a)
 |.type n=>be (.ty n)
 |_=>z6
variable{u:Os}
def RelV.abs{x:V}(r:RelV x u):absV u=be x:=by
 cases x with
 |non=>cases r;rfl
 |bl _=>cases r;rfl
 |int _=>let#[t,rfl]:=r;rfl
 |str _=>let#[t,rfl]:=r;rfl
 |byt _=>let#[t,rfl]:=r;rfl
 |flt _=>let#[t,rfl]:=r;rfl
 |ref _=>cases r;rfl
 |ty _=>cases r;rfl
def RelV.inj{x y:V}(r:RelV x u)(q:RelV y u):x=y:=Option.some.inj (r.abs.symm.trans q.abs)
def Vals.inj:∀{xs ys:List V} {us:List Os},Vals xs us->Vals ys us->xs=ys:=by
 intro xs ys us h;induction h generalizing ys with
 |nil=>intro g;cases g;rfl
 |cons r _ e=>
  intro g;cases g with
  |cons r' t'=>rw[r.inj r',e t']
section
variable {X:Cx}{pins:List (Pi×Wa)}{σ:St}{H:Hp}{s:SB}{a:Pi}{xs ys:List V}
def SqL.of{K:Ex}(h:H a=be (.lst xs)):SqL K H a xs:=.inl (.inl h)
def SqT.of{K:Ex}(h:H a=be (.tup xs)):SqT K H a xs:=.inl (.inl h)
def Inv.list(I:Inv X pins σ H s)(h:SqL X.K H a xs):∃its:List Os,Vals xs its/\PlainL s.heap a its.toArray/\xs.length<=sizeLine:=by
 rcases h with h|⟨o,its,n,hk,hc,hd,hs,hz,r⟩
 .let#[z,its,n,r,e]:=h.ok I.hok;exact#[its,r,#[_,n,e,rfl,rfl,rfl],z]
 .refine#[its.toList,r,#[o,n,I.kIn a o hk,hc,hd,by simpa using hs],?_];have e:=r.length;simp only[Kb]at e;lia
def Inv.tuple(I:Inv X pins σ H s)(h:SqT X.K H a xs):∃its:List Os,Vals xs its/\IsTup s.heap a its.toArray/\xs.length<=sizeLine:=by
 rcases h with h|⟨o,its,n,hk,hc,hs,hz,r⟩
 .let#[z,its,r,p]:=h.ok I.hok;exact#[its,r,p,z]
 .refine#[its.toList,r,#[o,I.kIn a o hk,hc,n,by simpa using hs],?_];have e:=r.length;simp only[Kb]at e;lia
def Inv.list_inj(I:Inv X pins σ H s)(h:SqL X.K H a xs)(h':SqL X.K H a ys):xs=ys:=by
 let#[its,r,#[o,n,e,_,_,d],_]:=I.list h;let#[its',r',#[o',n',e',_,_,d'],_]:=I.list h';rw[e]at e';cases e';rw[d]at d';injection d' with d1 _;have:its=its':=by simpa using congrArg Array.toList d1
 subst this;exact r.inj r'
end
abbrev Cx.wish(X:Cx)(E:Os->SB->Prop):Cx:={X with xe:=E}
abbrev Cx.nox(X:Cx):Cx:=X.wish λ_ _=>False
def Cx.Ok.wish(ok:X.Ok)(E:Os->SB->Prop):(X.wish E).Ok:=
 #[ok.mod,ok.kind,ok.glob,ok.blt,ok.above,ok.inj,ok.has,ok.cab,ok.hd,ok.frames,ok.stk,ok.exf,ok.bs,ok.bsz,ok.noex,ok.exfs,ok.funs,ok.frf]
def Cx.Ok.unwish(ok:(X.wish E).Ok):X.Ok:=
 #[ok.mod,ok.kind,ok.glob,ok.blt,ok.above,ok.inj,ok.has,ok.cab,ok.hd,ok.frames,ok.stk,ok.exf,ok.bs,ok.bsz,ok.noex,ok.exfs,ok.funs,ok.frf]
section
variable {X:Cx}{pins:List (Pi×Wa)}{σ:St}{H:Hp}{s:SB}{E:Os->SB->Prop}
def Inv.wish(I:Inv X pins σ H s)(E:Os->SB->Prop):Inv (X.wish E) pins σ H s:=#[I.ok.wish E,I.os,I.bare,I.base,I.loc,I.cell,I.free,I.freeC,I.pin,I.hok,I.len]
def Inv.unwish(I:Inv (X.wish E) pins σ H s):Inv X pins σ H s:=#[I.ok.unwish,I.os,I.bare,I.base,I.loc,I.cell,I.free,I.freeC,I.pin,I.hok,I.len]
def SP.unwish{D:Ends}{f:Flow}{s':SB}(h:SP (X.wish E) pins D f s'):SP X pins D f s':=by
 cases f with
 |next=>let#[σ',H',I,q]:=h;exact#[σ',H',I.unwish,q]
 |brk=>let#[σ',H',I,q]:=h;exact#[σ',H',I.unwish,q]
 |cont=>let#[σ',H',I,q]:=h;exact#[σ',H',I.unwish,q]
 |ret u=>let#[v,σ',H',I,r,q]:=h;exact#[v,σ',H',I.unwish,r,q]
def PSs.nox{st:List VS}{t:TS}(h:PSs X.nox st t):PSs X st t:=λpins s σ H D I hw=>
 V9 (h pins s σ H D (I.wish _) hw) (λ_ _ q=>q.unwish) λ_ _ z=>False.elim z
end
section
variable {X:Cx}{st:VS}{rest:List VS}{t u:TS}{e:VV}{te:TE}{pos:V4}
def xT:TS:=λD σ H=>D.nx σ H
def tSeq(t u:TS):TS:=λD σ H=>t {D with nx:=u D} σ H
def pss_nil:PSs X [] xT:=λ_ _ σ H _ I h=>WA #[σ,H,I,h]
def eK(h1:PS X st t)(h2:PSs X rest u):PSs X (st::rest) (tSeq t u):=by
 intro pins s σ H D I h;refine wpAny_execs_cons (thn (h1 pins s σ H {D with nx:=u D} I h) λf s1 q=>?_);cases f with
 |next=>
  let#[σ',H',I',q]:=q;exact h2 pins s1 σ' H' D I' q
 |ret v=>exact q
 |brk=>exact q
 |cont=>exact q
def qK(h1:PS X st t):PSs X [st] t:=by
 intro pins s σ H D I h;refine wpAny_execs_cons (thn (h1 pins s σ H D I h) λf s1 q=>?_);cases f with
 |next=>exact WA q
 |ret v=>exact q
 |brk=>exact q
 |cont=>exact q
def Inv.quiet{pins:List (Pi×Wa)}{σ:St}{H:Hp}{s:SB}(I:Inv X pins σ H s):interactive X.env=false:=by simp[interactive,I.ok.kind]
def xU(te:TE):TS:=λD σ H=>te σ H λ_ H1=>D.nx σ H1
def jv(he:PE X e te)(hs:(V' e z6 pos.line X.env=pure false)\zA0):PS X (.Expr e pos) (xU te):=by
 intro pins s σ H D I h;exact wpAny_Expr_any (thn (he pins s σ H _ I h) λv s1 ⟨x,H1,I1,r1,q1⟩=>#[σ,H1,I1,q1]) I.quiet hs
def tRet(te:TE):TS:=λD σ H=>te σ H D.rt
def qL(he:PE X e te):PS X (.Return (be e) pos) (tRet te):=by
 intro pins s σ H D I h;exact wpAny_Return_some (thn (he pins s σ H _ I h) λv s1 ⟨x,H1,I1,r1,q1⟩=>#[x,σ,H1,I1,r1,q1])
def tIfS(c:TT)(t u:TS):TS:=λD σ H=>c σ H λb H1=>if b=true then t D σ H1 else u D σ H1
def qM{c:VV}{a b:List VS}{tc:TT}(hc:PT X c tc)(ha:PSs X a t)(hb:PSs X b u):PS X (.If c a b pos) (tIfS tc t u):=by
 intro pins s σ H D I h;refine wpAny_If (thn (hc pins s σ H _ I h) λd s1 c7=>?_);let#[H1,I1,q1]:=c7;cases d with
 |true=>exact ha pins s1 σ H1 D I1 q1
 |false=>exact hb pins s1 σ H1 D I1 q1
end
abbrev TG:=V->St->Hp->(St->Hp->Prop)->Prop
abbrev TGs:=List V->St->Hp->(St->Hp->Prop)->Prop
def PG(X:Cx)(i6:VV)(t:TG):Prop:=
 ∀(pins:List (Pi×Wa)) (s:SB) (σ:St) (H:Hp) (v:V) (u:Os) (Q:St->Hp->Prop),Inv X pins σ H s->RelV v u->t v σ H Q->
  VW (VT X.prog X.w) X.A (Wu i6 X.env u) (λ_ s'=>∃σ' H',Inv X pins σ' H' s'/\Q σ' H') X.xe s
def PGs(X:Cx)(ts:List VV)(t:TGs):Prop:=
 ∀(pins:List (Pi×Wa)) (s:SB) (σ:St) (H:Hp) (vs:List V) (us:List Os) (Q:St->Hp->Prop),Inv X pins σ H s->Vals vs us->t vs σ H Q->
  VW (VT X.prog X.w) X.A (Xe ((V0 ts X.env).map (·.2)) us) (λ_ s'=>∃σ' H',Inv X pins σ' H' s'/\Q σ' H') X.xe s
abbrev TSet:=V->V->V->Hp->(Hp->Prop)->Prop
def PSet(X:Cx)(t:TSet):Prop:=
 ∀(pins:List (Pi×Wa)) (s:SB) (σ:St) (H:Hp) (o i v:V) (ov iv u:Os) (Q:Hp->Prop),Inv X pins σ H s->RelV o ov->RelV i iv->RelV v u->t o i v H Q->
  VW (VT X.prog X.w) X.A (Xk ov iv u) (λ_ s'=>∃H',Inv X pins σ H' s'/\Q H') X.xe s
abbrev TIp:=V->V->Hp->VK->Prop
def PIp(X:Cx)(op:Xc)(t:TIp):Prop:=
 ∀(pins:List (Pi×Wa)) (s:SB) (σ:St) (H:Hp) (x y:V) (v u:Os) (Q:VK),Inv X pins σ H s->RelV x v->RelV y u->t x y H Q->
  VW (VT X.prog X.w) X.A (inplaceOp op v u) (EP X pins σ Q) X.xe s
section
variable {X:Cx}{pos:V4}
def fN(i:Nat):TG:=λv σ H Q=>Q (σ.set i (be v)) H
variable{i:Nat}{x:Mr}
def dO(hN:X.N.Nodup)(hi:X.N[i]?=be x)(hx:Loc X.env.scope x)(hf:zFN X x\zA2):PG X (.Name x pos) (fN i):=by
 intro pins s σ H v u Q I r h;exact WY (eJ I hN hi hx r (λs' I'=>#[_,H,I',h]) hf)
def gNil:TGs:=λvs σ H Q=>vs=[]/\Q σ H
def xV(t:TG)(u:TGs):TGs:=λvs σ H Q=>∃v r,vs=v::r/\t v σ H λσ' H'=>u r σ' H' Q
def xW:PGs X [] gNil:=by
 intro pins s σ H vs us Q I r h;let#[e,h]:=h;subst e;cases r;exact XT #[σ,H,I,h]
variable{e:VV}{es:List VV}
def xX{t:TG}{u:TGs}(h1:PG X e t)(h2:PGs X es u)
  (hs:((V0 (e::es) X.env).map (·.2)=Wu e X.env::(V0 es X.env).map (·.2))\zA0):PGs X (e::es) (xV t u):=by
 intro pins s σ H vs us Q I r h;let#[v,vr,e1,h]:=h;subst e1;cases r with
 |cons r rr=>
  rw[hs];refine WX (thn (h1 pins s σ H _ _ _ I r h) λ_ s1 c7=>?_);let#[σ1,H1,I1,q1]:=c7;exact h2 pins s1 σ1 H1 _ _ Q I1 rr q1
def gTup(K:Ex)(n:Nat)(t:TGs):TG:=λv σ H Q=>∃a xs,v=.ref a/\SqT K H a xs/\xs.length=n/\t xs σ H Q
def gK{k:Nat}{t:TGs}{n:Nat}(hc:X.calm=true)(h:PGs X es t)
  (hn:((V0 es X.env).length=n)\zA0) (m4:((V0 es X.env).findIdx? (·.1)=none)\zA0):PG X (.Tuple es k pos) (gTup X.K n t):=by
 intro pins s σ H v u Q I r hw;let#[a,xs,e1,hq,hl,hw]:=hw;subst e1;cases r;let#[its,rv,ht,hz]:=I.tuple hq;refine assign_Tuple_tuple (I.ok.hd hc) ht (by simp[hn,<-hl,rv.length]) m4 λh' hx=>?_;have I1:Inv X pins σ H {s with heap:=h'}:=I.kept (t':=s.toks) λb o e=>hx b o (Iv (Heap.lt_size e)) e;exact h pins _ σ H xs _ Q I1 (by simpa using rv) hw
def gSub(to ti:TE)(t:TSet):TG:=λv σ H Q=>to σ H λo H1=>ti σ H1 λi H2=>t o i v H2 λH3=>Q σ H3
def xY{o i:VV}{to ti:TE}{t:TSet}(ho:PE X o to)(hi:PE X i ti)(hs:PSet X t)
  (ha:∀v,Wu (.Subscript o i pos) X.env v=(do
   let ov <-Wk [v] (V3 o X.env)
   let iv <-Wk [v,ov] (V3 i X.env)
   WC pos
   Wk [v,ov,iv] (Xk ov iv v)
   XQ [v,ov,iv] []):=by intro _;rfl):PG X (.Subscript o i pos) (gSub to ti t):=by
 intro pins s σ H v u Q I r h;rw[ha];refine P3 (Wg (thn (ho pins s σ H _ I h) λov s1 c7=>?_));let#[x,H1,I1,r1,q1]:=c7;refine P3 (Wg (thn (hi pins s1 σ H1 _ I1 q1) λiv s2 c7=>?_));let#[y,H2,I2,r2,q2]:=c7;refine P3 (Wm (P3 (Wg (thn (hs pins s2 σ H2 x y v ov iv u _ I2 r1 r2 r q2) λ_ s3 c7=>?_))));let#[H3,I3,q3]:=c7;exact wpAny_release #[σ,H3,I3,q3]
def tAsg(te:TE)(g:TG):TS:=λD σ H=>te σ H λx H1=>g x σ H1 D.nx
variable{te:TE}
def gL{tg:VV}{g:TG}(he:PE X e te)(hg:PG X tg g)(hs:(Wn [tg] e pos.line X.env=pure false)\zA0)(hw:(Wo [tg] e X.env=pure none)\zA0)
  (h1:((V0 [tg] X.env).map (·.2)=[Wu tg X.env])\zA0):PS X (.Assign [tg] e pos) (tAsg te g):=by
 intro pins s σ H D I h;refine wpAny_Assign_stores (thn (he pins s σ H _ I h) λv s1 hh=>?_) hs hw;let#[x,H1,I1,r1,q1]:=hh;rw[h1];exact thn (hg pins s1 σ H1 x v _ I1 r1 q1) λ_ s2 q=>q
def gM{d5:V4}(hN:X.N.Nodup)(hi:X.N[i]?=be x)(hx:Loc X.env.scope x)(he:PE X e te)(hs:(V' e (be (.Name x d5)) pos.line X.env=pure false)\zA0)(hf:zFN X x\zA2):
  PS X (.Assign [.Name x d5] e pos) (tAsg te (fN i)):=by
 intro pins s σ H D I h;refine wpAny_Assign_Name (thn (he pins s σ H _ I h) λv s1 hh=>?_) hs;let#[y,H1,I1,r1,q1]:=hh;exact eJ I1 hN hi hx r1 (λs2 I2=>#[_,H1,I2,q1]) hf
def tPar(i j:Nat)(ta:TA):TS:=λD σ H=>ta σ H λvs H1=>∃v w,vs=[v,w]/\D.nx ((σ.set i (be v)).set j (be w)) H1
def xZ{j:Nat}{y:Mr}{a b:VV}{ta:TA}{px py pt:V4}{kt k2 Nj}(hc:X.calm=true)(hN:X.N.Nodup)(hi:X.N[i]?=be x)(hj:X.N[j]?=be y)(PY:i≠j)
  (hx:X.env.scope.names.lookup x=be .local) (hy:X.env.scope.names.lookup y=be .local) (ha:PA X [a,b] ta)
  (hw:Wo [.Tuple [.Name x px,.Name y py] kt pt] (.Tuple [a,b] k2 Nj) X.env=pure (be [x,y]))
  (hs:(Wn [.Tuple [.Name x px,.Name y py] kt pt] (.Tuple [a,b] k2 Nj) pos.line X.env=pure false)\zA0):
  PS X (.Assign [.Tuple [.Name x px,.Name y py] kt pt] (.Tuple [a,b] k2 Nj) pos) (tPar i j ta):=by
 intro pins s σ H D I h;rw[exec_Assign_arm];refine P3 (Wm ?_);rw[hs];refine P3 (SZ ?_);rw[if_neg Nk];refine P3 (Tuple_ (thn (ha _ pins s σ H _ I h) λus s1 c7=>?_));let#[vs,H1,I1,r1,q1]:=c7;let#[v,w,e1,q1]:=q1;subst e1;let#[u1,u2,rfl,rv,j5]:∃u1 u2,us=[u1,u2]/\RelV v u1/\RelV w u2:=by
  cases r1 with
  |cons p q=>
   cases q with
   |cons p' q'=>
    cases q';exact#[_,_,rfl,p,p']
 refine V8 ?_ (by show 2<=sizeLine;decide);have I2:Inv X pins σ H1 {s1 with heap:=s1.heap.push {cls:=.type "tuple",data:=.seq [u1,u2].toArray} }:=I1.kept (t':=s1.toks) λb o e=>Heap.get?_push_of_some _ e;rw[hw];refine P3 (SZ ?_);show VW (VT X.prog X.w) X.A (do rule "assign.swapped-stores";let items <-unpackItems (.ref s1.heap.objs.size) 2 z6;Xe [λv=>Xb X.env y v,λv=>Xb X.env x v] items.reverse;pure Flow.next) _ _ _;refine P3 (XB (P3 (unpackItems_tuple (items:=[u1,u2].toArray) (I.ok.hd hc) (IsTup.new s1.heap _) λh' ge=>?_)));have I3:=I2.kept (h':=h') (t':=s1.toks) λb o e=>ge b o (Iv (Heap.lt_size e)) e;show VW _ _ (Xe [λv=>Xb X.env y v,λv=>Xb X.env x v] [u2,u1]>>=λ_=>pure Flow.next) _ _ _;refine P3 (WX (wpAny_bindName (eJ I3 hN hj (.inl hy) j5 (λs2 I4=>?_) (.inr hy))));refine WX (wpAny_bindName (eJ I4 hN hi (.inl hx) rv (λs3 I5=>XT (SZ ?_)) (.inr hx)));rw[List.set_comm _ _ (Ne.symm PY)]at I5;exact#[_,H1,I5,q1]
def ya(to ti te:TE)(Mp:V->V->Hp->VK->Prop)(Pk:TIp)(Mq:TSet):TS:=λD σ H=>to σ H λo H1=>ti σ H1 λi H2=>Mp o i H2 λx H3=>te σ H3 λy H4=>Pk x y H4 λz H5=>Mq o i z H5 λH6=>D.nx σ H6
def PGet(X:Cx)(t:V->V->Hp->VK->Prop):Prop:=
 ∀(pins:List (Pi×Wa)) (s:SB) (σ:St) (H:Hp) (o i:V) (ov iv:Os) (Q:VK),Inv X pins σ H s->RelV o ov->RelV i iv->t o i H Q->
  VW (VT X.prog X.w) X.A (W7 ov iv) (EP X pins σ Q) X.xe s
def yb{o i:VV}{to ti:TE}{Mp:V->V->Hp->VK->Prop}{Pk:TIp}{Mq:TSet}{op:Xc}{Oh:V4}(ho:PE X o to)(hi:PE X i ti)(hg:PGet X Mp)(he:PE X e te)(hp:PIp X op Pk)(hs:PSet X Mq)
  (ha:(∀ov iv new,augStore i ov iv new=(do Wk [new,ov,iv] (Xk ov iv new);XQ [new,ov,iv] [];pure .next))\zA8):PS X (.AugAssign (.Subscript o i Oh) op e pos) (ya to ti te Mp Pk Mq):=by
 intro pins s σ H D I h;refine wpAny_AugAssign_SubscriptAny (thn (ho pins s σ H _ I h) λov s1 hh=>?_) ha;let#[x1,H1,I1,r1,q1]:=hh;refine thn (hi pins s1 σ H1 _ I1 q1) λiv s2 c7=>?_;let#[x2,H2,I2,r2,q2]:=c7;refine thn (hg pins s2 σ H2 x1 x2 ov iv _ I2 r1 r2 q2) λd_ s3 c7=>?_;let#[x3,H3,I3,r3,q3]:=c7;refine thn (he pins s3 σ H3 _ I3 q3) λv s4 c7=>?_;let#[x4,H4,I4,r4,q4]:=c7;refine thn (hp pins s4 σ H4 x3 x4 d_ v _ I4 r3 r4 q4) λnew s5 c7=>?_;let#[x5,H5,I5,r5,q5]:=c7;exact thn (hs pins s5 σ H5 x1 x2 x5 ov iv new _ I5 r1 r2 r5 q5) λ_ s6 ⟨H6,I6,q6⟩=>#[σ,H6,I6,q6]
def ipI(f:Int->Int->Int):TIp:=λx y H Q=>∃i j,x=.int i/\y=.int j/\Q (.int (f i j)) H
def yc:PIp X .Add (ipI λi j=>i+j):=by
 intro pins s σ H x y v u Q I r1 r2 h;let#[i,j,e1,e2,q]:=h;subst e1;subst e2;let#[t,rfl]:=r1;let#[t',rfl]:=r2;exact iadd_int #[.int _,H,I.tok _,#[_,rfl],q]
def yd(c:TT)(tb:TS):TS:=λD σ H=>∃W:Nat->St->Hp->Prop,(∃m,W m σ H)/\∀m σ H,W m σ H->
 c σ H λb H1=>if b=true then ∃N:St->Hp->Prop,(∀σ' H',N σ' H'->∃m',m'<m/\W m' σ' H')/\tb {D with nx:=N,ct:=N,bk:=D.nx} σ H1 else D.nx σ H1
def qN{c:VV}{body:List VS}{tc:TT}{tb:TS}(hp:Wd (VT X.prog X.w) X.A X.env X.xe)(hc:PT X c tc)(hb:PSs X body tb):PS X (.While c body [] pos) (yd tc tb):=by
 intro pins s σ H D I h;let#[W,#[m0,w0],d6]:=h;refine wpAny_While (codeAny_whileLoop (λn s'=>∃σ' H',Inv X pins σ' H' s'/\W n σ' H') ?_ m0 #[σ,H,I,w0]);rintro n s1⟨σ1,H1,I1,w1⟩;refine Wh hp (thn (hc pins s1 σ1 H1 _ I1 (d6 n σ1 H1 w1)) λb s2 c7=>?_);let#[H2,I2,q2]:=c7;cases b with
 |true=>
  let#[N,hN,q2]:=q2;rw[if_pos rfl];refine Wh hp (thn (hb pins s2 σ1 H2 _ I2 q2) λf s3 q3=>?_);cases f with
  |next=>
   let#[σ3,H3,I3,n3]:=q3;let#[m',hm,w3]:=hN σ3 H3 n3;exact#[m',hm,σ3,H3,I3,w3]
  |cont=>
   let#[σ3,H3,I3,n3]:=q3;let#[m',hm,w3]:=hN σ3 H3 n3;exact#[m',hm,σ3,H3,I3,w3]
  |brk=>exact q3
  |ret v=>exact q3
 |false=>
  rw[if_neg IA];exact WA #[σ1,H2,I2,q2]
end
structure It where
 go:Nat->Hp->Prop
 yld:Nat->Hp->V->Hp->Prop
 stop:Nat->Hp->Prop
def FpOk(X:Cx)(pins:List (Pi×Wa))(H:Hp)(b:Pi):Prop:=
 H b=z6/\b≠X.env.locals/\b∉X.fs/\(b∈X.ex\/X.s₀.heap.objs.size<=b)/\(∀x c,X.env.cells.lookup x=be c->c≠b)/\∀p∈X.pn++pins,p.1≠b
variable{σ:St}
def Inv.fpOk{pins:List (Pi×Wa)}{H':Hp}(I:Inv X pins σ H s)(hb:s.heap.objs.size<=b)(hn:H' b=z6):FpOk X pins H' b:=by
 refine#[hn,Jl (IG I.lt hb),I.nofs hb,.inr (Io I.sz hb),λx c e z=>?_,λp hp z=>?_]
 .let#[v,q]:=I.cell x c e;exact absurd (IG q.lt (by rw[z];exact hb)) (Jv _)
 .exact absurd (IG (Heap.lt_size (I.pin p hp).1) (by rw[z];exact hb)) (Jv _)
structure Turn(P:VU)(w:VX)(K:Ex)(tg:VV)(J:It)(fp:List Pi)(it:Pi)(tn:Nat->Heap->Prop):Prop where
 mem:it∈fp
 obj:∀i h,tn i h->∀b∈fp,∃o,h.get? b=be o/\∀v,o.data≠.cell v
 keep:∀i h h',tn i h->(∀b∈fp,∀o,h.get? b=be o->h'.get? b=be o)->tn i h'
 item:∀(X:Cx),X.prog=P->X.w=w->X.K=K->X.calm=true->∀(i:Nat) (pins:List (Pi×Wa)) (s:SB) (σ:St) (H:Hp) (E:Os->SB->Prop),Inv X pins σ H s->(∀b∈fp,FpOk X pins H b)->tn i s.heap->J.go i H->
  VW (VT P w) X.A (pyNext (.ref it)) (λr s1=>∃u,r=be u/\
   VW (VT P w) X.A (WR tg (.ref it) u) (λ_ s2=>∃x H',Inv X pins σ H' s2/\RelV x u/\J.yld i H x H'/\tn (i+1) s2.heap/\∀b∈fp,H' b=z6) E s1) E s
 done:∀(X:Cx),X.prog=P->X.w=w->X.K=K->X.calm=true->∀(i:Nat) (pins:List (Pi×Wa)) (s:SB) (σ:St) (H:Hp) (E:Os->SB->Prop),Inv X pins σ H s->(∀b∈fp,FpOk X pins H b)->tn i s.heap->J.stop i H->
  VW (VT P w) X.A (pyNext (.ref it)) (λr s1=>r=z6/\Inv X pins σ H s1) E s
 self:∀(A:VY) (i:Nat) (s:SB) (Q:Os->SB->Prop) (E:Os->SB->Prop),tn i s.heap->Q (.ref it) s->VW (VT P w) A (pyIter (.ref it)) Q E s
abbrev TI:=St->Hp->(It->Hp->Prop)->Prop
def PIE(X:Cx)(pins:List (Pi×Wa))(σ:St)(tg:VV)(R:It->Hp->Prop)(Pl:Os)(s2:SB):Prop:=
 ∃(it:Pi) (fp:List Pi) (tn:Nat->Heap->Prop) (J:It) (H':Hp),Pl=.ref it/\Inv X pins σ H' s2/\Turn X.prog X.w X.K tg J fp it tn/\tn 0 s2.heap/\(∀b∈fp,FpOk X pins H' b)/\R J H'
def PI(X:Cx)(tg iter:VV)(wi:TI):Prop:=
 ∀(pins:List (Pi×Wa)) (s:SB) (σ:St) (H:Hp) (R:It->Hp->Prop),Inv X pins σ H s->wi σ H R->
  VW (VT X.prog X.w) X.A (V3 iter X.env) (λv s1=>VW (VT X.prog X.w) X.A (pyIter v) (PIE X pins σ tg R) X.xe s1) X.xe s
variable{tg:VV}
def jw{M:Xx}{it:Pi}{o:Wa}{n:String}{vs:Array Os}{Q:Unit->SB->Prop}(ho:s.heap.get? it=be o)(hc:o.cls=.type n)(hd:o.data=.fields vs)
    (hn:["enumerate","zip","dict_itemiterator","dict_reverseitemiterator","odict_iterator","itertools.zip_longest","itertools.pairwise"].contains n=false) (hQ:Q () s):VW M A (WR tg (.ref it) u) Q E s:=by
  unfold WR;cases tg<;>first
    |exact SZ hQ
    |(cases u<;>first
        |exact SZ hQ
        |( refine P3 (wpAny_load ho ?_)
           rw[hc,hd];show VW M A (if(["enumerate","zip","dict_itemiterator","dict_reverseitemiterator","odict_iterator","itertools.zip_longest","itertools.pairwise"].contains n&&vs[0]?==be (WT _))=true then _ else _) Q E s;rw[if_neg (by intro h;rw[hn,Bool.false_and]at h;cases h)];exact SZ hQ))
def Itl(K:Ex)(a:Pi):It:=
 #[λi H=>∃xs x,SqL K H a xs/\xs[i]?=be x,λi H x H'=>H'=H/\∀xs,SqL K H a xs->xs[i]?=be x,λi H=>∃xs,SqL K H a xs/\xs.length<=i]
def Itr(lo:Int)(n:Nat):It:=#[λi _=>i<n,λi H x H'=>H'=H/\x=.int (lo+i),λi _=>n<=i]
variable{K:Ex}
def ye(a it:Pi):Turn P w K tg (Itl K a) [it] it (λi h=>h.IsListIter it a i) where
 mem:=Nq
 obj:=λi h st b hb=>by
  have e:b=it:=by simpa using hb
  subst e;let#[o,e,c,d]:=st;exact#[o,e,λv z=>by rw[d]at z;cases z]
 keep:=λi h h' st k=>st.at λo e=>k it Nq o e
 item:=by
  intro X hP hw hK hc i pins s σ H E I hf st hg;subst hP hw hK;let#[xs,x,hq,hx]:=hg;let#[its,rv,p,hz]:=I.list hq;let#[u,hu,ru]:=rv.get hx;let#[f0,f1,f2,f3,f4,f5]:=hf it Nq;refine wpAny_pyNext_list_item st p.isList (x:=u) (by simpa using hu) λh' y_ sb=>?_;have I1:Inv X pins σ H {s with heap:=h'}:=I.turned (t':=s.toks) (λb o hb e=>(sb.2 b hb).trans e) f0 f1 f3 f4 f5;let#[o,e,c,d]:=id y_;exact#[u,rfl,jw (s:={s with heap:=h'}) e c d Nk #[x,H,I1,ru,#[rfl,λys hy=>by rw[I.list_inj hy hq];exact hx],y_,λb hb=>(hf b hb).1]]
 done:=by
  intro X hP hw hK hc i pins s σ H E I hf st hg;subst hP hw hK;let#[xs,hq,hx]:=hg;let#[its,rv,p,hz]:=I.list hq;let#[f0,f1,f2,f3,f4,f5]:=hf it Nq;have hl:=rv.length;exact wpAny_pyNext_list_end (I.ok.hd hc) st p.isList Qh λh' eb=>#[rfl,I.turned (t':=s.toks) (λb o hb e=>eb b o hb e) f0 f1 f3 f4 f5]
 self:=λ_ _ _ _ _ st h=>wpAny_pyIter_listiter st h
def yf(it:Pi)(lo:Int)(n:Nat):Turn P w K tg (Itr lo n) [it] it (λi h=>IsRangeIter h it (lo+(i:Nat)*1) ((n:Int)-(i:Nat)) 1) where
 mem:=Nq
 obj:=λi h st b hb=>by
  have e:b=it:=by simpa using hb
  subst e;exact⟨_,st,λv z=>by
   have z':Data.fields _=Data.cell v:=z;cases z'⟩
 keep:=λi h h' st k=>k it Nq _ st
 item:=by
  intro X hP hw hK hc i pins s σ H E I hf st hg;subst hP hw hK;let#[f0,f1,f2,f3,f4,f5]:=hf it Nq;have W:=Walks.range (prog:=X.prog) (w:=X.w) (I.ok.hd hc) it lo 1 n;refine W.item i s _ _ hg st λv h' tk hv y_ kk=>?_;let#[t,rfl]:=hv;have I1:Inv X pins σ H {s with heap:=h',toks:=tk}:=I.turned (λb o hb e=>kk b o (by simpa using hb) e) f0 f1 f3 f4 f5;refine#[_,rfl,jw (s:={s with heap:=h',toks:=tk}) (n:="range_iterator") y_ rfl rfl Nk #[.int (lo+i),H,I1,#[t,?_],#[rfl,rfl],y_,λb hb=>(hf b hb).1]];rw[Int.mul_one]
 done:=by
  intro X hP hw hK hc i pins s σ H E I hf st hg;subst hP hw hK;let#[f0,f1,f2,f3,f4,f5]:=hf it Nq;exact wpAny_pyNext_range_end (I.ok.hd hc) st (by have:n<=i:=hg;lia) λh' eb=>#[rfl,I.turned (t':=s.toks) (λb o hb e=>eb b o hb e) f0 f1 f3 f4 f5]
 self:=λ_ _ _ _ _ st h=>wpAny_pyIter_rangeiter st h
section
variable {X:Cx}{tg:VV}
def qO(K:Ex)(tl:TE):TI:=λσ H R=>tl σ H λx H1=>∃a,x=.ref a/\(∃xs,SqL K H1 a xs)/\R (Itl K a) H1
def gN{l:VV}{tl:TE}(hl:PE X l tl):PI X tg l (qO X.K tl):=by
 intro pins s σ H R I h;refine thn (hl pins s σ H _ I h) λv s1 c7=>?_;let#[x,H1,I1,r1,q1]:=c7;let#[a,e,#[xs,hq],q]:=q1;subst e;cases r1;let#[its,rv,p,hz]:=I1.list hq;refine wpAny_pyIter_list p.isList ?_;refine#[s1.heap.objs.size,[s1.heap.objs.size],_,_,H1,rfl,I1.kept (t':=s1.toks) λb o e=>Heap.get?_push_of_some _ e,ye a _,#[_,Heap.get?_push_size _ rfl,rfl,rfl],λb hb=>?_,q];have e:b=s1.heap.objs.size:=by simpa using hb
 subst e;exact I1.fpOk (Ii _) (I1.hok.fresh (Ii _))
variable{pins:List (Pi×Wa)}{σ:St}{H:Hp}{s:SB}
def qP{R:It->Hp->Prop}{E:Os->SB->Prop}{lo hi:Int}{t u v:XU}{tk:Nat}(I:Inv X pins σ H s)(h1:-(2^62)<=lo)(h2:lo<2^62)(h3:-(2^62)<=hi)(h4:hi<2^62)
  (q:R (Itr lo (hi-lo).toNat) H):VW (VT X.prog X.w) X.A (pyIter (.ref s.heap.objs.size)) (PIE X pins σ tg R) E {s with heap:=s.heap.push {cls:=.type "range",data:=.fields [.int lo t,.int hi u,.int 1 v].toArray},toks:=tk}:=by
 refine wpAny_pyIter_range (IsRange.new ..) (small_one h1 h2 h3 h4) ?_;have I1:Inv X pins σ H {s with heap:=s.heap.push {cls:=.type "range",data:=.fields [.int lo t,.int hi u,.int 1 v].toArray},toks:=tk}:=I.kept λb o e=>Heap.get?_push_of_some _ e;refine⟨(s.heap.push {cls:=.type "range",data:=.fields [.int lo t,.int hi u,.int 1 v].toArray}).objs.size,[(s.heap.push {cls:=.type "range",data:=.fields [.int lo t,.int hi u,.int 1 v].toArray}).objs.size],_,_,H,rfl,
  I1.kept (t':=tk) λb o e=>Heap.get?_push_of_some _ e,yf _ lo (hi-lo).toNat,?_,λb hb=>?_,q⟩
 .have e1:lo+((0:Nat):Int)*1=lo:=by simp
  have e2:(((hi-lo).toNat:Nat):Int)-((0:Nat):Int)=Builtin.Range.rangeSize lo hi 1:=by rw[rangeSize_one];split<;>lia
  show IsRangeIter _ _ (lo+((0:Nat):Int)*1) ((((hi-lo).toNat:Nat):Int)-((0:Nat):Int)) 1;rw[e1,e2];exact Heap.get?_push_size _ rfl
 .have e:b=(s.heap.push {cls:=.type "range",data:=.fields [.int lo t,.int hi u,.int 1 v].toArray}).objs.size:=by simpa using hb
  subst e;exact I1.fpOk (Ii _) (I1.hok.fresh (Ii _))
def qQ(ta:TA):TI:=λσ H R=>ta σ H λvs H1=>∃j:Int,vs=[.int j]/\-(2^62)<=j/\j<2^62/\R (Itr 0 j.toNat) H1
def yg(ta:TA):TI:=λσ H R=>ta σ H λvs H1=>∃i j:Int,vs=[.int i,.int j]/\(-(2^62)<=i/\i<2^62/\-(2^62)<=j/\j<2^62)/\R (Itr i (j-i).toNat) H1
variable{pos:V4}
def jx{a:VV}{ta:TA}{p:V4}(hg:Gl X "range")(hm:X.mg "range"=z6)(ha:PA X [a] ta)(hs:(VZ [a] X.env=[(false,V3 a X.env)])\zA0):PI X tg (.Call (.Name "range" p) [a] [] pos) (qQ ta):=by
 intro pins s σ H R I h;refine Call_ (dN I hg hm boot_range (PyProof.Rows.callWith_type1 (thn (ha pos pins s σ H _ I h) λus s1 hh=>?_) hs rfl));let#[vs,H1,I1,r1,q1]:=hh;let#[j,e,q1,q2,q]:=q1;subst e;cases r1 with
 |cons r rr=>
  cases rr;let#[t,rfl]:=r;exact call_range_1 (qP I1 KK KK q1 q2 (by simpa using q))
def yh{a b:VV}{ta:TA}{p:V4}(hg:Gl X "range")(hm:X.mg "range"=z6)(ha:PA X [a,b] ta)(hs:(VZ [a,b] X.env=[(false,V3 a X.env),(false,V3 b X.env)])\zA0)(m9:(VZ [b] X.env=[(false,V3 b X.env)])\zA0):
  PI X tg (.Call (.Name "range" p) [a,b] [] pos) (yg ta):=by
 intro pins s σ H R I h;refine Call_ (dN I hg hm boot_range (PyProof.Rows.callWith_type1 (thn (ha pos pins s σ H _ I h) λus s1 hh=>?_) (by rw[hs,m9]) (by rw[m9];rfl)));let#[vs,H1,I1,r1,q1]:=hh;let#[i,j,e,#[q1,q2,q3,q4],q]:=q1;subst e;cases r1 with
 |cons r rr=>
  cases rr with
  |cons r' rr=>
   cases rr;let#[t,rfl]:=r;let#[t',rfl]:=r';exact call_range_2 (qP I1 q1 q2 q3 q4 q)
def tFor(wi:TI)(g:TG)(tb:TS):TS:=λD σ H=>wi σ H λJ H1=>∃W:Nat->Nat->St->Hp->Prop,(∃m,W 0 m σ H1)/\∀i m σ H,W i m σ H->
 (J.stop i H/\D.nx σ H)\/(J.go i H/\∃N:St->Hp->Prop,(∀σ' H',N σ' H'->∃m',m'<m/\W (i+1) m' σ' H')/\∀x H',J.yld i H x H'->g x σ H' λσ2 H2=>tb {D with nx:=N,ct:=N,bk:=D.nx} σ2 H2)
def gO(fp:List Pi)(h:Heap):List (Pi×Wa):=fp.filterMap λb=>(h.get? b).map λo=>(b,o)
variable{fp:List Pi}
def eL{h:Heap}{b:Pi}{o:Wa}(hb:b∈fp)(e:h.get? b=be o):(b,o)∈gO fp h:=K2.mpr #[b,hb,by rw[e];rfl]
def yi{h:Heap}{p:Pi×Wa}(hp:p∈gO fp h):p.1∈fp/\h.get? p.1=be p.2:=by
 let#[b,hb,e]:=K2.mp hp;cases q:h.get? b with
 |none=>rw[q]at e;cases e
 |some o=>
  rw[q]at e;have e':(b,o)=p:=Option.some.inj e;subst e';exact#[hb,q]
def Inv.pinned(I:Inv X pins σ H s)(hf:∀b∈fp,FpOk X pins H b)(ho:∀b∈fp,∃o,s.heap.get? b=be o/\∀v,o.data≠.cell v):Inv X (pins++gO fp s.heap) σ H s:=
 I.pins_of λp hp=>(IK.mp hp).elim (λz=>I.pin p (IE _ z)) λz=>by
  let#[hb,e]:=yi z;let#[f0,f1,f2,_]:=hf p.1 hb;let#[o,e',d]:=ho p.1 hb;rw[e]at e';cases e';exact#[e,f0,f1,f2,d]
def Inv.unpinned{pl:List (Pi×Wa)}(I:Inv X (pins++pl) σ H s):Inv X pins σ H s:=I.pins_of λp hp=>I.pin p (IE _ (Jk _ hp))
def cO{iter:VV}{body:List VS}{wi:TI}{g:TG}{tb:TS}(hp:Wd (VT X.prog X.w) X.A X.env X.xe)(hc:X.calm=true)(hi:PI X tg iter wi)(hg:PG X tg g)(hb:PSs X body tb)
  (hs:∀x,XS iter X.env x=pure x:=by intro _;rfl):PS X (.For tg iter body [] pos) (tFor wi g tb):=by
 intro pins s σ H D I h;refine wpAny_For (thn (hi pins s σ H _ I h) λv s1 h1=>thn h1 λPl s2 h2=>?_) hs;let#[it,fp,tn,J,H2,e,I2,T,v5,f2,W,#[m0,w0],d6]:=h2;subst e;have q9:∀{H':Hp},(∀b∈fp,H' b=z6)->∀b∈fp,FpOk X pins H' b:=λhn b hb=>#[hn b hb,(f2 b hb).2];refine codeAny_forLoop_any (λn s'=>∃i σ' H',Inv X pins σ' H' s'/\tn i s'.heap/\(∀b∈fp,H' b=z6)/\W i n σ' H') ?_ m0 #[0,σ,H2,I2,v5,λb hb=>(f2 b hb).1,w0];rintro n s3⟨i,σ3,H3,I3,Mf,Sq,w3⟩;rcases d6 i n σ3 H3 w3 with⟨stop,qn⟩|⟨go,N,hN,step⟩
 .refine Wh hp (thn (T.done X rfl rfl rfl hc i pins s3 σ3 H3 X.xe I3 (q9 Sq) Mf stop) λr s4 c7=>?_);let#[hr,I4]:=c7;subst hr;exact WA #[σ3,H3,I4,qn]
 .refine Wh hp (thn (T.item X rfl rfl rfl hc i pins s3 σ3 H3 X.xe I3 (q9 Sq) Mf go) λr s4 c7=>?_);let#[u,hr,h4]:=c7;subst hr;refine Wh hp (thn h4 λ_ s5 c7=>?_);let#[x,H5,I5,r5,y5,Ms,PZ]:=c7;have Tw:=I5.pinned (q9 PZ) (T.obj _ _ Ms);refine Wh hp (thn (hg _ s5 σ3 H5 x u _ Tw r5 (step x H5 y5)) λ_ s6 c7=>?_);let#[σ6,H6,I6,q6]:=c7;refine Wh hp (thn (hb _ s6 σ6 H6 _ I6 q6) λf s7 q7=>?_);have again:∀{σ7:St} {H7:Hp},Inv X (pins++gO fp s5.heap) σ7 H7 s7->N σ7 H7->∃m,m<n/\∃i σ' H',Inv X pins σ' H' s7/\tn i s7.heap/\(∀b∈fp,H' b=z6)/\W i m σ' H':=λ{σ7 H7} I7 n7=>by
   let#[m',hm,w7]:=hN σ7 H7 n7;refine#[m',hm,i+1,σ7,H7,I7.unpinned,T.keep _ _ _ Ms λb hb o e=>(I7.pin (b,o) (IE _ (IE _ (eL hb e)))).1,λb hb=>?_,w7];let#[o,e,d]:=T.obj _ _ Ms b hb;exact(I7.pin (b,o) (IE _ (IE _ (eL hb e)))).2.1
  cases f with
  |next=>let#[σ7,H7,I7,n7]:=q7;exact again I7 n7
  |cont=>let#[σ7,H7,I7,n7]:=q7;exact again I7 n7
  |brk=>let#[σ7,H7,I7,q7]:=q7;exact#[σ7,H7,I7.unpinned,q7]
  |ret v=>let#[x7,σ7,H7,I7,r7,q7]:=q7;exact#[x7,σ7,H7,I7.unpinned,r7,q7]
end
def jy{g:TG}{tb:TS}{D:Ends}(Pv:Nat->St->Hp->Prop)(h0:Pv 0 σ H)(hl:∀i σ H,i<=xs.length->Pv i σ H->SqL K H a xs)
  (hs:∀i x σ H,xs[i]?=be x->Pv i σ H->g x σ H λσ2 H2=>tb {D with nx:=Pv (i+1),ct:=Pv (i+1),bk:=D.nx} σ2 H2) (hd:∀σ H,Pv xs.length σ H->D.nx σ H):
  ∃W:Nat->Nat->St->Hp->Prop,(∃m,W 0 m σ H)/\∀i m σ H,W i m σ H->
   ((Itl K a).stop i H/\D.nx σ H)\/((Itl K a).go i H/\∃N:St->Hp->Prop,(∀σ' H',N σ' H'->∃m',m'<m/\W (i+1) m' σ' H')/\∀x H',(Itl K a).yld i H x H'->g x σ H' λσ2 H2=>tb {D with nx:=N,ct:=N,bk:=D.nx} σ2 H2):=by
 refine#[λi m σ H=>m=xs.length-i/\i<=xs.length/\Pv i σ H,#[xs.length,Nq,IL _,h0],?_];rintro i m σ H ⟨rfl,hi,p⟩;have q:=hl i σ H hi p;by_cases gV:i<xs.length
 .refine .inr #[#[xs,xs[i],q,by simp[gV]],Pv (i+1),λσ' H' p'=>#[xs.length-(i+1),KK,rfl,gV,p'],λx H' y=>?_];let#[e,y]:=y;subst e;exact hs i x σ _ (y xs q) p
 .have e:i=xs.length:=by lia
  subst e;exact .inl #[#[xs,q,Ii _],hd σ H p]
def jz{lo:Int}{n:Nat}{g:TG}{tb:TS}{D:Ends}(Pv:Nat->St->Hp->Prop)(h0:Pv 0 σ H)
  (hs:∀i σ H,i<n->Pv i σ H->g (.int (lo+i)) σ H λσ2 H2=>tb {D with nx:=Pv (i+1),ct:=Pv (i+1),bk:=D.nx} σ2 H2) (hd:∀σ H,Pv n σ H->D.nx σ H):
  ∃W:Nat->Nat->St->Hp->Prop,(∃m,W 0 m σ H)/\∀i m σ H,W i m σ H->
   ((Itr lo n).stop i H/\D.nx σ H)\/((Itr lo n).go i H/\∃N:St->Hp->Prop,(∀σ' H',N σ' H'->∃m',m'<m/\W (i+1) m' σ' H')/\∀x H',(Itr lo n).yld i H x H'->g x σ H' λσ2 H2=>tb {D with nx:=N,ct:=N,bk:=D.nx} σ2 H2):=by
 refine#[λi m σ H=>m=n-i/\i<=n/\Pv i σ H,#[n,Nq,IL _,h0],?_];rintro i m σ H ⟨rfl,hi,p⟩;by_cases gV:i<n
 .refine .inr #[gV,Pv (i+1),λσ' H' p'=>#[n-(i+1),KK,rfl,gV,p'],λx H' y=>?_];let#[e,y]:=y;subst e y;exact hs i σ _ gV p
 .have e:i=n:=by lia
  subst e;exact .inl #[Ii _,hd σ H p]
abbrev R2:=V->V->Hp->VK->Prop
def OpR(X:Cx)(f:Os->Os->Xq Os)(r:R2):Prop:=
 ∀(pins:List (Pi×Wa)) (s:SB) (σ:St) (H:Hp) (x y:V) (v u:Os) (Q:VK),Inv X pins σ H s->RelV x v->RelV y u->r x y H Q->
  VW (VT X.prog X.w) X.A (f v u) (EP X pins σ Q) X.xe s
def UnR(X:Cx)(f:Os->Xq Os)(r:V->Hp->VK->Prop):Prop:=
 ∀(pins:List (Pi×Wa)) (s:SB) (σ:St) (H:Hp) (x:V) (v:Os) (Q:VK),Inv X pins σ H s->RelV x v->r x H Q->
  VW (VT X.prog X.w) X.A (f v) (EP X pins σ Q) X.xe s
def bT(X:Cx)(f:Os)(r:List V->Hp->VK->Prop):Prop:=
 ∀(pins:List (Pi×Wa)) (s:SB) (σ:St) (H:Hp) (xs:List V) (us:List Os) (Q:VK),Inv X pins σ H s->Vals xs us->r xs H Q->
  VW (VT X.prog X.w) X.A (call f us) (EP X pins σ Q) X.xe s
def TruR(X:Cx)(r:V->Hp->(Bool->Hp->Prop)->Prop):Prop:=
 ∀(pins:List (Pi×Wa)) (s:SB) (σ:St) (H:Hp) (x:V) (v:Os) (Q:Bool->Hp->Prop),Inv X pins σ H s->RelV x v->r x H Q->
  VW (VT X.prog X.w) X.A (truthy v) (TP X pins σ Q) X.xe s
def tOp(r:R2)(ta tb:TE):TE:=λσ H Q=>ta σ H λx H1=>tb σ H1 λy H2=>r x y H2 Q
def tUn(r:V->Hp->VK->Prop)(ta:TE):TE:=λσ H Q=>ta σ H λx H1=>r x H1 Q
def rI(C:Int->Int->Prop)(g:Int->Int->V):R2:=λx y H Q=>∃i j,x=.int i/\y=.int j/\C i j/\Q (g i j) H
def rI0(g:Int->Int->V):R2:=λx y H Q=>∃i j,x=.int i/\y=.int j/\Q (g i j) H
def rU(g:Int->V):V->Hp->VK->Prop:=λx H Q=>∃i,x=.int i/\Q (g i) H
section
variable {X:Cx}{a b c:VV}{ta tb tc:TE}{pos:V4}
variable{f:Os->Os->Xq Os}
def binT(ha:PE X a ta)(hb:PE X b tb){pins:List (Pi×Wa)}{s:SB}{σ:St}{H:Hp}{R:V->V->Hp->Prop}(I:Inv X pins σ H s)
  (h:ta σ H λx H1=>tb σ H1 λy H2=>R x y H2) {Q:Os->SB->Prop} 
  (hf:∀v u s2 x y H2,Inv X pins σ H2 s2->RelV x v->RelV y u->R x y H2->VW (VT X.prog X.w) X.A (f v u) Q X.xe s2):
  VW (VT X.prog X.w) X.A (V3 a X.env) (λv s₁=>VW (VT X.prog X.w) X.A (V3 b X.env) (λu s₂=>VW (VT X.prog X.w) X.A (f v u) Q X.xe s₂) X.xe s₁) X.xe s:=by
 refine thn (ha pins s σ H _ I h) λv s1 c7=>?_;let#[x,H1,I1,r1,q1]:=c7;refine thn (hb pins s1 σ H1 _ I1 q1) λu s2 c7=>?_;let#[y,H2,I2,r2,q2]:=c7;exact hf v u s2 x y H2 I2 r1 r2 q2
def jA{op:Xc}{r:R2}(ho:OpR X (Wc op) r)(ha:PE X a ta)(hb:PE X b tb):PE X (.BinOp a op b pos) (tOp r ta tb):=by
 intro pins s σ H Q I h;exact wpAny_BinOp (binT ha hb I h λv u s2 x y H2 I2 rx ry q=>ho pins s2 σ H2 x y v u Q I2 rx ry q)
def yj{op:UnaryOp}{r:V->Hp->VK->Prop}(ho:UnR X (unaryOp op) r)(ha:PE X a ta):PE X (.UnaryOp op a pos) (tUn r ta):=by
 intro pins s σ H Q I h;exact UnaryOp_ (thn (ha pins s σ H _ I h) λv s1 ⟨x,H1,I1,r1,q1⟩=>ho pins s1 σ H1 x v Q I1 r1 q1)
variable{g:Int->Int->Int}
def opI{C:Int->Int->Prop}
  (rule:∀(i j:Int) (t u:XU) (s:SB) (Q:Os->SB->Prop) (E:Os->SB->Prop),C i j->Q (.int (g i j) s.toks) {s with toks:=s.toks+1}->VW (VT X.prog X.w) X.A (f (.int i t) (.int j u)) Q E s):
  OpR X f (rI C λi j=>.int (g i j)):=by
 intro pins s σ H x y v u Q I rx ry h;let#[i,j,rfl,rfl,hc,q]:=h;let#[t,rfl]:=rx;let#[t',rfl]:=ry;exact rule i j t t' s _ _ hc #[.int (g i j),H,I.tok _,#[_,rfl],q]
def opI0
  (rule:∀(i j:Int) (t u:XU) (s:SB) (Q:Os->SB->Prop) (E:Os->SB->Prop),Q (.int (g i j) s.toks) {s with toks:=s.toks+1}->VW (VT X.prog X.w) X.A (f (.int i t) (.int j u)) Q E s):
  OpR X f (rI0 λi j=>.int (g i j)):=by
 intro pins s σ H x y v u Q I rx ry h;let#[i,j,rfl,rfl,q]:=h;let#[t,rfl]:=rx;let#[t',rfl]:=ry;exact rule i j t t' s _ _ #[.int (g i j),H,I.tok _,#[_,rfl],q]
def opB0{g:Int->Int->Bool}
  (rule:∀(i j:Int) (t u:XU) (s:SB) (Q:Os->SB->Prop) (E:Os->SB->Prop),Q (.bool (g i j)) s->VW (VT X.prog X.w) X.A (f (.int i t) (.int j u)) Q E s):
  OpR X f (rI0 λi j=>.bl (g i j)):=by
 intro pins s σ H x y v u Q I rx ry h;let#[i,j,rfl,rfl,q]:=h;let#[t,rfl]:=rx;let#[t',rfl]:=ry;exact rule i j t t' s _ _ #[.bl (g i j),H,I,rfl,q]
def CDiv(i j:Int):Prop:=0<j/\j<1073741824
def CMul(i j:Int):Prop:=(-(2^64)<i/\i<2^64)\/(-(2^64)<j/\j<2^64)
def CMul.ok{i j:Int}(h:CMul i j):IntMulOk i j:=by
 rcases h with⟨h1,h2⟩|⟨h1,h2⟩
 .exact .of_left (intBits_le_64 h1 h2)
 .exact .of_right (intBits_le_64 h1 h2)
def yk:OpR X (Wc .Add) (rI0 λi j=>.int (i+j)):=opI0 λ_ _ _ _ _ _ _ q=>add_int q
def qR:OpR X (Wc .Sub) (rI0 λi j=>.int (i-j)):=opI0 λ_ _ _ _ _ _ _ q=>sub_int q
def qS:OpR X (Wc .Mult) (rI CMul λi j=>.int (i*j)):=opI λ_ _ _ _ _ _ _ hc q=>mul_int q hc.ok
def yl:OpR X (Wc .FloorDiv) (rI CDiv λi j=>.int (i/j)):=opI λi j _ _ _ _ _ hc q=>by
 have h1:(0:Int)<j:=hc.1;have h2:j<1073741824:=hc.2;exact floordiv_int KK (by rw[Int.fdiv_eq_ediv_of_nonneg i KK];exact q) (.inl (PyProof.noPylong_small KK))
def ym:OpR X (Wc .Mod) (rI (λ_ j=>0<j) λi j=>.int (i%j)):=opI λi j _ _ _ _ _ hc q=>by
 have h1:(0:Int)<j:=hc;exact mod_int' KK (by rw[Int.fmod_eq_emod_of_nonneg i KK];exact q)
def yn:OpR X (Wc .Mod) (rI (λ_ j=>j≠0) λi j=>.int (i.fmod j)):=opI λ_ _ _ _ _ _ _ hc q=>mod_int' hc q
def unI{f:Os->Xq Os}{g:Int->Int}
  (rule:∀(i:Int) (t:XU) (s:SB) (Q:Os->SB->Prop) (E:Os->SB->Prop),Q (.int (g i) s.toks) {s with toks:=s.toks+1}->VW (VT X.prog X.w) X.A (f (.int i t)) Q E s):
  UnR X f (rU λi=>.int (g i)):=by
 intro pins s σ H x v Q I rx h;let#[i,rfl,q]:=h;let#[t,rfl]:=rx;exact rule i t s _ _ #[.int (g i),H,I.tok _,#[_,rfl],q]
def yo:UnR X (unaryOp .USub) (rU λi=>.int (-i)):=unI λ_ _ _ _ _ q=>neg_int q
end
def scal:V->V->Bool
 |.non,.non=>true|.non,.int _=>true|.int _,.non=>true|.non,.bl _=>true|.bl _,.non=>true|.non,.str _=>true|.str _,.non=>true
 |.int _,.int _=>true|.bl _,.bl _=>true|.str _,.str _=>true|.byt _,.byt _=>true
 |.int _,.str _=>true|.str _,.int _=>true|.bl _,.str _=>true|.str _,.bl _=>true
 |_,_=>false
def rEq:R2:=λx y H Q=>scal x y=true/\Q (.bl (decide (x=y))) H
def rNe:R2:=λx y H Q=>scal x y=true/\Q (.bl (!decide (x=y))) H
def qT{i j:Int}:decide (V.int i=V.int j)=(i==j):=by
 rw[Kc];simp
def qU{i j:Bool}:decide (V.bl i=V.bl j)=(i==j):=by
 rw[Kc];simp
def qV{i j:Mr}:decide (V.str i=V.str j)=(i==j):=by
 rw[Kc];simp
def qW{i j:Array UInt8}:decide (V.byt i=V.byt j)=(i.toList==j.toList):=by
 rw[Kc];cases i;cases j;simp
section
variable {X:Cx}{a b c:VV}{ta tb tc:TE}{pos:V4}
def aW{pins:List (Pi×Wa)}{σ:St}{H:Hp}{s:SB}{Q:VK}{k k':Bool}(I:Inv X pins σ H s)(q:Q (.bl k) H)(e:k=k'):EP X pins σ Q (.bool k') s:=by
 subst e;exact#[.bl k,H,I,rfl,q]
def jB:OpR X (V6 .Eq) rEq:=by
 intro pins s σ H x y v u Q I rx ry h;let#[hs,q]:=h;cases x with
 |non=>
  cases rx;cases y with
  |non=>cases ry;exact PySem.EqNone.eq_none_none (aW I q Nq)
  |bl j=>cases ry;exact PySem.EqNone.eq_none_bool (aW I q Nq)
  |int j=>let#[t',rfl]:=ry;exact PySem.EqNone.eq_none_int (aW I q Nq)
  |str j=>let#[t',rfl]:=ry;exact PySem.EqNone.eq_none_str (aW I q Nq)
  |_=>exact absurd (show false=true from hs) IA
 |bl i=>
  cases rx;cases y with
  |non=>cases ry;exact PySem.EqNone.eq_bool_none (aW I q Nq)
  |bl j=>cases ry;exact eq_bool (aW I q qU)
  |str j=>let#[t',rfl]:=ry;exact PySem.EqMixed.eq_bool_str (aW I q Nq)
  |_=>exact absurd (show false=true from hs) IA
 |int i=>
  let#[t,rfl]:=rx;cases y with
  |non=>cases ry;exact PySem.EqNone.eq_int_none (aW I q Nq)
  |int j=>let#[t',rfl]:=ry;exact eq_int (aW I q qT)
  |str j=>let#[t',rfl]:=ry;exact PySem.EqMixed.eq_int_str (aW I q Nq)
  |_=>exact absurd (show false=true from hs) IA
 |str i=>
  let#[t,rfl]:=rx;cases y with
  |non=>cases ry;exact PySem.EqNone.eq_str_none (aW I q Nq)
  |bl j=>cases ry;exact PySem.EqMixed.eq_str_bool (aW I q Nq)
  |int j=>let#[t',rfl]:=ry;exact PySem.EqMixed.eq_str_int (aW I q Nq)
  |str j=>let#[t',rfl]:=ry;exact eq_str (aW I q qV)
  |_=>exact absurd (show false=true from hs) IA
 |byt i=>
  let#[t,rfl]:=rx;cases y with
  |byt j=>let#[t',rfl]:=ry;exact eq_bytes (aW I q qW)
  |_=>exact absurd (show false=true from hs) IA
 |_=>cases y<;>exact absurd (show false=true from hs) IA
def qX:OpR X (V6 .NotEq) rNe:=by
 intro pins s σ H x y v u Q I rx ry h;let#[hs,q]:=h;cases x with
 |non=>
  cases rx;cases y with
  |non=>cases ry;exact PySem.EqNone.ne_none_none (aW I q Nq)
  |bl j=>cases ry;exact PySem.EqNone.ne_none_bool (aW I q Nq)
  |int j=>let#[t',rfl]:=ry;exact PySem.EqNone.ne_none_int (aW I q Nq)
  |str j=>let#[t',rfl]:=ry;exact PySem.EqNone.ne_none_str (aW I q Nq)
  |_=>exact absurd (show false=true from hs) IA
 |bl i=>
  cases rx;cases y with
  |non=>cases ry;exact PySem.EqNone.ne_bool_none (aW I q Nq)
  |bl j=>cases ry;exact ne_bool (aW I q (congrArg not qU))
  |str j=>let#[t',rfl]:=ry;exact PySem.EqMixed.ne_bool_str (aW I q Nq)
  |_=>exact absurd (show false=true from hs) IA
 |int i=>
  let#[t,rfl]:=rx;cases y with
  |non=>cases ry;exact PySem.EqNone.ne_int_none (aW I q Nq)
  |int j=>let#[t',rfl]:=ry;exact ne_int (aW I q (congrArg not qT))
  |str j=>let#[t',rfl]:=ry;exact PySem.EqMixed.ne_int_str (aW I q Nq)
  |_=>exact absurd (show false=true from hs) IA
 |str i=>
  let#[t,rfl]:=rx;cases y with
  |non=>cases ry;exact PySem.EqNone.ne_str_none (aW I q Nq)
  |bl j=>cases ry;exact PySem.EqMixed.ne_str_bool (aW I q Nq)
  |int j=>let#[t',rfl]:=ry;exact PySem.EqMixed.ne_str_int (aW I q Nq)
  |str j=>let#[t',rfl]:=ry;exact ne_str (aW I q (congrArg not qV))
  |_=>exact absurd (show false=true from hs) IA
 |byt i=>
  let#[t,rfl]:=rx;cases y with
  |byt j=>let#[t',rfl]:=ry;exact ne_bytes (aW I q (congrArg not qW))
  |_=>exact absurd (show false=true from hs) IA
 |_=>cases y<;>exact absurd (show false=true from hs) IA
def qY:OpR X (V6 .Lt) (rI0 λi j=>.bl (decide (i<j))):=opB0 λ_ _ _ _ _ _ _ q=>lt_int q
def yp:OpR X (V6 .LtE) (rI0 λi j=>.bl (decide (i<=j))):=opB0 λ_ _ _ _ _ _ _ q=>le_int q
def jC:OpR X (V6 .Gt) (rI0 λi j=>.bl (decide (j<i))):=opB0 λ_ _ _ _ _ _ _ q=>gt_int q
def yq:OpR X (V6 .GtE) (rI0 λi j=>.bl (decide (j<=i))):=opB0 λ_ _ _ _ _ _ _ q=>ge_int q
def qZ:OpR X (V6 .Is) (λx y H Q=>y=.non/\Q (.bl (decide (x=.non))) H):=by
 intro pins s σ H x y v u Q I rx ry h;let#[rfl,q]:=h;cases ry;refine is_none_gen (aW I q ?_);cases x<;>first
  |(cases rx;rfl)
  |(let#[t,rfl]:=rx;rfl)
def yr:OpR X (V6 .IsNot) (λx y H Q=>y=.non/\Q (.bl (!decide (x=.non))) H):=by
 intro pins s σ H x y v u Q I rx ry h;let#[rfl,q]:=h;cases ry;refine isnot_none_gen (aW I q ?_);cases x<;>first
  |(cases rx;rfl)
  |(let#[t,rfl]:=rx;rfl)
variable{r:R2}
def OpR.or{f:Os->Os->Xq Os}{r':R2}(h:OpR X f r)(h':OpR X f r'):OpR X f (λx y H Q=>r x y H Q\/r' x y H Q):=by
 intro pins s σ H x y v u Q I rx ry q;rcases q with q|q
 .exact h pins s σ H x y v u Q I rx ry q
 .exact h' pins s σ H x y v u Q I rx ry q
variable{op:XX}
def nomark(b:VV)(h:(op≠.In)\zA1)(h2:(op≠.NotIn)\zA1):Wi op b=false:=by
 have e1:(op==CmpOp.In)=false:=by cases op<;>first|rfl|exact absurd rfl h
 have e2:(op==CmpOp.NotIn)=false:=by cases op<;>first|rfl|exact absurd rfl h2
 cases b<;>simp[Wi,e1,e2]
def yt(ho:OpR X (V6 op) r)(ha:PE X a ta)(hb:PE X b tb)(hm:Wi op b=false):PE X (.Compare a [op] [b] pos) (tOp r ta tb):=by
 intro pins s σ H Q I h;exact wpAny_Compare1 (binT ha hb I h λv u s2 x y H2 I2 rx ry q=>ho pins s2 σ H2 x y v u Q I2 rx ry q) hm
def yu(t:TE):TT:=λσ H Q=>t σ H λx H'=>∃k,x=.bl k/\Q k H'
def ra(ho:OpR X (V6 op) r)(ha:PE X a ta)(hb:PE X b tb)(hm:Wi op b=false):PT X (.Compare a [op] [b] pos) (yu (tOp r ta tb)):=by
 intro pins s σ H Q I h;refine wpAny_isTrue_Compare1 (thn (ha pins s σ H _ I h) λv s1 ⟨x,H1,I1,r1,q1⟩=>thn (hb pins s1 σ H1 _ I1 q1) λu s2 ⟨y,H2,I2,r2,q2⟩=>
  thn (ho pins s2 σ H2 x y v u _ I2 r1 r2 q2) λc s3 hh=>?_) hm
 let#[z,H3,I3,r3,k,e,q3]:=hh;subst e;cases r3;exact WE #[H3,I3,q3]
def TruV(K:Ex)(x:V)(H:Hp)(k:Bool):Prop:=
 match x with
 |.non=>k=false
 |.bl b=>k=b
 |.int i=>k=(i !=0)
 |.str y=>y.length<=sizeLine/\k=((y.length:Int) !=0)
 |.byt y=>y.size<=sizeLine/\k=((y.size:Int) !=0)
 |.ref p=>(∃xs,SqL K H p xs/\k=!xs.isEmpty)\/(∃xs,SqT K H p xs/\k=!xs.isEmpty)\/∃a_,H p=be (.dK a_)/\k=!a_.isEmpty
 |_=>False
def yw{κ:Type}{a_:List (κ×V)}{vs:List (κ×Os)}(r:KV a_ vs):(!vs.isEmpty)=!a_.isEmpty:=by
 cases r<;>rfl
def isEmpty_of{xs:List V}{its:List Os}(r:Vals xs its):(!its.toArray.isEmpty)=!xs.isEmpty:=by
 cases r<;>simp
def line63:(sizeLine:Nat)<2^63:=by rw[WH];decide
def yx:TruR X (λx H Q=>∃k,TruV X.K x H k/\Q k H):=by
 intro pins s σ H x v Q I rx h;let#[k,e,q]:=h;have hl:=line63;have hs:sizeLine=16777216:=WH;cases x with
 |non=>
  cases rx;have e':k=false:=e;subst e';exact truthy_none #[H,I,q]
 |bl b=>
  cases rx;have e':k=b:=e;subst e';exact WE #[H,I,q]
 |int i=>
  let#[t,rfl]:=rx;have e':k=(i !=0):=e;subst e';exact PySem.P.truthy_int #[H,I,q]
 |str y=>
  let#[t,rfl]:=rx;let#[hy,e']:y.length<=sizeLine/\k=((y.length:Int) !=0):=e;subst e';exact PySem.P.truthy_str KK #[H,I.tok _,q]
 |byt y=>
  let#[t,rfl]:=rx;let#[hy,e']:y.size<=sizeLine/\k=((y.size:Int) !=0):=e;subst e';exact truthy_bytes KK #[H,I.tok _,q]
 |ref p=>
  cases rx;have e':(∃xs,SqL X.K H p xs/\k=!xs.isEmpty)\/(∃xs,SqT X.K H p xs/\k=!xs.isEmpty)\/∃a_,H p=be (.dK a_)/\k=!a_.isEmpty:=e;rcases e' with⟨xs,hx,e'⟩|⟨xs,hx,e'⟩|⟨a_,hx,e'⟩
  .subst e';let#[its,r,pl,hz]:=I.list hx;have b9:=r.length;exact wpAny_truthy_list pl.isList (by simp only[Ir];lia) #[H,I.tok _,by rw[isEmpty_of r];exact q]
  .subst e';let#[its,r,pl,hz]:=I.tuple hx;have b9:=r.length;exact truthy_tuple pl (by simp only[Ir];lia) #[H,I.tok _,by rw[isEmpty_of r];exact q]
  .subst e';let#[hz,hS,vs,r,m]:a_.length<=sizeLine/\(p==Wj)=false/\∃vs,KV a_ vs/\s.heap.DictOf (bS X.prog X.w) p vs:=I.hok p _ hx;have b9:a_.length=vs.length:=Paired.length r;exact wpAny_truthy_dict hS m KK #[H,I.tok _,by rw[yw r];exact q]
 |_=>exact(show False from e).elim
def rb(ha:PE X a ta)(he:∀gt,isTrue a X.env gt=(do let v <-gt;WC a.pos;Wk [v] (truthy v))):
  PT X a (λσ H Q=>ta σ H λx H'=>∃k,TruV X.K x H' k/\Q k H'):=by
 intro pins s σ H Q I h;exact isTrue_plain (thn (ha pins s σ H _ I h) λv s1 ⟨x,H1,I1,r1,q1⟩=>yx pins s1 σ H1 x v Q I1 r1 q1) (he _)
def yy:OpR X (Wc .Add) (λx y H Q=>∃i j,x=.str i/\y=.str j/\i.length+j.length<=sizeLine/\Q (.str (i++j)) H):=by
 intro pins s σ H x y v u Q I rx ry h;let#[i,j,rfl,rfl,hz,q]:=h;let#[t,rfl]:=rx;let#[t',rfl]:=ry;exact add_str (λt' tk=>#[.str (i++j),H,I.tok _,#[_,rfl],q]) hz
variable{us:List Os}
def vals1{x:V}(r:Vals [x] us):∃u,us=[u]/\RelV x u:=by
 cases r with
 |cons r1 r2=>cases r2;exact#[_,rfl,r1]
def vals2{x y:V}(r:Vals [x,y] us):∃u w',us=[u,w']/\RelV x u/\RelV y w':=by
 cases r with
 |cons r1 r2=>
  cases r2 with
  |cons r3 r4=>cases r4;exact#[_,_,rfl,r1,r3]
def yz:bT X (.builtin "abs") (λxs H Q=>∃i,xs=[.int i]/\Q (.int (if i<0 then -i else i)) H):=by
 intro pins s σ H xs us Q I r h;let#[i,rfl,q]:=h;let#[u,rfl,t,rfl]:=vals1 r;exact call_abs_int λu tk=>#[.int (if i<0 then -i else i),H,I.tok _,#[_,rfl],q]
def yB(hc:X.calm=true):bT X (.builtin "max") (λxs H Q=>∃i j,xs=[.int i,.int j]/\Q (.int (if j>i then j else i)) H):=by
 intro pins s σ H xs us Q I r h;let#[i,j,rfl,q]:=h;let#[u,w',rfl,#[t,rfl],#[t',rfl]]:=vals2 r;refine max_two_ints (I.ok.hd hc) λh' tk k=>#[_,H,I.kept k,?_,q];by_cases hj:j>i
 .rw[if_pos hj,if_pos hj];exact#[_,rfl]
 .rw[if_neg hj,if_neg hj];exact#[_,rfl]
def yD(hc:X.calm=true):bT X (.builtin "min") (λxs H Q=>∃i j,xs=[.int i,.int j]/\Q (.int (if j<i then j else i)) H):=by
 intro pins s σ H xs us Q I r h;let#[i,j,rfl,q]:=h;let#[u,w',rfl,#[t,rfl],#[t',rfl]]:=vals2 r;refine min_two_ints (I.ok.hd hc) λh' tk k=>#[_,H,I.kept k,?_,q];by_cases hj:j<i
 .rw[if_pos hj,if_pos hj];exact#[_,rfl]
 .rw[if_neg hj,if_neg hj];exact#[_,rfl]
def yF:bT X (.type "int") (λxs H Q=>(∃i,xs=[.int i]/\Q (.int i) H)\/∃k,xs=[.bl k]/\Q (.int (if k then 1 else 0)) H):=by
 intro pins s σ H xs us Q I r h;rcases h with⟨i,rfl,q⟩|⟨k,rfl,q⟩
 .let#[u,rfl,t,rfl]:=vals1 r;exact call_int_int #[.int i,H,I,#[_,rfl],q]
 .let#[u,rfl,r1]:=vals1 r;cases r1;exact call_int_bool #[.int (if k then 1 else 0),H,I.tok _,#[_,rfl],q]
def yG:bT X (.type "str") (λxs H Q=>∃i,xs=[.int i]/\i.natAbs.log2<1920/\Q (.str (toString i)) H):=by
 intro pins s σ H xs us Q I r h;let#[i,rfl,hz,q]:=h;let#[u,rfl,t,rfl]:=vals1 r;exact PySem.P.str_of_int hz #[.str _,H,I.tok _,#[_,rfl],q]
def LenV(K:Ex)(x:V)(H:Hp)(n:Nat):Prop:=
 match x with
 |.str y=>y.length<=sizeLine/\n=y.length
 |.byt y=>y.size<=sizeLine/\n=y.size
 |.ref p=>(∃xs,SqL K H p xs/\n=xs.length)\/∃xs,SqT K H p xs/\n=xs.length
 |_=>False
def jD:bT X (.builtin "len") (λxs H Q=>∃x n,xs=[x]/\LenV X.K x H n/\Q (.int n) H):=by
 intro pins s σ H xs us Q I r h;let#[x,n,rfl,e,q]:=h;let#[u,rfl,rx]:=vals1 r;have hl:=line63;have hs:sizeLine=16777216:=WH;cases x with
 |str y=>
  let#[t,rfl]:=rx;let#[hy,e']:y.length<=sizeLine/\n=y.length:=e;subst e';exact len_str KK #[.int _,H,I.tok _,#[_,rfl],q]
 |byt y=>
  let#[t,rfl]:=rx;let#[hy,e']:y.size<=sizeLine/\n=y.size:=e;subst e';exact len_bytes KK #[.int _,H,I.tok _,#[_,rfl],q]
 |ref p=>
  cases rx;have e':(∃xs,SqL X.K H p xs/\n=xs.length)\/∃xs,SqT X.K H p xs/\n=xs.length:=e;rcases e' with⟨xs,hx,e'⟩|⟨xs,hx,e'⟩
  .subst e';let#[its,r',pl,hz]:=I.list hx;have b9:=r'.length;exact Calls.call_len_list pl.isList (by simp only[Ir];lia) #[.int xs.length,H,I.tok _,#[_,by simp only[Ir];rw[b9]],q]
  .subst e';let#[its,r',pl,hz]:=I.tuple hx;have b9:=r'.length;exact len_tuple pl (by simp only[Ir];lia) #[.int xs.length,H,I.tok _,#[_,by simp only[Ir];rw[b9]],q]
 |_=>exact(show False from e).elim
end
structure ObjM(h:Heap)(x dx C:Pi)(mA:Str->Option Os):Prop where
 obj:h.get? x=be (instObj C dx)
 ns:h.Ns1 dx mA
 ne:dx≠x
variable{mA:Mr->Option Os}
def rg{dx:Pi}(n:h.Ns1 dx mA):∃od,h.get? dx=be od/\∀name,lookIn name od=be (mA name):=by
 let#[o,es,ep,ho,hd,hk,_,hm]:=n;refine#[o,ho,λname=>?_];have e:=hm name;unfold nsFind findBy at e;rw[<-Array.find?_toList]at e;unfold lookIn;rw[hd];dsimp only;split
 .rename_i y q;rw[q]at e;exact congrArg be e
 .rename_i q;rw[q]at e;have a:es.toList.any (·.refKey)=false:=by
   rw[List.any_eq_false];intro y hy;let#[z,t,q_]:=hk y (Array.mem_toList_iff.mp hy);simp[DictEntry.refKey,q_]
  have a':¬es.toList.any (·.refKey)=true:=by rw[a];exact IA
  rw[if_neg a'];exact congrArg be e
variable{C:Pi}
def ObjM.look{x dx:Pi}(I:ObjM h x dx C mA):∃od,PySem.W.InstAt h x (instObj C dx) C (be od)/\∀name,lookIn name od=be (mA name):=
 let ⟨od,ho,hl⟩:=rg I.ns
 #[od,#[I.obj,rfl,rfl,ho],hl]
section
variable {prog:VU}{w:VX}{A:VY}{E:Os->SB->Prop}{s:SB}{K:Ex}{x dx C f:Pi}{mA:Mr->Option Os}{name:Mr}{v:Os}
def yH{E_:Bool}{Q:Os->SB->Prop}(X:K.In s.heap)(I:ObjM s.heap x dx C mA)(hg:plainGet K C name=true)(hh:hasDictIn K C=true)
  (ha:Iq K (.ref C) name=be z6) (hv:mA name=be v) (Tz:K3 v=true) (h:Q v {s with toks:=s.toks+1}):
  VW (VT prog w) A (Xn (.ref x) name E_) Q E s:=by
 let#[od,J,hl]:=I.look;exact get_value X J (plainGet_of hg).1 (findObj_own hh ha rfl (by rw[hl,hv])) Tz h
def yI{pl:Xq Bool}{Q:Os×List Os->SB->Prop}(X:K.In s.heap)(I:ObjM s.heap x dx C mA)(hg:plainGet K C name=true)
  (hf:Iq K (.ref C) name=be (be (.ref f))) (ht:isFn K (.ref f)=true) (hv:mA name=z6) (h:Q (.ref f,[.ref x]) s):
  VW (VT prog w) A (WU (.ref x) name pl) Q E s:=by
 let#[od,J,hl]:=I.look;exact method_fn X J (plainGet_of hg).1 (plainGet_of hg).2 hf (beq_iff_eq.mp ht) (by show(lookIn name od).map (·.isSome)=be false;rw[hl,hv];rfl) h
def yJ{ns:List Mr}{Q:Unit->SB->Prop}(X:K.In s.heap)(I:ObjM s.heap x dx C mA)
  (hs:Iq K (.ref C) "__setattr__"=be (be (.builtin "object.__setattr__"))) (hp:plainOver K C=true) (ht:takerIn K C name=be z6) (hh:hasDictIn K C=true)
  (hw:PySem.Within mA ns) (k8:ns.length<=sizeLine)
  (h:∀h',ObjM h' x dx C (λy=>if y=name then be v else mA y)->Heap.SameBut dx s.heap h'->Q () {s with heap:=h',toks:=s.toks+2}):
  VW (VT prog w) A (XM (.ref x) name v) Q E s:=by
 let#[od,J,hl]:=I.look;refine PySem.W.set_plain X J hs (osa_open (s:={s with toks:=s.toks+1}) (r:=z6) X J hp ht λb=>?_);let#[cd,hc,f9]:=any_some hh;have hx:s.heap.get? x=be #[.ref C,be dx,.plain,[].toArray]:=I.obj;refine P3 (SZ (P3 (P3 (W8 hx (P3 (PySem.W.Looks.here (s:={s with toks:=s.toks+1}) (PySem.W.looks_clsIn X hc) ?_))))));rw[f9];refine SZ (a:=be dx) (P3 (SZ (P3 ?_)));refine Xi (s:={s with toks:=s.toks+1}) I.ns λh' Mg m9=>?_;let#[oD,Sr,Ss,Oj,Ol,Om]:=Mg.count (PySem.Within.cons name v hw);refine P3 (W1 Oj (by rw[Ol];exact W3 (Io Om (by rw[Iu];lia))) ?_);exact SZ (h _ #[(m9.2 _ (Ne.symm I.ne)).trans I.obj,Mg,I.ne] m9)
def yL{R:Result->SB->Prop}{vs:List Os}{kw:List (Mr×Os)}(X:K.In s.heap)(hm:makesIn K C=true)
  (hi:Iq K (.ref C) "__init__"=be (be (.ref f))) (hf:PySem.W.typeIn K (.ref f)=be (.type "function"))
  (h:WV (VT prog w) (A.under (.builtin "type.__call__" #[.ref C::vs,kw])) (.call (.ref f) #[.ref (s.heap.objs.size+1)::vs,kw]) (InitBack (s.heap.objs.size+1) R)
   {s with heap:=(s.heap.push emptyDict).push (instObj C s.heap.objs.size)}):
  WV (VT prog w) A (.call (.ref C) #[vs,kw]) R s:=by
 let#[hh,g,d,t,os]:=s;exact make_core (makes_of X hm) (PySem.W.looks_findIn X hi) (λself=>PySem.W.bind_fn X self hf) (.inl rfl) h
end
def putF(f:Mr)(v:V):List (Mr×V)->List (Mr×V)
 |[]=>[(f,v)]
 |(g,x)::r=>if g=f then(g,v)::r else(g,x)::putF f v r
def rh(f g:Mr)(v:V):∀fs:List (Mr×V),(putF f v fs).lookup g=if g=f then be v else fs.lookup g
 |[]=>by
  show Jw g [(f,v)]=_;by_cases h:g=f
  .have hb:(g==f)=true:=beq_iff_eq.mpr h;simp only[Jw,hb,if_pos h]
  .have hb:(g==f)=false:=beq_eq_false_iff_ne.mpr h;simp only[Jw,hb,if_neg h]
 |(k,x)::r=>by
  have ih:=rh f g v r;rw[show putF f v ((k,x)::r)=(if k=f then(k,v)::r else(k,x)::putF f v r)from rfl];by_cases hk:k=f
  .rw[if_pos hk];by_cases h:g=k
   .have hb:(g==k)=true:=beq_iff_eq.mpr h;simp only[Jw,hb,if_pos (h.trans hk)]
   .have hb:(g==k)=false:=beq_eq_false_iff_ne.mpr h;simp only[Jw,hb,if_neg (λe:g=f=>h (e.trans hk.symm))]
  .rw[if_neg hk];by_cases h:g=k
   .have hb:(g==k)=true:=beq_iff_eq.mpr h;simp only[Jw,hb,if_neg (λe:g=f=>hk (h.symm.trans e))]
   .have hb:(g==k)=false:=beq_eq_false_iff_ne.mpr h;simp only[Jw,hb];exact ih
def jE(f:Mr)(v:V):∀fs:List (Mr×V),f∈(putF f v fs).map (·.1)/\∀g,g∈fs.map (·.1)->g∈(putF f v fs).map (·.1)
 |[]=>#[by simp[putF],λg h=>by simp at h]
 |(k,x)::r=>by
  let#[i1,i2]:=jE f v r;rw[show putF f v ((k,x)::r)=(if k=f then(k,v)::r else(k,x)::putF f v r)from rfl];by_cases hk:k=f
  .rw[if_pos hk];subst hk;exact#[Nq,λg h=>by simpa using h]
  .rw[if_neg hk];refine#[?_,λg h=>?_]
   .rw[IH];exact Im _ i1
   .rw[IH]at h ⊢;rcases Ik.mp h with e|e
    .exact Ik.mpr (.inl e)
    .exact Im _ (i2 g e)
def rj(f:Mr)(v:V):∀fs:List (Mr×V),(putF f v fs).length<=fs.length+1
 |[]=>by simp[putF]
 |(k,x)::r=>by
  have ih:=rj f v r;rw[show putF f v ((k,x)::r)=(if k=f then(k,v)::r else(k,x)::putF f v r)from rfl];by_cases hk:k=f
  .rw[if_pos hk,Iu,Iu];lia
  .rw[if_neg hk,Iu,Iu];lia
def RelO.some_of{v:V}{o:Option Os}(r:RelO (be v) o):∃u,o=be u/\RelV v u:=by
 cases o with
 |none=>exact(show False from r).elim
 |some u=>exact#[u,rfl,r]
def RelO.none_of{o:Option Os}(r:RelO z6 o):o=none:=by
 cases o with
 |none=>rfl
 |some u=>exact(show False from r).elim
def rk{v:V}(r:RelV v u):K3 u=true:=by
 cases v with
 |non=>cases(show u=Value.none from r);rfl
 |bl b=>cases(show u=Value.bool b from r);rfl
 |int i=>let#[t,e]:=(show ∃t,u=Value.int i t from r);cases e;rfl
 |str x=>let#[t,e]:=(show ∃t,u=Value.str x t from r);cases e;rfl
 |byt b=>let#[t,e]:=(show ∃t,u=Value.bytes b t from r);cases e;rfl
 |flt b=>let#[t,e]:=(show ∃t,u=Value.float b t from r);cases e;rfl
 |ref a=>cases(show u=Value.ref a from r);rfl
 |ty n=>cases(show u=Value.type n from r);rfl
section
variable {P:VU}{w:VX}{H H':Hp}{h h':Heap}{a C dx:Pi}{fs m8:List (Mr×V)}
def gP(hok:HOk P w H h)(e:H a=be (.ins C dx fs)):∃mA,ObjM h a dx C mA/\(∀f,RelO (fs.lookup f) (mA f))/\PySem.Within mA (fs.map (·.1))/\fs.length<=1000/\H dx=be (.own a):=by
 let#[d,z,ne,ob,mA,n,r,q]:=(show ObjOk P w H h a (.ins C dx fs)from hok a _ e);exact#[mA,#[ob,n,ne],r,q,z,d]
end
structure Cls(K:Ex)(C:Pi):Prop where
 pg:plainGet K C Str.empty=true
 hd:hasDictIn K C=true
 po:plainOver K C=true
 sa:Iq K (.ref C) "__setattr__"=be (be (.builtin "object.__setattr__"))
def Cls.get(c:Cls K C)(f:Mr):plainGet K C f=true:=c.pg
def NoAttr(K:Ex)(C:Pi)(f:Mr):Prop:=Iq K (.ref C) f=be z6
def NoAttr.taker{f:Mr}(n:NoAttr K C f):takerIn K C f=be none:=by
 unfold takerIn;rw[show Iq K (.ref C) f=be z6 from n];rfl
structure Meth(K:Ex)(C:Pi)(m:Str)(f:Pi):Prop where
 at_:Iq K (.ref C) m=be (be (.ref f))
 fn:isFn K (.ref f)=true
 kp:keepIn K (.ref f)=true
section
variable {X:Cx}{pins:List (Pi×Wa)}{σ:St}{H:Hp}{s:SB}{a C dx:Pi}{fs:List (Mr×V)}{f:Mr}{v:V}{A:VY}{E:Os->SB->Prop}
variable{Q:Os->SB->Prop}
def yM{b:Bool}(I:Inv X pins σ H s)(e:H a=be (.ins C dx fs))(c:Cls X.K C)(n:NoAttr X.K C f)(l:fs.lookup f=be v)
  (h:∀u s',Inv X pins σ H s'->RelV v u->Q u s'):VW (VT X.prog X.w) A (Xn (.ref a) f b) Q E s:=by
 let#[mA,O,r,_,_,_]:=gP I.hok e;let#[u,hu,ru]:=RelO.some_of (v:=v) (o:=mA f) (by rw[<-l];exact r f);exact yH I.kIn O (c.get f) c.hd n hu (rk ru) (h u _ (I.tok _) ru)
def jF{m:Mr}{g:Pi}{pl:Xq Bool}{Q:Os×List Os->SB->Prop}(I:Inv X pins σ H s)(e:H a=be (.ins C dx fs))(c:Cls X.K C)(k:Meth X.K C m g)(l:fs.lookup m=z6)
  (h:Q (.ref g,[.ref a]) s):VW (VT X.prog X.w) A (WU (.ref a) m pl) Q E s:=by
 let#[mA,O,r,_,_,_]:=gP I.hok e;have hn:mA m=none:=RelO.none_of (by rw[<-l];exact r m);exact yI I.kIn O (c.get m) k.at_ k.fn hn h
def yO{y:V}{u:Os}{Q:Unit->SB->Prop}(I:Inv X pins σ H s)(e:H a=be (.ins C dx fs))(c:Cls X.K C)(n:NoAttr X.K C f)(hl:fs.length<1000)(ry:RelV y u)
  (h:∀s',Inv X pins σ (upd H a (.ins C dx (putF f y fs))) s'->Q () s'):VW (VT X.prog X.w) A (XM (.ref a) f u) Q E s:=by
 let#[mA,O,r,wi,_,ho]:=gP I.hok e;have hz:(fs.map (·.1)).length<=sizeLine:=by rw[Ij,WH];lia
 refine yJ I.kIn O c.sa c.po n.taker c.hd wi hz λh' O' sb=>h _ ?_;have hd:∃o,h'.get? dx=be o:=let ⟨o,_,_,e',_⟩:=O'.ns;#[o,e']
 refine I.write (x:=a) (e:=dx) (by rw[e];exact True.intro) (.inr ho) (λb q hb z=>(sb.2 b hb).trans z) hd ?_;refine#[by rw[ar O.ne];exact ho,?_,O.ne,O'.obj,_,O'.ns,λg=>?_,λg hg=>?_]
 .have:=rj f y fs;lia
 .show RelO ((putF f y fs).lookup g) (if g=f then be u else mA g);rw[rh];by_cases q:g=f
  .rw[if_pos q,if_pos q];exact ry
  .rw[if_neg q,if_neg q];exact r g
 .by_cases q:g=f
  .rw[q];exact(jE f y fs).1
  .refine(jE f y fs).2 g (wi g λz=>hg ?_);show(if g=f then be u else mA g)=z6;rw[if_neg q];exact z
def Inv.made(I:Inv X pins σ H s):Inv X pins σ (upd (upd H s.heap.objs.size (.own (s.heap.objs.size+1))) (s.heap.objs.size+1) (.ins C s.heap.objs.size []))
  {s with heap:=(s.heap.push emptyDict).push (instObj C s.heap.objs.size)}:=by
 have e1:(s.heap.push emptyDict).get? s.heap.objs.size=be emptyDict:=Heap.get?_push_size s.heap rfl;have e2:((s.heap.push emptyDict).push (instObj C s.heap.objs.size)).get? (s.heap.objs.size+1)=be (instObj C s.heap.objs.size):=by
  have:=Heap.get?_push_size (s.heap.push emptyDict) (o:=instObj C s.heap.objs.size) rfl;rwa [Heap.size_push]at this
 have e3:(s.heap.push emptyDict).Ns s.heap.objs.size (λ_=>z6):=#[emptyDict,[].toArray,_,e1,rfl,(λe he=>absurd he Nq),λ_=>rfl];have I1:=I.laid (a:=s.heap.objs.size) (o:=.own (s.heap.objs.size+1)) (h':=s.heap.push emptyDict) (t':=s.toks) (λb u q=>Heap.get?_push_of_some _ q) (Ii _) #[_,e1];refine I1.laid (a:=s.heap.objs.size+1) (o:=.ins C s.heap.objs.size []) (t':=s.toks) (λb u q=>Heap.get?_push_of_some _ q) (Kd (Heap.size_push _ _)) ?_;have ne:s.heap.objs.size≠s.heap.objs.size+1:=Iv (K4 _);refine#[by rw[ar ne,aC],IL _,ne,e2,λ_=>z6,(Heap.Ns1.of_empty e3).at λo q=>Heap.get?_push_of_some _ q,λ_=>True.intro,λy hy=>absurd rfl hy]
def attr_of{prog:VU}{w:VX}{env:WD}{e:VV}{f:Mr}{pos:V4}{s:SB}(hb:V1 e f env (V3 e env)=V3 e env)
  (h:VW (VT prog w) A (V3 e env) (λo s₁=>VW (VT prog w) A (Xn o f true) Q E s₁) E s):VW (VT prog w) A (V3 (.Attribute e f pos) env) Q E s:=
 Attribute_any_ h (by rw[arm_eval_Attribute,hb])
end
def tFld(K:Ex)(ta:TE)(f:Mr):TE:=λσ H Q=>ta σ H λx H1=>∃a C dx fs v,x=.ref a/\H1 a=be (.ins C dx fs)/\Cls K C/\NoAttr K C f/\fs.lookup f=be v/\Q v H1
def sFld(K:Ex)(ta tv:TE)(f:Mr):TS:=λD σ H=>tv σ H λy H1=>ta σ H1 λx H2=>∃a C dx fs,x=.ref a/\H2 a=be (.ins C dx fs)/\Cls K C/\NoAttr K C f/\fs.length<1000/\
 D.nx σ (upd H2 a (.ins C dx (putF f y fs)))
section
variable {X:Cx}{o e value:VV}{f:Mr}{pos d5 Oh:V4}{ta tv:TE}
def rl(he:PE X e ta)(hb:V1 e f X.env (V3 e X.env)=V3 e X.env):PE X (.Attribute e f pos) (tFld X.K ta f):=by
 intro pins s σ H Q I h;refine attr_of hb (thn (he pins s σ H _ I h) λu s1 c7=>?_);let#[x,H1,I1,rx,a,C,dx,fs,v,ex,ea,c,n,l,q]:=c7;subst ex;obtain rfl:u=Value.ref a:=rx;exact yM I1 ea c n l λu' s2 I2 ru=>#[v,H1,I2,ru,q]
def rn(ha:PE X o ta)(hv:PE X value tv)(hs:V' value (be (.Attribute o f d5)) pos.line X.env=pure false):PS X (.Assign [.Attribute o f d5] value pos) (sFld X.K ta tv f):=by
 intro pins s σ H D I h;refine Ws (thn (hv pins s σ H _ I h) λu s1 ⟨y,H1,I1,ry,q⟩=>thn (ha pins s1 σ H1 _ I1 q) λov s2 hh=>?_) hs;let#[x,H2,I2,rx,a,C,dx,fs,ex,ea,c,n,l,q2]:=hh;subst ex;obtain rfl:ov=Value.ref a:=rx;exact yO I2 ea c n l ry λs3 I3=>#[σ,_,I3,q2]
end
section
variable {X:Cx}{pins:List (Pi×Wa)}{σ:St}{H:Hp}{s:SB}{A:VY}{E:Os->SB->Prop}{Q:Os->SB->Prop}{c:Os}{b:Bool}
inductive TyOf(K:Ex)(H:Hp):V->Os->Prop where
 |non:TyOf K H .non (.type "NoneType")
 |bl (x:Bool):TyOf K H (.bl x) (.type "bool")
 |int (i:Int):TyOf K H (.int i) (.type "int")
 |str (x:Str):TyOf K H (.str x) (.type "str")
 |flt (x:UInt64):TyOf K H (.flt x) (.type "float")
 |lst {a:Pi} {xs:List V} (e:H a=some (.lst xs)):TyOf K H (.ref a) (.type "list")
 |frz {a:Pi} {o:Wa} {xs:List V} (e:H a=some (.frz o (.lst xs))):TyOf K H (.ref a) (.type "list")
 |tup {a:Pi} {xs:List V} (e:H a=some (.tup xs)):TyOf K H (.ref a) (.type "tuple")
 |dK {a:Pi} {a_:List (Key×V)} (e:H a=some (.dK a_)):TyOf K H (.ref a) (.type "dict")
 |dT {a:Pi} {a_:List (List Key×V)} (e:H a=some (.dT a_)):TyOf K H (.ref a) (.type "dict")
 |ins {a C dx:Pi} {fs:List (Str×V)} (e:H a=some (.ins C dx fs)) (cl:Cls K C) (ha:Iq K (.ref C) "__class__"=some (some (.builtin "object.__class__")))
   (hn:specialIn K (.builtin "object.__class__") "__get__"=be (be (.builtin "getset_descriptor.__get__"))) (Su:takesIn K (.builtin "object.__class__")=be true)
   (hm:Jn K C (.type "object")=be true):TyOf K H (.ref a) (.ref C)
def yQ{x:V}{u t:Os}(I:Inv X pins σ H s)(rx:RelV x u)(ty:TyOf X.K H x t)(e:kitOne X.K t c=be b)(h:∀tk,Q (.bool b) {s with toks:=tk}):
  VW (VT X.prog X.w) A (call (.builtin "isinstance") [u,c]) Q E s:=by
 cases ty with
 |non=>cases(show u=Value.none from rx);exact kia_one kitx_none I.kIn True.intro e (λz=>nomatch z) h
 |bl y=>cases(show u=Value.bool y from rx);exact kia_one kitx_bool I.kIn True.intro e (λz=>nomatch z) h
 |int i=>let#[t,q]:=(show ∃t,u=Value.int i t from rx);cases q;exact kia_one kitx_int I.kIn True.intro e (λz=>nomatch z) h
 |str y=>let#[t,q]:=(show ∃t,u=Value.str y t from rx);cases q;exact kia_one kitx_str I.kIn True.intro e (λz=>nomatch z) h
 |flt y=>let#[t,q]:=(show ∃t,u=Value.float y t from rx);cases q;exact kia_one kitx_float I.kIn True.intro e (λz=>nomatch z) h
 |@lst a xs ea=>
  cases(show u=Value.ref a from rx);let#[_,_,n,_,h1]:=(show ObjOk X.prog X.w H s.heap a (.lst xs)from I.hok a _ ea);exact kia_one kitx_list I.kIn #[_,h1,rfl] e (λz=>nomatch z) h
 |@frz a ob xs ea=>
  cases(show u=Value.ref a from rx);let#[_,_,_,n,_,h1]:=(show ObjOk X.prog X.w H s.heap a (.frz ob (.lst xs))from I.hok a _ ea);exact kia_one kitx_list I.kIn #[_,h1,rfl] e (λz=>nomatch z) h
 |@tup a xs ea=>
  cases(show u=Value.ref a from rx);let#[_,_,_,p]:=(show ObjOk X.prog X.w H s.heap a (.tup xs)from I.hok a _ ea);let#[o,h1,h2,_]:=p;exact kia_one kitx_tuple I.kIn #[o,h1,h2] e (λz=>nomatch z) h
 |@dK a a_ ea=>
  cases(show u=Value.ref a from rx);let#[_,_,vs,_,p]:=(show ObjOk X.prog X.w H s.heap a (.dK a_)from I.hok a _ ea);let#[o,es,ep,h1,h2,_]:=p;exact kia_one kitx_dict I.kIn #[o,h1,h2.1] e (λz=>nomatch z) h
 |@dT a a_ ea=>
  cases(show u=Value.ref a from rx);let#[_,_,xs,_,o,es,ep,h1,h2,_]:=(show ObjOk X.prog X.w H s.heap a (.dT a_)from I.hok a _ ea);exact kia_one kitx_dict I.kIn #[o,h1,h2.1] e (λz=>nomatch z) h
 |@ins a C dx fs ea cl ha hn Su hm=>
  cases(show u=Value.ref a from rx);let#[mA,O,_]:=gP I.hok ea;let#[od,J,_]:=O.look;exact kia_one (kitx_own (cl.get _) cl.hd ha hn Su hm) I.kIn J e (λz=>nomatch z) h
end
structure Room(k:Nat)(A:VY):Prop where
 hd:A.handled=z6
 dp:A.depth+3*k+5<recursionLimit
 un:A.units+16*k+200<WN
variable{k:Nat}
def Room.mono{j:Nat}(r:Room k A)(h:j<=k):Room j A:=#[r.hd,by have:=r.dp;lia,by have:=r.un;lia]
def Room.deeper(r:Room (k+1) A)(env:WD):Room k (A.deeper env):=
 #[r.hd,by have:=r.dp;show A.depth+1+3*k+5<_;lia,by have:=r.un;show A.units+3+16*k+200<_;lia]
variable{kw:List (Mr×Os)}
def yR:(A.under (.builtin "type.__call__" #[.ref C::us,kw])).depth=A.depth+1:=by
 first|rfl|simp[Around.under,Code.weight,Code.isCreation,Code.isGuard,Code.isCaller,Code.frames,Code.isFrame,guardIds]
def yT:(A.under (.builtin "type.__call__" #[.ref C::us,kw])).units=A.units+1:=by
 first|rfl|simp[Around.under,Code.cUnits,Code.frames,Code.isFrame]
def Room.make(r:Room (k+1) A)(C:Pi)(us:List Os)(kw:List (Mr×Os)):Room k (A.under (.builtin "type.__call__" #[.ref C::us,kw])):=
 #[r.hd,by have:=r.dp;rw[yR];lia,by have:=r.un;rw[yT];lia]
def Room.depth(r:Room k A):A.depth<recursionLimit:=by have:=r.dp;lia
def Room.units(r:Room k A):A.units+64<WN:=by have:=r.un;lia
def tNil:TA:=λ_ H Q=>Q [] H
def rq(ta:TE)(tr:TA):TA:=λσ H Q=>ta σ H λx H1=>tr σ H1 λxs H2=>Q (x::xs) H2
section
variable {X:Cx}{e:VV}{es:List VV}{te:TE}{t:TA}{pos:V4}
def pa_nil:PA X [] tNil:=λ_ _ _ _ H Q I h=>Calls.spliced_nil #[[],H,I,.nil,h]
def bv(ha:PE X e te)(hr:PA X es t)(hs:zSE X e es\zA0):PA X (e::es) (rq te t):=by
 intro pos pins s σ H Q I h;rw[hs];show VW _ _ (spliced ((false,V3 e X.env)::WK pos (VZ es X.env))) _ _ s;refine Calls.spliced_cons (thn (ha pins s σ H _ I h) λu s1 c7=>?_);let#[x,H1,I1,r1,q1]:=c7;exact thn (hr pos pins s1 σ H1 _ I1 q1) λus s2 ⟨xs,H2,I2,r2,q2⟩=>#[x::xs,H2,I2,.cons r1 r2,q2]
def tTup(t:TA):TE:=λσ H Q=>t σ H λxs H1=>xs.length<=sizeLine/\∀p,H1 p=z6->Q (.ref p) (upd H1 p (.tup xs))
def tLst(t:TA):TE:=λσ H Q=>t σ H λxs H1=>xs.length<=sizeLine/\∀p,H1 p=z6->Q (.ref p) (upd H1 p (.lst xs))
def rA{x1}(h:PA X es t):PE X (.Tuple es x1 pos) (tTup t):=by
 intro pins s σ H Q I hq;refine wpAny_Tuple_spliced (thn (h pos pins s σ H _ I hq) λus s1 ⟨xs,H1,I1,r,z,q⟩=>#[by rw[<-r.length];exact z,?_]);have hf:H1 s1.heap.objs.size=none:=I1.hok.fresh (Ii _);refine#[.ref s1.heap.objs.size,upd H1 s1.heap.objs.size (.tup xs),I1.laid (t':=s1.toks) (λb u e=>Heap.get?_push_of_some _ e) (Ii _) ?_,rfl,q _ hf];exact#[z,us,r,#[_,Heap.get?_push_size _ rfl,rfl,_,rfl]]
def jG(h:PA X es t):PE X (.List es pos) (tLst t):=by
 intro pins s σ H Q I hq;refine wpAny_List_spliced (thn (h pos pins s σ H _ I hq) λus s1 ⟨xs,H1,I1,r,z,q⟩=>#[by rw[<-r.length];exact z,?_]);have hf:H1 s1.heap.objs.size=none:=I1.hok.fresh (Ii _);refine#[.ref s1.heap.objs.size,upd H1 s1.heap.objs.size (.lst xs),I1.laid (t':=s1.toks) (λb u e=>Heap.get?_push_of_some _ e) (Ii _) ?_,rfl,q _ hf];exact#[z,us,0,r,Heap.get?_push_size _ rfl]
end
abbrev Sp:=List V->Hp->VK->XK->Prop
abbrev CXT:=List WD->Hp->SB->XK->Os->SB->Prop
structure Env0(P:VU)(w:VX)(K:Ex)(mg:Str->Option Os)(base:Heap)(A:VY)(outer:List WD)(s:SB)(H:Hp):Prop where
 frames:A.frames=be outer
 mod:Mod K mg base
 bs:∀b o,base.get? b=be o->s.heap.get? b=be o/\H b=z6
 bsz:base.objs.size<=s.heap.objs.size
 funs:s.heap.FunFrames base outer
 frf:∀b∈frs outer,H b=z6
 hok:HOk P w H s.heap
 bare:WJ s.gens
def CE(outer:List WD)(P:VU)(w:VX)(H:Hp)(s:SB)(Q:VK)(u:Os)(s':SB):Prop:=
 ∃v H',s'.os=s.os/\WJ s'.gens/\Un (frs outer) [] H H' s.heap s'.heap/\HOk P w H' s'.heap/\RelV v u/\Q v H'
def CR(CX:CXT)(outer:List WD)(P:VU)(w:VX)(H:Hp)(s:SB)(Q:VK)(E:XK)(r:Result)(s':SB):Prop:=
 match r with
 |.ok (.ret u)=>CE outer P w H s Q u s'
 |.ok _=>False
 |.error e=>CX outer H s E e s'
structure FnOk(P:VU)(w:VX)(K:Ex)(mg:Str->Option Os)(base:Heap)(CX:CXT)(k:Nat)(f:Pi)(fd:V2)(ps:List Str)(sp:Sp):Prop where
 len:∀vs H Q E,sp vs H Q E->vs.length=ps.length
 run:∀(A:VY) (outer:List WD) (s:SB) (H:Hp) (args:Args) (us:List Os) (vs:List V) (Q:VK) (E:XK),Room k A->Env0 P w K mg base A outer s H->WO s fd args (ps.zip us)->Vals vs us->sp vs H Q E->
  WV (VT P w) A (.call (.ref f) args) (CR CX outer P w H s Q E) s
variable{f:Pi}{mg:Mr->Option Os}{base:Heap}{CX:CXT}{fd:V2}{ps:List Mr}{sp:Sp}
def FnOk.mono{j:Nat}(F:FnOk P w K mg base CX j f fd ps sp)(h:j<=k):
  FnOk P w K mg base CX k f fd ps sp:=#[F.len,λA outer s H args us vs Q E hr=>F.run A outer s H args us vs Q E (hr.mono h)]
def FnOk.imp{MX:Sp}(F:FnOk P w K mg base CX k f fd ps sp)
  (h:∀vs H Q E,MX vs H Q E->sp vs H Q E):FnOk P w K mg base CX k f fd ps MX:=
 #[λvs H Q E q=>F.len vs H Q E (h _ _ _ _ q),λA outer s H args us vs Q E hr he hb hv hs=>F.run A outer s H args us vs Q E hr he hb hv (h _ _ _ _ hs)]
variable{outer:List WD}
def Env0.make(e:Env0 P w K mg base A outer s H)(C:Pi)(us:List Os)(kw:List (Mr×Os)):
  Env0 P w K mg base (A.under (.builtin "type.__call__" #[.ref C::us,kw])) outer s H:=#[by first|exact e.frames|(simpa[Around.under,Code.envs,Code.isFrame,pushEnvs]using e.frames),e.mod,e.bs,e.bsz,e.funs,e.frf,e.hok,e.bare]
section
variable {X:Cx}{pins:List (Pi×Wa)}{σ:St}{H:Hp}{s s':SB}
def Inv.env0(I:Inv X pins σ H s):Env0 X.prog X.w X.K X.mg X.base X.A X.stack s H:=
 #[I.ok.frames,I.ok.mod,I.bs,Io I.ok.bsz I.sz,I.stack,I.stkFree,I.hok,I.bare]
def Inv.after{Q:VK}{u:Os}(I:Inv X pins σ H s)(h:CE X.stack X.prog X.w H s Q u s'):EP X pins σ Q u s':=by
 let#[v,H',os,bare,un,hok,r,q]:=h;let#[hh,g,d,t,TB]:=s';obtain rfl:TB=s.os:=os;exact#[v,H',I.call (h':=hh) (g':=g) (d':=d) (t':=t) (ch:=[]) un hok bare (λb z=>absurd z Nq),r,q]
end
def rB(sp:Sp)(g5:List V)(E:XK)(t:TA):TE:=λσ H Q=>t σ H λvs H1=>sp (vs++g5) H1 Q E
def yU(C:Pi)(sp:Sp)(g5:List V)(E:XK)(t:TA):TE:=λσ H Q=>t σ H λvs H1=>∀x dx,H1 x=z6->H1 dx=z6->dx≠x->
 sp (.ref x::(vs++g5)) (upd (upd H1 dx (.own x)) x (.ins C dx [])) (λv H2=>v=.non/\Q (.ref x) H2) E
def Binds(K:Ex)(fd:V2)(ps:List Mr)(ds:List Os):Prop:=
 ∀(s:SB) (us:List Os),K.In s.heap->(us++ds).length=ps.length->WO s fd #[us,[]] (ps.zip (us++ds))
def Binds.all(h:∀us:List Os,us.length=ps.length->Wy fd #[us,[]]=pure (ps.zip us)):Binds K fd ps []:=λs us _ hl=>by
 rw[IQ]at hl ⊢;exact .of_eq (h us hl)
def fO(CX:CXT)(X:Cx)(E:XK):Prop:=∀(pins:List (Pi×Wa)) (σ:St) (H:Hp) (s:SB) (e:Os) (s':SB),Inv X pins σ H s->CX X.stack H s E e s'->X.xe e s'
section
variable {X:Cx}{CX:CXT}{k:Nat}{f C:Pi}{fd:V2}{ps:List Mr}{sp:Sp}{g5:List V}{ds:List Os}{E:XK}{x m:Mr}{p pos b7:V4}{e o:VV}{es:List VV}{ta:TE}{t:TA}
variable{pins:List (Pi×Wa)}{us:List Os}{vs:List V}
def yV{σ:St}{H:Hp}{s:SB}{Q:VK}(F:FnOk X.prog X.w X.K X.mg X.base CX k f fd ps sp)(hr:Room k X.A)(hb:Binds X.K fd ps ds)(hd:Vals g5 ds)(hx:fO CX X E)
  (I:Inv X pins σ H s) (r:Vals vs us) (h:sp (vs++g5) H Q E):VW (VT X.prog X.w) X.A (call (.ref f) us) (EP X pins σ Q) X.xe s:=by
 have r2:Vals (vs++g5) (us++ds):=r.append hd;have hl:(us++ds).length=ps.length:=by rw[<-r2.length];exact F.len _ _ _ _ h
 refine Wt (Wr (F.run X.A X.stack s H #[us,[]] (us++ds) (vs++g5) Q E hr I.env0 (hb s us I.kIn hl) r2 h) λr s' hq=>?_);cases r with
 |error e=>exact hx pins σ H s e s' I hq
 |ok fl=>
  cases fl with
  |ret u=>exact I.after hq
  |next=>exact False.elim hq
  |brk=>exact False.elim hq
  |cont=>exact False.elim hq
def yY(F:FnOk X.prog X.w X.K X.mg X.base CX k f fd ps sp)(hr:Room k X.A)(hg:Gl X x)(hm:X.mg x=be (.ref f))(hk:keepIn X.K (.ref f)=true)(hb:Binds X.K fd ps ds)(hd:Vals g5 ds)(hx:fO CX X E)
  (ha:PA X (e::es) t) (d9:zND x\zA1) (he:zSE X e es\zA0) (c8:zPL X pos es\zA0):
  PE X (.Call (.Name x p) (e::es) [] pos) (rB sp g5 E t):=by
 intro pins s σ H Q I h;refine V5 (cz I hg hm ?_ d9);refine callWith_K (h₀:=X.base) I.ok.mod.kin hk (thn (ha pos pins s σ H _ I h) λus s1 ⟨vs,H1,I1,r,q⟩=>#[I1.kIn,?_]) he c8;exact yV F hr hb hd hx I1 r q
structure Mk(K:Ex)(C f:Pi):Prop where
 makes:makesIn K C=true
 init:Iq K (.ref C) "__init__"=be (be (.ref f))
 fn:isFn K (.ref f)=true
 kp:keepIn K (.ref C)=true
def yZ{σ:St}{H:Hp}{s:SB}{Q:VK}(M:Mk X.K C f)(F:FnOk X.prog X.w X.K X.mg X.base CX k f fd ps sp)(hr:Room (k+1) X.A)(hb:Binds X.K fd ps ds)(hd:Vals g5 ds)
  (hx:fO CX X E) (I:Inv X pins σ H s) (r:Vals vs us)
  (h:∀x dx,H x=z6->H dx=z6->dx≠x->sp (.ref x::(vs++g5)) (upd (upd H dx (.own x)) x (.ins C dx [])) (λv H2=>v=.non/\Q (.ref x) H2) E):
  VW (VT X.prog X.w) X.A (call (.ref C) us) (EP X pins σ Q) X.xe s:=by
 have hq:=h (s.heap.objs.size+1) s.heap.objs.size (I.hok.fresh (Jy _)) (I.hok.fresh (Ii _)) (Iv (K4 _));have I2:=Inv.made (C:=C) I;have r2:Vals (V.ref (s.heap.objs.size+1)::(vs++g5)) (Value.ref (s.heap.objs.size+1)::(us++ds)):=.cons rfl (r.append hd);have hl:(Value.ref (s.heap.objs.size+1)::us++ds).length=ps.length:=by
  have e:=r2.length;rw[F.len _ _ _ _ hq]at e;exact e.symm
 refine Wt (yL (f:=f) I.kIn M.makes M.init (beq_iff_eq.mp M.fn) (Wr (F.run _ X.stack _ _ #[Value.ref (s.heap.objs.size+1)::us,[]] (Value.ref (s.heap.objs.size+1)::(us++ds)) _ _ E (hr.make C us [])
  (I2.env0.make C us []) (hb _ (Value.ref (s.heap.objs.size+1)::us) I2.kIn hl) r2 hq) λr s' p8=>?_))
 cases r with
 |error e=>exact hx pins σ _ _ e s' I2 p8
 |ok fl=>
  cases fl with
  |ret u=>
   let#[v,H',I3,rv,ev,q3]:=I2.after p8;subst ev;exact#[rv,#[V.ref (s.heap.objs.size+1),H',I3,rfl,q3]]
  |next=>exact False.elim p8
  |brk=>exact False.elim p8
  |cont=>exact False.elim p8
def gQ(M:Mk X.K C f)(F:FnOk X.prog X.w X.K X.mg X.base CX k f fd ps sp)(hr:Room (k+1) X.A)(hg:Gl X x)(hm:X.mg x=be (.ref C))(hb:Binds X.K fd ps ds)(hd:Vals g5 ds)(hx:fO CX X E)
  (ha:PA X (e::es) t) (d9:zND x\zA1) (he:zSE X e es\zA0) (c8:zPL X pos es\zA0):
  PE X (.Call (.Name x p) (e::es) [] pos) (yU C sp g5 E t):=by
 intro pins s σ H Q I h;refine V5 (cz I hg hm ?_ d9);refine callWith_K (h₀:=X.base) I.ok.mod.kin M.kp (thn (ha pos pins s σ H _ I h) λus s1 ⟨vs,H1,I1,r,q⟩=>#[I1.kIn,?_]) he c8;exact yZ M F hr hb hd hx I1 r q
end
structure FnScope(N P:List Str)(sc:Wl):Prop where
 kind:sc.kind=.function
 co:sc.isCoroutine=false
 gen:sc.isGenerator=false
 nd:N.Nodup
 pre:N.take P.length=P
 par:∀x∈P,sc.names.lookup x=be .local\/sc.names.lookup x=be .cell
 nofree:∀y∈sc.names,y.2≠.free
def rC{kindOf:Mr->Option Wz}{x:Mr}:∀{binds:List (Mr×Os)} {m:Mr->Option Os},(∀v,(x,v)∉binds)->Xf kindOf binds m x=m x
 |[],_,_=>rfl
 |(n,v)::r,m,h=>by
  unfold Xf;rw[rC λw hw=>h w (Im _ hw)];split
  .have:x≠n:=by rintro rfl;exact h v Ip
   simp[this]
  .rfl
def bindC_out{kindOf:Mr->Option Wz}{x:Mr}:∀{binds:List (Mr×Os)} {m:Mr->Option Os},(∀v,(x,v)∉binds)->Xg kindOf binds m x=m x
 |[],_,_=>rfl
 |(n,v)::r,m,h=>by
  unfold Xg;rw[bindC_out λw hw=>h w (Im _ hw)];split
  .rfl
  .have:x≠n:=by rintro rfl;exact h v Ip
   simp[this]
def bindL_get{kindOf:Mr->Option Wz}{x:Mr}{v:Os}:∀{P:List Mr} {vs:List Os} {i:Nat} {m:Mr->Option Os},P.Nodup->P[i]?=be x->vs[i]?=be v->kindOf x=be .local->
  Xf kindOf (P.zip vs) m x=be v
 |[],_,_,_,_,h,_,_=>by simp at h
 |_::_,[],_,_,_,_,h,_=>by simp at h
 |p::P,w::vs,0,m,nd,h1,h2,hk=>by
  simp at h1 h2;subst h1;subst h2;show Xf kindOf ((p,w)::P.zip vs) m p=_;unfold Xf;rw[rC λv hv=>(Jo.mp nd).1 (Kt hv).1,if_pos hk];simp
 |p::P,w::vs,i+1,m,nd,h1,h2,hk=>by
  show Xf kindOf ((p,w)::P.zip vs) m x=_;unfold Xf;exact bindL_get (i:=i) (Jo.mp nd).2 (by simpa using h1) (by simpa using h2) hk
def rD{kindOf:Mr->Option Wz}{x:Mr}{v:Os}:∀{P:List Mr} {vs:List Os} {i:Nat} {m:Mr->Option Os},P.Nodup->P[i]?=be x->vs[i]?=be v->kindOf x≠be .local->
  Xg kindOf (P.zip vs) m x=be v
 |[],_,_,_,_,h,_,_=>by simp at h
 |_::_,[],_,_,_,_,h,_=>by simp at h
 |p::P,w::vs,0,m,nd,h1,h2,hk=>by
  simp at h1 h2;subst h1;subst h2;show Xg kindOf ((p,w)::P.zip vs) m p=_;unfold Xg;rw[bindC_out λv hv=>(Jo.mp nd).1 (Kt hv).1,if_neg hk];simp
 |p::P,w::vs,i+1,m,nd,h1,h2,hk=>by
  show Xg kindOf ((p,w)::P.zip vs) m x=_;unfold Xg;exact rD (i:=i) (Jo.mp nd).2 (by simpa using h1) (by simpa using h2) hk
def start(N:List Mr)(vs:List V):St:=vs.map be++Iw (N.length-vs.length) z6
def cxOf(CX:CXT)(P:VU)(w:VX)(K:Ex)(mg:Mr->Option Os)(base:Heap)(N:List Mr)(qual:Mr)(scope:Wl)(f:Pi)(cd:Os)(A:VY)(outer:List WD)(s:SB)(H:Hp)(E:XK):Cx where
 prog:=P
 w:=w
 K:=K
 mg:=mg
 base:=base
 A:=A.deeper (V7 qual scope s.heap.objs.size f cd)
 N:=N
 s₀:=s
 H₀:=H
 env:=V7 qual scope s.heap.objs.size f cd
 outer:=outer
 stack:=V7 qual scope s.heap.objs.size f cd::outer
 ex:=[]
 calm:=true
 fn:=λ_=>true
 pn:=[]
 xe:=λe s'=>VW (VT P w) (A.deeper (V7 qual scope s.heap.objs.size f cd)) (Xm (V7 qual scope s.heap.objs.size f cd) e) (λ_ P0=>CX outer H s E e P0) (λe' P0=>CX outer H s E e' P0) s'
def cell_has{sc:Wl}{n:Nat}{x:Mr}(h:sc.names.lookup x=be .cell):∃c,(cellsFrom n sc.names []).lookup x=be c:=by
 have q:=cellsFrom_some sc.names n [] (.inl h);exact Option.isSome_iff_exists.mp q
variable{N:List Mr}{scope:Wl}
def za{qual:Mr}{cd:Os}{s1:SB}{E:XK}{vs:List V}
  (S:FnScope N ps scope) (hd:A.handled=z6) (e0:Env0 P w K mg base A outer s H) (hl:vs.length=ps.length) (r:Vals vs us)
  (x:InCallC s s.heap.objs.size (Xf (V7 qual scope s.heap.objs.size f cd).kindOf (ps.zip us) λ_=>z6) (cellsFrom (s.heap.objs.size+1) scope.names []) (Xg (V7 qual scope s.heap.objs.size f cd).kindOf (ps.zip us) λ_=>z6) s1):
  Inv (cxOf CX P w K mg base N qual scope f cd A outer s H E) [] (start N vs) H s1:=by
 have c8:ps.length<=N.length:=by have:=congrArg J0 S.pre;rw[JK]at this;lia
 let#[h1,tk,rfl,hk]:=x.done;have On:∀b:Pi,b∉(cxOf CX P w K mg base N qual scope f cd A outer s H E).ex:=λb z=>absurd (show b∈([]:List Pi)from z) Nq;refine⟨#[e0.mod,S.kind,rfl,rfl,Ii _,λy z c h1 h2=>?_,λy hy=>?_,λy c _ h=>?_,λ_=>hd,Around.frames_deeper e0.frames,.inr #[rfl,rfl],λb z=>absurd z (On b),e0.bs,e0.bsz,λb _ _=>On b,λb z=>absurd z (On b),e0.funs,e0.frf],
  rfl,e0.bare,Un.kept hk,#[_,x.toInCall.ns,λi y v h1 h2 h3=>?_],λy c h=>#[_,x.cell y c h],e0.hok.fresh (Ii _),λy c h=>?_,λp hp=>absurd (show p∈([]:List (Pi×Wa))from hp) Nq,e0.hok.kept hk,?_⟩
 .exact name_of_addr x.apart (PySem.mem_of_lookup h1) (PySem.mem_of_lookup h2)
 .have hy:scope.names.lookup y=be .cell\/scope.names.lookup y=be .free:=hy;rcases hy with hy|hy
  .exact cell_has hy
  .exact absurd rfl (S.nofree _ (PySem.mem_of_lookup hy))
 .exact J9 (x.above y c (PySem.mem_of_lookup h))
 .have hi:i<vs.length:=by
   unfold start at h2;by_cases hi:i<vs.length
   .exact hi
   .rw[Jp (by simpa using hi)]at h2;rw[Ku]at h2;split at h2<;>cases h2
  have ha:vs[i]?=be v:=by
   unfold start at h2;rw[Ja (by simpa using hi),Iy]at h2;cases e:vs[i]? with
   |none=>rw[e]at h2;cases h2
   |some a=>rw[e]at h2;cases h2;rfl
  let#[u,hu,rv]:=r.get ha;have hp:ps[i]?=be y:=by
   rw[<-S.pre,Ke KK];exact h1
  have Sv:ps.Nodup:=by rw[<-S.pre];exact S.nd.sublist (List.take_sublist _ _)
  refine#[u,rv,?_];rcases S.par y (Jf hp)with k|k
  .exact .inl #[k,bindL_get Sv hp hu k]
  .let#[c,e]:=cell_has (n:=s.heap.objs.size+1) k;refine .inr #[.inl k,c,e,?_];have q:=x.cell y c e;rw[rD Sv hp hu (by show scope.names.lookup y≠_;rw[k];decide)]at q;exact q
 .exact e0.hok.fresh (J9 (x.above y c (PySem.mem_of_lookup h)))
 .unfold start;show _=N.length;rw[Ix,Ij,List.length_replicate];lia
def zb{name qual:Mr}{params:Arguments}{body:List VS}{dV kV doc pm cdv ct oc:Os}{an od:Option Pi}
  {osl:Array (Option Os)}   (lk:K.lookup f=be #[oc,od,.func (fnOf name qual params body scope dV kV doc pm an cdv ct),osl]) (g7:codeIn K cdv qual=true) (S:FnScope N ps scope)
  (len:∀vs H Q E,sp vs H Q E->vs.length=ps.length)
  (a9:∀(A:VY) (outer:List WD) (s:SB) (H:Hp) (vs:List V) (Q:VK) (E:XK),Room k (A.deeper (V7 qual scope s.heap.objs.size f cdv))->sp vs H Q E->
   ∃t,PSs (cxOf CX P w K mg base N qual scope f cdv A outer s H E) body t/\t {nx:=λ_ H'=>Q .non H',rt:=Q} (start N vs) H):
  FnOk P w K mg base CX (k+1) f (fnOf name qual params body scope dV kV doc pm an cdv ct) ps sp:=by
 refine#[len,λA outer s H args us vs Q E hr e0 hb r F_=>?_];have hl:=len _ _ _ _ F_;have KX:K.In s.heap:=e0.mod.kin.keeps λb o e=>(e0.bs b o e).1;have TC:s.heap.NoLimit:=e0.mod.nolimit.keeps λb o e=>(e0.bs b o e).1;have Oo:∀y∈ps.zip us,scope.names.lookup y.1=be .local\/(scope.names.lookup y.1=be .cell/\((cellsFrom (s.heap.objs.size+1) scope.names []).lookup y.1).isSome=true):=λ⟨n,v⟩ hy=>by
  rcases S.par n (Kt hy).1 with q|q
  .exact .inl q
  .exact .inr #[q,cellsFrom_some _ _ _ (.inl q)]
 refine codeAny_call_function hr.depth (KX _ _ lk) rfl S.co S.gen rfl (codeRec_of KX g7) (hb _ _ _ _ ?_);refine wpAny_newFunctionEnv_cells S.kind Oo λenv he s1 x=>?_;subst he;refine#[TC.keeps x.toInCall.keep,codeAny_func ?_];let#[t,ht,hq]:=a9 A outer s H vs Q E (hr.deeper _) F_;have I:Inv (cxOf CX P w K mg base N qual scope f cdv A outer s H E) [] (start N vs) H s1:=za S hr.hd e0 hl r x;refine V9 (ht [] s1 (start N vs) H _ I hq) (λfl s' hs=>?_) λe s' hs=>hs;have e_:∀{σ':St} {H':Hp} {v:V} {u:Os},Inv (cxOf CX P w K mg base N qual scope f cdv A outer s H E) [] σ' H' s'->RelV v u->Q v H'->CE outer P w H s Q u s':=
  λ{σ' H' v u} J rv q=>#[v,H',J.os,J.bare,J.base,J.hok,rv,q]
 cases fl with
 |ret u=>
  let#[v,σ',H',J,rv,q]:=hs;exact e_ J rv q
 |next=>
  let#[σ',H',J,q]:=hs;exact e_ (v:=V.non) (u:=Value.none) J rfl q
 |brk=>
  let#[_,_,_,q]:=hs;exact False.elim q
 |cont=>
  let#[_,_,_,q]:=hs;exact False.elim q
section
variable {X:Cx}{x:Mr}{p pos:V4}{e:VV}{es:List VV}{t:TA}{id T:String}{r:List V->Hp->VK->Prop}
def tCB(r:List V->Hp->VK->Prop)(t:TA):TE:=λσ H Q=>t σ H λvs H1=>r vs H1 Q
def fP(hc:bT X (.builtin id) r)(hg:Gl X x)(hm:X.mg x=z6)(hv:V_ x=be (.builtin id))(ha:PA X (e::es) t)(hn:(x≠"__name__")\zA1)(d9:zND x\zA1)
  (he:zSE X e es\zA0) (c8:zPL X pos es\zA0):PE X (.Call (.Name x p) (e::es) [] pos) (tCB r t):=by
 intro pins s σ H Q I h;refine V5 (dN I hg hm hv ?_ hn d9);exact PyProof.Rows.callWith_builtin1 (thn (ha pos pins s σ H _ I h) λus s1 ⟨vs,H1,I1,r1,q1⟩=>hc pins s1 σ H1 vs us Q I1 r1 q1) he c8
def jH(hc:bT X (.type T) r)(hg:Gl X x)(hm:X.mg x=z6)(hv:V_ x=be (.type T))(ha:PA X (e::es) t)(hn:(x≠"__name__")\zA1)(d9:zND x\zA1)
  (he:zSE X e es\zA0) (c8:zPL X pos es\zA0):PE X (.Call (.Name x p) (e::es) [] pos) (tCB r t):=by
 intro pins s σ H Q I h;refine V5 (dN I hg hm hv ?_ hn d9);exact PyProof.Rows.callWith_type1 (thn (ha pos pins s σ H _ I h) λus s1 ⟨vs,H1,I1,r1,q1⟩=>hc pins s1 σ H1 vs us Q I1 r1 q1) he c8
end
end L2
namespace HT
open PySem PyProof.Rows
section
variable {prog:VU}{w:VX}{A:VY}{E:Os->SB->Prop}{s:SB}
variable{Q:Os->SB->Prop}
def cat_tup{t b:Pi}{vs ws:List Os}(ht:IsTup s.heap t vs.toArray)(hb:IsTup s.heap b ws.toArray)(hv:vs≠[])
  (h1:ws=[]->Q (.ref t) s) (h2:ws≠[]->Q (.ref s.heap.objs.size) {s with heap:=s.heap.push {cls:=.type "tuple",data:=.seq (vs++ws).toArray} })
  (k8:vs.length+ws.length<=sizeLine):VW (VT prog w) A (Wc .Add (.ref t) (.ref b)) Q E s:=by
 let#[#[cls,dd,data,sl],ho,hc,n,hd]:=id ht;let#[#[TF,Sw,data2,Sx],Pm,Sy,n2,NN]:=id hb;simp only at hc hd Sy NN;subst hc hd Sy NN;have e:vs.toArray++ws.toArray=(vs++ws).toArray:=Nq
 by_cases hw:ws=[]
 .exact concat_meets #[_,ho,rfl] #[_,Pm,rfl] noFill_tuple_add seq_tuple_add PySem.F.slot_tuple_add PySem.F.entry_tuple_add (PySem.F.args_tuple_add_2 _ _)
   (tuple_addW1 t b vs.toArray ws.toArray n n2 dd Sw sl Sx (by simpa using hv) (by simp[hw])) #[ho,Pm,h1 hw]
 .refine concat_meets #[_,ho,rfl] #[_,Pm,rfl] noFill_tuple_add seq_tuple_add PySem.F.slot_tuple_add PySem.F.entry_tuple_add (PySem.F.args_tuple_add_2 _ _)
   (tuple_addW2 t b vs.toArray ws.toArray n n2 dd Sw sl Sx (by simpa using hv) (by simpa using hw) (by rw[Ir,Ir];exact k8)) #[ho,Pm,?_]
  rw[e];exact h2 hw
def sIx(n d:Nat):Option Int->Nat
 |none=>d
 |some v=>if v<0 then(v+(n:Int)).toNat else min v.toNat n
def sIx_none(n d:Nat):sIx n d z6=d:=rfl
def sIx_nat(n d k:Nat):sIx n d (be (k:Int))=min k n:=by
 show(if(k:Int)<0 then((k:Int)+(n:Int)).toNat else min (k:Int).toNat n)=min k n;rw[if_neg KK,Jb]
def sIx_le(n d:Nat)(hd:d<=n)(o:Option Int):sIx n d o<=n:=by
 cases o with
 |none=>exact hd
 |some v=>
  show(if v<0 then(v+(n:Int)).toNat else min v.toNat n)<=n;by_cases hv:v<0
  .rw[if_pos hv];lia
  .rw[if_neg hv];exact Nat.min_le_right _ _
def rE(v:Int)(n d:Nat):(if v<0 then max (v+(n:Int)) 0 else min v (n:Int))=((sIx n d (be v):Nat):Int):=by
 show(if v<0 then max (v+(n:Int)) 0 else min v (n:Int))=(((if v<0 then(v+(n:Int)).toNat else min v.toNat n):Nat):Int);by_cases hv:v<0
 .simp only[if_pos hv];lia
 .simp only[if_neg hv];lia
def zc(lo hi:Option Int)(n:Nat):Builtin.Slice.sliceAdjust lo hi 1 (n:Int)=(((sIx n 0 lo:Nat):Int),((sIx n n hi:Nat):Int)):=by
 have h1:¬((1:Int)<0):=KK
 unfold Builtin.Slice.sliceAdjust;simp only[h1,if_false];refine Prod.ext ?_ ?_
 .cases lo with
  |none=>rfl
  |some v=>exact rE v n 0
 .cases hi with
  |none=>rfl
  |some v=>exact rE v n n
def zd(i j:Nat):Builtin.Slice.slicePlaces (i:Int) (j:Int) 1=j-i:=by
 unfold Builtin.Slice.slicePlaces;have h1:(1:Int)>0:=KK
 simp only[h1,if_true,Int.ediv_one];split<;>lia
def rF{v:Os}{o:Option Int}{Q:Option Int->SB->Prop}(p:W4 v o)(h:Q o s):VW (VT prog w) A (Builtin.Slice.slicePartIndex v) Q E s:=by
 cases p with
 |none=>exact slicePart_none h
 |int i t=>exact slicePart_int h
variable{lo hi:Option Int}
def ze{sl:Pi}{vl vu:Os}{n:Nat}{Q:Int×Int×Nat->SB->Prop}(hs:s.heap.IsSliceOf sl vl vu .none)(pl:W4 vl lo)(pu:W4 vu hi)
  (h:Q (((sIx n 0 lo:Nat):Int),1,sIx n n hi-sIx n 0 lo) s):VW (VT prog w) A (Builtin.Slice.sliceApplied (.ref sl) (pure (n:Int))) Q E s:=by
 let#[os,Mt,Op,Pn]:=id hs;unfold Builtin.Slice.sliceApplied Builtin.Slice.sliceFields;refine P3 (P3 (Wv Mt Pn (x:=vl) rfl (P3 (Wv Mt Pn (x:=vu) rfl (P3 (Wv Mt Pn (x:=.none) rfl (SZ ?_)))))));refine P3 (slicePart_none ?_);show VW _ _ (if((1:Int)==0)=true then _ else _) _ _ s;rw[if_neg Nk];refine P3 (rF pl (P3 (rF pu (P3 (SZ ?_)))));show VW _ _ (match Builtin.Slice.sliceAdjust lo hi 1 (n:Int)with|(lo,hi)=>pure (lo,(1:Int),Builtin.Slice.slicePlaces lo hi 1)) _ _ s;rw[zc lo hi n];show VW _ _ (pure (((sIx n 0 lo:Nat):Int),(1:Int),Builtin.Slice.slicePlaces ((sIx n 0 lo:Nat):Int) ((sIx n n hi:Nat):Int) 1)) _ _ s;rw[zd];exact SZ h
def zf(xs:Array Os)(i k:Nat):((Il k).filterMap λ(m:Nat)=>xs[((i:Int)+(m:Int)*1).toNat]?).toArray=((xs.toList.drop i).take k).toArray:=by
 have e:(λ(m:Nat)=>xs[((i:Int)+(m:Int)*1).toNat]?)=λm=>xs[i+m]?:=by
  funext m;have:((i:Int)+(m:Int)*1).toNat=i+m:=KK
  rw[this]
 rw[e];have:=pick_run xs i k;rw[K5]at this;have e2:((λx=>xs[x]?) ∘ λx=>i+x)=λm=>xs[i+m]?:=rfl;rw[e2]at this;rw[this]
def getItem_tuple_cut{t sl:Pi}{items:Array Os}{vl vu:Os}(ht:IsTup s.heap t items)(hs:s.heap.IsSliceOf sl vl vu .none)(pl:W4 vl lo)(pu:W4 vu hi)
  (hw:¬(sIx items.size 0 lo=0/\sIx items.size items.size hi=items.size))
  (h:Q (.ref s.heap.objs.size) {s with heap:=s.heap.push {cls:=.type "tuple",data:=.seq ((items.toList.drop (sIx items.size 0 lo)).take (sIx items.size items.size hi-sIx items.size 0 lo)).toArray} })
  (k8:items.size<=sizeLine):VW (VT prog w) A (W7 (.ref t) (.ref sl)) Q E s:=by
 have j8:sizeOk (.seq ((items.toList.drop (sIx items.size 0 lo)).take (sIx items.size items.size hi-sIx items.size 0 lo)).toArray):=by
  show((items.toList.drop (sIx items.size 0 lo)).take (sIx items.size items.size hi-sIx items.size 0 lo)).toArray.size<=sizeLine;rw[Ir,JK,Jq,Kb];lia
 have hj:sIx items.size items.size hi<=items.size:=sIx_le _ _ (Ii _) hi;let#[os,Mt,Op,Pn]:=id hs;have TJ:s.TypeIs (.ref sl) "slice":=#[os,Mt,Op];unfold W7
 try with_reducible refine Wg ?_
 first|refine P3 (SZ ?_)|skip
 refine P3 (wpAny_sequenceKey ht.typeIs Nk ?_);refine P3 (wpAny_callSpecial?_slot (name:=Str.ofString "__getitem__") ht.typeIs PyProof.Rows.slot_tuple_getitem
  (wpAny_call_entry PyProof.Rows.slot_tuple_getitem ht.typeIs entry_tuple_getitem ?_ (args_tuple_getitem _ _)))
 show VW _ _ (Builtin.Tuple.tupleItemsOf (.ref t)>>=_) _ _ s;refine P3 (tupleItemsOf_ ht ?_);refine P3 (wpAny_typeOf TJ ?_);rw[if_pos Nk];refine P3 (ze hs pl pu ?_);have NO:¬((((sIx items.size 0 lo:Nat):Int)==0&&(1:Int)==1&&(sIx items.size items.size hi-sIx items.size 0 lo)==items.size)=true):=by
  intro q;rw[IS,IS]at q;have q1:((sIx items.size 0 lo:Nat):Int)=0:=eq_of_beq q.1.1;have q2:sIx items.size items.size hi-sIx items.size 0 lo=items.size:=eq_of_beq q.2;exact hw #[KK,KK]
 show VW _ _ (if(((sIx items.size 0 lo:Nat):Int)==0&&(1:Int)==1&&(sIx items.size items.size hi-sIx items.size 0 lo)==items.size)=true then _ else _) _ _ s;rw[if_neg NO,zf]
 first
  |exact P3 (m:=Builtin.Tuple.tupleExact _) (V8 (SZ ⟨_,rfl,SZ h⟩) j8)
  |exact P3 (m:=Builtin.Tuple.tupleExact _) (V8 (P3 (SZ (SZ ⟨_,rfl,SZ h⟩))) j8)
  |exact P3 (P3 (m:=Builtin.Tuple.tupleExact _) (V8 (SZ (SZ ⟨_,rfl,SZ h⟩)) j8))
  |exact P3 (P3 (m:=Builtin.Tuple.tupleExact _) (V8 (SZ ⟨_,rfl,SZ h⟩) j8))
end
end HT
namespace L2
open PySem PySem.Spec PyProof.Rows
abbrev TO:=St->Hp->(Option Int->Hp->Prop)->Prop
def PO(X:Cx)(e:Option VV)(t:TO):Prop:=
 ∀(pins:List (Pi×Wa)) (s:SB) (σ:St) (H:Hp) (Q:Option Int->Hp->Prop),Inv X pins σ H s->t σ H Q->
  VW (VT X.prog X.w) X.A (evalPart e X.env) (λu s'=>∃o H',Inv X pins σ H' s'/\W4 u o/\Q o H') X.xe s
def zg:TO:=λ_ H Q=>Q z6 H
def zh(t:TE):TO:=λσ H Q=>t σ H λx H1=>∃i,x=.int i/\Q (be i) H1
section
variable {X:Cx}{e:VV}{te:TE}{lo hi:Option VV}{tl th:TO}{pos p2:V4}
def jI:PO X z6 zg:=by
 intro pins s σ H Q I h;rw[evalPart_none];exact SZ #[z6,H,I,.none,h]
def jJ(h:PE X e te):PO X (be e) (zh te):=by
 intro pins s σ H Q I hw;rw[evalPart_some];refine thn (h pins s σ H _ I hw) λu s1 c7=>?_;let#[x,H1,I1,r1,q1]:=c7;let#[i,rfl,q]:=q1;let#[t,rfl]:=r1;exact#[be i,H1,I1,.int i t,q]
def SlR(X:Cx)(r:V->Option Int->Option Int->Hp->VK->Prop):Prop:=
 ∀(pins:List (Pi×Wa)) (s:SB) (σ:St) (H:Hp) (x:V) (v vl vu:Os) (lo hi:Option Int) (sl:Pi) (Q:VK),Inv X pins σ H s->RelV x v->s.heap.IsSliceOf sl vl vu .none->W4 vl lo->W4 vu hi->r x lo hi H Q->
  ∃T id,typeLookup (.type T) "__getitem__"=pure (be (.builtin id))/\s.TypeIs v T/\VW (VT X.prog X.w) X.A (W7 v (.ref sl)) (EP X pins σ Q) X.xe s
variable{r:V->Option Int->Option Int->Hp->VK->Prop}
def SlR.or{r':V->Option Int->Option Int->Hp->VK->Prop}(h:SlR X r)(h':SlR X r'):SlR X (λx lo hi H Q=>r x lo hi H Q\/r' x lo hi H Q):=by
 intro pins s σ H x v vl vu lo hi sl Q I rx hs pl pu q;rcases q with q|q
 .exact h pins s σ H x v vl vu lo hi sl Q I rx hs pl pu q
 .exact h' pins s σ H x v vl vu lo hi sl Q I rx hs pl pu q
def tSl(r:V->Option Int->Option Int->Hp->VK->Prop)(te:TE)(tl th:TO):TE:=λσ H Q=>te σ H λx H1=>tl σ H1 λl H2=>th σ H2 λu H3=>r x l u H3 Q
def gR(hr:SlR X r)(he:PE X e te)(hl:PO X lo tl)(hu:PO X hi th):PE X (.Subscript e (.Slice lo hi z6 p2) pos) (tSl r te tl th):=by
 intro pins s σ H Q I h;refine Subscript_ (thn (he pins s σ H _ I h) λv s1 c7=>?_);let#[x,H1,I1,r1,q1]:=c7;refine wpAny_Slice (thn (hl pins s1 σ H1 _ I1 q1) λvl s2 ⟨l,H2,I2,pl,q2⟩=>thn (hu pins s2 σ H2 _ I2 q2) λvu s3 c7=>?_);let#[u,H3,I3,pu,q3]:=c7;rw[evalPart_none];refine SZ ?_;have I4:Inv X pins σ H3 {s3 with heap:=s3.heap.push {cls:=.type "slice",data:=.fields [vl,vu,.none].toArray} }:=I3.kept (t':=s3.toks) λb ob q=>Heap.get?_push_of_some _ q;let#[T,id,hT,ht,hg]:=hr pins {s3 with heap:=s3.heap.push {cls:=.type "slice",data:=.fields [vl,vu,.none].toArray} } σ H3 x v vl vu l u s3.heap.objs.size Q I4 r1 (Heap.IsSliceOf.new ..) pl pu q3;show VW (VT X.prog X.w) X.A (subscriptTail e (.Slice lo hi z6 p2) v (.ref s3.heap.objs.size)) (EP X pins σ Q) X.xe {s3 with heap:=s3.heap.push {cls:=.type "slice",data:=.fields [vl,vu,.none].toArray} };exact tail_any (ops:=[.ref s3.heap.objs.size,v]) ht hT hg (by with_unfolding_all rfl)
def cutV(xs:List V)(lo hi:Option Int):List V:=(xs.drop (HT.sIx xs.length 0 lo)).take (HT.sIx xs.length xs.length hi-HT.sIx xs.length 0 lo)
def rG(xs:List V)(lo hi:Option Int):(cutV xs lo hi).length<=xs.length:=by
 unfold cutV;rw[JK,Jq];lia
def rSlT(K:Ex):V->Option Int->Option Int->Hp->VK->Prop:=λx lo hi H Q=>∃a xs,x=.ref a/\SqT K H a xs/\
 ¬(HT.sIx xs.length 0 lo=0/\HT.sIx xs.length xs.length hi=xs.length)/\∀p,H p=z6->Q (.ref p) (upd H p (.tup (cutV xs lo hi)))
def rH:SlR X (rSlT X.K):=by
 intro pins s σ H x v vl vu lo hi sl Q I rx hs pl pu h;let#[a,xs,rfl,hx,hw,q]:=h;cases rx;let#[its,r,ht,hz]:=I.tuple hx;have b9:its.toArray.size=xs.length:=by rw[Ir];exact r.length.symm
 refine#["tuple",_,PyProof.Rows.slot_tuple_getitem.lookup,ht.typeIs,?_];refine HT.getItem_tuple_cut ht hs pl pu (by rw[b9];exact hw) ?_ (by rw[b9];exact hz);rw[b9];refine#[.ref s.heap.objs.size,_,I.laid (t':=s.toks) (o:=.tup (cutV xs lo hi)) (λb ob q=>Heap.get?_push_of_some _ q) (Ii _) ?_,rfl,q _ (I.hok.fresh (Ii _))];exact#[Io (rG xs lo hi) hz,_,(r.drop (HT.sIx xs.length 0 lo)).take (HT.sIx xs.length xs.length hi-HT.sIx xs.length 0 lo),IsTup.new _ _]
def rJ(K:Ex):R2:=λx y H Q=>∃a b xs ys,x=.ref a/\y=.ref b/\SqT K H a xs/\SqT K H b ys/\xs≠[]/\xs.length+ys.length<=sizeLine/\
 (ys=[]->Q (.ref a) H)/\(ys≠[]->∀p,H p=z6->Q (.ref p) (upd H p (.tup (xs++ys))))
def Vals.nil_iff{xs:List V}{us:List Os}(r:Vals xs us):us=[]↔xs=[]:=by
 cases r with
 |nil=>simp
 |cons _ _=>simp
def zi:OpR X (Wc .Add) (rJ X.K):=by
 intro pins s σ H x y v u Q I rx ry h;let#[a,b,xs,ys,rfl,rfl,ha,hb,hx,hz,q1,q2]:=h;cases rx;cases ry;let#[its,r1,p1,_]:=I.tuple ha;let#[r_,r2,p2,_]:=I.tuple hb;refine HT.cat_tup p1 p2 (λz=>hx (r1.nil_iff.mp z)) (λz=>#[.ref a,H,I,rfl,q1 (r2.nil_iff.mp z)]) (λz=>?_) (by rw[<-r1.length,<-r2.length];exact hz);refine#[.ref s.heap.objs.size,_,I.laid (t':=s.toks) (o:=.tup (xs++ys)) (λb ob q=>Heap.get?_push_of_some _ q) (Ii _) ?_,rfl,q2 (λw=>z (r2.nil_iff.mpr w)) _ (I.hok.fresh (Ii _))];exact#[by rw[Ix];exact hz,_,r1.append r2,IsTup.new _ _]
end
def ixN(n:Nat)(i:Int):Option Nat:=if 0<=i then(if i<n then be i.toNat else z6)else if -(n:Int)<=i then be (i+n).toNat else z6
def atI{α:Type}(xs:List α)(i:Int):Option α:=(ixN xs.length i).bind λj=>xs[j]?
def rK{n:Nat}{i:Int}{j:Nat}(h:ixN n i=be j):seqIndex? i n=be j/\j<n/\-(n:Int)<=i/\i<n:=by
 unfold ixN at h;by_cases h0:0<=i
 .rw[if_pos h0]at h;by_cases h1:i<n
  .rw[if_pos h1]at h;have e:i.toNat=j:=Option.some.inj h;exact#[by rw[Xv h0 h1,e],KK,KK,h1]
  .rw[if_neg h1]at h;cases h
 .rw[if_neg h0]at h;by_cases h1:-(n:Int)<=i
  .rw[if_pos h1]at h;have e:(i+n).toNat=j:=Option.some.inj h;exact#[by rw[Xl KK h1,e],KK,h1,KK]
  .rw[if_neg h1]at h;cases h
def atI_get{α:Type}{xs:List α}{i:Int}{v:α}(h:atI xs i=be v):∃j,seqIndex? i xs.length=be j/\xs[j]?=be v/\j<xs.length/\-(xs.length:Int)<=i/\i<xs.length:=by
 unfold atI at h;cases e:ixN xs.length i with
 |none=>rw[e]at h;cases h
 |some j=>
  rw[e]at h;let#[h1,h2,h3,h4]:=rK e;exact#[j,h1,h,h2,h3,h4]
def bI{α:Type}{xs:List α}{j:Nat}{v:α}(h:xs[j]?=be v):atI xs (j:Int)=be v:=by
 have hj:j<xs.length:=(IB.mp h).1;have e:ixN xs.length (j:Int)=be j:=by
  unfold ixN;rw[if_pos KK,if_pos KK];simp
 unfold atI;rw[e];exact h
def eN(b:VV):Prop:=∀o i,subscripted b false o i=operate [o,i] (W7 o i)
def IxR(X:Cx)(r:R2):Prop:=
 ∀(value slice:VV) (pins:List (Pi×Wa)) (s:SB) (σ:St) (H:Hp) (x y:V) (v u:Os) (Q:VK),Inv X pins σ H s->RelV x v->RelV y u->r x y H Q->
  subscripted slice false v u=operate [v,u] (W7 v u)->VW (VT X.prog X.w) X.A (subscriptTail value slice v u) (EP X pins σ Q) X.xe s
def MtR(X:Cx)(id:String)(r:V->List V->Hp->VK->Prop):Prop:=
 ∀(pins:List (Pi×Wa)) (s:SB) (σ:St) (H:Hp) (x:V) (xs:List V) (v:Os) (us:List Os) (Q:VK),Inv X pins σ H s->RelV x v->Vals xs us->r x xs H Q->
  VW (VT X.prog X.w) X.A (call (.builtin id) (v::us)) (EP X pins σ Q) X.xe s
section
variable {X:Cx}{a b:VV}{ta tb:TE}{pos:V4}
def IxR.or{r r':R2}(h:IxR X r)(h':IxR X r'):IxR X (λx y H Q=>r x y H Q\/r' x y H Q):=by
 intro value slice pins s σ H x y v u Q I rx ry q hs;rcases q with q|q
 .exact h value slice pins s σ H x y v u Q I rx ry q hs
 .exact h' value slice pins s σ H x y v u Q I rx ry q hs
def pe_ix{r:R2}(hr:IxR X r)(ha:PE X a ta)(hb:PE X b tb)(hs:eN b):PE X (.Subscript a b pos) (tOp r ta tb):=by
 intro pins s σ H Q I h;exact Subscript_ (binT ha hb I h λv u s2 x y H2 I2 rx ry q=>hr a b pins s2 σ H2 x y v u Q I2 rx ry q (hs _ _))
def rIxL(K:Ex):R2:=λx y H Q=>∃p xs i v,x=.ref p/\y=.int i/\SqL K H p xs/\atI xs i=be v/\Q v H
def rIxT(K:Ex):R2:=λx y H Q=>∃p xs i v,x=.ref p/\y=.int i/\SqT K H p xs/\atI xs i=be v/\Q v H
def rIxS:R2:=λx y H Q=>∃z i c,x=.str z/\y=.int i/\z.length<=sizeLine/\atI z.cps.toList i=be c/\Q (.str #[[c].toArray]) H
def ix_list:IxR X (rIxL X.K):=by
 intro value slice pins s σ H x y v u Q I rx ry h hs;let#[p,xs,i,z,rfl,rfl,hq,he,q]:=h;cases rx;let#[t,rfl]:=ry;let#[its,r,pl,hz]:=I.list hq;let#[j,h1,h2,h3,h4,h5]:=atI_get he;let#[w,ew,j5]:=r.get h2;have hl:=r.length;have hn:=line63;have e_:EP X pins σ Q w s:=#[z,H,I,j5,q];by_cases h0:0<=i
 .have hj:i.toNat=j:=by
   rw[Xv h0 h5]at h1;exact Option.some.inj h1
  exact item_listR pl.isList h0 KK (by rw[hj];simpa using ew) e_ hs
 .have hj:(i+(its.toArray.size:Int)).toNat=j:=by
   rw[Xl KK h4]at h1;rw[Ir,<-hl];exact Option.some.inj h1
  exact Xj (x:=w) pl.isList.typeIs slot_list_getitem.lookup
   (wpAny_getItem_list_neg (Q:=λr s'=>r=w/\EP X pins σ Q r s') pl.isList KK (by rw[Ir]<;>lia) KK (by rw[hj];simpa using ew) #[rfl,e_]) hs
def ix_tup:IxR X (rIxT X.K):=by
 intro value slice pins s σ H x y v u Q I rx ry h hs;let#[p,xs,i,z,rfl,rfl,hq,he,q]:=h;cases rx;let#[t,rfl]:=ry;let#[its,r,pl,hz]:=I.tuple hq;let#[j,h1,h2,h3,h4,h5]:=atI_get he;let#[w,ew,j5]:=r.get h2;have hl:=r.length;have hn:=line63;have e_:EP X pins σ Q w s:=#[z,H,I,j5,q];exact Xj (x:=w) pl.typeIs slot_tuple_getitem.lookup
  (getItem_tuple (j:=j) (Q:=λr s'=>r=w/\EP X pins σ Q r s') pl KK KK (by rw[Ir,<-hl];exact h1) (by simpa using ew) #[rfl,e_]) hs
def zj:IxR X rIxS:=by
 intro value slice pins s σ H x y v u Q I rx ry h hs;let#[z,i,c,rfl,rfl,hz,he,q]:=h;let#[t,rfl]:=rx;let#[t',rfl]:=ry;let#[j,h1,h2,h3,h4,h5]:=atI_get he;have hl:z.cps.toList.length=z.length:=by simp[Str.length]
 rw[hl]at h1 h4 h5;have hn:=line63;exact tail_any (XF s z t) slot_str_getitem.lookup (getItem_str (c:=c) (by
  have e1:decide (i< -(2^63:Int))=false:=decide_eq_false KK;have e2:decide (i>=2^63)=false:=decide_eq_false KK;rw[e1,e2,Bool.or_false]) (by rw[h1];simpa using h2) #[.str #[[c].toArray],H,I.tok _,#[_,rfl],q]) hs
def rIx(K:Ex):R2:=λx y H Q=>rIxL K x y H Q\/rIxT K x y H Q\/rIxS x y H Q
def rL:IxR X (rIx X.K):=ix_list.or (ix_tup.or zj)
def zk(its:List Os)(n j:Nat)(u:Os):Obj.mapSeq (·.setIfInBounds j u) {cls:=.type "list",data:=.seq its.toArray n}={cls:=.type "list",data:=.seq (its.set j u).toArray n}:=by
 simp[Obj.mapSeq]
def Inv.lst{pins:List (Pi×Wa)}{σ:St}{H:Hp}{s:SB}{p:Pi}{xs:List V}(I:Inv X pins σ H s)(h:H p=be (.lst xs)):
  ∃(its:List Os) (n:Nat),Vals xs its/\s.heap.get? p=be {cls:=.type "list",data:=.seq its.toArray n}/\xs.length<=sizeLine:=by
 let#[z,its,n,r,e]:=I.hok p _ h;exact#[its,n,r,e,z]
variable{pins:List (Pi×Wa)}{s:SB}
def Inv.lstUpd{σ:St}{H:Hp}{p:Pi}{xs ys:List V}{its its':List Os}{n n':Nat}{f:Wa->Wa}(I:Inv X pins σ H s)(h:H p=be (.lst xs))
  (ho:s.heap.get? p=be {cls:=.type "list",data:=.seq its.toArray n}) (hf:f {cls:=.type "list",data:=.seq its.toArray n}={cls:=.type "list",data:=.seq its'.toArray n'}) (r:Vals ys its') (hz:ys.length<=sizeLine) (t:Nat):
  Inv X pins σ (upd H p (.lst ys)) {s with heap:=s.heap.update p f,toks:=t}:=by
 have e:(s.heap.update p f).get? p=be {cls:=.type "list",data:=.seq its'.toArray n'}:=by
  rw[Heap.get?_update_self f ho (by rw[hf]<;>rfl),hf]
 refine I.write (x:=p) (e:=p) (by rw[h];trivial) (.inl rfl) (λb u hb q=>(Heap.get?_update_other _ _ (Ne.symm hb)).trans q) #[_,e] ?_;exact#[hz,its',n',r,e]
def zl:V->V->V->Hp->(Hp->Prop)->Prop:=λo i v H Q=>∃p xs k j,o=.ref p/\i=.int k/\H p=be (.lst xs)/\ixN xs.length k=be j/\Q (upd H p (.lst (xs.set j v)))
def rM:PSet X zl:=by
 intro pins s σ H o i v ov iv u Q I ro ri rv h;let#[p,xs,k,j,rfl,rfl,hp,hj,q]:=h;cases ro;let#[t,rfl]:=ri;let#[its,n,r,ho,hz]:=I.lst hp;let#[h1,h2,h3,h4]:=rK hj;have hl:=r.length;have hn:=line63;have I':Inv X pins σ (upd H p (.lst (xs.set j v))) {s with heap:=s.heap.update p (Obj.mapSeq (·.setIfInBounds j u))}:=
  I.lstUpd hp ho (zk its n j u) (r.set rv j) (by rw[Jc];exact hz) s.toks
 by_cases h0:0<=k
 .have hk:k.toNat=j:=by
   rw[Xv h0 h4]at h1;exact Option.some.inj h1
  exact ki_setAt ho h0 KK (by rw[Ir,<-hl];exact h4) (by rw[hk];exact#[_,I',q])
 .have hk:(k+(its.toArray.size:Int)).toNat=j:=by
   rw[Xl KK h3]at h1;rw[Ir,<-hl];exact Option.some.inj h1
  exact ki_setBack ho KK (by rw[Ir,<-hl];exact h3) KK (by rw[hk];exact#[_,I',q])
def zm(lo hi:Option Int)(n:Nat):(Ww lo hi z6 n).1=((HT.sIx n 0 lo:Nat):Int)/\(Ww lo hi z6 n).2.1=((HT.sIx n n hi:Nat):Int)/\(Ww lo hi z6 n).2.2=1:=by
 refine#[?_,?_,rfl]
 .cases lo with
  |none=>simp[Ww,HT.sIx]
  |some i=>
   simp only[Ww,HT.sIx,K6,show(1:Int)>0 by decide,if_true];by_cases h:i<0
   .simp only[h,if_true]<;>lia
   .simp only[h,if_false]<;>lia
 .cases hi with
  |none=>simp[Ww,HT.sIx]
  |some i=>
   simp only[Ww,HT.sIx,K6,show(1:Int)>0 by decide,if_true];by_cases h:i<0
   .simp only[h,if_true]<;>lia
   .simp only[h,if_false]<;>lia
def zn(its:List Os)(lo hi:Option Int):slicePick its.toArray lo hi z6=((its.drop (HT.sIx its.length 0 lo)).take (HT.sIx its.length its.length hi-HT.sIx its.length 0 lo)).toArray:=by
 let#[h1,h2,h3]:=zm lo hi its.toArray.size;unfold slicePick;rw[h1,h2,h3];simp only[sliceRange_one,pick_run,Ir]<;>rfl
def rSlL(K:Ex):V->Option Int->Option Int->Hp->VK->Prop:=λx lo hi H Q=>∃a xs,x=.ref a/\SqL K H a xs/\∀p,H p=z6->Q (.ref p) (upd H p (.lst (cutV xs lo hi)))
def gS:SlR X (rSlL X.K):=by
 intro pins s σ H x v vl vu lo hi sl Q I rx hs pl pu h;let#[a,xs,rfl,hx,q]:=h;cases rx;let#[its,r,ht,hz]:=I.list hx;have b9:=r.length;refine#["list",_,slot_list_getitem.lookup,ht.isList.typeIs,?_];refine wpAny_getItem_list_slice ht.isList hs pl pu .none Nq ?_ (by rw[Ir]<;>lia);rw[zn,<-b9];refine#[.ref s.heap.objs.size,_,I.laid (t':=s.toks) (o:=.lst (cutV xs lo hi)) (λb ob q=>Heap.get?_push_of_some _ q) (Ii _) ?_,rfl,q _ (I.hok.fresh (Ii _))];exact#[Io (rG xs lo hi) hz,_,0,(r.drop (HT.sIx xs.length 0 lo)).take (HT.sIx xs.length xs.length hi-HT.sIx xs.length 0 lo),Heap.get?_push_size _ rfl]
def bJ:V->Bool
 |.non=>true
 |.bl _=>true
 |.int _=>true
 |.str _=>true
 |_=>false
def eqV:V->V->Bool
 |.non,.non=>true
 |.bl a,.bl b=>a==b
 |.bl a,.int b=>(if a then 1 else 0)==b
 |.int a,.bl b=>a==(if b then 1 else 0)
 |.int a,.int b=>a==b
 |.str a,.str b=>a==b
 |_,_=>false
variable{x:V}
def eqAt_V{A:VY}{y:V}{u v:Os}(ry:RelV y u)(rx:RelV x v)(fy:bJ y=true)(fx:bJ x=true):SeqAt.EqAt A s u v (eqV y x):=by
 cases y with
 |non=>
  cases ry;cases x with
  |non=>cases rx;exact SeqAt.EqAt.same _
  |bl b=>cases rx;exact SeqAt.EqAt.none_bool b
  |int b=>let#[t,rfl]:=rx;exact SeqAt.EqAt.none_int b t
  |str b=>let#[t,rfl]:=rx;exact SeqAt.EqAt.none_str b t
  |_=>exact absurd (show false=true from fx) IA
 |bl a=>
  cases ry;cases x with
  |non=>cases rx;exact SeqAt.EqAt.bool_none a
  |bl b=>cases rx;exact SeqAt.EqAt.bool_bool a b
  |int b=>let#[t,rfl]:=rx;exact SeqAt.EqAt.bool_int a b t
  |str b=>let#[t,rfl]:=rx;exact SeqAt.EqAt.bool_str a b t
  |_=>exact absurd (show false=true from fx) IA
 |int a=>
  let#[t',rfl]:=ry;cases x with
  |non=>cases rx;exact SeqAt.EqAt.int_none a t'
  |bl b=>cases rx;exact SeqAt.EqAt.int_bool a t' b
  |int b=>let#[t,rfl]:=rx;exact SeqAt.EqAt.int_int a t' b t
  |str b=>let#[t,rfl]:=rx;exact SeqAt.EqAt.int_str a t' b t
  |_=>exact absurd (show false=true from fx) IA
 |str a=>
  let#[t',rfl]:=ry;cases x with
  |non=>cases rx;exact SeqAt.EqAt.str_none a t'
  |bl b=>cases rx;exact SeqAt.EqAt.str_bool a t' b
  |int b=>let#[t,rfl]:=rx;exact SeqAt.EqAt.str_int a t' b t
  |str b=>let#[t,rfl]:=rx;exact SeqAt.EqAt.str_str a t' b t
  |_=>exact absurd (show false=true from fx) IA
 |_=>exact absurd (show false=true from fy) IA
def eqU(x:V)(u:Os):Bool:=match u with
 |.none=>eqV .non x
 |.bool b=>eqV (.bl b) x
 |.int i _=>eqV (.int i) x
 |.str z _=>eqV (.str z) x
 |_=>false
def rN{y:V}{u:Os}(r:RelV y u)(f:bJ y=true):eqU x u=eqV y x:=by
 cases y with
 |non=>cases r;rfl
 |bl b=>cases r;rfl
 |int i=>let#[t,rfl]:=r;rfl
 |str z=>let#[t,rfl]:=r;rfl
 |_=>exact absurd (show false=true from f) IA
def jK{x:V}:∀{xs:List V} {us:List Os},Vals xs us->xs.all bJ=true->us.any (eqU x)=xs.any λy=>eqV y x
 |_,_,.nil,_=>rfl
 |y::xs,u::us,.cons r t,f=>by
  rw[JL,IS]at f;rw[Kf,Kf,rN r f.1,jK t f.2]
def mem_eqAt{A:VY}{s:SB}{x:V}{v:Os}(rx:RelV x v)(fx:bJ x=true):∀{xs:List V} {us:List Os},Vals xs us->xs.all bJ=true->∀u∈us,SeqAt.EqAt A s u v (eqU x u)
 |_,_,.nil,_=>λu hu=>by cases hu
 |y::xs,u::us,.cons r t,f=>λu' hu=>by
  rw[JL,IS]at f;rcases Ik.mp hu with rfl|hu
  .rw[rN r f.1];exact eqAt_V r rx f.1 fx
  .exact mem_eqAt rx fx t f.2 u' hu
def inV(x:V)(xs:List V):Bool:=xs.any λy=>eqV y x
def rIn(K:Ex)(neg:Bool):R2:=λx y H Q=>∃p xs,y=.ref p/\(SqL K H p xs\/SqT K H p xs)/\bJ x=true/\xs.all bJ=true/\Q (.bl (if neg then !inV x xs else inV x xs)) H
def zo:OpR X (V6 .NotIn) (rIn X.K true):=by
 intro pins s σ H x y v u Q I rx ry h;let#[p,xs,rfl,hq,fx,fs,q]:=h;cases ry;rcases hq with hq|hq
 .let#[its,r,pl,hz]:=I.list hq;refine SeqAt.notIn_listAt (eqU x) pl.isList (λw hw=>mem_eqAt rx fx r fs w (by simpa using hw)) #[.bl _,H,I,rfl,?_];rw[show its.toArray.any (eqU x)=its.any (eqU x)by simp,jK r fs];exact q
 .let#[its,r,pl,hz]:=I.tuple hq;refine SeqAt.notIn_tupleAt (eqU x) pl (λw hw=>mem_eqAt rx fx r fs w (by simpa using hw)) #[.bl _,H,I,rfl,?_];rw[show its.toArray.any (eqU x)=its.any (eqU x)by simp,jK r fs];exact q
def zp:OpR X (V6 .NotIn) (λx y H Q=>∃i j,x=.str i/\y=.str j/\Q (.bl (!(!(Builtin.Str.occurrences j i 0 j.length 1).isEmpty))) H):=by
 intro pins s σ H x y v u Q I rx ry h;let#[i,j,rfl,rfl,q]:=h;let#[t,rfl]:=rx;let#[t',rfl]:=ry;exact notIn_str #[.bl _,H,I,rfl,q]
def rO:bT X (.type "list") (λxs H Q=>∃p ys,xs=[.ref p]/\(SqL X.K H p ys\/SqT X.K H p ys)/\∀l,H l=z6->Q (.ref l) (upd H l (.lst ys))):=by
 intro pins s σ H xs us Q I r h;let#[p,ys,rfl,hq,q]:=h;let#[u,rfl,rx]:=vals1 r;cases rx;have e_:∀(its:List Os),Vals ys its->ys.length<=sizeLine->∀(h':Heap) (c':Nat),(∀b o',s.heap.get? b=be o'->h'.get? b=be o')->
   h'.get? s.heap.objs.size=be {cls:=.type "list",dict:=z6,data:=.seq its.toArray c',slots:=[].toArray}->EP X pins σ Q (.ref s.heap.objs.size) {s with heap:=h'}:=λits r' hz h' c' kp e=>
  #[.ref s.heap.objs.size,_,I.laid (t':=s.toks) kp (Ii _) (show ObjOk X.prog X.w _ h' _ (.lst ys)from#[hz,its,c',r',e]),rfl,q _ (I.hok.fresh (Ii _))]
 rcases hq with hq|hq
 .let#[its,r',pl,hz]:=I.list hq;have b9:=r'.length;let#[o,ho,hc,n,hd]:=pl.isList;exact call_list_seq p (.inl rfl) ho hc hd (λh' c' kp e=>e_ its r' hz h' c' kp e) (by simp only[Ir]<;>lia)
 .let#[its,r',pl,hz]:=I.tuple hq;have b9:=r'.length;let#[o,ho,hc,n,hd]:=pl;exact call_list_seq p (.inr rfl) ho hc hd (λh' c' kp e=>e_ its r' hz h' c' kp e) (by simp only[Ir]<;>lia)
def tyV(K:Ex)(T:String)(x:V)(H:Hp):Prop:=match x with
 |.str _=>T="str"
 |.int _=>T="int"
 | .ref p=>(T="list"/\∃xs,SqL K H p xs)\/(T="tuple"/\∃o,K.lookup p=be o/\o.cls=.type "tuple"/\o.dict=z6)\/
   (T="dict"/\((∃a_,H p=be (.dK a_))\/∃a_,H p=be (.dT a_)))\/(T="set"/\∃S n,H p=be (.set S n))
 |_=>False
def rP{σ:St}{H:Hp}{T:String}{v:Os}(I:Inv X pins σ H s)(r:RelV x v)(ty:tyV X.K T x H):
  s.TypeIs v T/\∀a,v=.ref a->∃ob,s.heap.get? a=be ob/\ob.dict=none:=by
 cases x with
 |str z=>
  let#[t,rfl]:=r;cases(show T="str" from ty);exact#[XF s z t,λ_ e=>nomatch e]
 |int i=>
  let#[t,rfl]:=r;cases(show T="int" from ty);exact#[XG s i t,λ_ e=>nomatch e]
 |ref p=>
  cases r;rcases ty with⟨rfl,xs,hq⟩|⟨rfl,o,hk,hc,hd⟩|⟨rfl,hk⟩|⟨rfl,S,n,hk⟩
  .let#[its,_,pl,_]:=I.list hq;refine#[pl.isList.typeIs,λa e=>?_];cases e;let#[o,n,e,c,hd,_]:=pl;exact#[o,e,hd]
  .refine#[#[o,I.kIn p o hk,hc],λa e=>?_];cases e;exact#[o,I.kIn _ o hk,hd]
  .have z:∃o,s.heap.get? p=be o/\o.ExactDict:=by
    rcases hk with⟨a_,hk⟩|⟨a_,hk⟩
    .let#[_,_,_,_,o,_,_,e,ex,_]:=I.hok p _ hk;exact#[o,e,ex]
    .let#[_,_,_,_,o,_,_,e,ex,_]:=I.hok p _ hk;exact#[o,e,ex]
   let#[o,e,ex]:=z;refine#[#[o,e,ex.1],λa e2=>?_];cases e2;exact#[o,e,ex.2.1]
  .let#[o,_,_,_,e,ex,_]:=I.hok p _ hk;refine#[#[o,e,ex.1],λa e2=>?_];cases e2;exact#[o,e,ex.2.1]
 |_=>exact False.elim ty
def tBM0(K:Ex)(T:String)(r:V->List V->Hp->VK->Prop)(to:TE):TE:=λσ H Q=>to σ H λx H1=>tyV K T x H1/\r x [] H1 Q
def tBM(K:Ex)(T:String)(r:V->List V->Hp->VK->Prop)(to:TE)(t:TA):TE:=λσ H Q=>to σ H λx H1=>tyV K T x H1/\t σ H1 λxs H2=>r x xs H2 Q
variable {o e:VV}{es:List VV}{to:TE}{t:TA}{name:Mr}{b7 a8:V4}{T id:String}{r:V->List V->Hp->VK->Prop}
def zq(pa:PlainAttrs T)(slot:Slot T name id)(Oq:typeOf (.builtin id)=pure (.type "method_descriptor"))(hm:MtR X id r)(ho:PE X o to)
  (b_:(V1 o name X.env (V3 o X.env)=V3 o X.env)\zA0) (c9:((b7.endLine==a8.line)=true)\zA0):PE X (.Call (.Attribute o name b7) [] [] a8) (tBM0 X.K T r to):=by
 intro pins s σ H Q I h;refine wpAny_Call_method0_late b_ c9 (thn (ho pins s σ H _ I h) λv s1 c7=>?_);let#[x,H1,I1,r1,ty,q1]:=c7;let#[h1,h2]:=rP I1 r1 ty;exact#[T,id,pa,slot,Oq,h1,h2,Calls.callWith_builtin rfl (PySem.evalArgs_none (hm pins s1 σ H1 x [] v [] Q I1 r1 .nil q1))]
def eO(pa:PlainAttrs T)(slot:Slot T name id)(Oq:typeOf (.builtin id)=pure (.type "method_descriptor"))(hm:MtR X id r)(ho:PE X o to)(ha:PA X (e::es) t)
  (b_:(V1 o name X.env (V3 o X.env)=V3 o X.env)\zA0)
  (f6:((WK a8 (VZ (e::es) X.env)).all (λx=>!x.1)&&(W0 a8 (WI [] X.env)).all (λx=>x.1.isSome)
   && decide ((e::es).length+([]:List XW).length+(if([]:List XW).isEmpty then 0 else 1)<30))=true:=by rfl)
  (c9:((b7.endLine==a8.line)=true)\zA0) (hs:zSE X e es\zA0) (s9:zPL X a8 es\zA0):
  PE X (.Call (.Attribute o name b7) (e::es) [] a8) (tBM X.K T r to t):=by
 intro pins s σ H Q I h;refine wpAny_Call_method_late b_ f6 c9 rfl (thn (ho pins s σ H _ I h) λv s1 c7=>?_);let#[x,H1,I1,r1,ty,q1]:=c7;let#[h1,h2]:=rP I1 r1 ty;refine#[T,id,pa,slot,Oq,h1,h2,?_];have hA:=ha a8 pins s1 σ H1 _ I1 q1;rw[hs]at hA ⊢;refine Calls.callWith_builtin (by show(false||(WK a8 (VZ es X.env)).any (·.1))=false;rw[s9]<;>rfl) (Calls.evalArgs_plain ?_);exact thn hA λus s2 ⟨vs,H2,I2,r2,q2⟩=>hm pins s2 σ H2 x vs v us Q I2 r1 r2 q2
end
def MtM(X:Cx)(id:String)(r:V->List V->Hp->VK->Prop):Prop:=
 ∀(pins:List (Pi×Wa)) (s:SB) (σ:St) (H:Hp) (x:V) (xs:List V) (v:Os) (us:List Os) (Q:VK),Inv X pins σ H s->RelV x v->Vals xs us->r x xs H Q->
  VW (VT X.prog X.w) X.A (call (.builtin id) (v::us)) (EP X pins σ Q) X.xe s
def Vals.one:∀{x:V} {us:List Os},Vals [x] us->∃u,us=[u]/\RelV x u:=by
 intro x us h;cases h with
 |cons r h=>cases h;exact#[_,rfl,r]
def Vals.zero:∀{us:List Os},Vals [] us->us=[]
 |_,.nil=>rfl
def Vals.dropLast{xs:List V}{us:List Os}(h:Vals xs us):Vals xs.dropLast us.dropLast:=by
 induction h with
 |nil=>exact .nil
 |cons r t ih=>
  cases t with
  |nil=>exact .nil
  |cons q t'=>exact .cons r ih
def Vals.rep{xs:List V}{us:List Os}(h:Vals xs us):∀k:Nat,Vals (Iw k xs).flatten (Iw k us).flatten
 |0=>.nil
 |k+1=>by
  rw[Jd,Jd,Jr,Jr];exact Vals.append h (Vals.rep h k)
def zr{α:Type}(l:List α):l.eraseIdx (l.length-1)=l.dropLast:=by
 induction l with
 |nil=>rfl
 |cons a r ih=>
  cases r with
  |nil=>rfl
  |cons b r=>
   have e:(a::b::r).length-1=((b::r).length-1)+1:=by
    have h1:(a::b::r).length=r.length+2:=rfl;have h2:(b::r).length=r.length+1:=rfl;lia
   rw[e,List.eraseIdx_cons_succ,ih]
   all_goals rfl
def foldl_rep(its:List Os):∀(k:Nat) (g8:List Os),
  Kv (λx1 x2=>x1++x2) g8.toArray (Iw k its.toArray)=(g8++(Iw k its).flatten).toArray
 |0,g8=>by simp
 |k+1,g8=>by
  have e:g8.toArray++its.toArray=(g8++its).toArray:=Nq
  have e2:(g8++its)++(Iw k its).flatten=g8++(Iw (k+1) its).flatten:=by
   rw[Jd,Jr,IU]
  rw[<-e2,<-foldl_rep its k (g8++its),<-e,Jd,K7]
section
variable {X:Cx}{pins:List (Pi×Wa)}{σ:St}{H:Hp}{s:SB}{l b:Pi}{xs ys zs:List V}
variable{its:List Os}
def Inv.lset{its':List Os}{n:Nat}{f:Array Os->Array Os}{t':Nat}(I:Inv X pins σ H s)(hH:H l=be (.lst xs))
  (e:s.heap.get? l=be {cls:=.type "list",data:=.seq its.toArray n}) (hf:f its.toArray=its'.toArray) (hv:Vals ys its') (hz:ys.length<=sizeLine):
  Inv X pins σ (upd H l (.lst ys)) {s with heap:=s.heap.update l (Obj.mapSeq f),toks:=t'}:=by
 have q:=PySem.IsL.update e f;rw[hf]at q;refine I.write (x:=l) (e:=l) (by rw[hH];exact trivial) (.inl rfl) (λb' u hb hu=>(Heap.get?_update_other s.heap (Obj.mapSeq f) (Ne.symm hb)).trans hu) #[_,q] ?_;exact#[hz,its',_,hv,q]
def Inv.lnew{t':Nat}(I:Inv X pins σ H s)(hv:Vals ys its)(hz:ys.length<=sizeLine):
  Inv X pins σ (upd H s.heap.objs.size (.lst ys)) {s with heap:=s.heap.push {cls:=.type "list",data:=.seq its.toArray},toks:=t'}:=
 I.laid (λ_ _ q=>Heap.get?_push_of_some _ q) (Ii _) #[hz,its,0,hv,Heap.get?_push_size _ rfl]
def Inv.fresh(I:Inv X pins σ H s):H s.heap.objs.size=none:=I.hok.fresh (Ii _)
def Inv.lstM(I:Inv X pins σ H s)(hH:H l=be (.lst xs)):xs.length<=sizeLine/\∃(its:List Os) (n:Nat),Vals xs its/\xs.length=its.length/\s.heap.get? l=be {cls:=.type "list",data:=.seq its.toArray n}:=by
 let#[z,its,n,r,e]:=I.hok l _ hH;exact#[z,its,n,r,r.length,e]
def zt{n:Nat}(h:n<=sizeLine):Builtin.List.listTooLong n=false:=by
 unfold Builtin.List.listTooLong;exact decide_eq_false KK
end
section
variable {X:Cx}
def zu:V->List V->Hp->VK->Prop:=λx vs H Q=>∃l xs y,x=.ref l/\vs=[y]/\H l=be (.lst xs)/\xs.length<sizeLine/\Q .non (upd H l (.lst (xs++[y])))
def jL:MtM X "list.append" zu:=by
 intro pins s σ H x vs v us Q I rx rv h;let#[l,xs,y,rfl,rfl,hH,hz,q]:=h;cases rx;let#[u,rfl,ru]:=rv.one;let#[z,its,n,r,hl,e]:=I.lstM hH;refine Xa F.slot_list_append #[_,e,rfl] F.entry_list_append (F.args_list_append_2 _ _) (PySem.list_append l its.toArray n u (by rw[Ir];lia)) #[e,?_];refine#[.non,_,I.lset (its':=its++[u]) hH e Nq (r.append (.cons ru .nil)) ?_,rfl,q];rw[Ix,JM];lia
def rPop:V->List V->Hp->VK->Prop:=λx vs H Q=>∃l xs y,x=.ref l/\vs=[]/\H l=be (.lst xs)/\xs[xs.length-1]?=be y/\Q y (upd H l (.lst xs.dropLast))
def zv:MtM X "list.pop" rPop:=by
 intro pins s σ H x vs v us Q I rx rv h;let#[l,xs,y,rfl,rfl,hH,hy,q]:=h;cases rx;have TK:=rv.zero;subst TK;let#[z,its,n,r,hl,e]:=I.lstM hH;let#[u,hu,ru]:=r.get hy;have P1:its.toArray[its.toArray.size-1]?=be u:=by
  show its.toArray[its.length-1]?=be u;rw[<-K8,<-hl];exact hu
 refine Xa F.slot_list_pop #[_,e,rfl] F.entry_list_pop (F.args_list_pop_1 _) (MeetsSeq.list_pop_last l its.toArray n u P1 (by rw[Ir];lia)) #[e,?_];refine#[y,_,I.lset (its':=its.dropLast) hH e ?_ r.dropLast ?_,ru,q]
 .show its.toArray.eraseIdxIfInBounds (its.toArray.size-1)=its.dropLast.toArray;rw[Ir,List.eraseIdxIfInBounds_toArray,zr]
 .rw[Kw];lia
def rCat:R2:=λx y H Q=>∃l b xs zs,x=.ref l/\y=.ref b/\H l=be (.lst xs)/\H b=be (.lst zs)/\xs.length+zs.length<=sizeLine/\∀p,H p=z6->Q (.ref p) (upd H p (.lst (xs++zs)))
def rQ:OpR X (Wc .Add) rCat:=by
 intro pins s σ H x y v u Q I rx ry h;let#[l,b,xs,zs,rfl,rfl,hH,hB,hz,q]:=h;cases rx;cases ry;let#[z,its,n,r,hl,e]:=I.lstM hH;let#[z2,r_,n2,r2,P2,e2]:=I.lstM hB;refine PySem.P.add_list e e2 ?_ (by rw[Ir,Ir];lia);have ea:its.toArray++r_.toArray=(its++r_).toArray:=Nq
 rw[ea];exact#[.ref _,_,I.lnew (t':=s.toks) (r.append r2) (by rw[Ix];lia),rfl,q _ I.fresh]
def rRep:R2:=λx y H Q=>∃l k xs,x=.ref l/\y=.int k/\H l=be (.lst xs)/\-(2^63)<=k/\k<2^63/\xs.length*k.toNat<=sizeLine/\
 ∀p,H p=z6->Q (.ref p) (upd H p (.lst (Iw k.toNat xs).flatten))
def zw{α:Type}(xs:List α)(k:Nat):(Iw k xs).flatten.length=k*xs.length:=by
 induction k with
 |zero=>simp
 |succ k ih=>rw[Jd,Jr,Ix,ih,Jz,J1]
def zx:OpR X (Wc .Mult) rRep:=by
 intro pins s σ H x y v u Q I rx ry h;let#[l,k,xs,rfl,rfl,hH,h1,h2,hz,q]:=h;cases rx;let#[t,rfl]:=ry;let#[z,its,n,r,hl,e]:=I.lstM hH;have b9:its.toArray.size*k.toNat<=sizeLine:=by rw[Ir,<-hl];exact hz
 have P4:¬its.toArray.size*k.toNat>(2^63-1)/8:=by
  have:(sizeLine:Nat)<=(2^63-1)/8:=by decide
  lia
 have P5:¬(!Builtin.List.listFitsIndex k)=true:=by
  rw[fitsIndex_both h1 h2];exact IA
 have Ot:¬Builtin.List.listTooLong (its.toArray.size*k.toNat)=true:=by
  rw[zt b9];exact IA
 have P6:Kv (λx1 x2=>x1++x2) [].toArray (Iw (if its.toArray.isEmpty=true then 0 else k.toNat) its.toArray)=(Iw k.toNat its).flatten.toArray:=by
  have f0:∀m:Nat,Kv (λx1 x2=>x1++x2) [].toArray (Iw m its.toArray)=(Iw m its).flatten.toArray:=λm=>by
   have:=foldl_rep its m [];rw[K9]at this;exact this
  rw[f0];cases its with
  |nil=>simp
  |cons a r'=>rw[if_neg Nq]
 refine wpAny_binaryOp_repeat_ref (T:="list") (U:="int") Nk #[_,e,rfl] (λs'=>XG s' k t) noFill_list_mul F.fills_int_mul F.slot_int_rmul repeat_list F.slot_int_index.lookup
  (Xa F.slot_int_rmul (XG s k t) F.entry_int_rmul (F.args_int_rmul_2 _ _) (int___rmul___int_list k t l its.toArray n)
   #[e,rfl,#[_,e,rfl],Xa F.slot_list_mul #[_,e,rfl] F.entry_list_mul (F.args_list_mul_2 _ _) (AutoListH.list___mul___list_int_3 l its.toArray n k t P5 P4 Ot) #[e,?_]])
 rw[P6];exact#[.ref _,_,I.lnew (t':=s.toks) (r.rep k.toNat) (by rw[zw,Kx];exact hz),rfl,q _ I.fresh]
end
end L2
namespace Sz
open PySem PySem.W PySem.Calls PyProof.Rows
variable{P:Params}
def zy{h:Heap}:∀(ns:List Int) (vs:List Os),WellAll P h vs (ns.map WData.int)->Xr vs ns:=by
 intro ns;induction ns with
 |nil=>
  intro vs w;rw[JN]at w;cases w;exact .nil
 |cons n ns ih=>
  intro vs w;rw[IH]at w;cases w with
  |cons a b=>
   cases a;exact .cons _ _ (ih _ b)
variable{l:OpenLaw}
def zz{n:Nat}(hn:l.most=be n){h:Heap}{args:List WData}{Nl:List Os}
  (Mu:l.row.toRowW.claim.pre args=true) (P7:WellAll P h Nl args):
  ∃a vs ns,Nl=[Value.ref a]/\args=[WData.list (ns.map WData.int)]/\h.get? a=be {cls:=.type "list",data:=.seq vs.toArray}/\Xr vs ns/\ns.length<=n:=by
 have TL:WShape.hasAll [] args [.list .int]=true:=(pre_splitW Mu).1;have hc:l.pre.holds [] {args:=args}=true:=(pre_splitW Mu).2;let#[d,r,rfl,h1,h2]:=hasAllW_cons TL;obtain rfl:=hasAllW_nil h2;let#[xs,rfl,h3]:=hasW_list h1;let#[ns,rfl]:=items_int h3;have b9:ns.length<=n:=by
  unfold OpenLaw.pre at hc;have h4:(WTm.not (.lt (.lit (.int (n:Int))) (.len (.arg 0)))).holds [] {args:=[.list (ns.map .int)]}=true:=by
   have h4:=(holds_andW hc).1;rw[hn]at h4;exact h4
  have h5:=condW_of h4 (w_not (w_lt w_lit (w_len_list (w_arg rfl))));rw[Ij]at h5;refine Ky λq=>?_;have q':(n:Int)<((ns.length:Nat):Int):=KK
  first
   |(rw[decide_eq_true q']at h5;exact absurd h5 Nk)
   |(simp at h5;lia)
 cases P7 with
 |cons w1 w2=>
  cases w2;cases w1 with
  |list ho v8=>exact#[_,_,ns,rfl,rfl,ho,zy ns _ v8,b9]
def zA(l:OpenLaw)(args:List WData):l.row.toRowW.claim.post args (.bool true) args=true:=
 postW_of (r:=l.row.toRowW) (X:=(true==true))
  (show WShape.has [] (.bool true) .bool=true by first|rfl|decide|simp[WShape.has,WShape.arms,WShape.armsAll])
  (show(WTm.eq .res (.lit (.bool true))).value [] {args:=args,res:=be (.bool true),after:=args}=be (.bool (true==true))from w_eq_bool (w_res rfl) w_lit) rfl
def attach_call{n:Nat}{q:VU}{l9:List Mr}{XP:(Mr->Option Os)->Heap->Prop}{YP:VX->Heap->Prop}{d:DefRec}
  (hn:l.most=be n) (Ou:d.params.defaults=[])
  (call:∀(w:VX) (s₀ s₁:SB) (mg mb:Mr->Option Os) (fa:Pi) (o:Wa) (pm cd doc:Os) (a:Pi) (vs:List Os) (ns:List Int),
   Ground q l9 [] XP w s₀ mg mb s₁.heap->YP w s₁.heap->
   s₁.heap.get? fa=be o->o.data=.func (docDef d.name d.params d.body d.scope pm cd doc)->s₁.heap.CodeRec cd d.name->mg d.name=be (.ref fa)->
   s₁.heap.get? a=be {cls:=.type "list",data:=.seq vs.toArray}->Xr vs ns->ns.length<=n->s₁.gens=[].toArray->
   WV (VT l.prog w) WZ (.call (.ref fa) #[[.ref a],[]]) (λr s'=>r=.ok (.ret (.bool true))/\OldK s₁.heap s'.heap/\s'.os=s₁.os/\WJ s'.gens) s₁):
  WalkO q l9 XP YP l.row.toRowW d [] (λf vs=>PySem.call f vs):=by
 intro w s₀ s₁ mg mb G Y fa o pm cd doc dV kV ho hd g7 hD l6 hg args Nl as Mu TM Vi P7 Vj;obtain rfl:dV=.none:=Dflts.none hD Ou;obtain rfl:kV=.none:=Dflts.noKw hD;let#[a,vs,ns,rfl,rfl,Nm,G',b9]:=zz hn Mu P7;refine enter_call (Wr (call w s₀ s₁ mg mb fa o pm cd doc a vs ns G Y ho (fd_plain hd) g7 l6 Nm G' b9 hg) λr s' hq=>?_);let#[rfl,h2,h3,h4]:=hq;exact#[.inl #[.bool true,.bool true,[],rfl,λ_=>rfl,.bool true,zA l _,λ_=>#[List.Pairwise.nil,λ_ hm=>(nomatch hm)]],h2,h3,h4]
end Sz
namespace L2
open PySem PySem.Spec PyProof.Rows
def rR:∀{vs:List Os} {ns:List Int},Xr vs ns->Vals (ns.map V.int) vs
 |_,_,.nil=>.nil
 |_,_,.cons n t h=>.cons #[t,rfl] (rR h)
def Only(H:Hp):Prop:=∀b,H b=z6\/∃o xs,H b=be (.frz o (.lst xs))
variable{P:VU}{w:VX}{k:Nat}{a:Pi}
def zB{K:Ex}{mg mb:Mr->Option Os}{CX:CXT}{fa:Pi}{fd:V2}{x:Mr}{sp:Sp}{s₁:SB}{vs:List Os}{ns:List Int}
  (KX:K.In s₁.heap) (hns:s₁.heap.Ns SL mg) (hb:s₁.heap.Ns XI mb) (TN:∀x:Mr,x≠"__name__"->mb x=V_ x) (P8:s₁.heap.NoLimit) (hg:s₁.gens=[].toArray)
  (ha:s₁.heap.get? a=be {cls:=.type "list",data:=.seq vs.toArray}) (hi:Xr vs ns) (hl:ns.length<=sizeLine) (hr:Room k WZ)
  (F:∀base:Heap,K.In base->base.Ns SL mg->FnOk P w K mg base CX k fa fd [x] sp) (Ov:∀(s:SB) (u:Os),WO s fd #[[u],[]] [(x,u)])
  (F_:∀H:Hp,Only H->SqL K H a (ns.map V.int)->sp [.ref a] H (λv _=>v=.bl true) λ_ _ _=>False)
  (P9:∀H e s',CX [] H s₁ (λ_ _ _=>False) e s'->False):
  WV (VT P w) WZ (.call (.ref fa) #[[.ref a],[]]) (λr s'=>r=.ok (.ret (.bool true))/\OldK s₁.heap s'.heap/\s'.os=s₁.os/\WJ s'.gens) s₁:=by
 have rv:=rR hi;have P':=hi.length;have Ox:∀H:Hp,Only H->SqL K H a (ns.map V.int)->HOk P w H s₁.heap->(∀b,H b≠z6->b=a)->(H a≠z6->K.lookup a=z6)->
   WV (VT P w) WZ (.call (.ref fa) #[[.ref a],[]]) (λr s'=>r=.ok (.ret (.bool true))/\OldK s₁.heap s'.heap/\s'.os=s₁.os/\WJ s'.gens) s₁:=by
  intro H hO hS hok hA hK;have u9:∀{b:Pi} {o:Wa},s₁.heap.get? b=be o->H b=z6->(hidT s₁.heap H).get? b=be o:=λe n=>xH e n;have On:∀{b:Pi} {o:Wa} {es:Array DictEntry} {ep:Nat},s₁.heap.get? b=be o->o.data=.dict es ep->H b=none:=λ{b o es ep} e d=>by
   cases q:H b with
   |none=>rfl
   |some u=>
    have e':b=a:=hA b (by rw[q];simp);subst e';rw[ha]at e;cases e;have d':Data.seq vs.toArray _=Data.dict es ep:=d;cases d'
  have Pp:∀{b:Pi} {m:Mr->Option Os},s₁.heap.Ns b m->(hidT s₁.heap H).Ns b m:=λ{b m} ⟨o,es,ep,e,d,r⟩=>#[o,es,ep,u9 e (On e d),d,r];have SE:K.In (hidT s₁.heap H):=λb o e=>u9 (KX b o e) (by
   cases q:H b with
   |none=>rfl
   |some u=>
    have e':b=a:=hA b (by rw[q];simp);subst e';rw[hK (by rw[q];simp)]at e;cases e)
  have hM:Mod K mg (hidT s₁.heap H):=#[SE,Pp hns,#[mb,Pp hb,TN],let ⟨mc,h1,h2⟩:=P8;#[mc,Pp h1,h2]];have e0:Env0 P w K mg (hidT s₁.heap H) WZ [] s₁ H:=#[rfl,hM,λb o e=>xI e,Kd (xG _ _),trivial,λb hb=>absurd (show b∈([]:List Pi)from hb) Nq,hok,.of_eq hg];refine Wr ((F _ SE (Pp hns)).run WZ [] s₁ H #[[.ref a],[]] [.ref a] [.ref a] _ _ hr e0 (Ov s₁ (.ref a)) (.cons rfl .nil) (F_ H hO hS)) λr s' h=>?_;cases r with
  |error e=>exact(P9 H e s' h).elim
  |ok fl=>
   cases fl with
   |next=>exact False.elim h
   |brk=>exact False.elim h
   |cont=>exact False.elim h
   |ret u=>
    let#[v,H',os,bare,un,P_,r',q]:=h;have q':v=.bl true:=q;subst q';obtain rfl:u=Value.bool true:=r';refine#[rfl,OldK.of_keep λb o e=>?_,os,bare];cases q:H b with
    |none=>exact un.keep b o e q (by intro z;exact absurd (show b∈([]:List Pi)from z) Nq) Nq
    |some u=>
     rcases hO b with z|⟨ob,xs,z⟩
     .rw[q]at z;cases z
     .have z2:=un.frzs b ob _ z;let#[e1,_]:=hok b _ z;let#[e2,_]:=P_ b _ z2;rw[e]at e1;cases e1;exact e2
 cases hk:K.lookup a with
 |some o=>
  have e:=KX a o hk;rw[ha]at e;cases e;refine Ox (λ_=>z6) (λ_=>.inl rfl) (.inr #[_,vs.toArray,_,hk,rfl,rfl,rfl,by rw[Ir,P'];exact hl,by simpa using rv]) (λb u z=>by have z':(z6:Option HO)=be u:=z;cases z') (λb z=>absurd rfl z) λz=>absurd rfl z
 |none=>
  refine Ox (λb=>if b=a then be (.frz {cls:=.type "list",data:=.seq vs.toArray} (.lst (ns.map V.int)))else z6) (λb=>?_) (.inl (.inr #[{cls:=.type "list",data:=.seq vs.toArray},if_pos rfl])) (λb u z=>?_) (λb z=>?_) λ_=>hk
  .by_cases hb:b=a
   .exact .inr #[_,_,if_pos hb]
   .exact .inl (if_neg hb)
  .by_cases hb:b=a
   .have z':=(if_pos hb).symm.trans z;cases z';subst hb;exact#[ha,by rw[Ij];exact hl,vs,_,rv,ha]
   .have z':=(if_neg hb).symm.trans z;cases z'
  .by_cases hb:b=a
   .exact hb
   .exact absurd (if_neg hb) z
def walk_of{l:Kz}{n:Nat}{q:VU}{l9:List Mr}{XP:(Mr->Option Os)->Heap->Prop}{YP:VX->Heap->Prop}{d:DefRec}{K:Params->Ex}{CX:VX->CXT}{sp:VX->Sp}{x:Mr}
  (hn:l.most=be n) (Mg:n<=sizeLine) (Ou:d.params.defaults=[]) (hr:Room k WZ)
  (hY:∀(w:VX) (h:Heap),YP w h->(K w.params).In h)
  (F:∀(w:VX) (mg:Mr->Option Os) (fa:Pi) (h:Heap),(K w.params).In h->h.Ns SL mg->mg d.name=be (.ref fa)->
   ∃fd:V2,(∀(s:SB) (u:Os),WO s fd #[[u],[]] [(x,u)])/\
    ∀base:Heap,(K w.params).In base->base.Ns SL mg->FnOk l.prog w (K w.params) mg base (CX w) k fa fd [x] (sp w))
  (F_:∀(w:VX) (H:Hp) (a:Pi) (ns:List Int),ns.length<=n->Only H->SqL (K w.params) H a (ns.map V.int)->sp w [.ref a] H (λv _=>v=.bl true) λ_ _ _=>False)
  (P9:∀(w:VX) (H:Hp) (s:SB) (e:Os) (s':SB),CX w [] H s (λ_ _ _=>False) e s'->False):
  La q l9 XP YP l.row.toRowW d [] (λf vs=>PySem.call f vs):=by
 refine Sz.attach_call hn Ou λw s₀ s₁ mg mb fa o pm cd doc a vs ns G Y ho hd g7 l6 Nm G' b9 hg=>?_;have KX:=hY w _ Y;let#[fd,hb,hF]:=F w mg fa _ KX G.T.g l6;exact zB KX G.T.g G.T.b G.T.builtins G.T.nolimit hg Nm G' (Io b9 Mg) hr hF hb (λH hO hS=>F_ w H a ns b9 hO hS) λH e s'=>P9 w H s₁ e s'
def aP(s:VS)(j:Nat):VS:=match s with
 |.ClassDef _ _ _ body _ _ _ _ _ _ _=>body.getD j (.Pass #[0,0,0,0])
 |_=>.Pass #[0,0,0,0]
def bw(s:VS):Arguments:=match s with
 |.FunctionDef _ a _ _ _ _ _ _ _ _=>a
 |_=>{posonlyargs:=[],args:=[],vararg:=z6,kwonlyargs:=[],kw_defaults:=[],kwarg:=z6,defaults:=[]}
def aL(s:VS):List VS:=match s with
 |.FunctionDef _ _ b _ _ _ _ _ _ _=>b
 |_=>[]
def ah(s:VS):Wl:=match s with
 |.FunctionDef _ _ _ _ _ _ sc _ _ _=>sc
 |_=>{kind:=.function,names:=[],isGenerator:=false,isCoroutine:=false}
abbrev E0:XK:=λ_ _ _=>False
structure FunG(K:Ex)(dV:Os)(x qual:Str)(st:VS)(f:Pi)(fd:V2):Prop where
 ex:∃(oc:Os) (od:Option Pi) (kV doc pm:Os) (an:Option Pi) (cdv ct:Os) (osl:Array (Option Os)),
  fd=fnOf x qual (bw st) (aL st) (ah st) dV kV doc pm an cdv ct/\K.lookup f=be #[oc,od,.func fd,osl]/\codeIn K cdv qual=true
 kp:keepIn K (.ref f)=true
abbrev Fun(K:Ex):Mr->Mr->VS->Pi->V2->Prop:=FunG K .none
section
variable {P:VU}{w:VX}{K:Ex}{mg:Mr->Option Os}{base:Heap}
def Fun.binds{x qual:Mr}{st:VS}{f:Pi}{fd:V2}{ps:List Mr}(F:Fun K x qual st f fd)
  (h:∀(kV doc pm:Os) (an:Option Pi) (cdv ct:Os) (us:List Os),us.length=ps.length->Wy (fnOf x qual (bw st) (aL st) (ah st) .none kV doc pm an cdv ct) #[us,[]]=pure (ps.zip us)):Binds K fd ps []:=by
 let#[oc,od,kV,doc,pm,an,cdv,ct,osl,rfl,lk,g7]:=F.ex;exact .all (h kV doc pm an cdv ct)
def gT{x qual:Mr}{st:VS}{f:Pi}{oc:Os}{od an:Option Pi}{osl:Array (Option Os)}{kV doc pm cdv ct:Os}(l:K.lookup f=be #[oc,od,.func (fnOf x qual (bw st) (aL st) (ah st) .none kV doc pm an cdv ct),osl])
  (c:codeIn K cdv qual=true) (k:keepIn K (.ref f)=true):Fun K x qual st f (fnOf x qual (bw st) (aL st) (ah st) .none kV doc pm an cdv ct):=#[#[oc,od,kV,doc,pm,an,cdv,ct,osl,rfl,l,c],k]
end
def dP{A:VY}(hr:Room k A):A.units+1<WN:=Lb (Nat.add_le_add_left (Nk:1<=64) _) hr.units
def zC{n:Nat}(h:n<=1000):n<sizeLine:=Lb h Nk
def ite2{c A B:Prop}[Decidable c](h1:c->A)(h2:¬c->B):if c then A else B:=by
 by_cases h:c
 .rw[if_pos h];exact h1 h
 .rw[if_neg h];exact h2 h
def Same(H H':Hp):Prop:=∀b o,H b=be o->H' b=be o
def Same.refl(H:Hp):Same H H:=λ_ _ h=>h
variable{H:Hp}
def Same.trans{H1 H2:Hp}(a:Same H H1)(b:Same H1 H2):Same H H2:=λc o h=>b c o (a c o h)
variable{H':Hp}
def Same.free(e:Same H H'){l:Pi}(h:H' l=Option.none):H l=Option.none:=by
 cases q:H l with
 |none=>rfl
 |some o=>
  rw[e l o q]at h;cases h
def Same.seq{K:Ex}{xs:List V}(e:Same H H')(h:SqL K H a xs):SqL K H' a xs:=by
 rcases h with(h|⟨o,h⟩)|h
 .exact .inl (.inl (e _ _ h))
 .exact .inl (.inr #[o,e _ _ h])
 .exact .inr h
section
variable {κ:Type}[DecidableEq κ]
def valV(a_:List (κ×V))(k:κ):Option V:=(a_.find? λkv=>decide (kv.1=k)).map (·.2)
def jM{p:κ×V}{r:List (κ×V)}{k:κ}(e:p.1=k):valV (p::r) k=be p.2:=by simp[valV,JO,e]
def jN{p:κ×V}{r:List (κ×V)}{k:κ}(e:¬p.1=k):valV (p::r) k=valV r k:=by simp[valV,JO,e]
def RelO.getD{o:Option V}{u:Option Os}{d:V}{d':Os}(r:RelO o u)(rd:RelV d d'):RelV (o.getD d) (u.getD d'):=by
 cases o with
 |none=>cases u with
  |none=>exact rd
  |some _=>exact(show False from r).elim
 |some _=>cases u with
  |none=>exact(show False from r).elim
  |some _=>exact r
def KV.val{a_:List (κ×V)}{vs:List (κ×Os)}(r:KV a_ vs)(k:κ):RelO (valV a_ k) (W6 vs k):=by
 unfold KV at r;induction r with
 |nil=>exact True.intro
 |@cons p q ps qs h t ih=>
  let#[h1,h2]:=h;by_cases e:p.1=k
  .have e':q.1=k:=h1.symm.trans e;have b:W6 (q::qs) k=be q.2:=by simp[W6,JO,e']
   rw[jM e,b];exact h2
  .have e':¬q.1=k:=λz=>e (h1.trans z);have b:W6 (q::qs) k=W6 qs k:=by simp[W6,JO,e']
   rw[jN e,b];exact ih
end
def rS{k:Key}{u:Os}(r:RelV (kV k) u):(bS P w).is k u=true:=by
 cases k with
 |inl i=>let#[t,e]:=(show ∃t,u=Value.int i t from r);subst e;exact mixKind_int P w i t
 |inr x=>let#[t,e]:=(show ∃t,u=Value.str x t from r);subst e;exact xE P w x t
def rT{P:VU}{w:VX}:∀{ks:List Key} {us:List Os},Vals (ks.map kV) us->ItemsAre (bS P w) ks us
 |[],_,r=>by rw[JN]at r;cases r;exact .nil
 |k::ks,_,r=>by
  rw[IH]at r;cases r with
  |cons h t=>exact .cons (rS h) (rT t)
abbrev KT(H:Hp):List (List Key×V)->List (List Key×Pi×Os)->Prop:=Paired λp q=>p.1=q.1/\H q.2.1=be (.tup (p.1.map kV))/\RelV p.2 q.2.2
variable{xs:List (List Key×Pi×Os)}{a_:List (List Key×V)}
def KT.val(r:KT H a_ xs)(k:List Key):RelO (valV a_ k) ((W5 xs k).map (·.2)):=by
 induction r with
 |nil=>exact True.intro
 |@cons p q ps qs h t ih=>
  let#[h1,_,h2]:=h;by_cases e:p.1=k
  .have e':q.1=k:=h1.symm.trans e;have b:W5 (q::qs) k=be q.2:=by simp[W5,JO,e']
   rw[jM e,b];exact h2
  .have e':¬q.1=k:=λz=>e (h1.trans z);have b:W5 (q::qs) k=W5 qs k:=by simp[W5,JO,e']
   rw[jN e,b];exact ih
def KT.keeps(r:KT H a_ xs)(ht:∀b ys,H b=be (.tup ys)->H' b=be (.tup ys)):KT H' a_ xs:=
 Paired.mapP r λ_ _ z=>#[z.1,ht _ _ z.2.1,z.2.2]
section
variable {P:VU}{w:VX}{H:Hp}{h:Heap}{a:Pi}
def rV{u:HO}(ok:HOk P w H h)(e:Rd H a u):ObjOk P w H h a u:=e.ok ok
def zD{a_:List (Key×V)}(ok:HOk P w H h)(e:Rd H a (.dK a_)):a_.length<=sizeLine/\(a==Wj)=false/\∃vs,KV a_ vs/\h.DictOf (bS P w) a vs:=
 show ObjOk P w H h a (.dK a_)from rV ok e
def key_of{ks:List Key}(ok:HOk P w H h)(e:H a=be (.tup (ks.map kV))):(WL (bS P w)).is h ks a:=by
 let#[_,its,r,o,h1,h2,n,h3]:=(show ObjOk P w H h a (.tup (ks.map kV))from ok a _ e);exact#[o,its.toArray,n,h1,h2,h3,by simpa using rT r]
variable{a_:List (List Key×V)}
def rW(ok:HOk P w H h)(e:Rd H a (.dT a_)):a_.length<=sizeLine/\(a==Wj)=false/\
  ∃xs,KT H a_ xs/\h.DictOfH (WL (bS P w)) a xs:=by
 let#[z,y,xs,r,o,es,ep,h1,h2,h3,h4,h5]:=(show ObjOk P w H h a (.dT a_)from rV ok e);refine#[z,y,xs,r,o,es,ep,h1,h2,h3,h4,λx hx=>?_,h5];have all:∀{l:List (List Key×V)} {m:List (List Key×Pi×Os)},KT H l m->∀x∈m,(WL (bS P w)).is h x.1 x.2.1:=by
  intro l m q;induction q with
  |nil=>intro x hx;exact nomatch hx
  |@cons p q ps qs hq t ih=>
   intro x hx;rcases Ik.mp hx with e|hx
   .subst e;exact key_of ok (by rw[<-hq.1];exact hq.2.1)
   .exact ih x hx
 exact all r x hx
def zE(ok:HOk P w H h)(e:H a=be (.dT a_)):a_.length<=sizeLine/\(a==Wj)=false/\
  ∃xs,KT H a_ xs/\h.DictOfH (WL (bS P w)) a xs:=rW ok (.inl e)
end
def DGet(H:Hp)(a:Pi)(y:V)(r:Option V):Prop:=
 (∃a_ k,Rd H a (.dK a_)/\y=kV k/\r=valV a_ k)\/∃a_ k b,Rd H a (.dT a_)/\y=.ref b/\H b=be (.tup (k.map kV))/\r=valV a_ k
def DGet.t{b:Pi}{k:List Key}(e:H a=be (.dT a_))(eb:H b=be (.tup (k.map kV))):DGet H a (.ref b) (valV a_ k):=.inr #[a_,k,b,.inl e,rfl,eb,rfl]
section
variable {X:Cx}{pins:List (Pi×Wa)}{σ:St}{H:Hp}{s:SB}{a:Pi}{y v:V}{u r:Os}{o:Option V}{A:VY}{E:Os->SB->Prop}
def Inv.big(I:Inv X pins σ H s):Wj<s.heap.objs.size:=by
 have h:SL<s.heap.objs.size:=(I.mod.glob.keeps I.bk).lt;exact Ld Nk h
def zF{h':Heap}{t':Nat}{ob:HO}(I:Inv X pins σ H s)(mu:Mut (H a))(hs:Heap.SameBut a s.heap h')(he:∃q,h'.get? a=be q)(new:ObjOk X.prog X.w (upd H a ob) h' a ob):
  Inv X pins σ (upd H a ob) {s with heap:=h',toks:=t'}:=
 I.write (x:=a) (e:=a) mu (.inl rfl) (λb q hb z=>(hs.2 b hb).trans z) he new
end
def zG(h:Heap)(hb:Wj<h.objs.size):ObjOk P w H (h.push {cls:=.type "dict",data:=.dict [].toArray}) h.objs.size (.dT []):=
 #[IL _,beq_eq_false_iff_ne.mpr (Ne.symm (Iv hb)),[],.nil,_,[].toArray,0,Heap.get?_push_size _ rfl,#[rfl,rfl,rfl],rfl,rfl,Le]
def zH:TE:=λ_ H Q=>∀p,H p=z6->Q (.ref p) (upd H p (.dT []))
section
variable {X:Cx}{pos:V4}
def pe_dnewT:PE X (.Dict [] [] pos) zH:=λpins s σ H Q I h=>
 wpAny_Dict_empty #[.ref s.heap.objs.size,_,I.laid (a:=s.heap.objs.size) (o:=.dT []) (t':=s.toks) (λ_ _ q=>Heap.get?_push_of_some _ q) (Ii _) (zG s.heap I.big),rfl,h _ (I.hok.fresh (Ii _))]
end
section
variable {X:Cx}{pins:List (Pi×Wa)}{σ:St}{H:Hp}{s:SB}{a:Pi}{y d:V}{u r:Os}{o:Option V}{A:VY}{E:Os->SB->Prop}
def zI{Q:Os->SB->Prop}(hu:A.units+1<WN)(I:Inv X pins σ H s)(g:DGet H a y o)(ry:RelV y u)(rd:RelV d r)(h:∀w' s',Inv X pins σ H s'->RelV (o.getD d) w'->Q w' s'):
  VW (VT X.prog X.w) A (call (.builtin "dict.get") [.ref a,u,r]) Q E s:=by
 rcases g with⟨a_,k,e,ey,l⟩|⟨a_,k,b,e,ey,eb,l⟩
 .subst ey;let#[z,hd,vs,z7,dd]:=zD I.hok e;refine Xp PySem.F.slot_dict_get dd.typeIs PySem.F.entry_dict_get (PySem.F.args_dict_get_3 _ _ _) (meets_dict_get_default (bS X.prog X.w) a (rS ry) hd r) #[_,dd.mapOf,h _ _ (I.tok _) ?_];rw[l];exact(z7.val k).getD rd
 .subst ey;cases(show u=Value.ref b from ry);let#[z,hd,xs,z7,dd]:=rW I.hok e;refine Xp PySem.F.slot_dict_get dd.typeIs PySem.F.entry_dict_get (PySem.F.args_dict_get_3 _ _ _) (meetsH_dict_get_default (WL (bS X.prog X.w)) a b hd r) #[XH hu,k,xs,key_of I.hok eb,dd,h _ _ (I.tok _) ?_];rw[l];exact(z7.val k).getD rd
end
end L2
end
section
open PySem PySem.Spec PyProof.Rows L2
namespace Exc
open PySem PySem.Spec PyProof.Rows PySem.W L2
def aO:List Os->Bool
 |.ref _::r=>aO r
 |l=>l==[.type "ValueError",.type "Exception",.type "BaseException",.type "object"]
def jO(self:Os):∀{l:List Os},aO l=true->refuseLoop self "__setattr__" l=pure ()
 |.ref c::r,e=>by rw[refuseLoop_ref];exact jO self (by unfold aO at e;exact e)
 |[],e=>by simp[aO]at e
 |.type n::r,e=>by
  have e':(Value.type n::r)=[.type "ValueError",.type "Exception",.type "BaseException",.type "object"]:=by simpa[aO]using e
  rw[e'];exact PySem.F.store_ValueError.passes self
 |.none::r,e=>by simp[aO]at e
 |.bool _::r,e=>by simp[aO]at e
 |.int _ _::r,e=>by simp[aO]at e
 |.float _ _::r,e=>by simp[aO]at e
 |.str _ _::r,e=>by simp[aO]at e
 |.bytes _ _::r,e=>by simp[aO]at e
 |.builtin _::r,e=>by simp[aO]at e
def eQ{T:String}(hT:[Value.type "ValueError",.type "Exception",.type "BaseException",.type "object"].contains (.type T)=true):∀{l:List Os},aO l=true->l.contains (.type T)=true
 |.ref c::r,e=>by rw[KA,eQ hT (l:=r) (by unfold aO at e;exact e),Kg]
 |[],e=>by simp[aO]at e
 |.type n::r,e=>by
  have e':(Value.type n::r)=[.type "ValueError",.type "Exception",.type "BaseException",.type "object"]:=by simpa[aO]using e
  rw[e'];exact hT
 |.none::r,e=>by simp[aO]at e
 |.bool _::r,e=>by simp[aO]at e
 |.int _ _::r,e=>by simp[aO]at e
 |.float _ _::r,e=>by simp[aO]at e
 |.str _ _::r,e=>by simp[aO]at e
 |.bytes _ _::r,e=>by simp[aO]at e
 |.builtin _::r,e=>by simp[aO]at e
section
variable {prog:VU}{w:VX}{A:VY}{E:Os->SB->Prop}{s:SB}{K:Ex}{x C:Pi}{ox:Wa}{cd:Xh}{name:Mr}{v:Os}{vs:Array Os}
def zJ{Q:Unit->SB->Prop}(X:K.In s.heap)(hx:s.heap.get? x=be ox)(i_:ox.cls=.ref C)(G_:ox.data=.fields vs)(hd:ox.dict=z6)(hc:clsIn K C=be cd)(hm:aO cd.mro=true)(hh:cd.hasDict=true)
  (hs:findIn K (.ref C) "__setattr__"=be (be (.builtin "object.__setattr__"))) (hf:findIn K (.ref C) name=be z6)
  (h:∀h',h'.get? x=be {ox with dict:=be s.heap.objs.size}->h'.Ns1 s.heap.objs.size (λy=>if y=name then be v else z6)->(∀b o,b≠x->s.heap.get? b=be o->h'.get? b=be o)->∀tk,Q () {s with heap:=h',toks:=tk}):
  VW (VT prog w) A (XM (.ref x) name v) Q E s:=by
 have hn:notCls ox=true:=by unfold notCls;rw[G_]
 have I:InstAt s.heap x ox C none:=#[hx,i_,hn,by rw[hd];trivial];refine set_plain X I hs ?_;have SF:=PySem.F.store_object;have ne:cd.mro.isEmpty=false:=OE
 have sub:Looks (VT prog w) s.heap (WW (.ref x) (.type "object")) true:=I.type.andThen (looks_mroIn X Ri);refine Wx SF.slot.plain SF.entry (@check_slot (VT prog w) _ _ _ "object.__setattr__" "object" "__setattr__" (.ref x) [.str name s.toks,v] [] _ SF.kind SF.split sub (SF.args (.ref x) (.str name s.toks) v) ?_);have No:Looks (VT prog w) s.heap (mroOf (.ref C)) cd.mro:=(looks_clsIn X hc).andThen .now;rw[osa_eq,refuse_eq];refine P3 (P3 (I.type.here (s:={s with toks:=s.toks+1}) (P3 (No.here (s:={s with toks:=s.toks+1}) ?_))));rw[jO _ hm];refine SZ (P3 (I.type.here (s:={s with toks:=s.toks+1}) (P3 ((looks_findIn X hf).here (s:={s with toks:=s.toks+1}) (P3 (Looks.now.here (s:={s with toks:=s.toks+1}) ?_))))));let#[oc,SG,SH,osl]:=ox;dsimp only at i_ hd G_;subst i_ hd G_;refine P3 (SZ (P3 (P3 (W8 hx (P3 ((looks_clsIn X hc).here (s:={s with toks:=s.toks+1}) ?_))))));rw[hh];rw[if_neg Nk];have hx₁:(s.heap.push {cls:=.type "dict",data:=.dict [].toArray}).get? x=be #[.ref C,z6,.fields vs,osl]:=Heap.get?_push_of_some _ hx;have SI:x≠s.heap.objs.size:=Iv (Heap.lt_size hx);show VW _ _ (do
  let d <-alloc {cls:=Value.type "dict",data:=Data.dict [].toArray}
  update x λo=>{cls:=o.cls,dict:=be d,data:=o.data,slots:=o.slots}
  dictMade (.ref C) x d) _ _ _
 refine P3 (wpAny_alloc' ?_);refine P3 (wpAny_update' hx₁ ?_);refine SZ ?_;have TQ:((s.heap.push {cls:=.type "dict",data:=.dict [].toArray}).update x λo=>{cls:=o.cls,dict:=be s.heap.objs.size,data:=o.data,slots:=o.slots}).get? s.heap.objs.size
   =be {cls:=.type "dict",data:=.dict [].toArray}:=
  (Heap.get?_update_ne _ _ _ _ SI.symm).trans (Heap.get?_push_at rfl rfl)
 have TR:((s.heap.push {cls:=.type "dict",data:=.dict [].toArray}).update x λo=>{cls:=o.cls,dict:=be s.heap.objs.size,data:=o.data,slots:=o.slots}).Ns s.heap.objs.size (λ_=>z6):=
  #[_,[].toArray,_,TQ,rfl,λe he=>absurd he Nq,λ_=>rfl]
 show VW _ _ (Builtin.ObjectAttr.storeInDict s.heap.objs.size (.str name s.toks) name v) _ _ _;unfold Builtin.ObjectAttr.storeInDict Builtin.ObjectAttr.newKeyGuard;refine P3 (SZ (P3 (Xi (Heap.Ns1.of_empty TR) λh' i9 hs=>?_)));let#[oD,Sr,Ss,Oj,Ol,Om]:=i9.count (Within.cons name v Within.nil);refine P3 (W1 Oj (by rw[Ol];exact W3 (Io Om (by rw[Iu,Lf,WH];lia))) ?_);refine SZ (h h' ?_ i9 (λb o hb q=>?_) _)
 .exact(hs.2 x SI).trans (Heap.get?_update_self _ hx₁ rfl)
 .exact(hs.2 b (Iv (Heap.lt_size q))).trans ((Heap.get?_update_ne _ _ _ _ hb).trans (Heap.get?_push_of_some _ q))
variable{Q:Os->SB->Prop}
def zK{od:Wa}{E_:Bool}(X:K.In s.heap)(I:InstAt s.heap x ox C (be od))(hc:clsIn K C=be cd)(hm:aO cd.mro=true)
  (TU:findIn K (.ref C) "__getattribute__"=be (be (.builtin "BaseException.__getattribute__"))) (TV:findIn K (.ref C) "__getattr__"=be z6)
  (hf:findObj K C (be od) name=be (.value v)) (hh:handedIn v=true) (h:∀tk,Q v {s with toks:=tk}):VW (VT prog w) A (Xn (.ref x) name E_) Q E s:=by
 have FB:=PySem.F.attr_ValueError;let#[hp,g,d,t,os]:=s;have L0:=I.type (M:=VT prog w);have L1:=looks_findIn (M:=VT prog w) X TU;have L2:=looks_findIn (M:=VT prog w) X TV;have L3:=looks_find (M:=VT prog w) X I hf;have f3:=FB.ga.bind (.ref x);have ne:cd.mro.isEmpty=false:=OE
 have sub:Looks (VT prog w) hp (WW (.ref x) (.type "BaseException")) true:=I.type.andThen (looks_mroIn X Ri);unfold Xn getAttrBy;refine P3 (wpAny_mkText (Wg (P3 (L0.at (P3 (L1.at ?_))))));dsimp only;have MY:(onTheHeap (Value.ref C)&&Value.builtin "BaseException.__getattribute__"==Value.builtin "object.__getattribute__")=false:=by
  have p9:(Value.builtin "BaseException.__getattribute__"==Value.builtin "object.__getattribute__")=false:=Nn
  rw[p9];rfl
 have TW:(E_&&onTheHeap (Value.builtin "BaseException.__getattribute__"))=false:=by cases E_<;>rfl
 rw[MY,if_neg IA];unfold getAttrByItsOwn hookBefore;rw[show onTheHeap (Value.ref C)=true from rfl,if_pos rfl];refine P3 (L2.at ?_);unfold callGetattribute;rw[TW,if_neg IA];unfold boundAndCalled;refine P3 (wpAny_attempt (Wg (P3 (Xt f3 ?_))));refine Wt (Wx FB.ga.plain PySem.F.entry_bexc_ga (@check_slot (VT prog w) _ _ _ "BaseException.__getattribute__" "BaseException" "__getattribute__" (.ref x) [.str name t] [] _ Nn Nn sub (PySem.F.args_bexc_ga _ _) ?_));unfold Builtin.«object.__getattribute__»;refine P3 (Xt (a:=(Value.ref x,[Value.str name t])) rfl ?_);refine P3 (Xt (a:=name) rfl ?_);refine P3 (L0.at (P3 (L3.at ?_)));refine SZ ?_;show VW _ _ (handedOut v) _ _ _;rw[handedOut_of hh];exact SZ (h _)
def zL{rest:List Os}{t0:Pi}{a1 a2 a3 a4 a5:Os}(X:K.In s.heap)(hx:s.heap.get? x=be ox)(i_:ox.cls=.ref C)(G_:ox.data=.fields [.ref t0,a1,a2,a3,a4,a5].toArray)(hc:clsIn K C=be cd)(hm:aO cd.mro=true)(hl:rest.length<=sizeLine)
  (h:∀h',h'.get? x=be {ox with data:=.fields [.ref s.heap.objs.size,a1,a2,a3,a4,a5].toArray}->(∀b o,b≠x->s.heap.get? b=be o->h'.get? b=be o)->Q .none {s with heap:=h'}):
  VW (VT prog w) A (call (.builtin "ValueError.__init__") (.ref x::rest)) Q E s:=by
 have F:=PySem.F.excBase_ValueError;have hn:notCls ox=true:=by unfold notCls;rw[G_]
 have ht:Looks (VT prog w) s.heap (typeOf (.ref x)) (.ref C):=i_ ▸ (Looks.ld hx).andThen .now;have ne:cd.mro.isEmpty=false:=OE
 have sub:Looks (VT prog w) s.heap (WW (.ref x) (.type "ValueError")) true:=ht.andThen (looks_mroIn X Ri);have TX:∀{Q:Unit->SB->Prop} {E:Os->SB->Prop} {A:VY},Q () s->VW (VT prog w) A (checkBuiltinCall "ValueError.__init__" #[.ref x::rest,[]]) Q E s:=λ{Q E A} hq=>by
  have Qa:=F.noStar;simp only[checkBuiltinCall,F.initKind,F.initSplit,F.initRow];refine P3 (sub.here ?_);let#[hp,g,d,t,os]:=s;have Lc:=looks_clsIn (M:=VT prog w) X hc
  repeat(first|(with_reducible refine Wb hx ?_;rw[i_])|(with_reducible refine Lc.here ?_)|wp_step)
  refine wpAny_onRaise ?_;rw[show ∀(a b:String) (n:Nat),Bind.check #[.positional,"*","ValueError",.self,[#["args",.varPos,false]]] a b n (JP (λx=>x.fst) ({pos:=Value.ref x::rest}:Args).kw)=pure ()from
   λa b n=>check_star_args _ _ _ _ _ _]
  exact SZ hq
 refine Wt (Wx F.init.plain F.initEntry (TX ?_));let#[hp,g,d,t,os]:=s;let#[oc,SG,SH,osl]:=ox;dsimp only at i_ G_ hx h;subst i_ G_
 wp_walk
 have hx₁:=Heap.get?_push_of_some {cls:=Value.type "tuple",data:=Data.seq rest.toArray} hx;refine h _ ?_ (λb o hb q=>?_)
 .rw[Heap.get?_update_self _ hx₁ rfl];rfl
 .rw[Heap.get?_update_other _ _ (Ne.symm hb)];exact Heap.get?_push_of_some _ q
end
abbrev veLine:List Os:=[.type "ValueError",.type "Exception",.type "BaseException",.type "object"]
section
variable {prog:VU}{w:VX}{A:VY}{E:Os->SB->Prop}{h:Heap}{g:Array Xy}{d:Drawn}{t:Nat}{os:OsState}{K:Ex}
variable {nm q:Mr}{C N fI:Pi}{bs bm:List Os}{hdct:Bool}{sn:List Mr}{sub:List Os}{ab:Bool}{col:Option Bool}{dd:Option Pi}{k0 k1 k2 k3 k5:Option Os}{rest:List Os}
def zM{Q:Fin->SB->Prop}(X:K.In h)(T:OwnTail h veLine bm)(hC:h.get? C=be (We nm q C N bs bm hdct sn sub ab col dd k0 k1 k2 k3 k5 "ValueError.__new__"))
  (hi:findIn K (.ref C) "__init__"=be (be (.ref fI))) (hf:typeIn K (.ref fI)=be (.type "function"))
  (hq:∀h' e,Heap.MadeExcOf h h' e (.ref C) rest->VW (VT prog w) A (call (.ref fI) (.ref e::rest)) (λr s'=>r=.none/\Q (.done (.ret (.ref e))) s') E #[h',g,d,t,os]) (hl:rest.length<=sizeLine):
  VW (VT prog w) A (Builtin.«type.__call__» #[.ref C::rest,[]]) Q E #[h,g,d,t,os]:=by
 have F:=PySem.F.excBase_ValueError
 repeat(first|(with_reducible refine Wb hC ?_)|(with_reducible refine wpAny_madeBy_exc hC ?_)|wp_step)
 refine codeAny_call_builtin_code (Code.quiet_builtin _ F.quiet) (wpAny_check_new_subT F T hC (codeAny_exc_new_subT F T hC ?_ hl));have kp:∀b o,h.get? b=be o->((h.push {cls:=.type "tuple",data:=.seq rest.toArray}).push {cls:=.ref C,data:=.fields [.ref h.objs.size,.none,.none,.none,.bool false,.none].toArray}).get? b=be o:=λb o e=>Heap.get?_push_of_some _ (Heap.get?_push_of_some _ e);have TY:=kp _ _ hC;have X1:K.In _:=X.keeps kp;have he:((h.push {cls:=.type "tuple",data:=.seq rest.toArray}).push {cls:=.ref C,data:=.fields [.ref h.objs.size,.none,.none,.none,.bool false,.none].toArray}).get? (h.objs.size+1)=be {cls:=.ref C,data:=.fields [.ref h.objs.size,.none,.none,.none,.bool false,.none].toArray}:=by heap_get
 have TZ:(Value.ref C::bm).contains (.ref C)=true:=Nq
 have L1:=looks_findIn (M:=VT prog w) X1 hi;have L2:=bind_fn (M:=VT prog w) X1 (.ref (h.objs.size+1)) hf;show VW _ _ _ _ _ _;unfold WW
 repeat(first|(with_reducible refine Wb he ?_)|(with_reducible refine WB TY ?_;rw[TZ])|wp_step)
 refine L1.at ?_;refine Wg (P3 (L2.at ?_));refine P3 (V9 (hq _ (h.objs.size+1) #[kp,Heap.get?_none_of_le (Jy _),h.objs.size,he,Heap.get?_none_of_le (Ii _),Heap.get?_push_of_some _ (Heap.get?_push_at rfl rfl)]) (λr s' hr=>?_) λ_ _ x=>x);let#[rfl,hQ]:=hr;refine SZ ?_;exact SZ hQ
def zN{Q:Os->SB->Prop}(X:K.In h)(T:OwnTail h veLine bm)(hC:h.get? C=be (We nm q C N bs bm hdct sn sub ab col dd k0 k1 k2 k3 k5 "ValueError.__new__"))
  (hi:findIn K (.ref C) "__init__"=be (be (.ref fI))) (hf:typeIn K (.ref fI)=be (.type "function"))
  (hq:∀h' e,Heap.MadeExcOf h h' e (.ref C) rest->VW (VT prog w) (A.under (.builtin "type.__call__" #[.ref C::rest,[]])) (call (.ref fI) (.ref e::rest)) (λr s'=>r=.none/\Q (.ref e) s') E #[h',g,d,t,os]) (hl:rest.length<=sizeLine):
  VW (VT prog w) A (call (.ref C) rest) Q E #[h,g,d,t,os]:=by
 have f1:=tc_lookup;have f2:=tc_bind (.ref C);have hT:(#[h,g,d,t,os]:SB).TypeIs (.ref C) "type":=#[_,hC,rfl];refine Wt (codeAny_of_tree ?_);show VW _ _ (callAny (.ref C) _) _ _ _
 repeat(any_goals (first|(with_reducible refine Wb hC ?_)|assumption|wp_step))
 exact#[rfl,codeAny_call_builtin_at (Code.quiet_builtin _ Nn) entry_typeCall (wpAny_check_type_call_sub hC (zM X T hC hi hf (λh' e hm=>hq h' e hm) hl))]
end
section
variable {prog:VU}{w:VX}{A:VY}{E:Os->SB->Prop}{s:SB}{env:WD}
variable {nm q:Mr}{C N:Pi}{bs bm:List Os}{hdct:Bool}{sn:List Mr}{sub:List Os}{ab:Bool}{col:Option Bool}{dd:Option Pi}{k0 k1 k2 k3 k5:Option Os}{newId:String}
variable{Q:Flow->SB->Prop}
def zO{x:Xq Os}(b_:bm.contains (.type "BaseException")=true)(hh:A.handled=z6)
  (h:VW (VT prog w) A x (λv s₁=>∃e t od sl,v=.ref e/\s₁.heap.get? C=be (We nm q C N bs bm hdct sn sub ab col dd k0 k1 k2 k3 k5 newId)/\
   s₁.heap.get? e=be #[.ref C,od,.fields [.ref t,.none,.none,.none,.bool false,.none].toArray,sl]/\E (.ref e) s₁) E s):
  VW (VT prog w) A (raiseStmt env (be x) z6) Q E s:=by
 have Qb:(Value.ref C::bm).contains (.type "BaseException")=true:=by rw[KA,b_,Kg]
 unfold raiseStmt;refine P3 (V9 h (λv s₁ h₁=>?_) λ_ _ x=>x);let#[e,t,od,sl,rfl,hC,he,hE]:=h₁;let#[hp,g,d,tk,os]:=s₁
 repeat(first|(with_reducible refine Wb he ?_)|(with_reducible refine Wb hC ?_)|(with_reducible refine WB hC ?_;rw[Qb])|wp_step)
 exact wpAny_raiseNew_none hh hE
def jP{x:VV}{pos:V4}(b_:bm.contains (.type "BaseException")=true)(hh:A.handled=z6)
  (h:VW (VT prog w) A (V3 x env) (λv s₁=>∃e t od sl,v=.ref e/\s₁.heap.get? C=be (We nm q C N bs bm hdct sn sub ab col dd k0 k1 k2 k3 k5 newId)/\
   s₁.heap.get? e=be #[.ref C,od,.fields [.ref t,.none,.none,.none,.bool false,.none].toArray,sl]/\E (.ref e) s₁) E s):
  VW (VT prog w) A (exec (.Raise (be x) z6 pos) env) Q E s:=by
 rw[arm_exec_Raise];show VW (VT prog w) A (do WC pos;raiseStmt env (be (do let v <-V3 x env;WC pos;pure v)) z6) Q E s;exact P3 (Wm (zO b_ hh (P3 (V9 h (λv s₁ h₁=>P3 (Wm (SZ h₁))) λ_ _ x=>x))))
end
def ExAt(h:Heap)(e C:Pi)(od:Option Pi)(T:Pi)(fl:Os):Prop:=
 ∃sl vs oT ts,h.get? e=be #[.ref C,od,.fields vs,sl]/\vs[1]?=be (.ref T)/\T≠e/\h.get? T=be oT/\oT.data=.fields ts/\ts[3]?=be fl
structure Stay(fs ex:List Pi)(h h':Heap):Prop where
 keep:∀b o,h.get? b=be o->b∉ex->b∉fs->h'.get? b=be o
 slot:∀b o,h.get? b=be o->b∉ex->∃sl,h'.get? b=be {o with slots:=sl}
 there:∀b o,h.get? b=be o->∃o',h'.get? b=be o'
variable{fs ex:List Pi}{h:Heap}
def Stay.refl:Stay fs ex h h:=#[λ_ _ e _ _=>e,λ_ o e _=>#[o.slots,e],λ_ o e=>#[o,e]]
section
variable {M:Xx}{A:VY}{E:Os->SB->Prop}{s:SB}{env:WD}{outer:List WD}{base:Heap}{L e C T:Pi}{od:Option Pi}
variable{Q:Unit->SB->Prop}
def rX{sl:Array (Option Os)}{vs:Array Os}(m_:A.frames=be (env::outer))(hl:s.heap.FunFrames base (env::outer))(hf:env.frame=be L)
  (he:s.heap.get? e=be #[.ref C,od,.fields vs,sl]) (h1:vs[1]?=be .none)
  (h:∀h' T,ExAt h' e C od T (WT L)->s.heap.objs.size<=T->Stay (frs (env::outer)) [e] s.heap h'->Q () {s with heap:=h'}):VW M A (WM (.ref e) env) Q E s:=by
 have k8:1<vs.size:=(Kh.mp h1).1;have Np:e∉(env::outer).filterMap (·.frame):=λhm=>by
  let#[_,o,ho,hnf]:=hl.mem hm;rw[he]at ho;injection ho with ho;subst ho;exact hnf vs rfl
 unfold WM;simp only[hf];refine P3 (Wv he rfl h1 ?_);rw[if_neg Nk];refine P3 (XJ m_ hl hf λh₁ hs₁=>P3 (XC λpl c8=>?_));unfold EntryCells.newEntry newFields;refine P3 (V8 ?_ (c8.sizeOk5 _ _ _ _ _));have he₁:h₁.get? e=be #[.ref C,od,.fields vs,sl]:=(hs₁.2.1 e Np).trans he;have fresh:h₁.get? h₁.objs.size=none:=Heap.get?_none_of_le (Ii _);generalize Oz:({cls:=.type "traceback",dict:=z6,data:=.fields ([Value.none,.ref L,.none,WT L,.none]++(if pl.isEmpty then Iw 6 Value.none else pl)).toArray}:Wa)=oT;have he₂:=Heap.get?_push_of_some (h:=h₁) oT he₁;have v9:h₁.objs.size≠e:=Jl (Heap.lt_size he₁);refine WS he₂ rfl k8 (h _ h₁.objs.size ?_ ?_ ?_)
 .refine#[sl,vs.setIfInBounds 1 (.ref h₁.objs.size),oT,([Value.none,.ref L,.none,WT L,.none]++(if pl.isEmpty then Iw 6 Value.none else pl)).toArray,?_,by simp[k8],v9,?_,by rw[<-Oz],Nq]
  .rw[Heap.get?_update_self _ he₂ rfl];rfl
  .rw[Heap.get?_update_other _ _ (Ne.symm v9)];exact Heap.get?_push_size h₁ (by rw[<-Oz];rfl)
 .exact Kd hs₁.1.symm
 .have kp:∀b o,b≠e->h₁.get? b=be o->((h₁.push oT).update e (Obj.mapFields (·.setIfInBounds 1 (Value.ref h₁.objs.size)))).get? b=be o:=λb o hb z=>by
   rw[Heap.get?_update_other _ _ (Ne.symm hb)];exact Heap.get?_push_of_some _ z
  refine#[λb o q n m=>kp b o (λz=>n (by simp[z])) ((hs₁.2.1 b m).trans q),λb o q n=>?_,λb o q=>?_]
  .let#[y9,z]:=hs₁.2.2 b o q;exact#[y9,kp b _ (λz=>n (by simp[z])) z]
  .by_cases hb:b=e
   .subst hb;exact#[_,Heap.get?_update_self _ he₂ rfl]
   .let#[y9,z]:=hs₁.2.2 b o q;exact#[_,kp b _ hb z]
def rY{fl:Os}(m_:A.frames=be (env::outer))(hl:s.heap.FunFrames base (env::outer))(hf:env.frame=be L)(hx:ExAt s.heap e C od T fl)
  (h:∀h' T',ExAt h' e C od T' (WT L)->T'=T\/s.heap.objs.size<=T'->Stay (frs (env::outer)) [T,e] s.heap h'->Q () {s with heap:=h'}):VW M A (WM (.ref e) env) Q E s:=by
 let#[sl,vs,oT,ts,he,h1,v9,hT,l_,h3]:=hx;have k8:1<vs.size:=(Kh.mp h1).1;have Pq:3<ts.size:=(Kh.mp h3).1;have Np:e∉(env::outer).filterMap (·.frame):=λhm=>by
  let#[_,o,ho,hnf]:=hl.mem hm;rw[he]at ho;injection ho with ho;subst ho;exact hnf vs rfl
 unfold WM;simp only[hf];refine P3 (Wv he rfl h1 ?_);rw[if_pos (show(Value.ref T !=Value.none)=true from Nq)];refine P3 (Wv hT l_ h3 ?_);by_cases hq:(fl==WT L)=true
 .rw[if_pos hq];exact SZ (h s.heap T #[sl,vs,oT,ts,he,h1,v9,hT,l_,by rw[<-eq_of_beq hq];exact h3] (.inl rfl) Stay.refl)
 rw[if_neg hq];refine P3 (WS hT l_ Pq ?_);have other:∀b,b≠T->(s.heap.update T (Obj.mapFields (·.setIfInBounds 3 Value.none))).get? b=s.heap.get? b:=λb hb=>Heap.get?_update_other _ _ (Ne.symm hb);have nT:∀b o,s.heap.get? b=be o->(∀vs,o.data≠.fields vs)->b≠T:=λb o hb hnf q=>by
  rw[q,hT]at hb;injection hb with hb;subst hb;exact hnf ts l_
 have Qc:(s.heap.update T (Obj.mapFields (·.setIfInBounds 3 Value.none))).FunFrames base (env::outer):=hl.of_keeps λb o hb hnf=>#[o,(other b (nT b o hb hnf)).trans hb,rfl];have T1:∃o',(s.heap.update T (Obj.mapFields (·.setIfInBounds 3 Value.none))).get? T=be o':=#[_,Heap.get?_update_self _ hT (Obj.isFreed_of_fields (Obj.data_mapFields l_ _))];refine P3 (XJ m_ Qc hf λh₁ hs₁=>P3 (XC λpl c8=>?_));unfold EntryCells.newEntry newFields;refine P3 (V8 ?_ (c8.sizeOk5 _ _ _ _ _));have he₁:h₁.get? e=be #[.ref C,od,.fields vs,sl]:=(hs₁.2.1 e Np).trans ((other e (Ne.symm v9)).trans he);have fresh:h₁.get? h₁.objs.size=none:=Heap.get?_none_of_le (Ii _);generalize Oz:({cls:=.type "traceback",dict:=z6,data:=.fields ([Value.ref T,.ref L,.none,WT L,.none]++(if pl.isEmpty then Iw 6 Value.none else pl)).toArray}:Wa)=Qe;have he₂:=Heap.get?_push_of_some (h:=h₁) Qe he₁;have OA:h₁.objs.size≠e:=Jl (Heap.lt_size he₁);refine WS he₂ rfl k8 (h _ h₁.objs.size ?_ (.inr ?_) ?_)
 .refine#[sl,vs.setIfInBounds 1 (.ref h₁.objs.size),Qe,([Value.ref T,.ref L,.none,WT L,.none]++(if pl.isEmpty then Iw 6 Value.none else pl)).toArray,?_,by simp[k8],OA,?_,by rw[<-Oz],Nq]
  .rw[Heap.get?_update_self _ he₂ rfl];rfl
  .rw[Heap.get?_update_other _ _ (Ne.symm OA)];exact Heap.get?_push_size h₁ (by rw[<-Oz];rfl)
 .exact Kd (hs₁.1.trans (Heap.size_after_update _ _ _)).symm
 .have kp:∀b o,b≠e->h₁.get? b=be o->((h₁.push Qe).update e (Obj.mapFields (·.setIfInBounds 1 (Value.ref h₁.objs.size)))).get? b=be o:=λb o hb z=>by
   rw[Heap.get?_update_other _ _ (Ne.symm hb)];exact Heap.get?_push_of_some _ z
  refine#[λb o q n m=>kp b o (λz=>n (by simp[z])) ((hs₁.2.1 b m).trans ((other b (λz=>n (by simp[z]))).trans q)),λb o q n=>?_,λb o q=>?_]
  .let#[y9,z]:=hs₁.2.2 b o ((other b (λz=>n (by simp[z]))).trans q);exact#[y9,kp b _ (λz=>n (by simp[z])) z]
  .by_cases hb:b=e
   .subst hb;exact#[_,Heap.get?_update_self _ he₂ rfl]
   .have:∃o',(s.heap.update T (Obj.mapFields (·.setIfInBounds 3 Value.none))).get? b=be o':=by
     by_cases hb:b=T
     .rw[hb];exact T1
     .exact#[o,(other _ hb).trans q]
    let#[o',q']:=this;let#[y9,z]:=hs₁.2.2 b o' q';exact#[_,kp b _ hb z]
def fQ{fl:Os}(hx:ExAt s.heap e C od T fl)(h:∀h',ExAt h' e C od T .none->Stay [] [T] s.heap h'->Q () {s with heap:=h'}):VW M A (W2 (.ref e) z6) Q E s:=by
 let#[sl,vs,oT,ts,he,h1,v9,hT,l_,h3]:=hx;have Pq:3<ts.size:=(Kh.mp h3).1;unfold W2;refine P3 (Wv he rfl h1 ?_);rw[if_pos (show(Value.ref T !=Value.none)=true from Nq)];refine WS hT l_ Pq (h _ ?_ ?_)
 .exact#[sl,vs,_,_,(Heap.get?_update_other _ _ v9).trans he,h1,v9,Heap.get?_update_self _ hT (Obj.isFreed_of_fields (Obj.data_mapFields l_ _)),Obj.data_mapFields l_ _,by simp[Pq]]
 .have other:∀b o,b∉[T]->s.heap.get? b=be o->(s.heap.update T (Obj.mapFields (·.setIfInBounds 3 ((z6:Option Pi).elim Value.none λf=>WT f)))).get? b=be o:=λb o hb q=>(Heap.get?_update_other _ _ (λz=>hb (by simp[z]))).trans q;refine#[λb o q n _=>other b o n q,λb o q n=>#[o.slots,other b o n q],λb o q=>?_];by_cases hb:b=T
  .subst hb;exact#[_,Heap.get?_update_self _ hT (Obj.isFreed_of_fields (Obj.data_mapFields l_ _))]
  .exact#[o,other b o (by simp[hb]) q]
end
def CX1(P:VU)(w:VX):CXT:=λouter H s E ev s'=>∃e C od T H',ev=.ref e/\s'.os=s.os/\WJ s'.gens/\Un (frs outer) [] H H' s.heap s'.heap/\HOk P w H' s'.heap/\ExAt s'.heap e C od T .none/\s.heap.get? e=z6/\s.heap.get? T=z6/\H' e=z6/\H' T=z6/\E (.ref C) od H'
def fR{P:VU}{w:VX}{H:Hp}{h':Heap}(x:HOk P w H h)(st:Stay fs ex h h')(hf:∀b∈fs,H b=z6)(he:∀b∈ex,H b=z6):HOk P w H h':=λa o q=>
 (x a o q).stay (λb u hb r=>by
  have hn:H b≠none:=by
   rcases hb with rfl|hb
   .rw[q];exact λz=>nomatch z
   .rw[hb];exact λz=>nomatch z
  exact st.keep b u r (λz=>hn (he b z)) (λz=>hn (hf b z))) (λ_ q=>q) λ_ _ q=>q
def gU{m8:List Pi}{H H':Hp}{h1 h2:Heap}(u:Un fs [] H H' h h1)(st:Stay m8 ex h1 h2)(f7:∀b∈ex,h.get? b=z6)(Pr:∀b∈m8,b∈fs\/h.get? b=z6):Un fs [] H H' h h2 where
 keep:=λb o q n hb hx=>st.keep b o (u.keep b o q n hb hx) (λz=>by rw[f7 b z]at q;cases q) (λz=>(Pr b z).elim hb λy=>by rw[y]at q;cases q)
 slot:=λb o q n hb hx=>by
  let#[sl,e1]:=u.slot b o q n hb hx;let#[y9,e2]:=st.slot b _ e1 (λz=>by rw[f7 b z]at q;cases q);exact#[y9,e2]
 free:=u.free
 there:=λb o q hx=>by
  let#[o1,e1]:=u.there b o q hx;exact st.there b o1 e1
 tups:=u.tups
 frzs:=u.frzs
 tbls:=u.tbls
section
variable {P:VU}{w:VX}{K:Ex}{mg:Mr->Option Os}{base:Heap}{N:List Mr}{qual:Mr}{scope:Wl}{f:Pi}{cd:Os}{A:VY}{outer:List WD}{s:SB}{H:Hp}{E E':XK}
def rZ{b:Pi}(hb:b∈frs (V7 qual scope s.heap.objs.size f cd::outer)):b∈frs outer\/s.heap.get? b=none:=by
 unfold frs at hb;rw[Ka]at hb;rcases Ik.mp (show b∈s.heap.objs.size::outer.filterMap (·.frame)from hb)with e|e
 .rw[e];exact .inr (Heap.get?_none_of_le (Ii _))
 .exact .inl e
def se{pins:List (Pi×Wa)}{σ:L2.St}{H1:Hp}{s1:SB}{e C:Pi}{od:Option Pi}{sl:Array (Option Os)}{vs:Array Os}(I:Inv (cxOf (CX1 P w) P w K mg base N qual scope f cd A outer s H E') pins σ H1 s1)
  (he:s1.heap.get? e=be #[.ref C,od,.fields vs,sl]) (h1:vs[1]?=be .none) (He:H1 e=z6) (ne:s.heap.get? e=z6) (hE:E' (.ref C) od H1):(cxOf (CX1 P w) P w K mg base N qual scope f cd A outer s H E').xe (.ref e) s1:=by
 show VW _ _ (Xm _ _) _ _ _;unfold Xm;refine P3 (rX I.ok.frames I.stack rfl he h1 λh2 T2 p9 Mh v5=>fQ (s:={s1 with heap:=h2}) p9 λh3 OB Mf=>?_);have NP:s1.heap.get? T2=none:=Heap.get?_none_of_le Mh;have f1:∀b,s1.heap.get? b=z6->s.heap.get? b=none:=λb q=>by
  cases z:s.heap.get? b with
  |none=>rfl
  |some o=>
   let#[o',z']:=I.base.there b o z (by exact λy=>absurd (show b∈([]:List Pi)from y) Nq);rw[q]at z';cases z'
 have hok:HOk P w H1 s1.heap:=I.hok;have OC:H1 T2=none:=hok.fresh Mh;have u2:Un (frs outer) [] H H1 s.heap h2:=gU (show Un (frs outer) [] H H1 s.heap s1.heap from I.base) v5 (λb hb=>by rw[Ih.mp hb];exact ne) λb hb=>rZ hb;have u3:Un (frs outer) [] H H1 s.heap h3:=gU u2 Mf (λb hb=>by rw[Ih.mp hb];exact f1 T2 NP) λb hb=>by cases hb
 have k2:=fR hok v5 (λb hb=>I.stkFree b hb) (λb hb=>by rw[Ih.mp hb];exact He);have k3:=fR k2 Mf (λb hb=>by cases hb) (λb hb=>by rw[Ih.mp hb];exact OC);exact#[e,C,od,T2,H1,rfl,I.os,I.bare,u3,k3,OB,ne,f1 T2 NP,He,OC,hE]
end
end Exc
namespace L2
def Same.tup{K:Ex}{H H':Hp}{a:Pi}{xs:List V}(e:Same H H')(h:SqT K H a xs):SqT K H' a xs:=by
 rcases h with(h|⟨o,h⟩)|h
 .exact .inl (.inl (e _ _ h))
 .exact .inl (.inr #[o,e _ _ h])
 .exact .inr h
end L2
namespace My
def le_b{a b:Nat}(h:Nat.ble a b=true):a<=b:=Nat.le_of_ble_eq_true h
def eU{X:Cx}:fO (Exc.CX1 X.prog X.w) X E0:=λ_ _ _ _ _ _ _ h=>by
 let#[e,C,od,T,H',_,_,_,_,_,_,_,_,_,_,h]:=h;exact h.elim
def Fun.okC{P:VU}{w:VX}{K:Ex}{mg:Mr->Option Os}{base:Heap}{CX:CXT}{x qual:Mr}{st:VS}{f:Pi}{fd:V2}{N ps:List Mr}{k:Nat}{sp:Sp}{dV:Os}(F:FunG K dV x qual st f fd)(S:FnScope N ps (ah st))(len:∀vs H Q E,sp vs H Q E->vs.length=ps.length)
  (a9:∀(cdv:Os) (A:VY) (outer:List WD) (s:SB) (H:Hp) (vs:List V) (Q:VK) (E:XK),Room k (A.deeper (V7 qual (ah st) s.heap.objs.size f cdv))->sp vs H Q E->
   ∃t,PSs (cxOf CX P w K mg base N qual (ah st) f cdv A outer s H E) (aL st) t/\t {nx:=λ_ H'=>Q .non H',rt:=Q} (start N vs) H):FnOk P w K mg base CX (k+1) f fd ps sp:=by
 let#[oc,od,kV,doc,pm,an,cdv,ct,osl,rfl,lk,g7]:=F.ex;refine zb lk g7 S len λA outer s H vs Q E hr F_=>?_;exact a9 cdv A outer s H vs Q E hr F_
def Cal(P:VU)(w:VX)(K:Ex)(mg:Mr->Option Os)(base:Heap)(n:Nat)(x:Mr)(ps:List Mr)(sp:Sp):Prop:=
 ∃f fd,FnOk P w K mg base (Exc.CX1 P w) n f fd ps sp/\Binds K fd ps []/\keepIn K (.ref f)=true/\mg x=be (.ref f)
def Tx(K:Ex)(mg:Mr->Option Os)(x:Mr)(st:VS)(ps:List Mr):Prop:=
 ∃f fd,Fun K x x st f fd/\Binds K fd ps []/\mg x=be (.ref f)
section
variable {X:Cx}{n m:Nat}{ps:List Mr}{sp:Sp}{x:Mr}{p pos:V4}{e:VV}{es:List VV}{t:TA}
def zP(C:Cal X.prog X.w X.K X.mg X.base n x ps sp)(hr:Room m X.A)(ha:PA X (e::es) t)(hg:Gl X x\zA0)(hn:(n<=m)\zA1)(d9:zND x\zA1)
  (he:zSE X e es\zA0) (c8:zPL X pos es\zA0):
  PE X (.Call (.Name x p) (e::es) [] pos) (rB sp [] E0 t):=by
 let#[f,fd,F,hb,hk,hm]:=C;exact yY F (hr.mono hn) hg hm hk hb .nil eU ha d9 he c8
end
def aN{H:Hp}{p:Pi}(h:H p=z6)(o:HO):Same H (upd H p o):=λb u q=>by rw[ar (bM q h)];exact q
def sz{n:Nat}(h:n<=1000):n<=sizeLine:=J9 (zC h)
end My
namespace L2
section
variable {X:Cx}
variable{e:VV}
def PE.anti{t t':TE}(h:PE X e t)(a:∀s H Q,t' s H Q->t s H Q):PE X e t':=λpins s σ H Q I q=>h pins s σ H Q I (a _ _ _ q)
def PT.anti{t t':TT}(h:PT X e t)(a:∀s H Q,t' s H Q->t s H Q):PT X e t':=λpins s σ H Q I q=>h pins s σ H Q I (a _ _ _ q)
def PW.anti{t t':TT}(h:PW X e t)(a:∀s H Q,t' s H Q->t s H Q):PW X e t':=λwh pins s σ H Q I q=>h wh pins s σ H Q I (a _ _ _ q)
def PA.anti{e:List VV}{t t':TA}(h:PA X e t)(a:∀s H Q,t' s H Q->t s H Q):PA X e t':=λp pins s σ H Q I q=>h p pins s σ H Q I (a _ _ _ q)
def PS.anti{e:VS}{t t':TS}(h:PS X e t)(a:∀E s H,t' E s H->t E s H):PS X e t':=λpins s σ H Q I q=>h pins s σ H Q I (a _ _ _ q)
def PSs.anti{e:List VS}{t t':TS}(h:PSs X e t)(a:∀E s H,t' E s H->t E s H):PSs X e t':=λpins s σ H Q I q=>h pins s σ H Q I (a _ _ _ q)
end
end L2
namespace My
inductive D where
 |non|bl (b:Bool)|int (i:Int)|str (x:Str)|tup (xs:List D)|lst (xs:List D)
  |rol (xs:List D)
  |obj (x:Mr) (fs:List (Mr×D))
  |exc (x:Mr) (fs:List (Mr×D))
  |own (xs:List D)
  |ptr (a:Pi)
  |dti (a_:List ((Int×Int)×Int))
def dtiV(a_:List ((Int×Int)×Int)):List (List Key×V):=a_.map λe=>([.inl e.1.1,.inl e.1.2],.int e.2)
def XO(e C:Pi)(od:Option Pi):HO:=.ext λh=>∃vs sl,h.get? e=be #[.ref C,od,.fields vs,sl]
mutual
def Rep(K:Ex)(H:Hp):D->V->Prop
 |.non,v=>v=.non
 |.bl b,v=>v=.bl b
 |.int i,v=>v=.int i
 |.str x,v=>v=.str x
 |.tup ds,v=>∃a vs,v=.ref a/\H a=be (.tup vs)/\Reps K H ds vs
 |.lst ds,v=>∃a vs,v=.ref a/\H a=be (.lst vs)/\Reps K H ds vs
 |.rol ds,v=>∃a vs,v=.ref a/\SqL K H a vs/\Reps K H ds vs
 |.obj x fs,v=>∃a C dx vs,v=.ref a/\nsIn K SL x=be (be (.ref C))/\H a=be (.ins C dx vs)/\RepF K H fs vs
 |.exc x fs,v=>∃a C od vs,v=.ref a/\nsIn K SL x=be (be (.ref C))/\H a=be (XO a C od)/\RepF K H fs vs/\((od=z6/\vs=[])\/∃b,od=be b/\H b=be (.xd vs))
 |.own _,_=>False
 |.ptr a,v=>v=.ref a
 |.dti a_,v=>∃a,v=.ref a/\H a=be (.dT (dtiV a_))
def RepF(K:Ex)(H:Hp):List (Mr×D)->List (Mr×V)->Prop
 |[],vs=>vs=[]
 |(f,d)::ds,vs=>∃v r,vs=(f,v)::r/\Rep K H d v/\RepF K H ds r
def Reps(K:Ex)(H:Hp):List D->List V->Prop
 |[],vs=>vs=[]
 |d::ds,vs=>∃v r,vs=v::r/\Rep K H d v/\Reps K H ds r
end
mutual
def Rep.mono{K:Ex}{H H':Hp}(g:Same H H'):∀(d:D) (v:V),Rep K H d v->Rep K H' d v
 |.non,v,h=>by unfold Rep at h ⊢;exact h
 |.bl b,v,h=>by unfold Rep at h ⊢;exact h
 |.int b,v,h=>by unfold Rep at h ⊢;exact h
 |.str b,v,h=>by unfold Rep at h ⊢;exact h
 |.tup ds,v,h=>by
  unfold Rep at h ⊢;let#[a,vs,e,q,r]:=h;exact#[a,vs,e,g _ _ q,Reps.mono g ds vs r]
 |.lst ds,v,h=>by
  unfold Rep at h ⊢;let#[a,vs,e,q,r]:=h;exact#[a,vs,e,g _ _ q,Reps.mono g ds vs r]
 |.rol ds,v,h=>by
  unfold Rep at h ⊢;let#[a,vs,e,q,r]:=h;exact#[a,vs,e,g.seq q,Reps.mono g ds vs r]
 |.obj C fs,v,h=>by
  unfold Rep at h ⊢;let#[a,C,dx,vs,e,n,q,r]:=h;exact#[a,C,dx,vs,e,n,g _ _ q,RepF.mono g fs vs r]
 |.exc C fs,v,h=>by
  unfold Rep at h ⊢;let#[a,C,od,vs,e,n,q,r,d]:=h;exact#[a,C,od,vs,e,n,g _ _ q,RepF.mono g fs vs r,d.imp id λ⟨b,h1,h2⟩=>#[b,h1,g _ _ h2]]
 |.own ds,v,h=>by
  unfold Rep at h ⊢;exact h
 |.ptr a,v,h=>by unfold Rep at h ⊢;exact h
 |.dti a_,v,h=>by
  unfold Rep at h ⊢;let#[a,e,q]:=h;exact#[a,e,g _ _ q]
def RepF.mono{K:Ex}{H H':Hp}(g:Same H H'):∀(ds:List (Mr×D)) (vs:List (Mr×V)),RepF K H ds vs->RepF K H' ds vs
 |[],vs,h=>by unfold RepF at h ⊢;exact h
 |(f,d)::ds,vs,h=>by
  unfold RepF at h ⊢;let#[v,r,e,q1,q2]:=h;exact#[v,r,e,Rep.mono g d v q1,RepF.mono g ds r q2]
def Reps.mono{K:Ex}{H H':Hp}(g:Same H H'):∀(ds:List D) (vs:List V),Reps K H ds vs->Reps K H' ds vs
 |[],vs,h=>by unfold Reps at h ⊢;exact h
 |d::ds,vs,h=>by
  unfold Reps at h ⊢;let#[v,r,e,q1,q2]:=h;exact#[v,r,e,Rep.mono g d v q1,Reps.mono g ds r q2]
end
section
variable {K:Ex}{H:Hp}
variable{v:V}
def rep_non:Rep K H .non v↔v=.non:=by unfold Rep;exact Iff.rfl
def rep_bl{b:Bool}:Rep K H (.bl b) v↔v=.bl b:=by unfold Rep;exact Iff.rfl
def rep_int{i:Int}:Rep K H (.int i) v↔v=.int i:=by unfold Rep;exact Iff.rfl
variable{x:Mr}
def rep_str:Rep K H (.str x) v↔v=.str x:=by unfold Rep;exact Iff.rfl
variable{ds:List My.D}
def rep_tupS:Rep K H (.tup ds) v↔∃a vs,v=.ref a/\H a=be (.tup vs)/\Reps K H ds vs:=by
 constructor
 .intro h;unfold Rep at h;exact h
 .intro h;unfold Rep;exact h
def rep_tup_mp(h:Rep K H (.tup ds) v):∃a vs,v=.ref a/\SqT K H a vs/\Reps K H ds vs:=by
 let#[a,vs,e,q,r]:=rep_tupS.mp h;exact#[a,vs,e,SqT.of q,r]
def rep_ptr{a:Pi}:Rep K H (.ptr a) v↔v=.ref a:=by unfold Rep;exact Iff.rfl
def rep_dti{a_:List ((Int×Int)×Int)}:Rep K H (.dti a_) v↔∃a,v=.ref a/\H a=be (.dT (dtiV a_)):=by
 constructor
 .intro h;unfold Rep at h;exact h
 .intro h;unfold Rep;exact h
def rep_lst:Rep K H (.lst ds) v↔∃a vs,v=.ref a/\H a=be (.lst vs)/\Reps K H ds vs:=by
 constructor
 .intro h;unfold Rep at h;exact h
 .intro h;unfold Rep;exact h
def rep_rol:Rep K H (.rol ds) v↔∃a vs,v=.ref a/\SqL K H a vs/\Reps K H ds vs:=by
 constructor
 .intro h;unfold Rep at h;exact h
 .intro h;unfold Rep;exact h
variable{fs:List (Mr×My.D)}
def rep_obj:Rep K H (.obj x fs) v↔∃a C dx vs,v=.ref a/\nsIn K SL x=be (be (.ref C))/\H a=be (.ins C dx vs)/\RepF K H fs vs:=by
 constructor
 .intro h;unfold Rep at h;exact h
 .intro h;unfold Rep;exact h
def rep_exc:Rep K H (.exc x fs) v↔∃a C od vs,v=.ref a/\nsIn K SL x=be (be (.ref C))/\H a=be (XO a C od)/\RepF K H fs vs/\((od=z6/\vs=[])\/∃b,od=be b/\H b=be (.xd vs)):=by
 constructor
 .intro h;unfold Rep at h;exact h
 .intro h;unfold Rep;exact h
def rep_own:¬Rep K H (.own ds) v:=by intro h;unfold Rep at h;exact h
variable{vs:List (Mr×V)}
def repf_nil:RepF K H [] vs↔vs=[]:=by unfold RepF;exact Iff.rfl
def repf_cons{f:Mr}{d:D}{ds:List (Mr×D)}:RepF K H ((f,d)::ds) vs↔∃v r,vs=(f,v)::r/\Rep K H d v/\RepF K H ds r:=by
 constructor
 .intro h;unfold RepF at h;exact h
 .intro h;unfold RepF;exact h
def RepF.look{f:Mr}{d:D}:∀{fs:List (Mr×D)} {vs:List (Mr×V)},RepF K H fs vs->fs.lookup f=be d->∃v,vs.lookup f=be v/\Rep K H d v
 |[],_,_,e=>by cases e
 |(g,x)::fs,vs,h,e=>by
  let#[v,r,rfl,h1,h2]:=repf_cons.mp h;rw[IC]at e ⊢;split at e
  .cases e;exact#[v,rfl,h1]
  .exact RepF.look h2 e
def RepF.none{f:Mr}:∀{fs:List (Mr×D)} {vs:List (Mr×V)},RepF K H fs vs->fs.lookup f=Option.none->vs.lookup f=Option.none
 |[],vs,h,_=>by rw[repf_nil.mp h];rfl
 |(g,x)::fs,vs,h,e=>by
  let#[v,r,rfl,h1,h2]:=repf_cons.mp h;rw[IC]at e ⊢;split at e
  .cases e
  .exact RepF.none h2 e
def reps_nil{vs:List V}:Reps K H [] vs↔vs=[]:=by unfold Reps;exact Iff.rfl
def reps_cons{d:D}{vs:List V}:Reps K H (d::ds) vs↔∃v r,vs=v::r/\Rep K H d v/\Reps K H ds r:=by
 constructor
 .intro h;unfold Reps at h;exact h
 .intro h;unfold Reps;exact h
def Reps.length:∀{ds:List D} {vs:List V},Reps K H ds vs->vs.length=ds.length
 |[],vs,h=>by rw[reps_nil.mp h];rfl
 |d::ds,vs,h=>by
  let#[v,r,rfl,_,h2]:=reps_cons.mp h;rw[Iu,Iu,Reps.length h2]
def Reps.get:∀{ds:List D} {vs:List V} {i:Nat} {d:D},Reps K H ds vs->ds[i]?=be d->∃v,vs[i]?=be v/\Rep K H d v
 |[],_,_,_,_,e=>by simp at e
 |x::ds,vs,0,d,h,e=>by
  let#[v,r,rfl,h1,_]:=reps_cons.mp h;simp at e;subst e;exact#[v,rfl,h1]
 |x::ds,vs,i+1,d,h,e=>by
  let#[v,r,rfl,_,h2]:=reps_cons.mp h;let#[u,q1,q2]:=Reps.get (i:=i) h2 (by simpa using e);exact#[u,by simpa using q1,q2]
def Reps.ints:∀{ns:List Int} {vs:List V},Reps K H (ns.map D.int) vs↔vs=ns.map V.int
 |[],vs=>reps_nil
 |n::ns,vs=>by
  rw[IH,reps_cons,IH];constructor
  .rintro⟨v,r,rfl,h1,h2⟩;rw[rep_int.mp h1,Reps.ints.mp h2]
  .rintro rfl;exact#[_,_,rfl,rep_int.mpr rfl,Reps.ints.mpr rfl]
end
abbrev SD:=List (Option D)
def gW:D->Bool|.own _=>true|_=>false
structure RepS(K:Ex)(B F H:Hp)(t:SD)(s:L2.St):Prop where
 len:s.length=t.length
 val:∀(i:Nat) d,t[i]?=be (be d)->gW d=false->∃v,s[i]?=be (be v)/\Rep K F d v
 own:∀(i:Nat) ds,t[i]?=be (be (.own ds))->∃a vs,s[i]?=be (be (.ref a))/\H a=be (.lst vs)/\B a=z6/\F a=z6/\Reps K F ds vs
 apart:∀(i j:Nat) di dj a,t[i]?=be (be (.own di))->t[j]?=be (be (.own dj))->s[i]?=be (be (.ref a))->s[j]?=be (be (.ref a))->i=j
structure Grow(F H F' H':Hp):Prop where
 ff:Same F F'
 fh:Same F' H'
 hh:Same H H'
 out:∀b,F b=z6->H b≠z6->F' b=z6
variable{F H:Hp}
def Grow.refl(h:Same F H):Grow F H F H:=#[Same.refl F,h,Same.refl H,λ_ h _=>h]
def Grow.trans{F1 H1 F2 H2:Hp}(g:Grow F H F1 H1)(k:Grow F1 H1 F2 H2):Grow F H F2 H2:=
 ⟨g.ff.trans k.ff,k.fh,g.hh.trans k.hh,λb h1 h2=>k.out b (g.out b h1 h2) (by
  cases e:H b with
  |none=>exact absurd e h2
  |some o=>rw[g.hh b o e];exact λz=>nomatch z)⟩
def Grow.new{p:Pi}(h:Same F H)(hp:H p=z6)(o:HO):Grow F H (upd F p o) (upd H p o):=by
 have fp:F p=none:=h.free hp;refine#[aN fp o,λb u e=>?_,aN hp o,λb h1 h2=>?_]
 .by_cases hb:b=p
  .subst hb;rw[aC]at e ⊢;exact e
  .rw[ar hb]at e ⊢;exact h b u e
 .by_cases hb:b=p
  .subst hb;exact absurd hp h2
  .rw[ar hb];exact h1
class Jx where
 B:Hp
 F0:Hp
 RX:SD->Mr->List (Mr×D)->Prop
structure Kept[J:Jx](B F0 F H:Hp):Prop where
 bh:Same B H
 fh:Same F H
 f0:Same F0 F
 out:∀b,F0 b=z6->B b≠z6->F b=z6
 eb:B=J.B
 jf:Same J.F0 F0
 jo:∀b,J.F0 b=z6->B b≠z6->F0 b=z6
variable{B:Hp}
def Kept.kf[J:Jx]{F0:Hp}(k:Kept B F0 F H):Kept B J.F0 F H:=#[k.bh,k.fh,k.jf.trans k.f0,λb h1 h2=>k.out b (k.jo b h1 h2) h2,k.eb,Same.refl _,λ_ h _=>h]
def Kept.grow[Jx]{F0 F' H':Hp}(k:Kept B F0 F H)(g:Grow F H F' H'):Kept B F0 F' H':=
 ⟨k.bh.trans g.hh,g.fh,k.f0.trans g.ff,λb h1 h2=>g.out b (k.out b h1 h2) (by
  cases e:B b with
  |none=>exact absurd e h2
  |some o=>rw[k.bh b o e];exact λz=>nomatch z),k.eb,k.jf,k.jo⟩
section
variable {K:Ex}{B F H F' H':Hp}{t:SD}{s:L2.St}
def RepS.grow(g:Grow F H F' H')(h:RepS K B F H t s):RepS K B F' H' t s where
 len:=h.len
 val:=λi d e no=>let ⟨v,q1,q2⟩:=h.val i d e no;#[v,q1,q2.mono g.ff]
 own:=λi ds e=>by
  let#[a,vs,q1,q2,q3,q4,q5]:=h.own i ds e;exact#[a,vs,q1,g.hh a _ q2,q3,g.out a q4 (by rw[q2];exact λz=>nomatch z),q5.mono g.ff]
 apart:=h.apart
variable{i:Nat}
def RepS.set{d:D}{v:V}(h:RepS K B F H t s)(r:Rep K F d v):RepS K B F H (t.set i (be d)) (s.set i (be v)):=by
 have no:gW d=false:=by
  cases d with
  |own ds=>exact absurd r rep_own
  |_=>rfl
 have get:∀{j:Nat} {x:D},(t.set i (be d))[j]?=be (be x)->(j=i/\x=d/\i<t.length)\/(j≠i/\t[j]?=be (be x)):=λ{j x} e=>by
  by_cases hj:i=j
  .subst hj;rw[JA]at e;simp at e;exact .inl #[rfl,e.2.symm,e.1]
  .rw[Iz hj]at e;exact .inr #[λz=>hj z.symm,e]
 refine#[by rw[Jc,Jc];exact h.len,λj x e nx=>?_,λj ds e=>?_,λj k dj dk a e1 e2 e3 e4=>?_]
 .rcases get e with⟨rfl,rfl,hl⟩|⟨hj,e⟩
  .exact#[v,by rw[IZ (by rw[h.len];exact hl)],r]
  .let#[u,q1,q2]:=h.val j x e nx;exact#[u,by rw[Iz (λz=>hj z.symm)];exact q1,q2]
 .rcases get e with⟨rfl,rfl,hl⟩|⟨hj,e⟩
  .cases no
  .let#[a,vs,q1,q]:=h.own j ds e;exact#[a,vs,by rw[Iz (λz=>hj z.symm)];exact q1,q]
 .rcases get e1 with⟨rfl,rfl,hl⟩|⟨hj,e1⟩
  .cases no
  .rcases get e2 with⟨rfl,rfl,hl⟩|⟨hk,e2⟩
   .cases no
   .rw[Iz (λz=>hj z.symm)]at e3;rw[Iz (λz=>hk z.symm)]at e4;exact h.apart j k dj dk a e1 e2 e3 e4
variable{ds:List My.D}
def RepS.setOwn{a:Pi}{vs:List V}(h:RepS K B F H t s)(hB:B a=z6)(hF:F a=z6)(r:Reps K F ds vs)
  (free:∀(j:Nat) dj,j≠i->t[j]?=be (be (.own dj))->s[j]?≠be (be (.ref a))):RepS K B F (upd H a (.lst vs)) (t.set i (be (.own ds))) (s.set i (be (.ref a))):=by
 have get:∀{j:Nat} {x:D},(t.set i (be (.own ds)))[j]?=be (be x)->(j=i/\x=.own ds/\i<t.length)\/(j≠i/\t[j]?=be (be x)):=λ{j x} e=>by
  by_cases hj:i=j
  .subst hj;rw[JA]at e;simp at e;exact .inl #[rfl,e.2.symm,e.1]
  .rw[Iz hj]at e;exact .inr #[λz=>hj z.symm,e]
 refine#[by rw[Jc,Jc];exact h.len,λj x e nx=>?_,λj dj e=>?_,λj k dj dk b e1 e2 e3 e4=>?_]
 .rcases get e with⟨rfl,rfl,hl⟩|⟨hj,e⟩
  .cases nx
  .let#[u,q1,q2]:=h.val j x e nx;exact#[u,by rw[Iz (λz=>hj z.symm)];exact q1,q2]
 .rcases get e with⟨rfl,e,hl⟩|⟨hj,e⟩
  .cases e;exact#[a,vs,by rw[IZ (by rw[h.len];exact hl)],aC,hB,hF,r]
  .let#[b,us,q1,q2,q]:=h.own j dj e;have ne:b≠a:=λz=>free j dj hj e (z ▸ q1);exact#[b,us,by rw[Iz (λz=>hj z.symm)];exact q1,by rw[ar ne];exact q2,q]
 .rcases get e1 with⟨hj,c1,hl⟩|⟨hj,f1⟩
  .rcases get e2 with⟨hk,c2,P2⟩|⟨hk,f2⟩
   .rw[hj,hk]
   .rw[hj,IZ (by rw[h.len];exact hl)]at e3;rw[Iz (λz=>hk z.symm)]at e4;cases e3;exact absurd e4 (free k dk hk f2)
  .rcases get e2 with⟨hk,c2,P2⟩|⟨hk,f2⟩
   .rw[hk,IZ (by rw[h.len];exact P2)]at e4;rw[Iz (λz=>hj z.symm)]at e3;cases e4;exact absurd e3 (free j dj hj f1)
   .rw[Iz (λz=>hj z.symm)]at e3;rw[Iz (λz=>hk z.symm)]at e4;exact h.apart j k dj dk b f1 f2 e3 e4
def RepS.freeze[Jx]{F0:Hp}(h:RepS K B F H t s)(k:Kept B F0 F H)(e:t[i]?=be (be (.own ds))):∃F',Kept B F0 F' H/\RepS K B F' H (t.set i (be (.lst ds))) s:=by
 let#[a,vs,q1,q2,q3,q4,q5]:=h.own i ds e;have hl:i<t.length:=(IB.mp e).1;have g:Same F (upd F a (.lst vs)):=aN q4 _;have get:∀{j:Nat} {x:D},(t.set i (be (.lst ds)))[j]?=be (be x)->(j=i/\x=.lst ds)\/(j≠i/\t[j]?=be (be x)):=λ{j x} e=>by
  by_cases hj:i=j
  .subst hj;rw[JA]at e;simp at e;exact .inl #[rfl,e.2.symm]
  .rw[Iz hj]at e;exact .inr #[λz=>hj z.symm,e]
 refine#[upd F a (.lst vs),#[k.bh,λb o z=>?_,k.f0.trans g,λb h1 h2=>?_,k.eb,k.jf,k.jo],#[by rw[Jc];exact h.len,λj x e' nx=>?_,λj dj e'=>?_,λj l dj dl b e1 e2 e3 e4=>?_]]
 .by_cases hb:b=a
  .subst hb;rw[aC]at z;cases z;exact q2
  .rw[ar hb]at z;exact k.fh b o z
 .by_cases hb:b=a
  .subst hb;exact absurd q3 h2
  .rw[ar hb];exact k.out b h1 h2
 .rcases get e' with⟨rfl,rfl⟩|⟨hj,e'⟩
  .exact#[.ref a,q1,rep_lst.mpr #[a,vs,rfl,aC,q5.mono g]]
  .let#[u,p1,p2]:=h.val j x e' nx;exact#[u,p1,p2.mono g]
 .rcases get e' with⟨rfl,c⟩|⟨hj,e'⟩
  .cases c
  .let#[b,us,p1,p2,p3,p4,p5]:=h.own j dj e';have ne:b≠a:=λz=>hj (h.apart j i dj ds a e' e (z ▸ p1) q1);exact#[b,us,p1,p2,p3,by rw[ar ne];exact p4,p5.mono g]
 .rcases get e1 with⟨rfl,c⟩|⟨hj,e1⟩
  .cases c
  .rcases get e2 with⟨rfl,c⟩|⟨hk,e2⟩
   .cases c
   .exact h.apart j l dj dl b e1 e2 e3 e4
end
def startD(N:List Mr)(ds:List D):SD:=ds.map be++Iw (N.length-ds.length) z6
variable{K:Ex}
def Rep.noown{d:D}{v:V}(r:Rep K F d v):gW d=false:=by
 cases d with
 |own ds=>exact absurd r rep_own
 |_=>rfl
def dQ{N:List Mr}{ds:List D}{vs:List V}(h:Reps K F ds vs):RepS K B F H (startD N ds) (L2.start N vs):=by
 have hl:=h.length;have get:∀(i:Nat) d,(startD N ds)[i]?=be (be d)->∃v,(L2.start N vs)[i]?=be (be v)/\Rep K F d v:=λi d e=>by
  unfold startD at e;unfold L2.start;by_cases hi:i<ds.length
  .rw[Ja (by simpa using hi),Iy]at e;cases q:ds[i]? with
   |none=>rw[q]at e;cases e
   |some x=>
    rw[q]at e;cases e;let#[v,q1,q2]:=h.get q;exact#[v,by rw[Ja (by simpa[hl]using hi),Iy,q1];rfl,q2]
  .rw[Jp (by simpa using hi),Ku]at e;split at e<;>cases e
 refine#[by unfold startD L2.start;simp[hl],λi d e _=>get i d e,λi d e=>?_,λi j di dj a e=>?_]
 .let#[v,_,r]:=get i _ e;exact absurd r rep_own
 .let#[v,_,r]:=get i _ e;exact absurd r rep_own
abbrev TD:=SD->(D->Prop)->Prop
abbrev TDT:=SD->(Bool->Prop)->Prop
abbrev TDA:=SD->(List D->Prop)->Prop
structure EndsD where
 nx:SD->Prop
 rt:D->Prop
 bk:SD->Prop:=λ_=>False
 ct:SD->Prop:=λ_=>False
abbrev TSD:=EndsD->SD->Prop
def lE(K:Ex)[J:Jx](t:TD):TE:=λs H Q=>∃B F z,Kept B J.F0 F H/\RepS K B F H z s/\∃R:D->Prop,t z R/\∀d v F' H',Grow F H F' H'->R d->Rep K F' d v->Q v H'
def lT(K:Ex)[J:Jx](t:TDT):TT:=λs H Q=>∃B F z,Kept B J.F0 F H/\RepS K B F H z s/\∃R:Bool->Prop,t z R/\∀b F' H',Grow F H F' H'->R b->Q b H'
def lA(K:Ex)[J:Jx](t:TDA):TA:=λs H Q=>∃B F z,Kept B J.F0 F H/\RepS K B F H z s/\∃R:List D->Prop,t z R/\∀ds vs F' H',Grow F H F' H'->R ds->Reps K F' ds vs->Q vs H'
structure EndsOk[Jx](K:Ex)(B F0:Hp)(ED:EndsD)(E:Ends):Prop where
 nx:∀z' s' F' H',Kept B F0 F' H'->ED.nx z'->RepS K B F' H' z' s'->E.nx s' H'
 rt:∀d v F' H',Kept B F0 F' H'->ED.rt d->Rep K F' d v->E.rt v H'
 bk:∀z' s' F' H',Kept B F0 F' H'->ED.bk z'->RepS K B F' H' z' s'->E.bk s' H'
 ct:∀z' s' F' H',Kept B F0 F' H'->ED.ct z'->RepS K B F' H' z' s'->E.ct s' H'
def lS(K:Ex)[Jx](t:TSD):TS:=λE s H=>∃B F0 F z,Kept B F0 F H/\RepS K B F H z s/\∃ED:EndsD,t ED z/\EndsOk K B F0 ED E
abbrev DE(X:Cx)[Jx](e:VV)(t:TD):Prop:=PE X e (lE X.K t)
abbrev DT(X:Cx)[Jx](e:VV)(t:TDT):Prop:=PT X e (lT X.K t)
abbrev DW(X:Cx)[Jx](e:VV)(t:TDT):Prop:=PW X e (lT X.K t)
abbrev DA(X:Cx)[Jx](es:List VV)(t:TDA):Prop:=PA X es (lA X.K t)
abbrev DS(X:Cx)[Jx](st:VS)(t:TSD):Prop:=PS X st (lS X.K t)
abbrev DSs(X:Cx)[Jx](st:List VS)(t:TSD):Prop:=PSs X st (lS X.K t)
structure WDE(X:Cx)[Jx](e:VV)(t:TD):Prop where
 out:DE X e t
structure WDT(X:Cx)[Jx](e:VV)(t:TDT):Prop where
 out:DT X e t
structure WDW(X:Cx)[Jx](e:VV)(t:TDT):Prop where
 out:DW X e t
structure WDA(X:Cx)[Jx](es:List VV)(t:TDA):Prop where
 out:DA X es t
structure WDS(X:Cx)[Jx](st:VS)(t:TSD):Prop where
 out:DS X st t
structure WDSs(X:Cx)[Jx](st:List VS)(t:TSD):Prop where
 out:DSs X st t
section
variable {X:Cx}
def okR(R:D->Prop):D->Prop|.own _=>False|d=>R d
def dVar(i:Nat):TD:=λz R=>match z[i]? with|some (be d)=>okR R d|_=>False
def dC(d:D):TD:=λ_ R=>R d
variable{x:Mr}
def aa[Jx](i:Nat){pos:V4}(hN:(X.N[i]?=be x)\zA0)(hv:Vis X.env.scope x\zA5)(hd:zND x\zA1)
  (g7:zNC x\zA1):WDE X (.Name x pos) (dVar i):=⟨(cN hN hv hd g7).anti λs H Q h=>by
 let#[B,F,z,kf,r,R,h1,h2]:=h;have fh:=kf.fh;unfold dVar at h1;split at h1
 .rename_i d e;have no:gW d=false:=by
   cases d with
   |own ds=>exact False.elim h1
   |_=>rfl
  have T3:R d:=by
   cases d with
   |own ds=>exact False.elim h1
   |_=>exact h1
  let#[v,q1,q2]:=r.val i d e no;exact#[v,q1,h2 d v F H (Grow.refl fh) T3 q2]
 .exact h1.elim⟩
variable{e:VV}{d:My.D}
def de_c[Jx]{v:V}(h:PE X e (tC v))(r:∀H,Rep X.K H d v):DE X e (dC d):=h.anti λs H Q q=>by
 let#[B,F,z,kf,_,R,h1,h2]:=q;have fh:=kf.fh;exact h2 d v F H (Grow.refl fh) h1 (r F)
def ad[Jx]{i j pos}:WDE X (.Constant (.int i) j pos) (dC (.int i)):=#[de_c xJ λ_=>rep_int.mpr rfl]
def bN[Jx]{b j pos}:WDE X (.Constant (.bool b) j pos) (dC (.bl b)):=#[de_c xK λ_=>rep_bl.mpr rfl]
def bn[Jx]{j pos}:WDE X (.Constant .none j pos) (dC .non):=#[de_c xL λ_=>rep_non.mpr rfl]
def av[Jx]{x j pos}:WDE X (.Constant (.str x) j pos) (dC (.str x)):=#[de_c qD λ_=>rep_str.mpr rfl]
abbrev RD2:=D->D->(D->Prop)->Prop
def dOp(r:RD2)(ta tb:TD):TD:=λz R=>ta z λx=>tb z λy=>r x y R
def aY(K:Ex)(r:R2)(rd:RD2):Prop:=∀x y u v F H R Q,Same F H->rd x y R->Rep K F x u->Rep K F y v->(∀d w F' H',Grow F H F' H'->R d->Rep K F' d w->Q w H')->r u v H Q
variable{r:R2}{rd:RD2}
def jQ[Jx]{ta tb:TD}(L:aY X.K r rd)(h:PE X e (tOp r (lE X.K ta) (lE X.K tb))):DE X e (dOp rd ta tb):=h.anti λs H Q q=>by
 let#[B,F,z,kf,rs,R,h1,h2]:=q;have fh:=kf.fh;refine#[B,F,z,kf,rs,_,h1,λx u F1 H1 g1 hx rx=>?_];refine#[B,F1,z,kf.grow g1,rs.grow g1,_,hx,λy v F2 H2 g2 hy ry=>?_];exact L x y u v F2 H2 R Q g2.fh hy (rx.mono g2.ff) ry λd w F' H' g3=>h2 d w F' H' (g1.trans (g2.trans g3))
variable {a b c:VV}{ta tb tc:TD}{pos:V4}
def dh[Jx]{op:Xc}(ho:OpR X (Wc op) r)(L:aY X.K r rd)(ha:DE X a ta)(hb:DE X b tb):DE X (.BinOp a op b pos) (dOp rd ta tb):=jQ L (jA ho ha hb)
def jR[Jx]{op:XX}(ho:OpR X (V6 op) r)(L:aY X.K r rd)(ha:DE X a ta)(hb:DE X b tb)(hm:Wi op b=false):DE X (.Compare a [op] [b] pos) (dOp rd ta tb):=jQ L (yt ho ha hb hm)
def zQ[Jx](hr:IxR X r)(L:aY X.K r rd)(ha:DE X a ta)(hb:DE X b tb)(hs:eN b\zA6):DE X (.Subscript a b pos) (dOp rd ta tb):=jQ L (pe_ix hr ha hb hs)
def kdI(d:D)(k:Int->Prop):Prop:=match d with|.int i=>k i|_=>False
def kdB(d:D)(k:Bool->Prop):Prop:=match d with|.bl i=>k i|_=>False
def kdS(d:D)(k:Mr->Prop):Prop:=match d with|.str i=>k i|_=>False
def kdL(d:D)(k:List D->Prop):Prop:=match d with|.lst i=>k i|_=>False
def kdT(d:D)(k:List D->Prop):Prop:=match d with|.tup i=>k i|_=>False
def kdN(d:D)(p:Prop):Prop:=match d with|.non=>p|_=>False
def kd1(ds:List D)(k:D->Prop):Prop:=match ds with|[x]=>k x|_=>False
def kd2(ds:List D)(k:D->D->Prop):Prop:=match ds with|[x,y]=>k x y|_=>False
def kdI.of{k:Int->Prop}(h:kdI d k):∃i,d=.int i/\k i:=Oy
def kdB.of{k:Bool->Prop}(h:kdB d k):∃i,d=.bl i/\k i:=Oy
def kdS.of{k:Mr->Prop}(h:kdS d k):∃i,d=.str i/\k i:=Oy
variable{k:List My.D->Prop}
def kdL.of(h:kdL d k):∃i,d=.lst i/\k i:=Oy
def kdT.of(h:kdT d k):∃i,d=.tup i/\k i:=Oy
def kdP(d:D)(k:Pi->Prop):Prop:=match d with|.ptr i=>k i|_=>False
def kdP.of{k:Pi->Prop}(h:kdP d k):∃i,d=.ptr i/\k i:=Oy
def kdN.of{p:Prop}(h:kdN d p):d=.non/\p:=by cases d<;>first|exact#[rfl,h]|exact False.elim h
variable{ds:List My.D}
def kd1.of{k:D->Prop}(h:kd1 ds k):∃x,ds=[x]/\k x:=by
 cases ds with
 |nil=>exact False.elim h
 |cons x r=>cases r with
  |nil=>exact#[x,rfl,h]
  |cons=>exact False.elim h
def kd2.of{k:D->D->Prop}(h:kd2 ds k):∃x y,ds=[x,y]/\k x y:=by
 cases ds with
 |nil=>exact False.elim h
 |cons x r=>cases r with
  |nil=>exact False.elim h
  |cons y r=>cases r with
   |nil=>exact#[x,y,rfl,h]
   |cons=>exact False.elim h
def rdI0(f:Int->Int->D):RD2:=λx y R=>kdI x λi=>kdI y λj=>R (f i j)
def rdI1(C:Int->Int->Prop)(f:Int->Int->D):RD2:=λx y R=>kdI x λi=>kdI y λj=>C i j/\R (f i j)
variable{K:Ex}{f:Int->Int->My.D}{g:Int->Int->V}
def fS(k:∀F i j,Rep K F (f i j) (g i j)):aY K (rI0 g) (rdI0 f):=by
 intro x y u v F H R Q fh h rx ry q;replace h:=kdI.of h;let#[i,rfl,h]:=h;replace h:=kdI.of h;let#[j,rfl,h]:=h;exact#[i,j,rep_int.mp rx,rep_int.mp ry,q _ _ F H (Grow.refl fh) h (k F i j)]
def fT{C:Int->Int->Prop}(k:∀F i j,Rep K F (f i j) (g i j)):aY K (rI C g) (rdI1 C f):=by
 intro x y u v F H R Q fh h rx ry q;replace h:=kdI.of h;let#[i,rfl,h]:=h;replace h:=kdI.of h;let#[j,rfl,h]:=h;exact#[i,j,rep_int.mp rx,rep_int.mp ry,h.1,q _ _ F H (Grow.refl fh) h.2 (k F i j)]
def jS:RD2:=λx y R=>match x with
 |.int i=>kdI y λj=>R (.int (i+j))
 |.str i=>kdS y λj=>i.length+j.length<=1000000/\R (.str (i++j))
 |.lst xs=>kdL y λys=>xs.length+ys.length<=1000000/\R (.lst (xs++ys))
 |.tup xs=>kdT y λys=>(xs≠[]/\ys≠[]/\xs.length+ys.length<=1000000)/\R (.tup (xs++ys))
 |_=>False
def sf(K:Ex):R2:=λx y H Q=>rI0 (λi j=>.int (i+j)) x y H Q\/((λx y H Q=>∃i j,x=.str i/\y=.str j/\i.length+j.length<=sizeLine/\Q (.str (i++j)) H) x y H Q\/(rCat x y H Q\/rJ K x y H Q))
def si:OpR X (Wc .Add) (sf X.K):=OpR.or yk (OpR.or yy (OpR.or rQ zi))
def Reps.append{K:Ex}{F:Hp}:∀{xs ys:List D} {us vs:List V},Reps K F xs us->Reps K F ys vs->Reps K F (xs++ys) (us++vs)
 |[],ys,us,vs,r1,r2=>by rw[reps_nil.mp r1];exact r2
 |x::xs,ys,us,vs,r1,r2=>by
  let#[u,ur,rfl,a1,a2]:=reps_cons.mp r1;exact reps_cons.mpr #[u,ur++vs,rfl,a1,Reps.append a2 r2]
def Reps.ne_nil{F:Hp}{xs:List D}{us:List V}(r:Reps K F xs us)(h:xs≠[]):us≠[]:=by
 cases xs with
 |nil=>exact absurd rfl h
 |cons x xs=>let#[u,ur,rfl,_]:=reps_cons.mp r;exact λz=>nomatch z
def sj:aY K (sf K) jS:=by
 intro x y u v F H R Q fh h rx ry q;cases x with
 |int i=>
  replace h:=kdI.of h;let#[j,rfl,h]:=h;exact .inl #[_,_,rep_int.mp rx,rep_int.mp ry,q _ _ F H (Grow.refl fh) h (rep_int.mpr rfl)]
 |str i=>
  replace h:=kdS.of h;let#[j,rfl,h]:=h;exact .inr (.inl #[_,_,rep_str.mp rx,rep_str.mp ry,Io h.1 Nk,q _ _ F H (Grow.refl fh) h.2 (rep_str.mpr rfl)])
 |lst xs=>
  replace h:=kdL.of h;let#[ys,rfl,h]:=h;let#[a,us,rfl,hq,rr]:=rep_lst.mp rx;let#[b,vs,rfl,p8,u_]:=rep_lst.mp ry;refine .inr (.inr (.inl #[a,b,us,vs,rfl,rfl,fh _ _ hq,fh _ _ p8,by rw[rr.length,u_.length];exact Io h.1 Nk,λp hp=>?_]));exact q _ _ _ _ (Grow.new fh hp _) h.2 (rep_lst.mpr #[p,_,rfl,aC,(rr.append u_).mono (aN (fh.free hp) _)])
 |tup xs=>
  replace h:=kdT.of h;let#[ys,rfl,h]:=h;let#[a,us,rfl,hq,rr]:=rep_tup_mp rx;let#[b,vs,rfl,p8,u_]:=rep_tup_mp ry;let#[#[n1,n2,hz],h]:=h;refine .inr (.inr (.inr #[a,b,us,vs,rfl,rfl,fh.tup hq,fh.tup p8,rr.ne_nil n1,by rw[rr.length,u_.length];exact Io hz Nk,λz=>absurd z (u_.ne_nil n2),λ_ p hp=>?_]));exact q _ _ _ _ (Grow.new fh hp _) h (rep_tupS.mpr #[p,_,rfl,aC,(rr.append u_).mono (aN (fh.free hp) _)])
 |_=>exact False.elim h
def am[Jx](ha:WDE X a ta)(hb:WDE X b tb):WDE X (.BinOp a .Add b pos) (dOp jS ta tb):=#[dh si sj ha.out hb.out]
def jT:RD2:=rdI0 λi j=>.int (i-j)
def sk:aY K (rI0 λi j=>.int (i-j)) jT:=fS λ_ _ _=>rep_int.mpr rfl
def bj[Jx](ha:WDE X a ta)(hb:WDE X b tb):WDE X (.BinOp a .Sub b pos) (dOp jT ta tb):=#[dh qR sk ha.out hb.out]
def so:RD2:=λx y R=>kdI x λi=>kdI y λj=>CMul i j/\R (.int (i*j))
def zR:aY K (rI CMul λi j=>.int (i*j)) so:=fT λ_ _ _=>rep_int.mpr rfl
def az[Jx](ha:WDE X a ta)(hb:WDE X b tb):WDE X (.BinOp a .Mult b pos) (dOp so ta tb):=#[dh qS zR ha.out hb.out]
def sq:RD2:=λx y R=>kdI x λi=>kdI y λj=>(0<j/\j<1073741824)/\R (.int (i/j))
def zS:aY K (rI CDiv λi j=>.int (i/j)) sq:=fT λ_ _ _=>rep_int.mpr rfl
def bf[Jx](ha:WDE X a ta)(hb:WDE X b tb):WDE X (.BinOp a .FloorDiv b pos) (dOp sq ta tb):=#[dh yl zS ha.out hb.out]
def sr(i j:Int):Prop:=j≠0/\j.natAbs<4611686018427387904
def zT:OpR X (Wc .FloorDiv) (rI sr λi j=>.int (i.fdiv j)):=opI λ_ j _ _ _ _ _ hc q=>floordiv_int hc.1 q (.inl (PyProof.noPylong_of_log2 (Ld ((Lg (λz=>hc.1 (Lh.mp z))).mpr (show j.natAbs<2^62 from hc.2)) Nk)))
def ss:RD2:=λx y R=>kdI x λi=>kdI y λj=>(j≠0/\j.natAbs<4611686018427387904)/\R (.int (i.fdiv j))
def zU:aY K (rI sr λi j=>.int (i.fdiv j)) ss:=fT λ_ _ _=>rep_int.mpr rfl
def zV[Jx](ha:WDE X a ta)(hb:WDE X b tb):WDE X (.BinOp a .FloorDiv b pos) (dOp ss ta tb):=#[dh zT zU ha.out hb.out]
def su:RD2:=λx y R=>kdI x λi=>kdI y λj=>0<j/\R (.int (i%j))
def zW:aY K (rI (λ_ j=>0<j) λi j=>.int (i%j)) su:=fT λ_ _ _=>rep_int.mpr rfl
def aF[Jx](ha:WDE X a ta)(hb:WDE X b tb):WDE X (.BinOp a .Mod b pos) (dOp su ta tb):=#[dh ym zW ha.out hb.out]
def sy:RD2:=λx y R=>kdI x λi=>kdI y λj=>j≠0/\R (.int (i.fmod j))
def zX:aY K (rI (λ_ j=>j≠0) λi j=>.int (i.fmod j)) sy:=fT λ_ _ _=>rep_int.mpr rfl
def sA[Jx](ha:WDE X a ta)(hb:WDE X b tb):WDE X (.BinOp a .Mod b pos) (dOp sy ta tb):=#[dh yn zX ha.out hb.out]
def rdLt:RD2:=rdI0 λi j=>.bl (decide (i<j))
def sB:aY K (rI0 λi j=>.bl (decide (i<j))) rdLt:=fS λ_ _ _=>rep_bl.mpr rfl
def rdLe:RD2:=rdI0 λi j=>.bl (decide (i<=j))
def zY:aY K (rI0 λi j=>.bl (decide (i<=j))) rdLe:=fS λ_ _ _=>rep_bl.mpr rfl
def rdGt:RD2:=rdI0 λi j=>.bl (decide (j<i))
def jU:aY K (rI0 λi j=>.bl (decide (j<i))) rdGt:=fS λ_ _ _=>rep_bl.mpr rfl
def zZ[Jx](ha:WDE X a ta)(hb:WDE X b tb):WDE X (.Compare a [.Gt] [b] pos) (dOp rdGt ta tb):=#[jR jC jU ha.out hb.out (nomark _)]
def rdGe:RD2:=rdI0 λi j=>.bl (decide (j<=i))
def Aa:aY K (rI0 λi j=>.bl (decide (j<=i))) rdGe:=fS λ_ _ _=>rep_bl.mpr rfl
def rdEq:RD2:=λx y R=>match x with
 |.int i=>kdI y λj=>R (.bl (decide (i=j)))
 |.bl i=>kdB y λj=>R (.bl (decide (i=j)))
 |.str i=>kdS y λj=>R (.bl (decide (i=j)))
 |.non=>kdN y (R (.bl true))
 |_=>False
def rdNe:RD2:=λx y R=>match x with
 |.int i=>kdI y λj=>R (.bl (!decide (i=j)))
 |.bl i=>kdB y λj=>R (.bl (!decide (i=j)))
 |.str i=>kdS y λj=>R (.bl (!decide (i=j)))
 |.non=>kdN y (R (.bl false))
 |_=>False
def jV:aY K rEq rdEq:=by
 intro x y u v F H R Q fh h rx ry q;cases x with
 |int i=>
  replace h:=kdI.of h;let#[j,rfl,h]:=h;rw[rep_int.mp rx,rep_int.mp ry];exact#[rfl,q _ _ F H (Grow.refl fh) h (rep_bl.mpr Nq)]
 |bl i=>
  replace h:=kdB.of h;let#[j,rfl,h]:=h;rw[rep_bl.mp rx,rep_bl.mp ry];exact#[rfl,q _ _ F H (Grow.refl fh) h (rep_bl.mpr Nq)]
 |str i=>
  replace h:=kdS.of h;let#[j,rfl,h]:=h;rw[rep_str.mp rx,rep_str.mp ry];exact#[rfl,q _ _ F H (Grow.refl fh) h (rep_bl.mpr Nq)]
 |non=>
  replace h:=kdN.of h;let#[rfl,h]:=h;rw[rep_non.mp rx,rep_non.mp ry];exact#[rfl,q _ _ F H (Grow.refl fh) h (rep_bl.mpr Nq)]
 |_=>exact False.elim h
def sC:aY K rNe rdNe:=by
 intro x y u v F H R Q fh h rx ry q;cases x with
 |int i=>
  replace h:=kdI.of h;let#[j,rfl,h]:=h;rw[rep_int.mp rx,rep_int.mp ry];exact#[rfl,q _ _ F H (Grow.refl fh) h (rep_bl.mpr Nq)]
 |bl i=>
  replace h:=kdB.of h;let#[j,rfl,h]:=h;rw[rep_bl.mp rx,rep_bl.mp ry];exact#[rfl,q _ _ F H (Grow.refl fh) h (rep_bl.mpr Nq)]
 |str i=>
  replace h:=kdS.of h;let#[j,rfl,h]:=h;rw[rep_str.mp rx,rep_str.mp ry];exact#[rfl,q _ _ F H (Grow.refl fh) h (rep_bl.mpr Nq)]
 |non=>
  replace h:=kdN.of h;let#[rfl,h]:=h;rw[rep_non.mp rx,rep_non.mp ry];exact#[rfl,q _ _ F H (Grow.refl fh) h (rep_bl.mpr Nq)]
 |_=>exact False.elim h
def cP[Jx](ha:WDE X a ta)(hb:WDE X b tb):WDE X (.Compare a [.Eq] [b] pos) (dOp rdEq ta tb):=#[jR jB jV ha.out hb.out (nomark _)]
def jW:D->Bool|.non=>true|_=>false
def rdIs(f:Bool->Bool):RD2:=λx y R=>kdN y (R (.bl (f (jW x))))
def sE{H:Hp}{x:D}{u:V}(r:Rep K H x u):decide (u=.non)=jW x:=by
 cases x with
 |non=>rw[rep_non.mp r];rfl
 |bl b=>rw[rep_bl.mp r];rfl
 |int b=>rw[rep_int.mp r];rfl
 |str b=>rw[rep_str.mp r];rfl
 |tup b=>let#[a,vs,rfl,_]:=rep_tup_mp r;rfl
 |lst b=>let#[a,vs,rfl,_]:=rep_lst.mp r;rfl
 |rol b=>let#[a,vs,rfl,_]:=rep_rol.mp r;rfl
 |obj C b=>let#[a,C,dx,vs,rfl,_]:=rep_obj.mp r;rfl
 |exc C b=>let#[a,C,od,vs,rfl,_]:=rep_exc.mp r;rfl
 |own b=>exact absurd r rep_own
 |ptr b=>rw[rep_ptr.mp r];rfl
 |dti b=>let#[a,rfl,_]:=rep_dti.mp r;rfl
def sF:aY K (λx y H Q=>y=.non/\Q (.bl (decide (x=.non))) H) (rdIs id):=by
 intro x y u v F H R Q fh h rx ry q;replace h:=kdN.of h;let#[rfl,h]:=h;exact#[rep_non.mp ry,q _ _ F H (Grow.refl fh) h (rep_bl.mpr (by rw[sE rx];rfl))]
def Ab:aY K (λx y H Q=>y=.non/\Q (.bl (!decide (x=.non))) H) (rdIs not):=by
 intro x y u v F H R Q fh h rx ry q;replace h:=kdN.of h;let#[rfl,h]:=h;exact#[rep_non.mp ry,q _ _ F H (Grow.refl fh) h (rep_bl.mpr (by rw[sE rx]))]
def rdIx:RD2:=λx y R=>kdI y λi=>match x with
 |.tup ds=>∃d,atI ds i=be d/\R d
 |.lst ds=>∃d,atI ds i=be d/\R d
 |.rol ds=>∃d,atI ds i=be d/\R d
 |.str x=>∃c,(x.length<=1000000/\atI x.cps.toList i=be c)/\R (.str #[[c].toArray])
 |_=>False
def Reps.at{H:Hp}{vs:List V}{i:Int}(r:Reps K H ds vs)(e:atI ds i=be d):∃v,atI vs i=be v/\Rep K H d v:=by
 unfold atI at e ⊢;rw[r.length];cases q:ixN ds.length i with
 |none=>rw[q]at e;cases e
 |some j=>
  rw[q]at e;exact r.get e
def sG:aY K (rIx K) rdIx:=by
 intro x y u v F H R Q fh h rx ry q;replace h:=kdI.of h;let#[i,rfl,h]:=h;cases x with
 |tup ds=>
  let#[d,e,h]:=h;let#[a,vs,e1,hq,rs]:=rep_tup_mp rx;let#[w,e2,j5]:=rs.at e;exact .inr (.inl #[a,vs,_,w,e1,rep_int.mp ry,fh.tup hq,e2,q d w F H (Grow.refl fh) h j5])
 |lst ds=>
  let#[d,e,h]:=h;let#[a,vs,e1,hq,rs]:=rep_lst.mp rx;let#[w,e2,j5]:=rs.at e;exact .inl #[a,vs,_,w,e1,rep_int.mp ry,fh.seq (SqL.of hq),e2,q d w F H (Grow.refl fh) h j5]
 |rol ds=>
  let#[d,e,h]:=h;let#[a,vs,e1,hq,rs]:=rep_rol.mp rx;let#[w,e2,j5]:=rs.at e;exact .inl #[a,vs,_,w,e1,rep_int.mp ry,fh.seq hq,e2,q d w F H (Grow.refl fh) h j5]
 |str x=>
  let#[c,#[hz,e],h]:=h;exact .inr (.inr #[_,_,c,rep_str.mp rx,rep_int.mp ry,Io hz Nk,e,q _ _ F H (Grow.refl fh) h (rep_str.mpr rfl)])
 |_=>exact False.elim h
def af[Jx](ha:WDE X a ta)(hb:WDE X b tb)(hs:eN b\zA6):WDE X (.Subscript a b pos) (dOp rdIx ta tb):=#[zQ rL sG ha.out hb.out hs]
def dUn(r:D->(D->Prop)->Prop)(ta:TD):TD:=λz R=>ta z λx=>r x R
def sH:D->(D->Prop)->Prop:=λx R=>match x with|.int i=>R (.int (-i))|_=>False
def bx[Jx](ha:WDE X a ta):WDE X (.UnaryOp .USub a pos) (dUn sH ta):=⟨(yj yo ha.out).anti λs H Q h=>by
 let#[B,F,z,kf,rs,R,h1,h2]:=h;have fh:=kf.fh;refine#[B,F,z,kf,rs,_,h1,λx u F1 H1 g1 hx rx=>?_];unfold sH at hx;split at hx
 .exact#[_,rep_int.mp rx,h2 _ _ F1 H1 g1 hx (rep_int.mpr rfl)]
 .exact hx.elim⟩
def dNil:TDA:=λ_ R=>R []
def Ac(ta:TD)(tr:TDA):TDA:=λz R=>ta z λx=>tr z λxs=>R (x::xs)
def ae[Jx]:WDA X [] dNil:=⟨pa_nil.anti λs H Q h=>by
 let#[B,F,z,kf,rs,R,h1,h2]:=h;have fh:=kf.fh;exact h2 [] [] F H (Grow.refl fh) h1 (reps_nil.mpr rfl)⟩
variable{es:List VV}{t:TDA}
def ac[Jx]{te:TD}(ha:WDE X e te)(hr:WDA X es t)(hs:zSE X e es\zA0):WDA X (e::es) (Ac te t):=⟨(bv ha.out hr.out hs).anti λs H Q h=>by
 let#[B,F,z,kf,rs,R,h1,h2]:=h;have fh:=kf.fh;refine#[B,F,z,kf,rs,_,h1,λx u F1 H1 g1 hx rx=>?_];refine#[B,F1,z,kf.grow g1,rs.grow g1,_,hx,λxs us F2 H2 g2 hy ry=>?_];exact h2 _ _ F2 H2 (g1.trans g2) hy (reps_cons.mpr #[_,_,rfl,rx.mono g2.ff,ry])⟩
def dTup(t:TDA):TD:=λz R=>t z λxs=>xs.length<=1000/\R (.tup xs)
def dLst(t:TDA):TD:=λz R=>t z λxs=>xs.length<=1000/\R (.lst xs)
def aI[Jx]{x1}(h:WDA X es t):WDE X (.Tuple es x1 pos) (dTup t):=⟨(rA h.out).anti λs H Q q=>by
 let#[B,F,z,kf,rs,R,h1,h2]:=q;have fh:=kf.fh;refine#[B,F,z,kf,rs,_,h1,λds vs F1 H1 g1 hx rx=>?_];have hl:=rx.length;refine#[sz (by rw[hl];exact hx.1),λp hp=>?_];exact h2 _ _ _ _ (g1.trans (Grow.new g1.fh hp _)) hx.2 (rep_tupS.mpr #[p,vs,rfl,aC,rx.mono (aN (g1.fh.free hp) _)])⟩
def aQ[Jx](h:WDA X es t):WDE X (.List es pos) (dLst t):=⟨(jG h.out).anti λs H Q q=>by
 let#[B,F,z,kf,rs,R,h1,h2]:=q;have fh:=kf.fh;refine#[B,F,z,kf,rs,_,h1,λds vs F1 H1 g1 hx rx=>?_];have hl:=rx.length;refine#[sz (by rw[hl];exact hx.1),λp hp=>?_];exact h2 _ _ _ _ (g1.trans (Grow.new g1.fh hp _)) hx.2 (rep_lst.mpr #[p,vs,rfl,aC,rx.mono (aN (g1.fh.free hp) _)])⟩
abbrev SpD:=List D->(D->Prop)->Prop
def lSp(K:Ex)(S:SpD):Sp:=λvs H Q _=>∃F ds,Same F H/\Reps K F ds vs/\∃R:D->Prop,S ds R/\∀d v F' H',Grow F H F' H'->R d->Rep K F' d v->Q v H'
def Ad(S:SpD)(t:TDA):TD:=λz R=>t z λds=>S ds R
abbrev CalD(P:VU)(w:VX)(K:Ex)(mg:Mr->Option Os)(base:Heap)(n:Nat)(x:Mr)(ps:List Mr)(S:SpD):Prop:=Cal P w K mg base n x ps (lSp K S)
variable{p:V4}
def ay[Jx]{n m:Nat}{ps:List Mr}{S:SpD}(C:CalD X.prog X.w X.K X.mg X.base n x ps S)(hr:Room m X.A)(ha:WDA X (e::es) t)(hg:Gl X x\zA0)(hn:(n<=m)\zA1)(d9:zND x\zA1)
  (he:zSE X e es\zA0) (c8:zPL X pos es\zA0):WDE X (.Call (.Name x p) (e::es) [] pos) (Ad S t):=⟨(zP C hr ha.out hg hn d9 he c8).anti λs H Q h=>by
 let#[B,F,z,kf,rs,R,h1,h2]:=h;have fh:=kf.fh;refine#[B,F,z,kf,rs,_,h1,λds vs F1 H1 g1 hx rx=>?_];exact#[F1,ds,g1.fh,by rw[IQ];exact rx,R,hx,λd v F' H' g=>h2 d v F' H' (g1.trans g)]⟩
abbrev RDn:=List D->(D->Prop)->Prop
def cA(K:Ex)(r:List V->Hp->VK->Prop)(rd:RDn):Prop:=∀ds vs F H R Q,Same F H->rd ds R->Reps K F ds vs->(∀d w F' H',Grow F H F' H'->R d->Rep K F' d w->Q w H')->r vs H Q
def dCB(r:RDn)(t:TDA):TD:=λz R=>t z λds=>r ds R
def gX[Jx]{id:String}{r:List V->Hp->VK->Prop}{rd:RDn}(hc:bT X (.builtin id) r)(L:cA X.K r rd)(hm:X.mg x=z6)(hv:V_ x=be (.builtin id))(ha:DA X (e::es) t)(hg:Gl X x\zA0)(hn:(x≠"__name__")\zA1)(d9:zND x\zA1)
  (he:zSE X e es\zA0) (c8:zPL X pos es\zA0):DE X (.Call (.Name x p) (e::es) [] pos) (dCB rd t):=(fP hc hg hm hv ha hn d9 he c8).anti λs H Q h=>by
 let#[B,F,z,kf,rs,R,h1,h2]:=h;have fh:=kf.fh;refine#[B,F,z,kf,rs,_,h1,λds vs F1 H1 g1 hx rx=>?_];exact L ds vs F1 H1 R Q g1.fh hx rx λd w F' H' g=>h2 d w F' H' (g1.trans g)
def jX:RDn:=λds R=>kd1 ds λx=>match x with
 |.tup xs=>R (.int xs.length)
 |.lst xs=>R (.int xs.length)
 |.rol xs=>R (.int xs.length)
 |.str x=>x.length<=1000000/\R (.int x.length)
 |_=>False
def sI:cA K (λxs H Q=>∃x n,xs=[x]/\LenV K x H n/\Q (.int n) H) jX:=by
 intro ds vs F H R Q fh h rx q;replace h:=kd1.of h;let#[x,rfl,h]:=h;let#[v,r,rfl,h1,h2]:=reps_cons.mp rx;rw[reps_nil.mp h2];cases x with
 |tup xs=>
  let#[a,us,rfl,hq,rs]:=rep_tup_mp h1;exact#[.ref a,us.length,rfl,.inr #[us,fh.tup hq,rfl],q _ _ F H (Grow.refl fh) h (rep_int.mpr (by rw[rs.length]))]
 |lst xs=>
  let#[a,us,rfl,hq,rs]:=rep_lst.mp h1;exact#[.ref a,us.length,rfl,.inl #[us,fh.seq (SqL.of hq),rfl],q _ _ F H (Grow.refl fh) h (rep_int.mpr (by rw[rs.length]))]
 |rol xs=>
  let#[a,us,rfl,hq,rs]:=rep_rol.mp h1;exact#[.ref a,us.length,rfl,.inl #[us,fh.seq hq,rfl],q _ _ F H (Grow.refl fh) h (rep_int.mpr (by rw[rs.length]))]
 |str x=>
  rw[rep_str.mp h1];exact#[.str _,_,rfl,#[Io h.1 Nk,rfl],q _ _ F H (Grow.refl fh) h.2 (rep_int.mpr rfl)]
 |_=>exact False.elim h
def bB[Jx](hm:X.mg "len"=z6)(ha:WDA X [e] t)(hg:Gl X "len"\zA0)(he:zSE X e []\zA0):WDE X (.Call (.Name "len" p) [e] [] pos) (dCB jX t):=#[gX jD sI hm PySem.boot_len ha.out hg Nk Nk he]
def sJ:RDn:=λds R=>kd1 ds λx=>kdI x λi=>R (.int (if i<0 then -i else i))
def Ae:cA K (λxs H Q=>∃i,xs=[.int i]/\Q (.int (if i<0 then -i else i)) H) sJ:=by
 intro ds vs F H R Q fh h rx q;replace h:=kd1.of h;let#[x,rfl,h]:=h;replace h:=kdI.of h;let#[i,rfl,h]:=h;let#[v,r,rfl,h1,h2]:=reps_cons.mp rx;rw[reps_nil.mp h2,rep_int.mp h1];exact#[_,rfl,q _ _ F H (Grow.refl fh) h (rep_int.mpr rfl)]
def eV[Jx](hm:X.mg "abs"=z6)(ha:WDA X [e] t)(hg:Gl X "abs"\zA0)(he:zSE X e []\zA0):WDE X (.Call (.Name "abs" p) [e] [] pos) (dCB sJ t):=#[gX yz Ae hm PyProof.Rows.boot_abs ha.out hg Nk Nk he]
end
section
variable {X:Cx}{a b c e:VV}{ta tb tc te:TD}{pos:V4}
def dTst(t:TD):TDT:=λz R=>t z λx=>match x with|.bl k=>R k|_=>False
def cB[Jx]{op:XX}{r:R2}{rd:RD2}(ho:OpR X (V6 op) r)(L:aY X.K r rd)(ha:DE X a ta)(hb:DE X b tb)(hm:Wi op b=false):DT X (.Compare a [op] [b] pos) (dTst (dOp rd ta tb)):=(ra ho ha hb hm).anti λs H Q q=>by
 let#[B,F,z,kf,rs,R,h1,h2]:=q;have fh:=kf.fh;refine#[B,F,z,kf,rs,_,h1,λx u F1 H1 g1 hx rx=>?_];refine#[B,F1,z,kf.grow g1,rs.grow g1,_,hx,λy v F2 H2 g2 hy ry=>?_];refine L x y u v F2 H2 _ _ g2.fh hy (rx.mono g2.ff) ry λd w F' H' g3 hd rd=>?_;split at hd
 .exact#[_,rep_bl.mp rd,h2 _ F' H' (g1.trans (g2.trans g3)) hd]
 .exact hd.elim
def dm[Jx](ha:WDE X a ta)(hb:WDE X b tb):WDT X (.Compare a [.Lt] [b] pos) (dTst (dOp rdLt ta tb)):=#[cB qY sB ha.out hb.out (nomark _)]
def Af[Jx](ha:WDE X a ta)(hb:WDE X b tb):WDT X (.Compare a [.LtE] [b] pos) (dTst (dOp rdLe ta tb)):=#[cB yp zY ha.out hb.out (nomark _)]
def jY[Jx](ha:WDE X a ta)(hb:WDE X b tb):WDT X (.Compare a [.Gt] [b] pos) (dTst (dOp rdGt ta tb)):=#[cB jC jU ha.out hb.out (nomark _)]
def sK[Jx](ha:WDE X a ta)(hb:WDE X b tb):WDT X (.Compare a [.GtE] [b] pos) (dTst (dOp rdGe ta tb)):=#[cB yq Aa ha.out hb.out (nomark _)]
def bC[Jx](ha:WDE X a ta)(hb:WDE X b tb):WDT X (.Compare a [.Eq] [b] pos) (dTst (dOp rdEq ta tb)):=#[cB jB jV ha.out hb.out (nomark _)]
def cr[Jx](ha:WDE X a ta)(hb:WDE X b tb):WDT X (.Compare a [.NotEq] [b] pos) (dTst (dOp rdNe ta tb)):=#[cB qX sC ha.out hb.out (nomark _)]
def fU[Jx](ha:WDE X a ta)(hb:WDE X b tb):WDT X (.Compare a [.Is] [b] pos) (dTst (dOp (rdIs id) ta tb)):=#[cB qZ sF ha.out hb.out (nomark _)]
def Ag[Jx](ha:WDE X a ta)(hb:WDE X b tb):WDT X (.Compare a [.IsNot] [b] pos) (dTst (dOp (rdIs not) ta tb)):=#[cB yr Ab ha.out hb.out (nomark _)]
def dTru(t:TD):TDT:=λz R=>t z λx=>match x with
 |.non=>R false
 |.bl k=>R k
 |.int i=>R (i !=0)
 |.str y=>y.length<=1000/\R ((y.length:Int) !=0)
 |.tup xs=>R (!xs.isEmpty)
 |.lst xs=>R (!xs.isEmpty)
 |.rol xs=>R (!xs.isEmpty)
 |_=>False
variable{K:Ex}
def Reps.isEmpty{H:Hp}{ds:List D}{vs:List V}(r:Reps K H ds vs):vs.isEmpty=ds.isEmpty:=by
 cases ds with
 |nil=>rw[reps_nil.mp r];rfl
 |cons d ds=>let#[v,r',rfl,_]:=reps_cons.mp r;rfl
def cu[Jx](ha:WDE X a ta)(he:(∀gt,isTrue a X.env gt=(do let v <-gt;WC a.pos;Wk [v] (truthy v)))\zA3):WDT X a (dTru ta):=⟨(rb ha.out he).anti λs H Q q=>by
 let#[B,F,z,kf,rs,R,h1,h2]:=q;have fh:=kf.fh;refine#[B,F,z,kf,rs,_,h1,λx u F1 H1 g1 hx rx=>?_];split at hx
 .rw[rep_non.mp rx];exact#[false,rfl,h2 _ F1 H1 g1 hx]
 .rw[rep_bl.mp rx];exact#[_,rfl,h2 _ F1 H1 g1 hx]
 .rw[rep_int.mp rx];exact#[_,rfl,h2 _ F1 H1 g1 hx]
 .rw[rep_str.mp rx];exact#[_,#[sz hx.1,rfl],h2 _ F1 H1 g1 hx.2]
 .let#[p,vs,rfl,hq,rr]:=rep_tup_mp rx;exact#[_,.inr (.inl #[vs,g1.fh.tup hq,by rw[rr.isEmpty]]),h2 _ F1 H1 g1 hx]
 .let#[p,vs,rfl,hq,rr]:=rep_lst.mp rx;exact#[_,.inl #[vs,g1.fh.seq (SqL.of hq),by rw[rr.isEmpty]],h2 _ F1 H1 g1 hx]
 .let#[p,vs,rfl,hq,rr]:=rep_rol.mp rx;exact#[_,.inl #[vs,g1.fh.seq hq,by rw[rr.isEmpty]],h2 _ F1 H1 g1 hx]
 .exact hx.elim⟩
variable {tA Mo:TDT}{rest:List VV}
def dAnd(t u:TDT):TDT:=λz R=>t z λc=>if c=true then u z R else R false
def dOr(t u:TDT):TDT:=λz R=>t z λc=>if c=true then R true else u z R
def dNot(t:TDT):TDT:=λz R=>t z λc=>R (!c)
def jZ[Jx](ha:WDT X a tA):WDW X (.BoolOp .And [a] pos) tA:=#[qF ha.out]
def du[Jx](ha:WDT X a tA):WDW X (.BoolOp .Or [a] pos) tA:=#[qG ha.out]
def ke[Jx](ha:WDT X a tA)(hb:WDW X (.BoolOp .And (b::rest) pos) Mo):WDW X (.BoolOp .And (a::b::rest) pos) (dAnd tA Mo):=⟨(qH ha.out hb.out).anti λs H Q q=>by
 let#[B,F,z,kf,rs,R,h1,h2]:=q;have fh:=kf.fh;refine#[B,F,z,kf,rs,_,h1,λk F1 H1 g1 hx=>?_];cases k with
 |true=>exact#[B,F1,z,kf.grow g1,rs.grow g1,R,hx,λb F' H' g=>h2 b F' H' (g1.trans g)]
 |false=>exact h2 _ F1 H1 g1 hx⟩
def dv[Jx](ha:WDT X a tA)(hb:WDW X (.BoolOp .Or (b::rest) pos) Mo):WDW X (.BoolOp .Or (a::b::rest) pos) (dOr tA Mo):=⟨(qI ha.out hb.out).anti λs H Q q=>by
 let#[B,F,z,kf,rs,R,h1,h2]:=q;have fh:=kf.fh;refine#[B,F,z,kf,rs,_,h1,λk F1 H1 g1 hx=>?_];cases k with
 |false=>exact#[B,F1,z,kf.grow g1,rs.grow g1,R,hx,λb F' H' g=>h2 b F' H' (g1.trans g)]
 |true=>exact h2 _ F1 H1 g1 hx⟩
def cC[Jx](h:WDW X a tA):WDT X a tA:=#[PW.pt h.out]
def dR[Jx](ha:WDT X a tA):WDT X (.UnaryOp .Not a pos) (dNot tA):=⟨(qJ ha.out).anti λs H Q q=>by
 let#[B,F,z,kf,rs,R,h1,h2]:=q;have fh:=kf.fh;exact#[B,F,z,kf,rs,_,h1,λk F1 H1 g1 hx=>h2 _ F1 H1 g1 hx]⟩
def Ah(ta tb:TD):TD:=λz R=>ta z λx=>match x with|.bl k=>if k=true then tb z R else R (.bl false)|_=>False
def Ai(ta:TD):TD:=λz R=>ta z λx=>match x with|.bl k=>R (.bl (!k))|_=>False
def dz[Jx]{op}(h:WDE X a ta):WDE X (.BoolOp op [a] pos) ta:=#[xP h.out]
def dA[Jx](ha:WDE X a ta)(hb:WDE X (.BoolOp .And (b::rest) pos) tb):WDE X (.BoolOp .And (a::b::rest) pos) (Ah ta tb):=⟨(xQ ha.out hb.out).anti λs H Q q=>by
 let#[B,F,z,kf,rs,R,h1,h2]:=q;have fh:=kf.fh;refine#[B,F,z,kf,rs,_,h1,λx u F1 H1 g1 hx rx=>?_];split at hx
 .rename_i k;refine#[k,rep_bl.mp rx,?_];cases k with
  |true=>exact#[B,F1,z,kf.grow g1,rs.grow g1,R,hx,λd v F' H' g=>h2 d v F' H' (g1.trans g)]
  |false=>exact h2 _ _ F1 H1 g1 hx (rep_bl.mpr rfl)
 .exact hx.elim⟩
def Aj[Jx](ha:WDE X a ta):WDE X (.UnaryOp .Not a pos) (Ai ta):=⟨(xR ha.out).anti λs H Q q=>by
 let#[B,F,z,kf,rs,R,h1,h2]:=q;have fh:=kf.fh;refine#[B,F,z,kf,rs,_,h1,λx u F1 H1 g1 hx rx=>?_];split at hx
 .exact#[_,rep_bl.mp rx,h2 _ _ F1 H1 g1 hx (rep_bl.mpr rfl)]
 .exact hx.elim⟩
def tyD:D->String
 |.non=>"NoneType"|.bl _=>"bool"|.int _=>"int"|.str _=>"str"|.tup _=>"tuple"|.lst _=>"list"|.rol _=>"list"|.obj _ _=>"object"|.exc _ _=>"object"|.own _=>"list"|.ptr _=>"object"|.dti _=>"dict"
def cQ(t:String)(x:D):Bool:=tyD x==t||(tyD x=="bool" && t=="int")
def TyQ(K:Ex)(H:Hp)(x:V)(t:String):Prop:=TyOf K H x (.type t)\/(t="tuple"/\∃a xs,x=.ref a/\SqT K H a xs)\/(t="list"/\∃a xs,x=.ref a/\SqL K H a xs)
def sL:bT X (.builtin "isinstance") (λxs H Q=>∃x t c k,xs=[x,.ty c]/\TyQ X.K H x t/\kitOne X.K (.type t) (.type c)=be k/\Q (.bl k) H):=by
 intro pins s σ H xs us Q I r h;let#[x,t,c,k,rfl,ty,e,q]:=h;let#[u,u',rfl,rx,rc]:=vals2 r;cases(show u'=Value.type c from rc);rcases ty with ty|⟨rfl,a,ys,rfl,hq⟩|⟨rfl,a,ys,rfl,hq⟩
 .exact yQ I rx ty e λtk=>#[.bl k,H,I.tok _,rfl,q]
 .cases(show u=Value.ref a from rx);let#[its,_,#[o,h1,h2,_],_]:=I.tuple hq;exact kia_one kitx_tuple I.kIn #[o,h1,h2] e (λz=>nomatch z) λtk=>#[.bl k,H,I.tok _,rfl,q]
 .cases(show u=Value.ref a from rx);let#[its,_,pl,_]:=I.list hq;let#[o,n,h1,h2,_]:=pl;exact kia_one kitx_list I.kIn #[o,h1,h2] e (λz=>nomatch z) λtk=>#[.bl k,H,I.tok _,rfl,q]
def cR:D->Bool|.obj _ _=>false|.exc _ _=>false|.ptr _=>false|.dti _=>false|_=>true
def sM{F H:Hp}{x:D}{u:V}(fh:Same F H)(r:Rep K F x u)(no:cR x=true):TyQ K H u (tyD x):=by
 cases x with
 |non=>rw[rep_non.mp r];exact .inl .non
 |bl b=>rw[rep_bl.mp r];exact .inl (.bl b)
 |int b=>rw[rep_int.mp r];exact .inl (.int b)
 |str b=>rw[rep_str.mp r];exact .inl (.str b)
 |tup b=>let#[a,vs,rfl,hq,_]:=rep_tup_mp r;exact .inr (.inl #[rfl,a,vs,rfl,fh.tup hq])
 |lst b=>let#[a,vs,rfl,hq,_]:=rep_lst.mp r;exact .inr (.inr #[rfl,a,vs,rfl,fh.seq (SqL.of hq)])
 |rol b=>let#[a,vs,rfl,hq,_]:=rep_rol.mp r;exact .inr (.inr #[rfl,a,vs,rfl,fh.seq hq])
 |obj C b=>cases no
 |exc C b=>cases no
 |ptr b=>cases no
 |dti b=>cases no
 |own b=>exact absurd r rep_own
def kg(t:String):D->(D->Prop)->Prop:=λx R=>match x with|.obj _ _=>False|.exc _ _=>False|.ptr _=>False|.dti _=>False|x=>R (.bl (cQ t x))
def eX[Jx]{p p2:V4}{y:Mr}{t:String}(hm:X.mg "isinstance"=z6)(Qf:X.mg y=z6)(ha:WDE X a ta)(hv:V_ y=be (.type t))
  (hk:∀x:D,cR x=true->kitOne X.K (.type (tyD x)) (.type t)=be (cQ t x)) (hg:Gl X "isinstance"\zA0) (Qg:Gl X y\zA0) (hn:(y≠"__name__")\zA1) (d9:zND y\zA1)
  (n4:(VZ [a,.Name y p2] X.env=(false,V3 a X.env)::VZ [.Name y p2] X.env)\zA0) (m9:(VZ [.Name y p2] X.env=(false,V3 (.Name y p2) X.env)::VZ [] X.env)\zA0) (c8:((WK pos (VZ [.Name y p2] X.env)).any (·.1)=false)\zA0):WDE X (.Call (.Name "isinstance" p) [a,.Name y p2] [] pos) (dUn (kg t) ta):=⟨(fP sL hg hm PyProof.Rows.boot_isinstance (bv ha.out (bv (qE (v:=.ty t) Qg Qf hv rfl hn d9) pa_nil m9) n4) Nk Nk n4 c8).anti λs H Q q=>by
 let#[B,F,z,kf,rs,R,h1,h2]:=q;have fh:=kf.fh;refine#[B,F,z,kf,rs,_,h1,λx u F1 H1 g1 hx rx=>?_];have no:cR x=true:=by
  cases x with
  |obj C b=>exact False.elim hx
  |exc C b=>exact False.elim hx
  |ptr b=>exact False.elim hx
  |dti b=>exact False.elim hx
  |_=>rfl
 have ge:R (.bl (cQ t x)):=by
  cases x with
  |obj C b=>exact False.elim hx
  |exc C b=>exact False.elim hx
  |ptr b=>exact False.elim hx
  |dti b=>exact False.elim hx
  |_=>exact hx
 exact#[u,tyD x,t,_,rfl,sM g1.fh rx no,hk x no,h2 _ _ F1 H1 g1 ge (rep_bl.mpr rfl)]⟩
def Ak:∀x:D,cR x=true->kitOne K (.type (tyD x)) (.type "int")=be (cQ "int" x):=by intro x no;cases x<;>first|rfl|cases no
def kit_bool:∀x:D,cR x=true->kitOne K (.type (tyD x)) (.type "bool")=be (cQ "bool" x):=by intro x no;cases x<;>first|rfl|cases no
def kit_list:∀x:D,cR x=true->kitOne K (.type (tyD x)) (.type "list")=be (cQ "list" x):=by intro x no;cases x<;>first|rfl|cases no
def kit_str:∀x:D,cR x=true->kitOne K (.type (tyD x)) (.type "str")=be (cQ "str" x):=by intro x no;cases x<;>first|rfl|cases no
def toV:D->Option V
 |.non=>be .non|.bl b=>be (.bl b)|.int i=>be (.int i)|.str x=>be (.str x)|_=>z6
def bD(d:D):Bool:=(toV d).isSome
def eqF:D->D->Bool
 |.non,.non=>true
 |.bl a,.bl b=>a==b
 |.bl a,.int b=>(if a then 1 else 0)==b
 |.int a,.bl b=>a==(if b then 1 else 0)
 |.int a,.int b=>a==b
 |.str a,.str b=>a==b
 |_,_=>false
def eqFs:List D->List D->Bool
 |[],[]=>true
 |x::xs,y::ys=>eqF x y&&eqFs xs ys
 |_,_=>false
end
section
variable {X:Cx}{a b:VV}{ta tb:TD}{pos:V4}
def eqVs:List V->List V->Bool
 |[],[]=>true
 |x::xs,y::ys=>eqV x y&&eqVs xs ys
 |_,_=>false
def kh:∀(xs ys:List V),((Il (min xs.length ys.length)).all (λj=>eqV (xs.getD j .non) (ys.getD j .non))&&xs.length==ys.length)=eqVs xs ys
 |[],[]=>rfl
 |[],_::_=>by simp[eqVs]
 |_::_,[]=>by simp[eqVs]
 |x::xs,y::ys=>by
  have ih:=kh xs ys;rw[eqVs,<-ih];have e:min (x::xs).length (y::ys).length=min xs.length ys.length+1:=by simp only[Iu];lia
  rw[e,List.range_succ_eq_map,JL,List.all_map];have e2:((x::xs).length==(y::ys).length)=(xs.length==ys.length):=Nq
  rw[e2,Bool.and_assoc];rfl
variable{xs:List V}
def Vals.getD{us:List Os}{j:Nat}(r:Vals xs us)(h:j<us.length):RelV (xs.getD j .non) us[j]:=by
 have hl:=L2.Vals.length r;let#[u,q1,q2]:=L2.Vals.get (i:=j) (x:=xs.getD j .non) r (by rw[ID KK];simp[Js,ID (show j<xs.length by lia)]);rw[ID h]at q1;cases q1;exact q2
def flat_getD{j:Nat}(h:xs.all bJ=true):bJ (xs.getD j .non)=true:=by
 by_cases hj:j<xs.length
 .have q:=Jg.mp h xs[j] (IR hj);simpa[Js,ID hj]using q
 .simp[Js,IV (Ky hj),bJ]
def rEqT(K:Ex):R2:=λx y H Q=>∃a b xs ys,x=.ref a/\y=.ref b/\SqT K H a xs/\SqT K H b ys/\xs.all bJ=true/\ys.all bJ=true/\Q (.bl (eqVs xs ys)) H
def sN(hu:X.A.units+1<WN):OpR X (V6 .Eq) (rEqT X.K):=by
 intro pins s σ H x y v u Q I rx ry h;let#[a,b,xs,ys,rfl,rfl,ha,hb,fx,fy,q]:=h;cases rx;cases ry;let#[its,r1,p1,_]:=I.tuple ha;let#[r_,r2,p2,_]:=I.tuple hb;refine SeqAt.eq_tupleAt (e:=λj=>eqV (xs.getD j .non) (ys.getD j .non)) p1 p2 KK (λj h1 h2=>?_) #[.bl (eqVs xs ys),H,I,?_,q]
 .rw[Ir]at h1 h2;simp only[Li];exact eqAt_V (Vals.getD r1 h1) (Vals.getD r2 h2) (flat_getD fx) (flat_getD fy)
 .rw[<-kh,Ir,Ir,<-L2.Vals.length r1,<-L2.Vals.length r2];rfl
variable{K:Ex}
def sO{H:Hp}{x y:D}{u v:V}(rx:Rep K H x u)(ry:Rep K H y v)(fx:bD x=true)(fy:bD y=true):eqV u v=eqF x y:=by
 cases x with
 |tup _=>cases fx
 |lst _=>cases fx
 |rol _=>cases fx
 |obj _ _=>cases fx
 |exc _ _=>cases fx
 |ptr _=>cases fx
 |dti _=>cases fx
 |own _=>cases fx
 |non=>rw[rep_non.mp rx];cases y with
  |tup _=>cases fy
  |lst _=>cases fy
  |rol _=>cases fy
  |obj _ _=>cases fy
  |exc _ _=>cases fy
  |ptr _=>cases fy
  |dti _=>cases fy
  |own _=>cases fy
  |non=>rw[rep_non.mp ry];rfl
  |bl _=>rw[rep_bl.mp ry];rfl
  |int _=>rw[rep_int.mp ry];rfl
  |str _=>rw[rep_str.mp ry];rfl
 |bl _=>rw[rep_bl.mp rx];cases y with
  |tup _=>cases fy
  |lst _=>cases fy
  |rol _=>cases fy
  |obj _ _=>cases fy
  |exc _ _=>cases fy
  |ptr _=>cases fy
  |dti _=>cases fy
  |own _=>cases fy
  |non=>rw[rep_non.mp ry];rfl
  |bl _=>rw[rep_bl.mp ry];rfl
  |int _=>rw[rep_int.mp ry];rfl
  |str _=>rw[rep_str.mp ry];rfl
 |int _=>rw[rep_int.mp rx];cases y with
  |tup _=>cases fy
  |lst _=>cases fy
  |rol _=>cases fy
  |obj _ _=>cases fy
  |exc _ _=>cases fy
  |ptr _=>cases fy
  |dti _=>cases fy
  |own _=>cases fy
  |non=>rw[rep_non.mp ry];rfl
  |bl _=>rw[rep_bl.mp ry];rfl
  |int _=>rw[rep_int.mp ry];rfl
  |str _=>rw[rep_str.mp ry];rfl
 |str _=>rw[rep_str.mp rx];cases y with
  |tup _=>cases fy
  |lst _=>cases fy
  |rol _=>cases fy
  |obj _ _=>cases fy
  |exc _ _=>cases fy
  |ptr _=>cases fy
  |dti _=>cases fy
  |own _=>cases fy
  |non=>rw[rep_non.mp ry];rfl
  |bl _=>rw[rep_bl.mp ry];rfl
  |int _=>rw[rep_int.mp ry];rfl
  |str _=>rw[rep_str.mp ry];rfl
def gY{H:Hp}{x:D}{u:V}(rx:Rep K H x u)(fx:bD x=true):bJ u=true:=by
 cases x with
 |tup _=>cases fx
 |lst _=>cases fx
 |rol _=>cases fx
 |obj _ _=>cases fx
 |exc _ _=>cases fx
 |ptr _=>cases fx
 |dti _=>cases fx
 |own _=>cases fx
 |non=>rw[rep_non.mp rx];rfl
 |bl _=>rw[rep_bl.mp rx];rfl
 |int _=>rw[rep_int.mp rx];rfl
 |str _=>rw[rep_str.mp rx];rfl
def dB{K:Ex}{H:Hp}:∀{xs:List D} {us:List V},Reps K H xs us->xs.all bD=true->us.all bJ=true
 |[],us,r,_=>by rw[reps_nil.mp r];rfl
 |x::xs,us,r,f=>by
  let#[v,vr,rfl,r1,r2]:=reps_cons.mp r;rw[JL,IS]at f ⊢;exact#[gY r1 f.1,dB r2 f.2]
def ki{K:Ex}{H:Hp}:∀{xs ys:List D} {us vs:List V},Reps K H xs us->Reps K H ys vs->xs.all bD=true->ys.all bD=true->eqVs us vs=eqFs xs ys
 |[],[],us,vs,r1,r2,_,_=>by rw[reps_nil.mp r1,reps_nil.mp r2];rfl
 |[],y::ys,us,vs,r1,r2,_,_=>by
  let#[v,vr,rfl,_,_]:=reps_cons.mp r2;rw[reps_nil.mp r1];rfl
 |x::xs,[],us,vs,r1,r2,_,_=>by
  let#[v,vr,rfl,_,_]:=reps_cons.mp r1;rw[reps_nil.mp r2];rfl
 |x::xs,y::ys,us,vs,r1,r2,f1,f2=>by
  let#[u,ur,rfl,a1,a2]:=reps_cons.mp r1;let#[v,vr,rfl,b1,b2]:=reps_cons.mp r2;rw[JL,IS]at f1 f2;rw[eqVs,eqFs,sO a1 b1 f1.1 f2.1,ki a2 b2 f1.2 f2.2]
def kj:RD2:=λx y R=>kdT x λxs=>kdT y λys=>(xs.all bD=true/\ys.all bD=true)/\R (.bl (eqFs xs ys))
def sP:aY K (rEqT K) kj:=by
 intro x y u v F H R Q fh h rx ry q;let#[xs,rfl,h2]:=kdT.of h;let#[ys,rfl,#[f1,f2],h3]:=kdT.of h2;let#[a,us,rfl,hq,rr]:=rep_tup_mp rx;let#[b,vs,rfl,p8,u_]:=rep_tup_mp ry;exact#[a,b,us,vs,rfl,rfl,fh.tup hq,fh.tup p8,dB rr f1,dB u_ f2,q _ _ F H (Grow.refl fh) h3 (rep_bl.mpr (by rw[ki rr u_ f1 f2]))]
def sQ[Jx](hu:X.A.units+1<WN)(ha:WDE X a ta)(hb:WDE X b tb):WDE X (.Compare a [.Eq] [b] pos) (dOp kj ta tb):=#[jR (sN hu) sP ha.out hb.out (nomark _)]
def Al[Jx](hu:X.A.units+1<WN)(ha:WDE X a ta)(hb:WDE X b tb):WDT X (.Compare a [.Eq] [b] pos) (dTst (dOp kj ta tb)):=#[cB (sN hu) sP ha.out hb.out (nomark _)]
end
section
variable {X:Cx}{a b c e:VV}{ta tb tc te:TD}{pos:V4}{st:VS}{rest:List VS}{t u:TSD}
def Am:TSD:=λE z=>E.nx z
def dSeq(t u:TSD):TSD:=λE z=>t {E with nx:=u E} z
def bo[Jx]:WDSs X [] Am:=⟨pss_nil.anti λE s H q=>by
 let#[B,F0,F,z,k,rs,ED,h,e]:=q;exact e.nx z s F H k h rs⟩
def ai[Jx](h1:WDS X st t)(h2:WDSs X rest u):WDSs X (st::rest) (dSeq t u):=⟨(eK h1.out h2.out).anti λE s H q=>by
 let#[B,F0,F,z,k,rs,ED,h,e]:=q;exact#[B,F0,F,z,k,rs,{ED with nx:=u ED},h,#[λz' s' F' H' k' hz r'=>#[B,F0,F',z',k',r',ED,hz,e],e.rt,e.bk,e.ct]]⟩
def aq[Jx](h1:WDS X st t):WDSs X [st] t:=#[qK h1.out]
def dFrz(i:Nat)(t:TSD):TSD:=λE z=>match z[i]? with|some (be (.own ds))=>t E (z.set i (be (.lst ds)))|_=>False
def cS[Jx](i:Nat){OD:List VS}(h:WDSs X OD t):WDSs X OD (dFrz i t):=⟨have h:=h.out;PSs.anti h λE s H q=>by
 let#[B,F0,F,z,k,rs,ED,h,e]:=q;unfold dFrz at h;split at h
 .rename_i ds ez;let#[F',k',r']:=rs.freeze k ez;exact#[B,F0,F',_,k',r',ED,h,e]
 .exact h.elim⟩
def dRet(te:TD):TSD:=λE z=>te z E.rt
def aH[Jx](he:WDE X e te):WDS X (.Return (be e) pos) (dRet te):=⟨(qL he.out).anti λE s H q=>by
 let#[B,F0,F,z,k,rs,ED,h,e]:=q;exact#[B,F,z,k.kf,rs,_,h,λd v F' H' g hd rd=>e.rt d v F' H' (k.grow g) hd rd]⟩
def An(te:TD):TSD:=λE z=>te z λ_=>E.nx z
def sR[Jx](he:WDE X e te)(hs:(V' e z6 pos.line X.env=pure false)\zA0):WDS X (.Expr e pos) (An te):=⟨(jv he.out hs).anti λE s H q=>by
 let#[B,F0,F,z,k,rs,ED,h,e]:=q;exact#[B,F,z,k.kf,rs,_,h,λd v F' H' g hd rd=>e.nx z s F' H' (k.grow g) hd (rs.grow g)]⟩
def dIfS(c:TDT)(t u:TSD):TSD:=λE z=>c z λb=>if b=true then t E z else u E z
variable{l r:List VS}
def sS[Jx]{c:VV}{tc:TDT}(hc:DT X c tc)(ha:DSs X l t)(hb:DSs X r u):DS X (.If c l r pos) (dIfS tc t u):=(qM hc ha hb).anti λE s H q=>by
 let#[B,F0,F,z,k,rs,ED,h,e]:=q;refine#[B,F,z,k.kf,rs,_,h,λb F1 H1 g hk=>?_];cases b with
 |true=>exact#[B,F0,F1,z,k.grow g,rs.grow g,ED,hk,e]
 |false=>exact#[B,F0,F1,z,k.grow g,rs.grow g,ED,hk,e]
def dIfJ(c:TDT)(t u:TSD):TSD:=λE z=>∃J:SD->Prop,(c z λb=>if b=true then t {E with nx:=J} z else u {E with nx:=J} z)/\∀z',J z'->E.nx z'
def eY[Jx]{c:VV}{tc:TDT}(hc:WDT X c tc)(ha:WDSs X l t)(hb:WDSs X r u):WDS X (.If c l r pos) (dIfJ tc t u):=⟨(sS hc.out ha.out hb.out).anti λE s H q=>by
 let#[B,F0,F,z,k,rs,ED,#[J,h,j],e]:=q;exact#[B,F0,F,z,k,rs,{ED with nx:=J},h,#[λz' s' F' H' k' hz r'=>e.nx z' s' F' H' k' (j z' hz) r',e.rt,e.bk,e.ct]]⟩
def dSet(i:Nat)(te:TD):TSD:=λE z=>∃P:D->Prop,te z P/\∀d,P d->E.nx (z.set i (be d))
variable{x:Mr}
def ao[Jx](i:Nat){d5:V4}(hN:X.N.Nodup)(he:WDE X e te)(hi:(X.N[i]?=be x)\zA0)(hx:Loc X.env.scope x\zA4)(hs:(V' e (be (.Name x d5)) pos.line X.env=pure false)\zA0)
  (hf:zFN X x\zA2):WDS X (.Assign [.Name x d5] e pos) (dSet i te):=⟨(gM hN hi hx he.out hs hf).anti λE s H q=>by
 let#[B,F0,F,z,k,rs,ED,#[P,h,j],e]:=q;exact#[B,F,z,k.kf,rs,P,h,λd v F' H' g hd rd=>e.nx _ _ F' H' (k.grow g) (j d hd) ((rs.grow g).set rd)]⟩
def dNew(i:Nat)(ta:TDA):TSD:=λE z=>ta z λds=>ds.length<=1000/\E.nx (z.set i (be (.own ds)))
variable{es:List VV}
def eZ[Jx](i:Nat){d5 p2:V4}{ta:TDA}(hN:X.N.Nodup)(he:WDA X es ta)(hi:(X.N[i]?=be x)\zA0)(hx:Loc X.env.scope x\zA4)(hs:(V' (.List es p2) (be (.Name x d5)) pos.line X.env=pure false)\zA0)
  (hf:zFN X x\zA2):WDS X (.Assign [.Name x d5] (.List es p2) pos) (dNew i ta):=⟨(gM hN hi hx (jG he.out) hs hf).anti λE s H q=>by
 let#[B,F0,F,z,k,rs,ED,h,e]:=q;refine#[B,F,z,k.kf,rs,_,h,λds vs F1 H1 g hd rd=>?_];have hl:=rd.length;refine#[sz (by rw[hl];exact hd.1),λp hp=>?_];have k1:=k.grow g;have r1:=rs.grow g;have hB:B p=none:=k1.bh.free hp;have hF:F1 p=none:=k1.fh.free hp;refine e.nx _ _ F1 _ #[k1.bh.trans (aN hp _),k1.fh.trans (aN hp _),k1.f0,k1.out,k1.eb,k1.jf,k1.jo] hd.2 (r1.setOwn hB hF rd λj dj hj e1 e2=>?_);let#[a,us,q1,q2,_]:=r1.own j dj e1;rw[e2]at q1;cases q1;rw[hp]at q2;cases q2⟩
def dApp(i:Nat)(te:TD):TSD:=λE z=>match z[i]? with|some (be (.own ds))=>(te z λd=>ds.length<=100000/\E.nx (z.set i (be (.own (ds++[d])))))|_=>False
def fg{K:Ex}{F:Hp}{d:D}{v:V}(r:Rep K F d v):Reps K F [d] [v]:=reps_cons.mpr #[v,[],rfl,r,reps_nil.mpr rfl]
def fj[Jx](i:Nat){p1 b7 a8:V4}(he:WDE X e te)(hN:(X.N[i]?=be x)\zA0)(hv:Vis X.env.scope x\zA5)(hd:zND x\zA1)
  (g7:zNC x\zA1) (n4:zSE X e []\zA0)
  (b_:(V1 (.Name x p1) "append" X.env (V3 (.Name x p1) X.env)=V3 (.Name x p1) X.env)\zA0)
  (f6:zHF X a8 [e]\zA0)
  (c9:((b7.endLine==a8.line)=true)\zA0) (Mv:(V' (.Call (.Attribute (.Name x p1) "append" b7) [e] [] a8) z6 pos.line X.env=pure false)\zA0):WDS X (.Expr (.Call (.Attribute (.Name x p1) "append" b7) [e] [] a8) pos) (dApp i te):=⟨(jv (eO PySem.F.plainAttrs_list PySem.F.slot_list_append PySem.F.type_list_append jL (cN hN hv hd g7) (bv he.out pa_nil n4) b_ f6 c9 n4) Mv).anti λE s H q=>by
 let#[B,F0,F,z,k,rs,ED,h,e]:=q;unfold dApp at h;split at h
 .rename_i ds ez;let#[a,vs,q1,q2,q3,q4,q5]:=rs.own i ds ez;refine#[.ref a,q1,.inl #[rfl,vs,SqL.of q2],?_];refine#[B,F,z,k.kf,rs,_,h,λd v F1 H1 g hd rd=>?_];have k1:=k.grow g;have r1:=rs.grow g;have a1:H1 a=be (.lst vs):=g.hh a _ q2;have f1:F1 a=none:=g.out a q4 (by rw[q2];exact λz=>nomatch z);have hl:vs.length=ds.length:=q5.length;have hz:vs.length<sizeLine:=by
   have h1:ds.length<=100000:=hd.1;have h2:(100000:Nat)<sizeLine:=Nk
   lia
  refine#[a,vs,v,rfl,rfl,a1,hz,?_];have same:∀{G:Hp},G a=z6->Same G H1->Same G (upd H1 a (.lst (vs++[v]))):=λ{G} ga gs b o eb=>by
   have ne:b≠a:=λz=>by rw[z,ga]at eb;cases eb
   rw[ar ne];exact gs b o eb
  have r2:=r1.setOwn (i:=i) (a:=a) (vs:=vs++[v]) (ds:=ds++[d]) q3 f1 ((q5.mono g.ff).append (fg rd)) (λj dj hj e1 e2=>hj (rs.apart j i dj ds a e1 ez e2 q1));have es:s.set i (be (.ref a))=s:=by
   apply JB;intro n;by_cases hn:i=n
   .subst hn;rw[IZ (IB.mp q1).1,q1]
   .rw[Iz hn]
  rw[es]at r2;exact e.nx _ s F1 _ #[same q3 k1.bh,same f1 k1.fh,k1.f0,k1.out,k1.eb,k1.jf,k1.jo] hd.2 r2
 .exact h.elim⟩
def cn:List Nat->List D->SD->SD
 |i::is,d::ds,z=>cn is ds (z.set i (be d))
 |_,_,z=>z
def DGs(X:Cx)(ts:List VV)(is:List Nat):Prop:=∃u:TGs,PGs X ts u/\∀(ds:List D) (vs:List V) (z:SD) (s:L2.St) (B F H:Hp) (Q:L2.St->Hp->Prop),ds.length=is.length->Reps X.K F ds vs->RepS X.K B F H z s->(∀s',RepS X.K B F H (cn is ds z) s'->Q s' H)->u vs s H Q
def cT[Jx]:DGs X [] []:=⟨_,xW,λds vs z s B F H Q hl r rs q=>by
 cases ds with
 |nil=>exact#[reps_nil.mp r,q s rs]
 |cons _ _=>cases hl⟩
variable{p:V4}{is:List Nat}
def dg_cons[Jx](i:Nat)(hN:X.N.Nodup)(h2:DGs X es is)(hi:(X.N[i]?=be x)\zA0)(hx:Loc X.env.scope x\zA4)(hf:zFN X x\zA2)
  (hs:((V0 (.Name x p::es) X.env).map (·.2)=Wu (.Name x p) X.env::(V0 es X.env).map (·.2))\zA0):DGs X (.Name x p::es) (i::is):=by
 let#[u,hu,k]:=h2;refine#[_,xX (dO hN hi hx hf) hu hs,λds vs z s B F H Q hl r rs q=>?_];cases ds with
 |nil=>cases hl
 |cons d ds=>
  let#[v,vr,rfl,r1,r2]:=reps_cons.mp r;exact#[v,vr,rfl,k ds vr _ _ B F H Q (Nat.succ.inj hl) r2 (rs.set r1) q]
def Ao(is:List Nat)(te:TD):TSD:=λE z=>te z λx=>match x with|.tup ds=>ds.length=is.length/\E.nx (cn is ds z)|_=>False
def km[Jx]{k:Nat}(hc:X.calm=true)(he:WDE X e te)(hg:DGs X es is)(hn:((V0 es X.env).length=is.length)\zA0)(m4:((V0 es X.env).findIdx? (·.1)=none)\zA0)
  (hs:(Wn [.Tuple es k p] e pos.line X.env=pure false)\zA0) (hw:(Wo [.Tuple es k p] e X.env=pure none)\zA0) (h1:((V0 [.Tuple es k p] X.env).map (·.2)=[Wu (.Tuple es k p) X.env])\zA0):WDS X (.Assign [.Tuple es k p] e pos) (Ao is te):=⟨by
 have he:=he.out;let#[u,hu,kk]:=hg;refine(gL he (gK hc hu hn m4) hs hw h1).anti λE s H q=>?_;let#[B,F0,F,z,k,rs,ED,h,e]:=q;refine#[B,F,z,k.kf,rs,_,h,λd v F' H' g hd rd=>?_];split at hd
 .let#[p,vs,rfl,hq,rr]:=rep_tup_mp rd;exact#[p,vs,rfl,g.fh.tup hq,by rw[rr.length];exact hd.1,kk _ vs z s B F' H' _ hd.1 rr (rs.grow g) λs' r'=>e.nx _ _ F' H' (k.grow g) hd.2 r']
 .exact hd.elim⟩
def dPar(i j:Nat)(ta:TDA):TSD:=λE z=>ta z λds=>match ds with|[x,y]=>E.nx ((z.set i (be x)).set j (be y))|_=>False
def Ap[Jx](i j:Nat){y:Mr}{t:TDA}{px py pt:V4}{kt k2 Nj}(hc:X.calm=true)(hN:X.N.Nodup)(ha:WDA X [a,b] t)(hi:(X.N[i]?=be x)\zA0)(hj:(X.N[j]?=be y)\zA0)(PY:(i≠j)\zA1)
  (hx:(X.env.scope.names.lookup x=be .local)\zA0) (hy:(X.env.scope.names.lookup y=be .local)\zA0)
  (hw:(Wo [.Tuple [.Name x px,.Name y py] kt pt] (.Tuple [a,b] k2 Nj) X.env=pure (be [x,y]))\zA0)
  (hs:(Wn [.Tuple [.Name x px,.Name y py] kt pt] (.Tuple [a,b] k2 Nj) pos.line X.env=pure false)\zA0):WDS X (.Assign [.Tuple [.Name x px,.Name y py] kt pt] (.Tuple [a,b] k2 Nj) pos) (dPar i j t):=⟨(xZ hc hN hi hj PY hx hy ha.out hw hs).anti λE s H q=>by
 let#[B,F0,F,z,k,rs,ED,h,e]:=q;refine#[B,F,z,k.kf,rs,_,h,λds vs F' H' g hd rd=>?_];split at hd
 .let#[v,r,rfl,r1,r2]:=reps_cons.mp rd;let#[w,r,rfl,r3,r4]:=reps_cons.mp r2;rw[reps_nil.mp r4];exact#[v,w,rfl,e.nx _ _ F' H' (k.grow g) hd (((rs.grow g).set r1).set r3)]
 .exact hd.elim⟩
def Aq(c:TDT)(tb:TSD):TSD:=λE z=>∃W:Nat->SD->Prop,(∃m,W m z)/\∀m z,W m z->
 c z λb=>if b=true then tb {E with nx:=λz'=>∃m',m'<m/\W m' z',ct:=λz'=>∃m',m'<m/\W m' z',bk:=E.nx} z else E.nx z
variable{body:List VS}
def fV[Jx]{c:VV}{tc:TDT}{tb:TSD}(hp:Wd (VT X.prog X.w) X.A X.env X.xe)(hc:WDT X c tc)(hb:WDSs X body tb):WDS X (.While c body [] pos) (Aq tc tb):=⟨(qN hp hc.out hb.out).anti λE s H q=>by
 let#[B,F0,F,z,k,rs,ED,#[W,#[m0,w0],d6],e]:=q;refine#[λm s' H'=>∃F' z',Kept B F0 F' H'/\RepS X.K B F' H' z' s'/\W m z',#[m0,F,z,k,rs,w0],?_];rintro m s1 H1⟨F1,z1,k1,r1,w1⟩;refine#[B,F1,z1,k1.kf,r1,_,d6 m z1 w1,λb F2 H2 g2 hk=>?_];cases b with
 |true=>
  refine#[λs3 H3=>∃F3 z3,Kept B F0 F3 H3/\RepS X.K B F3 H3 z3 s3/\∃m',m'<m/\W m' z3,λs3 H3 ⟨F3,z3,k3,r3,m',l,w3⟩=>#[m',l,F3,z3,k3,r3,w3],?_];exact#[B,F0,F2,z1,k1.grow g2,r1.grow g2,_,hk,#[λz3 s3 F3 H3 k3 h3 r3=>#[F3,z3,k3,r3,h3],e.rt,e.nx,λz3 s3 F3 H3 k3 h3 r3=>#[F3,z3,k3,r3,h3]]]
 |false=>exact e.nx z1 s1 F2 H2 (k1.grow g2) hk (r1.grow g2)⟩
abbrev TDI:=SD->(List D->Prop)->Prop
def dItL(t:TD):TDI:=λz R=>t z λx=>match x with|.lst ds=>R ds|.rol ds=>R ds|_=>False
def dItR(t:TD):TDI:=λz R=>t z λx=>match x with|.int n=>(0<=n/\n<2^62)/\R ((Il n.toNat).map λk=>D.int ((k:Nat):Int))|_=>False
def dFor(i:Nat)(ti:TDI)(tb:TSD):TSD:=λE z=>ti z λds=>∃W:Nat->SD->Prop,W 0 z/\(∀k x z,ds[k]?=be x->W k z->tb {E with nx:=W (k+1),ct:=W (k+1),bk:=E.nx} (z.set i (be x)))/\∀z,W ds.length z->E.nx z
def Reps.get'{K:Ex}{H:Hp}{ds:List D}{vs:List V}{k:Nat}{v:V}(r:Reps K H ds vs)(e:vs[k]?=be v):∃d,ds[k]?=be d/\Rep K H d v:=by
 have hk:k<ds.length:=by rw[<-r.length];exact(IB.mp e).1
 let#[u,q1,q2]:=r.get (ID hk);rw[e]at q1;cases q1;exact#[_,ID hk,q2]
def gZ[Jx](i:Nat){tb:TSD}(hp:Wd (VT X.prog X.w) X.A X.env X.xe)(hc:X.calm=true)(hN:X.N.Nodup)(he:WDE X e te)(hb:WDSs X body tb)(hi:(X.N[i]?=be x)\zA0)(hx:Loc X.env.scope x\zA4)
  (hf:zFN X x\zA2) (hs:(∀y,zFS X e y)\zA3):WDS X (.For (.Name x p) e body [] pos) (dFor i (dItL te) tb):=⟨(cO hp hc (gN he.out) (dO hN hi hx hf) hb.out hs).anti λE s H q=>by
 let#[B,F0,F,z,kp,rs,ED,h,e]:=q;refine#[B,F,z,kp.kf,rs,_,h,λd v F1 H1 g1 hd rd=>?_];split at hd
 .let#[p,vs,rfl,hq,rr]:=rep_lst.mp rd;let#[W,w0,d6,out]:=hd;refine#[p,rfl,#[vs,g1.fh.seq (SqL.of hq)],jy (K:=X.K) (a:=p) (xs:=vs) (λk s' H'=>∃F' z',Kept B F0 F' H'/\Same F1 F'/\RepS X.K B F' H' z' s'/\W k z') #[F1,z,kp.grow g1,Same.refl F1,rs.grow g1,w0] (λk s' H' _ ⟨F',z',k',g',r',w'⟩=>k'.fh.seq (g'.seq (SqL.of hq))) ?_ ?_]
  .rintro k y s' H' hk⟨F',z',k',g',r',w'⟩;let#[d,hd,ry]:=rr.get' hk;refine#[B,F',F',_,#[k'.bh,k'.fh,Same.refl F',λb h1 _=>h1,k'.eb,k'.jf.trans k'.f0,λb h1 h2=>k'.out b (k'.jo b h1 h2) h2],r'.set (ry.mono g'),_,d6 k d z' hd w',?_];have up:∀{F2 H2:Hp},Kept B F' F2 H2->Kept B F0 F2 H2:=λk2=>#[k2.bh,k2.fh,k'.f0.trans k2.f0,λb h1 h2=>k2.out b (k'.out b h1 h2) h2,k'.eb,k'.jf,k'.jo];exact#[λz3 s3 F3 H3 k3 h3 r3=>#[F3,z3,up k3,g'.trans k3.f0,r3,h3],λd v F3 H3 k3=>e.rt d v F3 H3 (up k3),λz3 s3 F3 H3 k3=>e.nx z3 s3 F3 H3 (up k3),λz3 s3 F3 H3 k3 h3 r3=>#[F3,z3,up k3,g'.trans k3.f0,r3,h3]]
  .rintro s' H'⟨F',z',k',g',r',w'⟩;exact e.nx z' s' F' H' k' (out z' (by rw[<-rr.length];exact w')) r'
 .let#[p,vs,rfl,hq,rr]:=rep_rol.mp rd;let#[W,w0,d6,out]:=hd;refine#[p,rfl,#[vs,g1.fh.seq hq],jy (K:=X.K) (a:=p) (xs:=vs) (λk s' H'=>∃F' z',Kept B F0 F' H'/\Same F1 F'/\RepS X.K B F' H' z' s'/\W k z') #[F1,z,kp.grow g1,Same.refl F1,rs.grow g1,w0] (λk s' H' _ ⟨F',z',k',g',r',w'⟩=>k'.fh.seq (g'.seq hq)) ?_ ?_]
  .rintro k y s' H' hk⟨F',z',k',g',r',w'⟩;let#[d,hd,ry]:=rr.get' hk;refine#[B,F',F',_,#[k'.bh,k'.fh,Same.refl F',λb h1 _=>h1,k'.eb,k'.jf.trans k'.f0,λb h1 h2=>k'.out b (k'.jo b h1 h2) h2],r'.set (ry.mono g'),_,d6 k d z' hd w',?_];have up:∀{F2 H2:Hp},Kept B F' F2 H2->Kept B F0 F2 H2:=λk2=>#[k2.bh,k2.fh,k'.f0.trans k2.f0,λb h1 h2=>k2.out b (k'.out b h1 h2) h2,k'.eb,k'.jf,k'.jo];exact#[λz3 s3 F3 H3 k3 h3 r3=>#[F3,z3,up k3,g'.trans k3.f0,r3,h3],λd v F3 H3 k3=>e.rt d v F3 H3 (up k3),λz3 s3 F3 H3 k3=>e.nx z3 s3 F3 H3 (up k3),λz3 s3 F3 H3 k3 h3 r3=>#[F3,z3,up k3,g'.trans k3.f0,r3,h3]]
  .rintro s' H'⟨F',z',k',g',r',w'⟩;exact e.nx z' s' F' H' k' (out z' (by rw[<-rr.length];exact w')) r'
 .exact hd.elim⟩
def cf[Jx](i:Nat){p1 p2:V4}{tb:TSD}(hp:Wd (VT X.prog X.w) X.A X.env X.xe)(hc:X.calm=true)(hN:X.N.Nodup)(hm:X.mg "range"=z6)(he:WDE X e te)(hb:WDSs X body tb)(hg:Gl X "range"\zA0)(hi:(X.N[i]?=be x)\zA0)(hx:Loc X.env.scope x\zA4)
  (hf:zFN X x\zA2) (hs:(∀y,zFS X (.Call (.Name "range" p1) [e] [] p2) y)\zA3) (v_:zSE X e []\zA0) (i8:(VZ [e] X.env=[(false,V3 e X.env)])\zA0):WDS X (.For (.Name x p) (.Call (.Name "range" p1) [e] [] p2) body [] pos) (dFor i (dItR te) tb):=⟨(cO hp hc (jx hg hm (bv he.out pa_nil v_) i8) (dO hN hi hx hf) hb.out hs).anti λE s H q=>by
 let#[B,F0,F,z,kp,rs,ED,h,e]:=q;refine#[B,F,z,kp.kf,rs,_,h,λd v F1 H1 g1 hd rd=>?_];split at hd
 .rename_i n;let#[#[b1,b2],W,w0,d6,out]:=hd;have hl:((Il n.toNat).map λk=>D.int ((k:Nat):Int)).length=n.toNat:=by simp
  refine#[n,by rw[rep_int.mp rd],KK,b2,jz (lo:=0) (n:=n.toNat) (λk s' H'=>∃F' z',Kept B F0 F' H'/\RepS X.K B F' H' z' s'/\W k z') #[F1,z,kp.grow g1,rs.grow g1,w0] ?_ ?_]
  .rintro k s' H' hk⟨F',z',k',r',w'⟩;have e1:(0:Int)+(k:Int)=(k:Int):=by lia
   exact#[B,F0,F',_,k',r'.set (d:=.int (k:Int)) (rep_int.mpr (by rw[e1])),_,d6 k (.int (k:Int)) z' (by simp[hk]) w',#[λz3 s3 F3 H3 k3 h3 r3=>#[F3,z3,k3,r3,h3],e.rt,e.nx,λz3 s3 F3 H3 k3 h3 r3=>#[F3,z3,k3,r3,h3]]]
  .rintro s' H'⟨F',z',k',r',w'⟩;exact e.nx z' s' F' H' k' (out z' (by rw[hl];exact w')) r'
 .exact hd.elim⟩
end
section
variable {P:VU}{w:VX}{K:Ex}{mg:Mr->Option Os}{base:Heap}
variable{N ps:List Mr}
def _root_.L2.Fun.okD{x qual:Mr}{st:VS}{f:Pi}{fd:V2}{k:Nat}{S:SpD}(T:Fun K x qual st f fd)(F:FnScope N ps (ah st))(len:∀ds R,S ds R->ds.length=ps.length)
  (a9:∀(cdv:Os) (A:VY) (outer:List WD) (s:SB) (H:Hp) (E:XK) (J:Jx),Room k (A.deeper (V7 qual (ah st) s.heap.objs.size f cdv))->
   ∃t,DSs (cxOf (Exc.CX1 P w) P w K mg base N qual (ah st) f cdv A outer s H E).nox (aL st) t/\∀ds R,S ds R->t {nx:=λ_=>R .non,rt:=R} (startD N ds)):FnOk P w K mg base (Exc.CX1 P w) (k+1) f fd ps (lSp K S):=by
 refine Fun.okC T F (λvs H Q E h=>?_) (λcdv A outer s H vs Q E hr h=>?_)
 .let#[F,ds,fh,rs,R,h,_]:=h;rw[rs.length];exact len ds R h
 .let#[F,ds,fh,rs,R,h,q]:=h
  letI:Jx:=#[H,F,λ_ _ _=>False]
  let#[t,ht,hq]:=a9 cdv A outer s H E inferInstance hr;refine#[_,ht.nox,H,F,F,startD N ds,#[Same.refl H,fh,Same.refl F,λ_ h _=>h,rfl,Same.refl F,λ_ h _=>h],dQ rs,_,hq ds R h,#[λz' s' F' H' k hn _=>q _ _ F' H' #[k.f0,k.fh,k.bh,k.out] hn (rep_non.mpr rfl),λd v F' H' k hd rd=>q d v F' H' #[k.f0,k.fh,k.bh,k.out] hd rd,λ_ _ _ _ _ h _=>h.elim,λ_ _ _ _ _ h _=>h.elim]]
def Tx.okD{x:Mr}{st:VS}{k:Nat}{S:SpD}(T:Tx K mg x st ps)(F:FnScope N ps (ah st))(len:∀ds R,S ds R->ds.length=ps.length)
  (a9:∀(f:Pi) (cdv:Os) (A:VY) (outer:List WD) (s:SB) (H:Hp) (E:XK) (J:Jx),Room k (A.deeper (V7 x (ah st) s.heap.objs.size f cdv))->
   ∃t,DSs (cxOf (Exc.CX1 P w) P w K mg base N x (ah st) f cdv A outer s H E).nox (aL st) t/\∀ds R,S ds R->t {nx:=λ_=>R .non,rt:=R} (startD N ds)):CalD P w K mg base (k+1) x ps S:=by
 let#[f,fd,T,hb,hm]:=T;exact#[f,fd,T.okD F len λcdv A outer s H E J hr=>a9 f cdv A outer s H E J hr,hb,T.kp,hm]
end
def fk:SpD:=λds R=>∃ns:List Int,ds=[.rol (ns.map D.int)]/\ns.length<=63/\R (.bl true)
def Ar{a:Pi}{ns:List Int}(hl:ns.length<=63)(hS:SqL K H a (ns.map V.int)){E:XK}:lSp K fk [.ref a] H (λv _=>v=.bl true) E:=
 #[H,[.rol (ns.map D.int)],Same.refl H,reps_cons.mpr #[_,_,rfl,rep_rol.mpr #[a,_,rfl,hS,Reps.ints.mpr rfl],reps_nil.mpr rfl],λd=>d=.bl true,#[ns,rfl,hl,rfl],λd v F' H' _ hd rd=>by subst hd;exact rep_bl.mp rd]
section
variable {X:Cx}{a b c e:VV}{ta tb tc te:TD}{pos:V4}
variable{p:V4}{es:List VV}{t:TDA}
def ko[Jx]{x:Mr}{T:String}{r:List V->Hp->VK->Prop}{rd:RDn}(hc:bT X (.type T) r)(L:cA X.K r rd)(hm:X.mg x=z6)(hv:V_ x=be (.type T))(ha:DA X (e::es) t)(hg:Gl X x\zA0)(hn:(x≠"__name__")\zA1)(d9:zND x\zA1)
  (he:zSE X e es\zA0) (c8:zPL X pos es\zA0):DE X (.Call (.Name x p) (e::es) [] pos) (dCB rd t):=(jH hc hg hm hv ha hn d9 he c8).anti λs H Q h=>by
 let#[B,F,z,kf,rs,R,h1,h2]:=h;have fh:=kf.fh;refine#[B,F,z,kf,rs,_,h1,λds vs F1 H1 g1 hx rx=>?_];exact L ds vs F1 H1 R Q g1.fh hx rx λd w F' H' g=>h2 d w F' H' (g1.trans g)
def rdStr:RDn:=λds R=>match ds with|[.int i]=>i.natAbs<18446744073709551616/\R (.str (toString i))|_=>False
variable{K:Ex}
def As:cA K (λxs H Q=>∃i,xs=[.int i]/\i.natAbs.log2<1920/\Q (.str (toString i)) H) rdStr:=by
 intro ds vs F H R Q fh h rx q;unfold rdStr at h;split at h
 .let#[v,r,rfl,h1,h2]:=reps_cons.mp rx;rw[reps_nil.mp h2,rep_int.mp h1];refine#[_,rfl,?_,q _ _ F H (Grow.refl fh) h.2 (rep_str.mpr rfl)];rename_i i;by_cases h0:i.natAbs=0
  .rw[h0];decide
  .have:=(Lg h0).mpr (show i.natAbs<2^64 from h.1);lia
 .exact h.elim
def dD[Jx](hm:X.mg "str"=z6)(ha:WDA X [e] t)(hg:Gl X "str"\zA0)(he:zSE X e []\zA0):WDE X (.Call (.Name "str" p) [e] [] pos) (dCB rdStr t):=#[ko yG As hm PyProof.Rows.boot_str ha.out hg Nk Nk he]
def kq:RDn:=λds R=>kd1 ds λx=>match x with
 |.int i=>R (.int i)
 |.bl k=>R (.int (if k then 1 else 0))
 |.str x=>∃n,(PySem.intText? x=be n/\x.length<=640)/\R (.int n)
 |_=>False
def sT:bT X (.type "int") (λxs H Q=>((∃i,xs=[.int i]/\Q (.int i) H)\/∃k,xs=[.bl k]/\Q (.int (if k then 1 else 0)) H)\/∃x n,xs=[.str x]/\PySem.intText? x=be n/\x.length<=640/\Q (.int n) H):=by
 intro pins s σ H xs us Q I r h;rcases h with h|⟨x,n,rfl,h1,h2,q⟩
 .exact yF pins s σ H xs us Q I r h
 .let#[u,rfl,t,rfl]:=vals1 r;exact PySem.W.KIN.call_text h1 h2 #[.int n,H,I.tok _,#[_,rfl],q]
def sU:cA K (λxs H Q=>((∃i,xs=[.int i]/\Q (.int i) H)\/∃k,xs=[.bl k]/\Q (.int (if k then 1 else 0)) H)\/∃x n,xs=[.str x]/\PySem.intText? x=be n/\x.length<=640/\Q (.int n) H) kq:=by
 intro ds vs F H R Q fh h rx q;replace h:=kd1.of h;let#[x,rfl,h]:=h;let#[v,r,rfl,h1,h2]:=reps_cons.mp rx;rw[reps_nil.mp h2];cases x with
 |int i=>
  rw[rep_int.mp h1];exact .inl (.inl #[_,rfl,q _ _ F H (Grow.refl fh) h (rep_int.mpr rfl)])
 |bl k=>
  rw[rep_bl.mp h1];exact .inl (.inr #[_,rfl,q _ _ F H (Grow.refl fh) h (rep_int.mpr rfl)])
 |str x=>
  rw[rep_str.mp h1];let#[n,#[e1,e2],h]:=h;exact .inr #[_,n,rfl,e1,e2,q _ _ F H (Grow.refl fh) h (rep_int.mpr rfl)]
 |_=>exact False.elim h
def dS[Jx](hm:X.mg "int"=z6)(ha:WDA X [e] t)(hg:Gl X "int"\zA0)(he:zSE X e []\zA0):WDE X (.Call (.Name "int" p) [e] [] pos) (dCB kq t):=#[ko sT sU hm PyProof.Rows.boot_int ha.out hg Nk Nk he]
def sV:RDn:=λds R=>kd1 ds λx=>match x with|.lst xs=>R (.lst xs)|.tup xs=>R (.lst xs)|.rol xs=>R (.lst xs)|_=>False
def Au:cA K (λxs H Q=>∃p ys,xs=[.ref p]/\(SqL K H p ys\/SqT K H p ys)/\∀l,H l=z6->Q (.ref l) (upd H l (.lst ys))) sV:=by
 intro ds vs F H R Q fh h rx q;replace h:=kd1.of h;let#[x,rfl,h]:=h;let#[v,r,rfl,h1,h2]:=reps_cons.mp rx;rw[reps_nil.mp h2];cases x with
 |lst xs=>
  let#[a,us,rfl,hq,rs]:=rep_lst.mp h1;exact#[a,us,rfl,.inl (fh.seq (SqL.of hq)),λl hl=>q _ _ _ _ (Grow.new fh hl _) h (rep_lst.mpr #[l,us,rfl,aC,rs.mono (aN (fh.free hl) _)])]
 |tup xs=>
  let#[a,us,rfl,hq,rs]:=rep_tup_mp h1;exact#[a,us,rfl,.inr (fh.tup hq),λl hl=>q _ _ _ _ (Grow.new fh hl _) h (rep_lst.mpr #[l,us,rfl,aC,rs.mono (aN (fh.free hl) _)])]
 |rol xs=>
  let#[a,us,rfl,hq,rs]:=rep_rol.mp h1;exact#[a,us,rfl,.inl (fh.seq hq),λl hl=>q _ _ _ _ (Grow.new fh hl _) h (rep_lst.mpr #[l,us,rfl,aC,rs.mono (aN (fh.free hl) _)])]
 |_=>exact False.elim h
def Av[Jx](hm:X.mg "list"=z6)(ha:WDA X [e] t)(hg:Gl X "list"\zA0)(he:zSE X e []\zA0):WDE X (.Call (.Name "list" p) [e] [] pos) (dCB sV t):=#[ko rO Au hm PyProof.Rows.boot_list ha.out hg Nk Nk he]
def sW:RDn:=λds R=>kd2 ds λx y=>kdI x λi=>kdI y λj=>R (.int (if j>i then j else i))
def sX:RDn:=λds R=>kd2 ds λx y=>kdI x λi=>kdI y λj=>R (.int (if j<i then j else i))
def Aw:cA K (λxs H Q=>∃i j,xs=[.int i,.int j]/\Q (.int (if j>i then j else i)) H) sW:=by
 intro ds vs F H R Q fh h rx q;replace h:=kd2.of h;let#[x,y,rfl,h]:=h;replace h:=kdI.of h;let#[i,rfl,h]:=h;replace h:=kdI.of h;let#[j,rfl,h]:=h;let#[v,r,rfl,h1,h2]:=reps_cons.mp rx;let#[v',r',rfl,h3,h4]:=reps_cons.mp h2;rw[reps_nil.mp h4,rep_int.mp h1,rep_int.mp h3];exact#[_,_,rfl,q _ _ F H (Grow.refl fh) h (rep_int.mpr rfl)]
def Ax:cA K (λxs H Q=>∃i j,xs=[.int i,.int j]/\Q (.int (if j<i then j else i)) H) sX:=by
 intro ds vs F H R Q fh h rx q;replace h:=kd2.of h;let#[x,y,rfl,h]:=h;replace h:=kdI.of h;let#[i,rfl,h]:=h;replace h:=kdI.of h;let#[j,rfl,h]:=h;let#[v,r,rfl,h1,h2]:=reps_cons.mp rx;let#[v',r',rfl,h3,h4]:=reps_cons.mp h2;rw[reps_nil.mp h4,rep_int.mp h1,rep_int.mp h3];exact#[_,_,rfl,q _ _ F H (Grow.refl fh) h (rep_int.mpr rfl)]
def fW[Jx](hc:X.calm=true)(hm:X.mg "max"=z6)(ha:WDA X [e,a] t)(hg:Gl X "max"\zA0)(he:zSE X e [a]\zA0)(c8:zPL X pos [a]\zA0):WDE X (.Call (.Name "max" p) [e,a] [] pos) (dCB sW t):=#[gX (yB hc) Aw hm PyProof.Rows.boot_max ha.out hg Nk Nk he c8]
def Ay[Jx](hc:X.calm=true)(hm:X.mg "min"=z6)(ha:WDA X [e,a] t)(hg:Gl X "min"\zA0)(he:zSE X e [a]\zA0)(c8:zPL X pos [a]\zA0):WDE X (.Call (.Name "min" p) [e,a] [] pos) (dCB sX t):=#[gX (yD hc) Ax hm PyProof.Rows.boot_min ha.out hg Nk Nk he c8]
def cU:List D->Option (List Mr)
 |[]=>be []
 |.str x::r=>(cU r).map (x::·)
 |_=>z6
def sY{K:Ex}{F:Hp}:∀{ds:List D} {xs:List Mr} {vs:List V} {us:List Os},cU ds=be xs->Reps K F ds vs->Vals vs us->StrsAre us xs
 |[],xs,vs,us,e,r,q=>by
  cases e;rw[reps_nil.mp r]at q;cases q;exact .nil
 | .str x::ds,xs,vs,us,e,r,q=>by
  let#[v,r',rfl,h1,h2]:=reps_cons.mp r;rw[rep_str.mp h1]at q;cases q with
  |cons q1 q2=>
   let#[t,rfl]:=q1;cases e2:cU ds with
   |none=>simp[cU,e2]at e
   |some ys=>
    simp[cU,e2]at e;subst e;exact .cons x t (sY e2 h2 q2)
def Az:V->List V->Hp->VK->Prop:=λx vs H Q=>∃v3 l xs ys,x=.str v3/\vs=[.ref l]/\H l=be (.lst xs)/\(∀us,Vals xs us->StrsAre us ys)/\(ys.map (·.length)).sum+ys.length*v3.length<=16777216/\Q (.str (Txt.join v3 ys)) H
def AA:MtR X "str.join" Az:=by
 intro pins s σ H x vs v us Q I rx rv h;let#[v3,l,xs,ys,rfl,rfl,hl,hs,hz,q]:=h;let#[t,rfl]:=rx;let#[u,rfl,ru]:=vals1 rv;cases ru;let#[its,r,pl,_]:=I.list (SqL.of hl);exact PyProof.Rows.join_list pl.isList (by simpa using hs its r) hz λt' k=>#[.str _,H,I.tok _,#[_,rfl],q]
def AB(v3:Mr)(te:TD):TD:=λz R=>te z λx=>match x with
 |.lst ds=>∃ys,cU ds=be ys/\(ys.map (·.length)).sum+ys.length*v3.length<=1000000/\R (.str (Txt.join v3 ys))
 |_=>False
variable{k:Nat}
def kr[Jx]{v3:Mr}{p1 b7 a8:V4}(he:WDE X e te)(n4:zSE X e []\zA0)
  (b_:(V1 (.Constant (.str v3) k p1) "join" X.env (V3 (.Constant (.str v3) k p1) X.env)=V3 (.Constant (.str v3) k p1) X.env)\zA0)
  (f6:zHF X a8 [e]\zA0)
  (c9:((b7.endLine==a8.line)=true)\zA0):WDE X (.Call (.Attribute (.Constant (.str v3) k p1) "join" b7) [e] [] a8) (AB v3 te):=⟨(eO PySem.F.plainAttrs_str PySem.F.slot_str_join PySem.F.type_str_join AA qD (bv he.out pa_nil n4) b_ f6 c9 n4).anti λs H Q q=>by
 let#[B,F,z,kf,rs,R,h1,h2]:=q;have fh:=kf.fh;refine#[rfl,?_];refine#[B,F,z,kf,rs,_,h1,λx u F1 H1 g1 hx rx=>?_];split at hx
 .let#[ys,e1,e2,hx]:=hx;let#[l,vs,rfl,hq,rr]:=rep_lst.mp rx;exact#[v3,l,vs,ys,rfl,rfl,g1.fh _ _ hq,λus q=>sY e1 rr q,Io e2 Nk,h2 _ _ F1 H1 g1 hx (rep_str.mpr rfl)]
 .exact hx.elim⟩
def dOix(i:Nat)(tb:TD):TD:=λz R=>match z[i]? with
 |some (be (.own ds))=>tb z λy=>match y with|.int k=>∃d,atI ds k=be d/\R d|_=>False
 |_=>False
def ku[Jx](i:Nat){x:Mr}(hb:WDE X b tb)(hN:(X.N[i]?=be x)\zA0)(hv:Vis X.env.scope x\zA5)(hd:zND x\zA1)
  (g7:zNC x\zA1) (hs:eN b\zA6):WDE X (.Subscript (.Name x p) b pos) (dOix i tb):=⟨(pe_ix ix_list (cN hN hv hd g7) hb.out hs).anti λs H Q q=>by
 let#[B,F,z,kf,rs,R,h1,h2]:=q;have fh:=kf.fh;unfold dOix at h1;split at h1
 .rename_i ds ez;let#[a,vs,q1,q2,q3,q4,q5]:=rs.own i ds ez;refine#[.ref a,q1,B,F,z,kf,rs,_,h1,λy v F1 H1 g1 hy ry=>?_];split at hy
  .let#[d,e1,hR]:=hy;let#[w,e2,j5]:=(q5.mono g1.ff).at e1;exact#[a,vs,_,w,rfl,rep_int.mp ry,SqL.of (g1.hh _ _ q2),e2,h2 d w F1 H1 g1 hR j5]
  .exact hy.elim
 .exact h1.elim⟩
def cutD(xs:List D)(lo hi:Option Int):List D:=(xs.drop (HT.sIx xs.length 0 lo)).take (HT.sIx xs.length xs.length hi-HT.sIx xs.length 0 lo)
def Reps.drop{K:Ex}{F:Hp}:∀(n:Nat) {xs:List D} {us:List V},Reps K F xs us->Reps K F (xs.drop n) (us.drop n)
 |0,_,_,r=>r
 |n+1,[],us,r=>by rw[reps_nil.mp r];exact reps_nil.mpr rfl
 |n+1,x::xs,us,r=>by
  let#[u,ur,rfl,_,a2]:=reps_cons.mp r;exact Reps.drop n a2
def Reps.take{K:Ex}{F:Hp}:∀(n:Nat) {xs:List D} {us:List V},Reps K F xs us->Reps K F (xs.take n) (us.take n)
 |0,_,_,_=>reps_nil.mpr rfl
 |n+1,[],us,r=>by rw[reps_nil.mp r];exact reps_nil.mpr rfl
 |n+1,x::xs,us,r=>by
  let#[u,ur,rfl,a1,a2]:=reps_cons.mp r;exact reps_cons.mpr #[u,_,rfl,a1,Reps.take n a2]
def Reps.cut{F:Hp}{xs:List D}{us:List V}(r:Reps K F xs us)(lo hi:Option Int):Reps K F (cutD xs lo hi) (cutV us lo hi):=by
 unfold cutD cutV;rw[r.length];exact(r.drop _).take _
def AC(ta tb:TD):TD:=λz R=>ta z λx=>tb z λy=>match x,y with|.lst xs,.int i=>R (.lst (cutD xs (be i) z6))|_,_=>False
def AD[Jx]{p2:V4}(ha:WDE X a ta)(hb:WDE X b tb):WDE X (.Subscript a (.Slice (be b) z6 z6 p2) pos) (AC ta tb):=⟨(gR gS ha.out (jJ hb.out) jI).anti λs H Q q=>by
 let#[B,F,z,kf,rs,R,h1,h2]:=q;have fh:=kf.fh;refine#[B,F,z,kf,rs,_,h1,λx u F1 H1 g1 hx rx=>?_];refine#[B,F1,z,kf.grow g1,rs.grow g1,_,hx,λy v F2 H2 g2 hy ry=>?_];split at hy
 .refine#[_,rep_int.mp ry,?_];let#[l,vs,rfl,hq,rr]:=rep_lst.mp (rx.mono g2.ff);refine#[l,vs,rfl,SqL.of (g2.fh _ _ hq),λp hp=>?_];exact h2 _ _ _ _ (g1.trans (g2.trans (Grow.new g2.fh hp _))) hy (rep_lst.mpr #[p,_,rfl,aC,(rr.cut _ _).mono (aN (g2.fh.free hp) _)])
 .exact hy.elim⟩
def sZ{t:TGs}{n:Nat}(hc:X.calm=true)(h:PGs X es t)(hn:((V0 es X.env).length=n)\zA0)(m4:((V0 es X.env).findIdx? (·.1)=none)\zA0):
  PG X (.Tuple es k pos) (λv σ H Q=>∃a xs,v=.ref a/\SqL X.K H a xs/\xs.length=n/\t xs σ H Q):=by
 intro pins s σ H v u Q I r hw;let#[a,xs,e1,hq,hl,hw]:=hw;subst e1;cases r;let#[its,rv,pl,hz]:=I.list hq;have e2:(V0 es X.env).length=its.toArray.size:=by simp[hn,<-hl,rv.length]
 rw[PyProof.Rows.assign_Tuple];refine P3 (Wm ?_);unfold unpack;rw[e2,m4];refine P3 (Wg (kun_itemsOf (I.ok.hd hc) pl.isList λh' hx=>?_));have I1:Inv X pins σ H {s with heap:=h'}:=I.kept (t':=s.toks) λb o e=>hx b o (Iv (Heap.lt_size e)) e;exact h pins _ σ H xs _ Q I1 (by simpa using rv) hw
def AE(is:List Nat)(te:TD):TSD:=λE z=>te z λx=>match x with|.lst ds=>ds.length=is.length/\E.nx (cn is ds z)|_=>False
def tf[Jx]{is:List Nat}(hc:X.calm=true)(he:WDE X e te)(hg:DGs X es is)(hn:((V0 es X.env).length=is.length)\zA0)(m4:((V0 es X.env).findIdx? (·.1)=none)\zA0)
  (hs:(Wn [.Tuple es k p] e pos.line X.env=pure false)\zA0) (hw:(Wo [.Tuple es k p] e X.env=pure none)\zA0) (h1:((V0 [.Tuple es k p] X.env).map (·.2)=[Wu (.Tuple es k p) X.env])\zA0):WDS X (.Assign [.Tuple es k p] e pos) (AE is te):=⟨by
 have he:=he.out;let#[u,hu,kk]:=hg;refine(gL he (sZ hc hu hn m4) hs hw h1).anti λE s H q=>?_;let#[B,F0,F,z,k,rs,ED,h,e]:=q;refine#[B,F,z,k.kf,rs,_,h,λd v F' H' g hd rd=>?_];split at hd
 .let#[p,vs,rfl,hq,rr]:=rep_lst.mp rd;exact#[p,vs,rfl,SqL.of (g.fh _ _ hq),by rw[rr.length];exact hd.1,kk _ vs z s B F' H' _ hd.1 rr (rs.grow g) λs' r'=>e.nx _ _ F' H' (k.grow g) hd.2 r']
 .exact hd.elim⟩
end
end My
namespace L2
def ky{env:WD}:∀(names:List (Mr×Wz)) (g8:List (Mr×Pi)),(∀n,(n,NameKind.free)∈names->∃c,env.cells.lookup n=be c)->
  ∃cl,(forIn (m:=Xq) names g8 λx r=>match x with
     |(name,kind)=>if(kind==NameKind.free)=true then(do let a <-cellOf env name;pure (ForInStep.yield ((name,a)::r)))else pure (ForInStep.yield r))=(pure cl:Xq (List (Mr×Pi)))/\
   (∀n c,cl.lookup n=be c->env.cells.lookup n=be c\/g8.lookup n=be c)/\(∀n,(n,NameKind.free)∈names->∃c,cl.lookup n=be c)/\∀n c,g8.lookup n=be c->∃c',cl.lookup n=be c'
 |[],g8,_=>#[g8,rfl,(λ_ _ h=>.inr h),(λ_ h=>by cases h),(λ_ c h=>#[c,h])]
 |(name,kind)::r,g8,h=>by
  by_cases hk:(kind==NameKind.free)=true
  .have ek:kind=.free:=by simpa using hk
   subst ek;let#[c,hc]:=h name Ip;let#[cl,e,p1,p2,p3]:=ky r ((name,c)::g8) λn q=>h n (Im _ q);refine#[cl,?_,λn c' q=>?_,λn q=>?_,λn c' q=>?_]
   .rw[KB];have ec:cellOf env name=pure c:=by unfold cellOf;rw[hc]
    simp only[hk,if_true,ec];exact e
   .rcases p1 n c' q with z|z
    .exact .inl z
    .rw[IC]at z;split at z
     .rename_i q2;have en:n=name:=by simpa using q2
      cases z;exact .inl (en ▸ hc)
     .exact .inr z
   .rcases Ik.mp q with z|z
    .cases z;exact p3 _ c (by rw[IC];simp)
    .exact p2 n z
   .by_cases hn:n=name
    .subst hn;exact p3 n c (by rw[IC];simp)
    .exact p3 n c' (by rw[IC,beq_eq_false_iff_ne.mpr hn];exact q)
  .let#[cl,e,p1,p2,p3]:=ky r g8 λn q=>h n (Im _ q);refine#[cl,?_,p1,λn q=>?_,p3]
   .rw[KB];simp only[hk];exact e
   .rcases Ik.mp q with z|z
    .cases z;exact absurd rfl hk
    .exact p2 n z
def closure_is{env:WD}{scope:Wl}(h:∀n,(n,NameKind.free)∈scope.names->∃c,env.cells.lookup n=be c):
  ∃cl,closureFor scope env=pure cl/\(∀n c,cl.lookup n=be c->env.cells.lookup n=be c)/\∀n,(n,NameKind.free)∈scope.names->∃c,cl.lookup n=be c:=by
 let#[cl,e,p1,p2,_]:=ky scope.names [] h;refine#[cl,?_,λn c q=>(p1 n c q).elim id (λz=>nomatch z),p2];unfold closureFor;show(forIn (m:=Xq) scope.names [] _>>=λs=>pure s)=pure cl;rw[e];rfl
def hU{env:WD}:∀{names:List (Mr×Wz)} {n:Mr} {k:Wz},(∀y∈names,y.2≠.cell)->k=.cell\/k=.free->
  (names.map λ(n,k)=>if(k==NameKind.free&&env.scope.kind== .function&&env.kindOf n==be .cell)then(n,NameKind.cell)else(n,k)).lookup n=be k->(n,NameKind.free)∈names
 |[],_,_,_,_,h=>by simp at h
 |(a,b)::r,n,k,hc,hk,h=>by
  rw[IH]at h;by_cases hb:(b==NameKind.free&&env.scope.kind== .function&&env.kindOf a==be .cell)=true
  .have eb:b=.free:=by
    have:=(IS _ _ ▸ ((IS _ _ ▸ hb).1)).1;simpa using this
   simp only[hb,if_true]at h;rw[IC]at h;split at h
   .rename_i q;have en:n=a:=by simpa using q
    subst en eb;exact Ip
   .exact Im _ (hU (λy q=>hc y (Im _ q)) hk h)
  .simp only[hb]at h;rw[if_neg Nq,IC]at h;split at h
   .rename_i q;have en:n=a:=by simpa using q
    cases h;subst en;rcases hk with z|z
    .exact absurd z (hc _ Ip)
    .rw[z];exact Ip
   .exact Im _ (hU (λy q=>hc y (Im _ q)) hk h)
section
variable {prog:VU}{w:VX}{A:VY}{R:Result->SB->Prop}{s:SB}
abbrev tm(k9:List VV)(env:WD):Xq Bool:=forIn k9 true λc r=>if r=true then do let ok <-isTrue c env (V3 c env);pure (ForInStep.yield ok)else pure (ForInStep.yield r)
def AF{g_ i6 iter:VV}{k9:List VV}{scope:Wl}{pos:V4}{it g8:Os}{env:WD}(I:Nat->SB->Prop)
  (d6:∀n s,I n s->VW (VT prog w) A (pyNext it) (λr s₁=>match r with
   |none=>R (.ok .next) s₁
   |some v=>VW (VT prog w) A (WR i6 it v) (λ_ s₁'=>VW (VT prog w) A (Wu i6 env v) (λ_ s₂=>VW (VT prog w) A (tm k9 env) (λok s₂'=>if ok=true then VW (VT prog w) A (V3 g_ env) (λx s₃=>
     VW (VT prog w) A (call (.builtin "list.append") [g8,x]) (λ_ s₄=>∃m,m<n/\I m s₄) (λ_ _=>False) s₃)
     (λ_ _=>False) s₂' else ∃m,m<n/\I m s₂') (λ_ _=>False) s₂) (λ_ _=>False) s₁') (λ_ _=>False) s₁) (λ_ _=>False) s)
  (n:Nat) (h:I n s):
  WV (VT prog w) A (.compLoop (.ListComp g_ [#[i6,iter,k9,0]] scope pos) 0 it g8 env) R s:=by
 refine codeAny_loop rfl I (λn s hI=>?_) n h;show VW _ _ ((compTurn (.ListComp g_ [#[i6,iter,k9,0]] scope pos) 0 it g8 env).onRaise (λx=>do WM x env;theTreesLotGoes x)) _ _ s;refine wpAny_noted ?_;rw[compTurn_list];refine P3 (Wm (P3 (V9 (d6 n s hI) (λr s₁ h₁=>?_) λ_ _ h'=>h'.elim)));cases r with
 |none=>exact SZ h₁
 |some v=>
  refine P3 (V9 h₁ (λ_ s₁' h₁'=>P3 (V9 h₁' (λ_ s₂ h₂=>P3 (V9 h₂ (λok s₃ h₃=>?_) λ_ _ h'=>h'.elim)) λ_ _ h'=>h'.elim)) λ_ _ h'=>h'.elim);cases ok with
  |false=>exact SZ #[rfl,h₃]
  |true=>
   exact P3 (P3 (V9 h₃ (λx s₄ h₄=>P3 (V9 h₄ (λ_ s₅ h₅=>SZ (SZ #[rfl,h₅])) λ_ _ h'=>h'.elim)) λ_ _ h'=>h'.elim))
end
def cj(X:Cx)(scope:Wl)(cl:List (Mr×Pi))(x:Mr)(s₀:SB)(H₀:Hp)(fp:List Pi):Cx where
 prog:=X.prog
 w:=X.w
 K:=X.K
 mg:=X.mg
 base:=X.base
 A:=X.A
 N:=X.N.map (λn=>if n=x then("":Mr)else n)++[x]
 s₀:=s₀
 H₀:=H₀
 env:=compEnvC scope cl s₀.heap.objs.size X.env
 outer:=X.stack
 stack:=X.stack
 ex:=fp
 fn:=λ_=>false
 calm:=X.calm
 pn:=[]
 xe:=λ_ _=>False
structure CompScope(X:Cx)(scope:Wl)(x:Str):Prop where
 kind:scope.kind=.function
 nocell:∀y∈scope.names,y.2≠.cell
 names:∀y∈scope.names,y.2=.local->scope.names.lookup y.1=be .local
 own:scope.names.lookup x=be .local
 free:∀n,(n,NameKind.free)∈scope.names->X.env.kindOf n=be .cell
 vis:∀n∈X.N,n≠x->Vis (XR scope X.env) n->(n,NameKind.free)∈scope.names
 empty:¬Vis (XR scope X.env) ("":Mr)
 cells:∀n,(n,NameKind.free)∈scope.names->(XR scope X.env).names.lookup n=be .cell
 nd:(X.N.map (λn=>if n=x then("":Mr)else n)++[x]).Nodup
section
variable {X:Cx}{pins:List (Pi×Wa)}{σ:St}{H:Hp}{s:SB}{scope:Wl}{cl:List (Mr×Pi)}{x:Mr}{fp:List Pi}
def tw(I:Inv X pins σ H s)(S:CompScope X scope x)(c1:∀n c,cl.lookup n=be c->X.env.cells.lookup n=be c)(c2:∀n,(n,NameKind.free)∈scope.names->∃c,cl.lookup n=be c)
  (hf:∀b∈fp,FpOk X pins H b) (hl:∀b∈fp,b<s.heap.objs.size):(cj X scope cl x s H fp).Ok where
 mod:=I.ok.mod
 kind:=S.kind
 glob:=I.ok.glob
 blt:=I.ok.blt
 above:=Ii _
 inj:=λy z c h1 h2=>I.ok.inj y z c (c1 y c h1) (c1 z c h2)
 has:=λn hn=>by
  rcases hn with hn|hn
  .exact c2 n (hU S.nocell (.inl rfl) hn)
  .exact c2 n (hU S.nocell (.inr rfl) hn)
 cab:=λ_ _ h=>nomatch h
 hd:=I.ok.hd
 frames:=I.ok.frames
 stk:=.inl rfl
 exf:=λb hb=>#[Iv (hl b hb),λy c h=>(hf b hb).2.2.2.2.1 y c (c1 y c h)]
 bs:=I.bs
 bsz:=Io I.ok.bsz I.sz
 noex:=λb o e hb=>by
  have h1:=I.ok.noex b o e;rcases(hf b hb).2.2.2.1 with z|z
  .exact h1 z
  .exact absurd (IG (Heap.lt_size e) (Io I.ok.bsz z)) (Jv _)
 exfs:=λb hb hs=>by
  rcases Ik.mp (I.stkSub b hs)with z|z
  .exact(hf b hb).2.1 z
  .exact(hf b hb).2.2.1 z
 funs:=I.stack
 frf:=I.stkFree
def tz{h':Heap}{t':Nat}(I:Inv X pins σ H s)(S:CompScope X scope x)(c1:∀n c,cl.lookup n=be c->X.env.cells.lookup n=be c)(c2:∀n,(n,NameKind.free)∈scope.names->∃c,cl.lookup n=be c)
  (hf:∀b∈fp,FpOk X pins H b) (hl:∀b∈fp,b<s.heap.objs.size) {m:Mr->Option Os} (hn:h'.Ns s.heap.objs.size m) (k:∀b o,s.heap.get? b=be o->h'.get? b=be o):
  Inv (cj X scope cl x s H fp) [] (σ++[z6]) H {s with heap:=h',toks:=t'}:=by
 refine#[tw I S c1 c2 hf hl,rfl,I.bare,Un.kept k,#[m,hn,λi n v e1 e2 e3=>?_],λn c e=>?_,I.hok.fresh (Ii _),λn c e=>I.freeC n c (c1 n c e),λp hp=>absurd (show p∈([]:List (Pi×Wa))from hp) Nq,I.hok.kept k,?_]
 .have hi:i<σ.length:=by
   rcases JQ i σ.length with q|q
   .exact q
   .rw[Jp q]at e2;cases hz:i-σ.length with
    |zero=>rw[hz]at e2;simp at e2
    |succ z=>rw[hz]at e2;simp at e2
  rw[Ja hi]at e2;have Ps:i<X.N.length:=by rw[<-I.len];exact hi
  have NQ:(X.N.map (λn=>if n=x then("":Mr)else n)++[x])[i]?=be n:=e1;rw[Ja (by simpa using Ps),Iy,ID Ps]at NQ;simp only[Option.map_some,Option.some.injEq]at NQ;by_cases hx:X.N[i]=x
  .rw[if_pos hx]at NQ;subst NQ;exact absurd e3 S.empty
  .rw[if_neg hx]at NQ;subst NQ;have l7:=S.vis _ (IR Ps) hx e3;have n6:=S.free _ l7;let#[c,hc]:=c2 _ l7;let#[mX,Vm,T4]:=I.loc;let#[u,ru,lk]:=T4 i X.N[i] v (ID Ps) e2 (.inr (.inl n6));refine#[u,ru,.inr #[?_,c,hc,?_]]
   .exact .inl (S.cells _ l7)
   .rcases lk with⟨kl,_⟩|⟨_,c',Mn,i_⟩
    .rw[n6]at kl;cases kl
    .have:c=c':=by
      have:=c1 _ c hc;rw[Mn]at this;exact(Option.some.inj this).symm
     subst this;let#[o,ho,hd]:=i_;exact#[o,k _ _ ho,hd]
 .let#[v,o,ho,hd]:=I.cell n c (c1 n c e);exact#[v,o,k _ _ ho,hd]
 .show(σ++[z6]).length=(X.N.map _++[x]).length;rw[Ix,Ix,Ij,I.len];rfl
end
def fX(wi:TI)(tt:TT)(j6:TE):TE:=λσ H Q=>wi σ H λJ H1=>∀D,H1 D=z6->∃W:Nat->Nat->Hp->Prop,(∃m,W 0 m (upd H1 D (.lst [])))/\∀i m H,W i m H->
 (J.stop i H/\Q (.ref D) H)\/(J.go i H/\∀x H',J.yld i H x H'->tt (σ++[be x]) H' λb H1=>if b=true then j6 (σ++[be x]) H1 λy H''=>∃vs,H'' D=be (.lst vs)/\vs.length<sizeLine/\∃m',m'<m/\W (i+1) m' (upd H'' D (.lst (vs++[y])))else ∃m',m'<m/\W (i+1) m' H1)
def PIf(X:Cx)(k9:List VV)(t:TT):Prop:=
 ∀(pins:List (Pi×Wa)) (s:SB) (σ:St) (H:Hp) (Q:Bool->Hp->Prop),Inv X pins σ H s->t σ H Q->VW (VT X.prog X.w) X.A (tm k9 X.env) (TP X pins σ Q) X.xe s
def pif_nil{X:Cx}:PIf X [] (λ_ H Q=>Q true H):=λpins s σ H Q I q=>wpAny_tests_nil #[H,I,q]
def PIf.anti{X:Cx}{e:List VV}{t t':TT}(h:PIf X e t)(a:∀s H Q,t' s H Q->t s H Q):PIf X e t':=λpins s σ H Q I q=>h pins s σ H Q I (a _ _ _ q)
section
variable {X:Cx}
variable{g_ iter:VV}{k9:List VV}{x:Mr}{px pos:V4}{scope:Wl}{tt:TT}{j6:TE}
def tD{pins:List (Pi×Wa)}{s2:SB}{σ:St}{H1:Hp}{cl:List (Mr×Pi)}{it:Pi}{fp:List Pi}{tn:Nat->Heap->Prop}{J:It}{Qs:Hp->Prop}{R:Result->SB->Prop}{W:Nat->Nat->Hp->Prop}{m0:Nat}{h₁:Heap}(hc:X.calm=true)(S:CompScope X scope x)
  (hq:∀cl s₀ H₀ fp,PIf (cj X scope cl x s₀ H₀ fp) k9 tt) (he:∀cl s₀ H₀ fp,PE (cj X scope cl x s₀ H₀ fp) g_ j6) (c1:∀n c,cl.lookup n=be c->X.env.cells.lookup n=be c) (c2:∀n,(n,NameKind.free)∈scope.names->∃c,cl.lookup n=be c)
  (I1:Inv X pins σ H1 s2) (T:Turn X.prog X.w X.K (.Name x px) J fp it tn) (st:tn 0 s2.heap) (f1:∀b∈fp,FpOk X pins H1 b) (w0:W 0 m0 (upd H1 s2.heap.objs.size (.lst [])))
  (step:∀i m H,W i m H->(J.stop i H/\Qs H)\/(J.go i H/\∀x H',J.yld i H x H'->tt (σ++[be x]) H' λb H1=>if b=true then j6 (σ++[be x]) H1 λy H''=>∃vs,H'' s2.heap.objs.size=be (.lst vs)/\vs.length<sizeLine/\∃m',m'<m/\W (i+1) m' (upd H'' s2.heap.objs.size (.lst (vs++[y])))else ∃m',m'<m/\W (i+1) m' H1))
  (I4:Inv (cj X scope cl x {s2 with heap:=s2.heap.push {cls:=.type "list",data:=.seq ([]:List Os).toArray},toks:=s2.toks} (upd H1 s2.heap.objs.size (.lst [])) fp) [] (σ++[z6]) (upd H1 s2.heap.objs.size (.lst [])) {s2 with heap:=h₁,toks:=s2.toks+([]:List (Mr×Os)).length}) (t0:tn 0 h₁)
  (Qi:∀H' s4 m,Inv X pins σ H' s4->s4.heap.Ns (s2.heap.push {cls:=.type "list",data:=.seq ([]:List Os).toArray}).objs.size m->H' (s2.heap.push {cls:=.type "list",data:=.seq ([]:List Os).toArray}).objs.size=z6->Qs H'->R (.ok .next) s4):
  WV (VT X.prog X.w) X.A (.compLoop (.ListComp g_ [#[.Name x px,iter,k9,0]] scope pos) 0 (.ref it) (.ref s2.heap.objs.size) (compEnvC scope cl (s2.heap.push {cls:=.type "list",data:=.seq ([]:List Os).toArray}).objs.size X.env)) R {s2 with heap:=h₁,toks:=s2.toks+([]:List (Mr×Os)).length}:=by
 have gV:∀b∈fp,b<s2.heap.objs.size:=λb hb=>by
  let#[o,ho,_]:=T.obj _ _ st b hb;exact Heap.lt_size ho
 have I3:Inv X pins σ (upd H1 s2.heap.objs.size (.lst [])) {s2 with heap:=s2.heap.push {cls:=.type "list",data:=.seq ([]:List Os).toArray},toks:=s2.toks}:=I1.lnew (its:=[]) (ys:=[]) .nil (IL _);have k8:∀b∈fp,b<(s2.heap.push {cls:=.type "list",data:=.seq ([]:List Os).toArray}).objs.size:=λb hb=>by
  rw[Heap.size_push];exact KC (gV b hb)
 have Mi:∀b∈fp,FpOk X pins (upd H1 s2.heap.objs.size (.lst [])) b:=λb hb=>#[by rw[ar (Iv (gV b hb))];exact(f1 b hb).1,(f1 b hb).2];have Pt:=tw (x:=x) (fp:=fp) I3 S c1 c2 Mi k8;generalize hY:cj X scope cl x {s2 with heap:=s2.heap.push {cls:=.type "list",data:=.seq ([]:List Os).toArray},toks:=s2.toks} (upd H1 s2.heap.objs.size (.lst [])) fp=Y at I4 Pt;have yP:Y.prog=X.prog:=Po
 have yW:Y.w=X.w:=Po
 have yK:Y.K=X.K:=Po
 have yA:Y.A=X.A:=Po
 have yN:Y.N=X.N.map (λn=>if n=x then("":Mr)else n)++[x]:=Po
 have yE:Y.env=compEnvC scope cl (s2.heap.push {cls:=.type "list",data:=.seq ([]:List Os).toArray}).objs.size X.env:=Po
 have yX:Y.xe=λ_ _=>False:=Po
 have yC:Y.calm=true:=by rw[<-hY];exact hc
 have SJ:Y.ex=fp:=Po
 have T5:Y.pn=[]:=Po
 have T6:Y.fs=frs X.stack:=Po
 have T7:Y.H₀=upd H1 s2.heap.objs.size (.lst []):=Po
 have SK:Y.s₀={s2 with heap:=s2.heap.push {cls:=.type "list",data:=.seq ([]:List Os).toArray},toks:=s2.toks}:=Po
 have T8:PE Y g_ j6:=by rw[<-hY];exact he _ _ _ _
 have T9:PIf Y k9 tt:=by rw[<-hY];exact hq _ _ _ _
 have q9:∀{H':Hp},(∀b∈fp,H' b=z6)->∀b∈fp,FpOk Y [] H' b:=λ{H'} hn b hb=>by
  have g9:b∈Y.ex:=by rw[SJ];exact hb
  exact#[hn b hb,(Pt.exf b g9).1,Pt.exfs b g9,.inl g9,λn c e=>(Pt.exf b g9).2 n c e,by rw[T5];simp]
 have OF:Y.env.scope.names.lookup x=be .local:=by rw[yE];exact lookup_relabel_local S.own
 have Qj:Y.N[X.N.length]?=be x:=by rw[yN];simp
 have T_:Y.N.Nodup:=by rw[yN];exact S.nd
 have Qk:Y.env.locals=(s2.heap.push {cls:=.type "list",data:=.seq ([]:List Os).toArray}).objs.size:=by rw[yE];rfl
 have e_:∀(o:Option V) (H':Hp) (s':SB),Inv Y [] (σ++[o]) H' s'->Inv X pins σ H' s':=λo H' s' I'=>by
  have bs:=I'.base;rw[T6,SJ,T7,SK]at bs;refine I3.call' (ch:=fp) ?_ bs ?_ I'.bare ?_
  .have:=I'.os;rw[SK]at this;exact this
  .have:=I'.hok;rw[yP,yW]at this;exact this
  .exact λb hb=>#[(Mi b hb).2.2.2.1,(Mi b hb).2.1,(Mi b hb).2.2.2.2.1,(Mi b hb).2.2.2.2.2]
 refine AF (λn s'=>∃i o H',Inv Y [] (σ++[o]) H' s'/\tn i s'.heap/\(∀b∈fp,H' b=z6)/\W i n H') ?_ m0 #[0,z6,_,I4,t0,λb hb=>(Mi b hb).1,w0];rintro n s3⟨i,o,H3,I5,t3,f3,w3⟩;rcases step i n H3 w3 with⟨stop,q⟩|⟨go,q⟩
 .have dn:=T.done Y yP yW yK yC i [] s3 _ H3 (λ_ _=>False) I5 (q9 f3) t3 stop;rw[yA]at dn;refine thn dn λr s4 c7=>?_;let#[hr,I6]:=c7;subst hr;let#[m,hn,_]:=I6.loc;have m_:=I6.free;rw[Qk]at hn m_;exact Qi H3 s4 m (e_ o H3 s4 I6) hn m_ q
 .have SN:=T.item Y yP yW yK yC i [] s3 _ H3 (λ_ _=>False) I5 (q9 f3) t3 go;rw[yA]at SN;refine thn SN λr s4 c7=>?_;let#[u,hr,h4]:=c7;subst hr;refine thn h4 λ_ s5 c7=>?_;let#[xv,H5,I6,r5,y5,Ms,PZ]:=c7;have Ua:=I6.pinned (q9 PZ) (T.obj _ _ Ms);rw[<-yE];refine WY (eJ Ua T_ Qj (.inl OF) r5 (λs6 I7=>?_) (.inr OF));have Ql:(σ++[o]).set X.N.length (be xv)=σ++[be xv]:=by
   rw[<-I1.len];simp
  rw[Ql]at I7;have tv:=T9 _ s6 _ H5 _ I7 (q xv H5 y5);rw[yP,yW,yA,yX]at tv;refine thn tv λb Ub c7=>?_;let#[Uc,Pu,qb]:=c7;cases b with
  |false=>
   let#[m',hm,w7]:=qb;refine#[m',hm,i+1,be xv,_,Pu.unpinned,T.keep _ _ _ Ms λb hb ob e=>(Pu.pin (b,ob) (IE _ (IE _ (eL hb e)))).1,λb hb=>?_,w7];let#[ob,e,d]:=T.obj _ _ Ms b hb;exact(Pu.pin (b,ob) (IE _ (IE _ (eL hb e)))).2.1
  |true=>
  have ev:=T8 _ Ub _ Uc _ Pu qb;rw[yP,yW,yA,yX]at ev;refine thn ev λyv s7 c7=>?_;let#[y,H6,I8,ry,vs,Ud,b9,m',hm,w7]:=c7;have ap:=jL (X:=Y) _ s7 _ H6 (.ref s2.heap.objs.size) [y] (.ref s2.heap.objs.size) [yv] (λ_ H7=>H7=upd H6 s2.heap.objs.size (.lst (vs++[y]))) I8 rfl (.cons ry .nil) #[_,vs,y,rfl,rfl,Ud,b9,rfl];rw[yP,yW,yA,yX]at ap;refine thn ap λ_ s8 c7=>?_;let#[_,H7,I9,_,e7]:=c7;subst e7;refine#[m',hm,i+1,be xv,_,I9.unpinned,T.keep _ _ _ Ms λb hb ob e=>(I9.pin (b,ob) (IE _ (IE _ (eL hb e)))).1,λb hb=>?_,w7];let#[ob,e,d]:=T.obj _ _ Ms b hb;exact(I9.pin (b,ob) (IE _ (IE _ (eL hb e)))).2.1
def tE{wi:TI}(hc:X.calm=true)(S:CompScope X scope x)(hi:PI X (.Name x px) iter wi)
  (hq:∀cl s₀ H₀ fp,PIf (cj X scope cl x s₀ H₀ fp) k9 tt) (he:∀cl s₀ H₀ fp,PE (cj X scope cl x s₀ H₀ fp) g_ j6) (hs:(∀y,zFS X iter y)\zA3):
  PE X (.ListComp g_ [#[.Name x px,iter,k9,0]] scope pos) (fX wi tt j6):=by
 intro pins s σ H Q I h;let#[cl,i_,c1,c2]:=closure_is (env:=X.env) (scope:=scope) (λn q=>I.ok.has n (.inl (S.free n q)));rw[eval_ListComp];refine Xd (use:=z6) rfl hs i_ S.kind S.names (thn (hi pins s σ H _ I h) λv s1 h1=>thn h1 λPl s2 h2=>?_);let#[it,fp,tn,J,H1,e,I1,T,st,f1,hr]:=h2;subst e;have gV:∀b∈fp,b<s2.heap.objs.size:=λb hb=>by
  let#[o,ho,_]:=T.obj _ _ st b hb;exact Heap.lt_size ho
 have hD:H1 s2.heap.objs.size=none:=I1.hok.fresh (Ii _);let#[W,#[m0,w0],step]:=hr _ hD;refine V8 (Xu S.nocell (by intro y hy;simp at hy) (λh₁ hns₁ hsb₁=>?_) S.kind);have I3:Inv X pins σ (upd H1 s2.heap.objs.size (.lst [])) {s2 with heap:=s2.heap.push {cls:=.type "list",data:=.seq ([]:List Os).toArray},toks:=s2.toks}:=I1.lnew (its:=[]) (ys:=[]) .nil (IL _);have k8:∀b∈fp,b<(s2.heap.push {cls:=.type "list",data:=.seq ([]:List Os).toArray}).objs.size:=λb hb=>by
  rw[Heap.size_push];exact KC (gV b hb)
 have Mi:∀b∈fp,FpOk X pins (upd H1 s2.heap.objs.size (.lst [])) b:=λb hb=>#[by rw[ar (Iv (gV b hb))];exact(f1 b hb).1,(f1 b hb).2];have kp:∀b o,(s2.heap.push {cls:=.type "list",data:=.seq ([]:List Os).toArray}).get? b=be o->h₁.get? b=be o:=λb o e=>
  (hsb₁.2 b (Iv (Heap.lt_size e))).trans (Heap.get?_push_of_some _ e)
 have I4:=tz (x:=x) (fp:=fp) (t':=s2.toks+([]:List (Mr×Os)).length) I3 S c1 c2 Mi k8 hns₁ kp;have Mw:(s2.heap.push {cls:=.type "list",data:=.seq ([]:List Os).toArray}).objs.size≠X.env.locals:=Jl I3.lt;have Mx:∀z c,X.env.cells.lookup z=be c->c≠(s2.heap.push {cls:=.type "list",data:=.seq ([]:List Os).toArray}).objs.size:=λz c e=>by
  let#[vv,oo,ho,_]:=I3.cell z c e;exact Iv (Heap.lt_size ho)
 have Nt:∀p∈X.pn++pins,p.1≠(s2.heap.push {cls:=.type "list",data:=.seq ([]:List Os).toArray}).objs.size:=λp hp=>Iv (Heap.lt_size (I3.pin p hp).1);have v7:=tD (pos:=pos) (iter:=iter) (R:=compPost (VT X.prog X.w) X.A X.xe z6 (EP X pins σ Q) (.ref s2.heap.objs.size) (s2.heap.push {cls:=.type "list",data:=.seq ([]:List Os).toArray}).objs.size) hc S hq he c1 c2 I1 T st f1 w0 step I4 (T.keep _ _ _ st (λb hb ob e=>kp b ob (Heap.get?_push_of_some _ e))) λH' s4 m IX hn m_ q=>
  #[m,hn,λh' hsb=>#[.ref s2.heap.objs.size,H',IX.turned (t':=s4.toks) (it:=(s2.heap.push {cls:=.type "list",data:=.seq ([]:List Os).toArray}).objs.size) (λb ob hb e=>(hsb.2 b hb).trans e) m_ Mw (.inr I3.sz) Mx Nt,rfl,q]]
 exact Xo v7 (T.self _ _ _ _ _ (T.keep _ _ _ st (λb hb ob e=>kp b ob (Heap.get?_push_of_some _ e))) v7)
def tF{y:Mr}{py n8:V4}{wi:TI}{ix:Nat}(hc:X.calm=true)(S:CompScope X scope x)(hi:PI X (.Name x px) iter wi)
  (hq:∀cl s₀ H₀ fp,PIf (cj X scope cl x s₀ H₀ fp) k9 tt) (he:∀cl s₀ H₀ fp,PE (cj X scope cl x s₀ H₀ fp) g_ j6) (hN:X.N.Nodup) (OG:X.N[ix]?=be y) (hy:Loc X.env.scope y) (hf:zFN X y)
  (Mv:V' (.ListComp g_ [#[.Name x px,iter,k9,0]] scope pos) (be (.Name y py)) n8.line X.env=pure true) (hs:(∀y,zFS X iter y)\zA3):
  PS X (.Assign [.Name y py] (.ListComp g_ [#[.Name x px,iter,k9,0]] scope pos) n8) (tAsg (fX wi tt j6) (fN ix)):=by
 intro pins s σ H DE I h;have h:wi σ H λJ H1=>∀D,H1 D=z6->∃W:Nat->Nat->Hp->Prop,(∃m,W 0 m (upd H1 D (.lst [])))/\∀i m H,W i m H->
  (J.stop i H/\DE.nx (σ.set ix (be (.ref D))) H)\/(J.go i H/\∀x H',J.yld i H x H'->tt (σ++[be x]) H' λb H1=>if b=true then j6 (σ++[be x]) H1 λy H''=>∃vs,H'' D=be (.lst vs)/\vs.length<sizeLine/\∃m',m'<m/\W (i+1) m' (upd H'' D (.lst (vs++[y])))else ∃m',m'<m/\W (i+1) m' H1):=h
 let#[cl,i_,c1,c2]:=closure_is (env:=X.env) (scope:=scope) (λn q=>I.ok.has n (.inl (S.free n q)));rw[exec_Assign_Name_used _ _ _ _ Mv];refine P3 (Wm (P3 ?_));show VW _ X.A (do let _ <-comprehension (.ListComp g_ [#[.Name x px,iter,k9,0]] scope pos) scope X.env _ (newList []) false (V3 iter X.env) (be (Wu (.Name y py) X.env))) _ _ s;refine P3 (V9 (Xd (use:=be (Wu (.Name y py) X.env)) (Q:=λ_ s'=>SP X pins DE .next s') rfl hs i_ S.kind S.names
  (thn (hi pins s σ H _ I h) λv s1 h1=>thn h1 λPl s2 h2=>?_)) (λ_ s' hq=>SZ (SZ hq)) λ_ _ e=>e)
 let#[it,fp,tn,J,H1,e,I1,T,st,f1,hr]:=h2;subst e;have gV:∀b∈fp,b<s2.heap.objs.size:=λb hb=>by
  let#[o,ho,_]:=T.obj _ _ st b hb;exact Heap.lt_size ho
 have hD:H1 s2.heap.objs.size=none:=I1.hok.fresh (Ii _);let#[W,#[m0,w0],step]:=hr _ hD;refine V8 (Xu S.nocell (by intro y hy;simp at hy) (λh₁ hns₁ hsb₁=>?_) S.kind);have I3:Inv X pins σ (upd H1 s2.heap.objs.size (.lst [])) {s2 with heap:=s2.heap.push {cls:=.type "list",data:=.seq ([]:List Os).toArray},toks:=s2.toks}:=I1.lnew (its:=[]) (ys:=[]) .nil (IL _);have k8:∀b∈fp,b<(s2.heap.push {cls:=.type "list",data:=.seq ([]:List Os).toArray}).objs.size:=λb hb=>by
  rw[Heap.size_push];exact KC (gV b hb)
 have Mi:∀b∈fp,FpOk X pins (upd H1 s2.heap.objs.size (.lst [])) b:=λb hb=>#[by rw[ar (Iv (gV b hb))];exact(f1 b hb).1,(f1 b hb).2];have kp:∀b o,(s2.heap.push {cls:=.type "list",data:=.seq ([]:List Os).toArray}).get? b=be o->h₁.get? b=be o:=λb o e=>
  (hsb₁.2 b (Iv (Heap.lt_size e))).trans (Heap.get?_push_of_some _ e)
 have I4:=tz (x:=x) (fp:=fp) (t':=s2.toks+([]:List (Mr×Os)).length) I3 S c1 c2 Mi k8 hns₁ kp;have Mw:(s2.heap.push {cls:=.type "list",data:=.seq ([]:List Os).toArray}).objs.size≠X.env.locals:=Jl I3.lt;have Mx:∀z c,X.env.cells.lookup z=be c->c≠(s2.heap.push {cls:=.type "list",data:=.seq ([]:List Os).toArray}).objs.size:=λz c e=>by
  let#[vv,oo,ho,_]:=I3.cell z c e;exact Iv (Heap.lt_size ho)
 have Nt:∀p∈X.pn++pins,p.1≠(s2.heap.push {cls:=.type "list",data:=.seq ([]:List Os).toArray}).objs.size:=λp hp=>Iv (Heap.lt_size (I3.pin p hp).1);have v7:=tD (pos:=pos) (iter:=iter) (R:=compPost (VT X.prog X.w) X.A X.xe (be (Wu (.Name y py) X.env)) (λ_ s'=>SP X pins DE .next s') (.ref s2.heap.objs.size) (s2.heap.push {cls:=.type "list",data:=.seq ([]:List Os).toArray}).objs.size) hc S hq he c1 c2 I1 T st f1 w0 step I4 (T.keep _ _ _ st (λb hb ob e=>kp b ob (Heap.get?_push_of_some _ e))) λH' s4 m IX hn m_ q=>by
  show VW _ X.A (Wu (.Name y py) X.env (.ref s2.heap.objs.size)) _ _ s4;refine WY (qC IX hN OG hy (v:=.ref s2.heap.objs.size) rfl (λs5 I7 ⟨a,hsb,ha⟩=>?_) hf);have Qm:(s2.heap.push {cls:=.type "list",data:=.seq ([]:List Os).toArray}).objs.size≠a:=by
   rcases ha with e|e
   .rw[e];exact Mw
   .exact λz=>Mx y a e z.symm
  exact#[m,hn.sameBut hsb Qm,λh' MZ=>#[_,H',I7.turned (t':=s5.toks) (it:=(s2.heap.push {cls:=.type "list",data:=.seq ([]:List Os).toArray}).objs.size) (λb ob hb e=>(MZ.2 b hb).trans e) m_ Mw (.inr I3.sz) Mx Nt,q]]
 exact Xo v7 (T.self _ _ _ _ _ (T.keep _ _ _ st (λb hb ob e=>kp b ob (Heap.get?_push_of_some _ e))) v7)
end
end L2
namespace My
def RepS.snoc{K:Ex}{B F H:Hp}{z:SD}{s:L2.St}{d:D}{v:V}(h:RepS K B F H z s)(r:Rep K F d v):RepS K B F H (z++[be d]) (s++[be v]):=by
 have no:=r.noown;have get:∀{j:Nat} {x:D},(z++[be d])[j]?=be (be x)->(j<z.length/\z[j]?=be (be x))\/(j=z.length/\x=d):=λ{j x} e=>by
  rcases JQ j z.length with q|q
  .rw[Ja q]at e;exact .inl #[q,e]
  .rw[Jp q]at e;cases hz:j-z.length with
   |zero=>rw[hz]at e;simp at e;exact .inr #[KK,e.symm]
   |succ n=>rw[hz]at e;simp at e
 have lt:∀{j:Nat},j<z.length->(s++[be v])[j]?=s[j]?:=λ{j} q=>Ja (by rw[h.len];exact q);refine#[by rw[Ix,Ix,h.len];rfl,λj x e nx=>?_,λj ds e=>?_,λj k dj dk a e1 e2 e3 e4=>?_]
 .rcases get e with⟨q,e⟩|⟨q,rfl⟩
  .rw[lt q];exact h.val j x e nx
  .exact#[v,by rw[q,Jp (by rw[h.len];exact Ii _),h.len];simp,r]
 .rcases get e with⟨q,e⟩|⟨q,e⟩
  .rw[lt q];exact h.own j ds e
  .rw[<-e]at no;cases no
 .rcases get e1 with⟨q,e1⟩|⟨q,e1⟩
  .rcases get e2 with⟨q2,e2⟩|⟨q2,e2⟩
   .rw[lt q]at e3;rw[lt q2]at e4;exact h.apart j k dj dk a e1 e2 e3 e4
   .rw[<-e2]at no;cases no
  .rw[<-e1]at no;cases no
def okB:Bool->Bool->Prop->Prop->Prop
 |_,true,A,_=>A
 |false,false,_,B=>B
 |true,false,_,_=>False
def cmpG(nf:Bool)(tt:TDT)(te:TD)(z:SD)(R:D->Prop)(items:List D):Prop:=items.length<=100000/\∃W:Nat->List D->Prop,W 0 []/\(∀k x ys,items[k]?=be x->(nf=true->ys.length=k)->W k ys->tt (z++[be x]) λb=>okB nf b (te (z++[be x]) λy=>W (k+1) (ys++[y])) (W (k+1) ys))/\∀ys,(nf=true->ys.length=items.length)->W items.length ys->R (.lst ys)
def cmpP(te:TD)(z:SD)(R:D->Prop)(items:List D):Prop:=items.length<=100000/\∃W:Nat->List D->Prop,W 0 []/\(∀k x ys,items[k]?=be x->ys.length=k->W k ys->te (z++[be x]) λy=>W (k+1) (ys++[y]))/\∀ys,ys.length=items.length->W items.length ys->R (.lst ys)
def hV(ti:TDI)(te:TD):TD:=λz R=>ti z (cmpP te z R)
def dT1:TDT:=λ_ R=>R true
abbrev DIf(X:Cx)[Jx](k9:List VV)(t:TDT):Prop:=PIf X k9 (lT X.K t)
variable{X:Cx}
def hZ[Jx]:DIf X [] dT1:=pif_nil.anti λs H Q q=>by
 let#[B,F,z,kf,rs,R,h1,h2]:=q;exact h2 true F H (Grow.refl kf.fh) h1
structure ItIs(K:Ex)(J:It)(F1 H1:Hp)(items:List D):Prop where
 go:∀k F' H',Grow F1 H1 F' H'->k<items.length->J.go k H'
 yld:∀k F' H' x H'',Grow F1 H1 F' H'->k<items.length->J.yld k H' x H''->H''=H'/\∃d,items[k]?=be d/\Rep K F' d x
 stop:∀F' H',Grow F1 H1 F' H'->J.stop items.length H'
def ItOk[Jx](K:Ex)(wi:TI)(ti:TDI):Prop:=∀{s:L2.St} {H B F:Hp} {z:SD} {P:List D->Prop} {Q:It->Hp->Prop},Kept B Jx.F0 F H->RepS K B F H z s->ti z P->(∀items J F1 H1,Grow F H F1 H1->P items->ItIs K J F1 H1 items->Q J H1)->wi s H Q
section
variable {X:Cx}
variable{K:Ex}{H:Hp}{s:L2.St}{R:My.D->Prop}{items:List My.D}
def tG[Jx]{B F F1 H1:Hp}{z:SD}{Q:VK}{nf:Bool}{tt:TDT}{te:TD}{J:It}(kf:Kept B Jx.F0 F H)(g1:Grow F H F1 H1)(rs:RepS K B F H z s)(h2:∀D ys us F' H',H D=z6->F' D=z6->Grow F H F' H'->H' D=be (.lst us)->Reps K F' ys us->R (.lst ys)->Q (.ref D) H')
    (it:ItIs K J F1 H1 items) (hd:cmpG nf tt te z R items):
    ∀D,H1 D=z6->∃W:Nat->Nat->Hp->Prop,(∃m,W 0 m (upd H1 D (.lst [])))/\∀i m H,W i m H->
      (J.stop i H/\Q (.ref D) H)\/(J.go i H/\∀x H',J.yld i H x H'->lT K tt (s++[be x]) H' λb H1=>if b=true then lE K te (s++[be x]) H1 λy H''=>∃vs,H'' D=be (.lst vs)/\vs.length<sizeLine/\∃m',m'<m/\W (i+1) m' (upd H'' D (.lst (vs++[y])))else ∃m',m'<m/\W (i+1) m' H1):=by
  intro D hD;let#[hz,W,w0,d6,out]:=hd;have Ue:F1 D=none:=g1.fh.free hD;have hH:H D=none:=g1.hh.free hD;refine⟨λk m H'=>m=items.length-k/\k<=items.length/\∃F' ys us,Grow F1 H1 F' H'/\H' D=be (.lst us)/\F' D=z6/\Reps K F' ys us/\(ys.length<=k/\(nf=true->ys.length=k))/\W k ys,
    #[items.length,Nq,IL _,F1,[],[],#[Same.refl F1,g1.fh.trans (aN hD _),aN hD _,λb h _=>h],aC,Ue,reps_nil.mpr rfl,#[Ii _,λ_=>rfl],w0],?_⟩
  rintro k m H'⟨rfl,hk,F',ys,us,G,hu,hF,ry,hl,w⟩;by_cases gV:k<items.length
  . refine .inr #[it.go k F' H' G gV,λx H'' hy=>?_];let#[e,d,hd,rd]:=it.yld k F' H' x H'' G gV hy;subst e;refine#[B,F',z++[be d],kf.grow (g1.trans G),(rs.grow (g1.trans G)).snoc rd,_,d6 k d ys hd hl.2 w,λb F3 H3 g3 hb=>?_];have Qn:H3 D=be (.lst us):=g3.hh D _ hu;have Pw:F3 D=none:=g3.out D hF (by rw[hu];exact λq=>nomatch q);cases b with
    |false=>
      cases nf with
      |true=>exact hb.elim
      |false=>exact#[items.length-(k+1),KK,rfl,KK,F3,ys,us,G.trans g3,Qn,Pw,ry.mono g3.ff,#[KK,λz=>nomatch z],hb]
    |true=>
    refine#[B,F3,z++[be d],(kf.grow (g1.trans G)).grow g3,((rs.grow (g1.trans G)).snoc rd).grow g3,_,(show te _ _ from by cases nf<;>exact hb),λy yv F2 H2 g2 hw rv=>?_];have Uf:H2 D=be (.lst us):=g2.hh D _ Qn;have Mz:F2 D=none:=g2.out D Pw (by rw[Qn];exact λq=>nomatch q);have Vn:us.length<=k:=by rw[ry.length];exact hl.1
    refine⟨us,Uf,by     have:(100000:Nat)<sizeLine:=by decide
                        lia,items.length-(k+1),KK,rfl,KK,F2,ys++[y],us++[yv],?_,aC,Mz,((ry.mono g3.ff).mono g2.ff).append (fg rv),#[Qh,λz=>by simp[hl.2 z]],hw⟩
    have GG:=(G.trans g3).trans g2;refine#[GG.ff,λb o e=>?_,λb o e=>?_,GG.out]
    . have ne:b≠D:=λq=>by rw[q,Mz]at e;cases e
      rw[ar ne];exact GG.fh b o e
    . have ne:b≠D:=λq=>by rw[q,hD]at e;cases e
      rw[ar ne];exact GG.hh b o e
  . have ek:k=items.length:=by lia
    subst ek;exact .inl #[it.stop F' H' G,h2 D ys us F' H' hH hF (g1.trans G) hu ry (out ys hl.2 w)]
def AG{F F' H':Hp}{D:Pi}{us:List V}(GG:Grow F H F' H')(hu:H' D=be (.lst us))(hF:F' D=z6)(hH:H D=z6):Grow F H (upd F' D (.lst us)) H':=by
 refine#[GG.ff.trans (aN hF _),λb o e=>?_,GG.hh,λb h1 h3=>?_]
 .by_cases hb:b=D
  .subst hb;rw[aC]at e;cases e;exact hu
  .rw[ar hb]at e;exact GG.fh b o e
 .have ne:b≠D:=λq=>h3 (q ▸ hH);rw[ar ne];exact GG.out b h1 h3
variable {g_ iter:VV}{k9:List VV}{x:Mr}{px pos:V4}{scope:Wl}{ti te:TD}{tt:TDT}{wi:TI}{MB:TDI}
def kz[Jx]{nf:Bool}{G:SD->(D->Prop)->List D->Prop}(hG:∀z R items,G z R items->cmpG nf tt te z R items)(hI:ItOk K wi MB){Q:VK}(q:lE K (λz R=>MB z (G z R)) s H Q):fX wi (lT K tt) (lE K te) s H Q:=by
 let#[B,F,z,kf,rs,R,h1,h2]:=q;exact hI kf rs h1 λitems J F1 H1 g1 hg it=>tG kf g1 rs (λD ys us F' H' hH hF GG hu ry hR=>h2 (.lst ys) (.ref D) _ H' (AG GG hu hF hH) hR (rep_lst.mpr #[D,us,rfl,aC,ry.mono (aN hF _)])) it (hG _ _ _ hg)
def cmpP.g{z:SD}(h:cmpP te z R items):cmpG true dT1 te z R items:=
 let ⟨hz,W,w0,d6,out⟩:=h
 #[hz,W,w0,λk x ys e l w=>d6 k x ys e (l rfl) w,λys l w=>out ys (l rfl) w]
def itL[Jx]:ItOk K (qO K (lE K ti)) (dItL ti):=λ{s H B F z P Q} kf rs h1 h2=>by
 refine#[B,F,z,kf,rs,_,h1,λd v F1 H1 g1 hd rd=>?_];have key:∀(items:List D) (p:Pi) (vs:List V),SqL K F1 p vs->Reps K F1 items vs->P items->∃a,V.ref p=.ref a/\(∃xs,SqL K H1 a xs)/\Q (Itl K a) H1:=λitems p vs hq rr hd=>by
  refine#[p,rfl,#[vs,g1.fh.seq hq],h2 items _ F1 H1 g1 hd #[λk F' H' G hk=>?_,λk F' H' x H'' G hk hy=>?_,λF' H' G=>?_]]
  .have s_:k<vs.length:=by rw[rr.length];exact hk
   exact#[vs,vs[k],G.hh.seq (g1.fh.seq hq),by simp[s_]]
  .let#[e,hy]:=hy;let#[d,e2,r2]:=rr.get' (hy vs (G.hh.seq (g1.fh.seq hq)));exact#[e,d,e2,r2.mono G.ff]
  .exact#[vs,G.hh.seq (g1.fh.seq hq),by rw[rr.length];exact Ii _]
 split at hd
 .let#[p,vs,rfl,hq,rr]:=rep_lst.mp rd;exact key _ p vs (SqL.of hq) rr hd
 .let#[p,vs,rfl,hq,rr]:=rep_rol.mp rd;exact key _ p vs hq rr hd
 .exact hd.elim
def itR[Jx]:ItOk K (qQ (rq (lE K ti) tNil)) (dItR ti):=λ{s H B F z P Q} kf rs h1 h2=>by
 refine#[B,F,z,kf,rs,_,h1,λd v F1 H1 g1 hd rd=>?_];split at hd
 .rename_i n;let#[#[b1,b2],hd]:=hd;have hl:((Il n.toNat).map λk=>D.int ((k:Nat):Int)).length=n.toNat:=by simp
  refine#[n,by rw[rep_int.mp rd],KK,b2,h2 _ _ F1 H1 g1 hd #[λk F' H' G hk=>by rw[hl]at hk;exact hk,λk F' H' x H'' G hk hy=>?_,λF' H' G=>by show n.toNat<=_;rw[hl];exact Ii _]];rw[hl]at hk;let#[e,rfl]:=hy;exact#[e,.int (k:Int),by simp[hk],rep_int.mpr (by congr 1;lia)]
 .exact hd.elim
def AH[Jx](hc:X.calm=true)(S:CompScope X scope x)(hi:WDE X iter ti)(he:∀cl s₀ H₀ fp,WDE (cj X scope cl x s₀ H₀ fp) g_ te)(hs:(∀y,zFS X iter y)\zA3):WDE X (.ListComp g_ [#[.Name x px,iter,[],0]] scope pos) (hV (dItL ti) te):=#[have he:=λcl s₀ H₀ fp=>(he cl s₀ H₀ fp).out;(tE hc S (gN hi.out) (λ_ _ _ _=>hZ) he hs).anti λs H Q q=>kz (λ_ _ _=>cmpP.g) itL q]
def fY[Jx]{p1 p2:V4}(hc:X.calm=true)(S:CompScope X scope x)(hm:X.mg "range"=z6)(hi:WDE X iter ti)(he:∀cl s₀ H₀ fp,WDE (cj X scope cl x s₀ H₀ fp) g_ te)(hg:Gl X "range"\zA0)
  (hs:(∀y,zFS X (.Call (.Name "range" p1) [iter] [] p2) y)\zA3) (v_:zSE X iter []\zA0) (i8:(VZ [iter] X.env=[(false,V3 iter X.env)])\zA0):WDE X (.ListComp g_ [#[.Name x px,.Call (.Name "range" p1) [iter] [] p2,[],0]] scope pos) (hV (dItR ti) te):=#[have he:=λcl s₀ H₀ fp=>(he cl s₀ H₀ fp).out;(tE hc S (jx hg hm (bv hi.out pa_nil v_) i8) (λ_ _ _ _=>hZ) he hs).anti λs H Q q=>kz (λ_ _ _=>cmpP.g) itR q]
def AI[Jx]{E:Ends}{ix:Nat}(hI:ItOk K wi MB)(q:lS K (dSet ix (hV MB te)) E s H):tAsg (fX wi (lT K dT1) (lE K te)) (fN ix) E s H:=by
 let#[B,F0,F,z,k,rs,ED,#[P,h,j],e]:=q;exact kz (λ_ _ _=>cmpP.g) hI #[B,F,z,k.kf,rs,P,h,λd v F' H' g hd rd=>e.nx _ _ F' H' (k.grow g) (j d hd) ((rs.grow g).set rd)]
def AJ[Jx](ix:Nat){y:Mr}{py n8:V4}(hc:X.calm=true)(S:CompScope X scope x)(hN:X.N.Nodup)(hi:WDE X iter ti)(he:∀cl s₀ H₀ fp,WDE (cj X scope cl x s₀ H₀ fp) g_ te)(OG:(X.N[ix]?=be y)\zA0)(hy:Loc X.env.scope y\zA4)
  (hf:zFN X y\zA2) (Mv:(V' (.ListComp g_ [#[.Name x px,iter,[],0]] scope pos) (be (.Name y py)) n8.line X.env=pure true)\zA0) (hs:(∀y,zFS X iter y)\zA3):WDS X (.Assign [.Name y py] (.ListComp g_ [#[.Name x px,iter,[],0]] scope pos) n8) (dSet ix (hV (dItL ti) te)):=#[have he:=λcl s₀ H₀ fp=>(he cl s₀ H₀ fp).out;(tF hc S (gN hi.out) (λ_ _ _ _=>hZ) he hN OG hy hf Mv hs).anti λE s H q=>AI itL q]
end
def fo(scope fsc:Wl):List (Mr×Wz):=scope.names.map λ(n,k)=>if(k==NameKind.free&&fsc.kind== .function&&fsc.names.lookup n==be .cell)then(n,NameKind.cell)else(n,k)
def visB(l:List (Mr×Wz))(n:Mr):Bool:=l.lookup n==be .local||l.lookup n==be .cell||l.lookup n==be .free
def cI(scope fsc:Wl)(N:List Mr)(x:Mr):Bool:=
 scope.kind== .function&&scope.names.all (λy=>!(y.2== .cell))&&scope.names.all (λy=>!(y.2== .local)||scope.names.lookup y.1==be .local)&&scope.names.lookup x==be .local &&
 scope.names.all (λy=>!(y.2== .free)||fsc.names.lookup y.1==be .cell)&&N.all (λn=>decide (n=x)||!visB (fo scope fsc) n||scope.names.any (λy=>decide (y=(n,NameKind.free))))&&!visB (fo scope fsc) "" &&
 scope.names.all (λy=>!(y.2== .free)||(fo scope fsc).lookup y.1==be .cell)&&decide (N.map (λn=>if n=x then("":Mr)else n)++[x]).Nodup
def tH{l:List (Mr×Wz)}{n:Mr}(h:l.lookup n=be .local\/l.lookup n=be .cell\/l.lookup n=be .free):visB l n=true:=by
 unfold visB;rcases h with h|h|h<;>rw[h]<;>rfl
def compScope{scope:Wl}{x:Mr}(h:cI scope X.env.scope X.N x=true):CompScope X scope x:=by
 unfold cI at h;simp only[IS]at h;let#[#[#[#[#[#[#[#[h1,h2],h3],h4],h5],h6],h7],h8],h9]:=h;have er:(XR scope X.env).names=fo scope X.env.scope:=rfl;refine#[by simpa using h1,λy hy=>?_,λy hy e=>?_,by simpa using h4,λn hn=>?_,λn hn ne v=>?_,λv=>?_,λn hn=>?_,of_decide_eq_true h9]
 .have:=Jg.mp h2 y hy;simpa using this
 .have:=Jg.mp h3 y hy;rw[e]at this;simpa using this
 .have:=Jg.mp h5 _ hn;show X.env.scope.names.lookup n=be .cell;simpa using this
 .have:=Jg.mp h6 n hn;have v':visB (fo scope X.env.scope) n=true:=tH v;rw[v']at this;simp[ne]at this;exact this
 .have v':visB (fo scope X.env.scope) ""=true:=tH v;rw[v']at h7;cases h7
 .have:=Jg.mp h8 _ hn;rw[er];simpa using this
def putD(f:Mr)(v:D):List (Mr×D)->List (Mr×D)
 |[]=>[(f,v)]
 |(g,x)::r=>if g=f then(g,v)::r else(g,x)::putD f v r
def RepF.put{K:Ex}{F:Hp}{f:Mr}{d:D}{v:V}(r:Rep K F d v):∀{fs:List (Mr×D)} {ws:List (Mr×V)},RepF K F fs ws->RepF K F (putD f d fs) (putF f v ws)
 |[],ws,h=>by
  rw[repf_nil.mp h];exact repf_cons.mpr #[v,[],rfl,r,repf_nil.mpr rfl]
 |(g,x)::fs,ws,h=>by
  let#[w,Nu,rfl,h1,h2]:=repf_cons.mp h;unfold putD putF;by_cases e:g=f
  .rw[if_pos e,if_pos e];exact repf_cons.mpr #[v,Nu,rfl,r,h2]
  .rw[if_neg e,if_neg e];exact repf_cons.mpr #[w,_,rfl,h1,RepF.put r h2]
def RepF.length{K:Ex}{F:Hp}:∀{fs:List (Mr×D)} {ws:List (Mr×V)},RepF K F fs ws->ws.length=fs.length
 |[],ws,h=>by rw[repf_nil.mp h];rfl
 |(g,x)::fs,ws,h=>by
  let#[w,Nu,rfl,h1,h2]:=repf_cons.mp h;rw[Iu,Iu,RepF.length h2]
def ClsA(K:Ex)(x f:Mr):Prop:=∃C,nsIn K SL x=be (be (.ref C))/\Cls K C/\NoAttr K C f
section
variable {X:Cx}{a b c e:VV}{ta tb tc te:TD}{pos:V4}
def dFld(x f:Mr)(te:TD):TD:=λz R=>te z λd=>match d with|.obj y fs=>y=x/\∃d,fs.lookup f=be d/\R d|_=>False
variable{x:Mr}
def fq[Jx]{f:Mr}(h:ClsA X.K x f)(he:WDE X e te)(hb:(V1 e f X.env (V3 e X.env)=V3 e X.env)\zA0):WDE X (.Attribute e f pos) (dFld x f te):=⟨(rl he.out hb).anti λs H Q q=>by
 let#[C,hn,hc,hf]:=h;let#[B,F,z,kf,rs,R,h1,h2]:=q;have fh:=kf.fh;refine#[B,F,z,kf,rs,_,h1,λd u F1 H1 g1 hx rx=>?_];split at hx
 .let#[rfl,d,hl,hR]:=hx;let#[a,C',dx,vs,rfl,i9,q,r]:=rep_obj.mp rx;rw[hn]at i9;cases i9;let#[v,l,rv]:=r.look hl;exact#[a,C,dx,vs,v,rfl,g1.fh _ _ q,hc,hf,l,h2 d v F1 H1 g1 hR rv]
 .exact hx.elim⟩
def tI[Jx]{d:D}{v:V}{u:Os}(hm:X.mg x=be u)(r:RelV v u)(rd:∀H,Rep X.K H d v)(hg:Gl X x\zA0)(hd:zND x\zA1):DE X (.Name x pos) (dC d):=de_c (xM hg hm r hd) rd
def fu[Jx]{i:Int}(h:∃t,X.mg x=be (.int i t))(hg:Gl X x\zA0)(hd:zND x\zA1):WDE X (.Name x pos) (dC (.int i)):=⟨by
 let#[t,h]:=h;exact tI (v:=.int i) h #[t,rfl] (λ_=>rep_int.mpr rfl) hg hd⟩
def fv[Jx]{y:Mr}(h:∃t,X.mg x=be (.str y t))(hg:Gl X x\zA0)(hd:zND x\zA1):WDE X (.Name x pos) (dC (.str y)):=⟨by
 let#[t,h]:=h;exact tI (v:=.str y) h #[t,rfl] (λ_=>rep_str.mpr rfl) hg hd⟩
end
abbrev SiD:=List D->(List (Mr×D)->Prop)->Prop
def lSi(K:Ex)(C:Pi)(S:SiD):Sp:=λvs H Q _=>∃a dx us H1 F ds,vs=.ref a::us/\H=upd (upd H1 dx (.own a)) a (.ins C dx [])/\H1 a=z6/\H1 dx=z6/\dx≠a/\Same F H1/\Reps K F ds us/\
 ∃R:List (Mr×D)->Prop,S ds R/\∀fs ws MC F' H',Grow F H1 F' H'->R fs->H' a=be (.ins C MC ws)->F' a=z6->RepF K F' fs ws->Q .non H'
def CalM(P:VU)(w:VX)(K:Ex)(mg:Mr->Option Os)(base:Heap)(n:Nat)(x:Mr)(ps:List Mr)(S:SiD):Prop:=
 ∃C f fd,nsIn K SL x=be (be (.ref C))/\mg x=be (.ref C)/\Mk K C f/\FnOk P w K mg base (Exc.CX1 P w) n f fd ps (lSi K C S)/\Binds K fd ps []
def AK(x:Mr)(S:SiD)(t:TDA):TD:=λz R=>t z λds=>S ds λfs=>R (.obj x fs)
def kA[Jx]{pos:V4}{n m:Nat}{ps:List Mr}{S:SiD}{x:Mr}{p:V4}{e:VV}{es:List VV}{t:TDA}(M:CalM X.prog X.w X.K X.mg X.base n x ps S)(hr:Room m X.A)(ha:WDA X (e::es) t)(hg:Gl X x\zA0)(hn:(n+1<=m)\zA1)(d9:zND x\zA1)
  (he:zSE X e es\zA0) (c8:zPL X pos es\zA0):WDE X (.Call (.Name x p) (e::es) [] pos) (AK x S t):=⟨by
 have ha:=ha.out;let#[C,f,fd,hns,l6,mk,F,hb]:=M;refine(gQ mk F (hr.mono hn) hg l6 hb .nil eU ha d9 he c8).anti λs H Q q=>?_;let#[B,F,z,kf,rs,R,h1,h2]:=q;have fh:=kf.fh;refine#[B,F,z,kf,rs,_,h1,λds vs F1 H1 g1 hx rx=>?_];intro a dx ha t6 k_;refine#[a,dx,vs,H1,F1,ds,by rw[IQ],rfl,ha,t6,k_,g1.fh,rx,_,hx,λfs ws MC F' H' g hR f_ j7 rf=>#[rfl,?_]];have s1:Same F' (upd F' a (.ins C MC ws)):=aN j7 _;refine h2 (.obj x fs) (.ref a) (upd F' a (.ins C MC ws)) H' #[(g1.ff.trans g.ff).trans s1,λb o q=>?_,g1.hh.trans g.hh,λb q1 q2=>?_] hR (rep_obj.mpr #[a,C,MC,ws,rfl,hns,aC,RepF.mono s1 fs ws rf])
 .by_cases hb:b=a
  .subst hb;rw[aC]at q;cases q;exact f_
  .rw[ar hb]at q;exact g.fh b o q
 .by_cases hb:b=a
  .subst hb;exact absurd (g1.hh.free ha) q2
  .rw[ar hb];exact(g1.trans g).out b q1 q2⟩
abbrev TID:=SD->List (Mr×D)->(List (Mr×D)->Prop)->Prop
def lI(K:Ex)[J:Jx](x:Mr)(t:TID):TS:=λE σ H=>∃C a dx ws F z fs,nsIn K SL x=be (be (.ref C))/\σ[0]?=be (be (.ref a))/\H a=be (.ins C dx ws)/\J.B a=z6/\F a=z6/\Kept J.B J.F0 F H/\RepS K J.B F H z σ/\RepF K F fs ws/\
 ∃R:List (Mr×D)->Prop,t z fs R/\∀m8 Nu F' H',Kept J.B J.F0 F' H'->R m8->H' a=be (.ins C dx Nu)->F' a=z6->RepF K F' m8 Nu->E.nx σ H'
abbrev DI(X:Cx)[Jx](x:Mr)(st:List VS)(t:TID):Prop:=PSs X st (lI X.K x t)
structure WDI(X:Cx)[Jx](x:Str)(st:List VS)(t:TID):Prop where
 out:DI X x st t
section
variable {X:Cx}{x f:Mr}{e:VV}{te:TD}{pos d5 p:V4}{rest:List VS}{tr:TID}
def tJ:TID:=λ_ fs R=>R fs
def AL(f:Mr)(te:TD)(tr:TID):TID:=λz fs R=>te z λd=>fs.length<1000/\tr z (putD f d fs) R
def dU[Jx]:WDI X x [] tJ:=⟨pss_nil.anti λE s H q=>by
 let#[C,a,dx,ws,F,z,fs,hn,h0,f_,n9,j7,g,rs,rf,R,hR,k]:=q;exact k fs ws F H g hR f_ j7 rf⟩
def RepS.other{K:Ex}{B F H:Hp}{z:SD}{σ:L2.St}{a:Pi}{o o':HO}(rs:RepS K B F H z σ)(h:H a=be o)(hl:∀vs,o≠.lst vs):RepS K B F (upd H a o') z σ:=
 ⟨rs.len,rs.val,λi ds e=>by
  let#[b,vs,q1,q2,q]:=rs.own i ds e;have ne:b≠a:=by
   rintro rfl;rw[h]at q2;cases q2;exact hl vs rfl
  exact#[b,vs,q1,by rw[ar ne];exact q2,q],rs.apart⟩
def bU[J:Jx]{ps:V4}{sx:Mr}(hA:ClsA X.K x f)(he:WDE X e te)(hr:WDI X x rest tr)(hN:(X.N[0]?=be sx)\zA0)(hv:Vis X.env.scope sx\zA5)(hd:zND sx\zA1)
  (g7:zNC sx\zA1) (hs:(V' e (be (.Attribute (.Name sx ps) f d5)) pos.line X.env=pure false)\zA0):WDI X x (.Assign [.Attribute (.Name sx ps) f d5] e pos::rest) (AL f te tr):=⟨(eK (rn (cN (i:=0) hN hv hd g7) he.out hs) hr.out).anti λE s H q=>by
 let#[C,a,dx,ws,F,z,fs,hn,h0,f_,n9,j7,g,rs,rf,R,hR,k]:=q;let#[C',i9,hc,hf]:=hA;rw[hn]at i9;cases i9;refine#[_,F,z,g,rs,_,hR,λd v F2 H2 g2 hx rv=>?_];have k2:=g.grow g2;have SO:=g2.hh a _ f_;have Mz:F2 a=none:=g2.out a j7 (by rw[f_];exact λz=>nomatch z);refine#[.ref a,h0,a,C,dx,ws,rfl,SO,hc,hf,by rw[rf.length];exact hx.1,?_];have Ug:Same F2 (upd H2 a (.ins C dx (putF f v ws))):=λb o q=>by
  have ne:b≠a:=by rintro rfl;rw[Mz]at q;cases q
  rw[ar ne];exact g2.fh b o q
 have Mj:Same J.B (upd H2 a (.ins C dx (putF f v ws))):=λb o q=>by
  have ne:b≠a:=by rintro rfl;rw[n9]at q;cases q
  rw[ar ne];exact k2.bh b o q
 exact#[C,a,dx,putF f v ws,F2,z,putD f d fs,hn,h0,aC,n9,Mz,#[Mj,Ug,k2.f0,k2.out,k2.eb,k2.jf,k2.jo],(rs.grow g2).other SO (λ_ z=>nomatch z),RepF.put rv (RepF.mono g2.ff fs ws rf),R,hx.2,k]⟩
end
section
variable {P:VU}{w:VX}{K:Ex}{mg:Mr->Option Os}{base:Heap}
def tK{K:Ex}{B F H:Hp}{z:SD}{σ:L2.St}{v:V}(rs:RepS K B F H z σ):RepS K B F H (z6::z) (be v::σ):=
  ⟨by rw[Iu,Iu,rs.len],λi d e no=>by
    cases i with
    |zero=>cases e
    |succ i=>exact rs.val i d e no,λi ds e=>by
    cases i with
    |zero=>cases e
    |succ i=>exact rs.own i ds e,λi j di dj a e1 e2 e3 e4=>by
    cases i with
    |zero=>cases e1
    |succ i=>
      cases j with
      |zero=>cases e2
      |succ j=>rw[rs.apart i j di dj a e1 e2 e3 e4]⟩
def Cls.okI{x qual:Mr}{st:VS}{f C:Pi}{fd:V2}{N:List Mr}{p0:Mr}{ps:List Mr}{k:Nat}{S:SiD}(T:Fun K "__init__" qual st f fd)(hb:Binds K fd (p0::ps) [])(F:FnScope (p0::N) (p0::ps) (ah st))(len:∀ds R,S ds R->ds.length=ps.length)
  (hns:nsIn K SL x=be (be (.ref C))) (l6:mg x=be (.ref C)) (mk:Mk K C f)
  (a9:∀(cdv:Os) (A:VY) (outer:List WD) (s:SB) (H:Hp) (E:XK) (J:Jx),Room k (A.deeper (V7 qual (ah st) s.heap.objs.size f cdv))->
   ∃t,DI (cxOf (Exc.CX1 P w) P w K mg base (p0::N) qual (ah st) f cdv A outer s H E).nox x (aL st) t/\∀ds R,S ds R->t (z6::startD N ds) [] R):CalM P w K mg base (k+1) x (p0::ps) S:=by
 refine#[C,f,fd,hns,l6,mk,Fun.okC T F (λvs H Q E h=>?_) (λcdv A outer s H vs Q E hr h=>?_),hb]
 .let#[a,dx,us,H1,F,ds,rfl,_,_,_,_,_,rs,R,h,_]:=h;rw[Iu,Iu,rs.length,len ds R h]
 .let#[a,dx,us,H1,F1,ds,rfl,rfl,ha,t6,k_,fh,rs,R,h,q]:=h
  letI:Jx:=#[H1,F1,λ_ _ _=>False]
  let#[t,ht,hq]:=a9 cdv A outer s _ E inferInstance hr;have Fa:F1 a=none:=fh.free ha;have hl:L2.start (p0::N) (.ref a::us)=be (.ref a)::L2.start N us:=by
   unfold L2.start;rw[IH,Iu,Iu,Lj];rfl
  have s1:Same H1 (upd (upd H1 dx (.own a)) a (.ins C dx [])):=(aN t6 _).trans (aN (by rw[ar (Ne.symm k_)];exact ha) _);refine#[_,ht.nox,C,a,dx,[],F1,z6::startD N ds,[],hns,by rw[hl];rfl,aC,ha,Fa,#[s1,fh.trans s1,Same.refl F1,λ_ h _=>h,rfl,Same.refl F1,λ_ h _=>h],?_,repf_nil.mpr rfl,R,hq ds R h,λm8 Nu F' H' g hR f_ j7 rf=>q m8 Nu dx F' H' #[g.f0,g.fh,g.bh,g.out] hR f_ j7 rf];rw[hl];exact tK (dQ rs)
end
section
variable {X:Cx}{a b c e:VV}{ta tb tc te:TD}{pos:V4}
def AM(t u:TD):TDI:=λz R=>t z λx=>u z λy=>match x,y with|.int i,.int j=>(-(2^62)<=i/\i<2^62/\-(2^62)<=j/\j<2^62)/\R ((Il (j-i).toNat).map λk=>D.int (i+((k:Nat):Int)))|_,_=>False
def AN[Jx](i:Nat){x:Mr}{p p1 p2:V4}{body:List VS}{SQ:TSD}(hp:Wd (VT X.prog X.w) X.A X.env X.xe)(hc:X.calm=true)(hN:X.N.Nodup)(hm:X.mg "range"=z6)(ha:WDE X a ta)(g9:WDE X b tb)(hb:WDSs X body SQ)(hg:Gl X "range"\zA0)(hi:(X.N[i]?=be x)\zA0)(hx:Loc X.env.scope x\zA4)
  (hf:zFN X x\zA2) (hs:(∀y,zFS X (.Call (.Name "range" p1) [a,b] [] p2) y)\zA3) (v_:zSE X a [b]\zA0) (Qo:zSE X b []\zA0) (i8:(VZ [a,b] X.env=[(false,V3 a X.env),(false,V3 b X.env)])\zA0) (Qp:(VZ [b] X.env=[(false,V3 b X.env)])\zA0):WDS X (.For (.Name x p) (.Call (.Name "range" p1) [a,b] [] p2) body [] pos) (dFor i (AM ta tb) SQ):=⟨have g9:=g9.out;(cO hp hc (yh hg hm (bv ha.out (bv g9 pa_nil Qo) v_) i8 Qp) (dO hN hi hx hf) hb.out hs).anti λE s H q=>by
 let#[B,F0,F,z,kp,rs,ED,h,e]:=q;refine#[B,F,z,kp.kf,rs,_,h,λd1 v1 F1 H1 g1 h1 r1=>?_];refine#[B,F1,z,kp.kf.grow g1,rs.grow g1,_,h1,λd2 v2 F2 H2 g2 h2 r2=>?_];split at h2
 .rename_i lo j9;let#[bd,W,w0,d6,out]:=h2;have hl:((Il (j9-lo).toNat).map λk=>D.int (lo+((k:Nat):Int))).length=(j9-lo).toNat:=by simp
  refine#[lo,j9,by rw[rep_int.mp r1,rep_int.mp r2],bd,jz (lo:=lo) (n:=(j9-lo).toNat) (λk s' H'=>∃F' z',Kept B F0 F' H'/\RepS X.K B F' H' z' s'/\W k z') #[F2,z,(kp.grow g1).grow g2,(rs.grow g1).grow g2,w0] ?_ ?_]
  .rintro k s' H' hk⟨F',z',k',r',w'⟩;exact#[B,F0,F',_,k',r'.set (d:=.int (lo+(k:Int))) (rep_int.mpr rfl),_,d6 k (.int (lo+(k:Int))) z' (by simp[hk]) w',#[λz3 s3 F3 H3 k3 h3 r3=>#[F3,z3,k3,r3,h3],e.rt,e.nx,λz3 s3 F3 H3 k3 h3 r3=>#[F3,z3,k3,r3,h3]]]
  .rintro s' H'⟨F',z',k',r',w'⟩;exact e.nx z' s' F' H' k' (out z' (by rw[hl];exact w')) r'
 .exact h2.elim⟩
def RepS.change[Jx]{K:Ex}{B F0 F H:Hp}{z:SD}{s:L2.St}{i:Nat}{ds Qq:List D}{a:Pi}{n_:List V}(rs:RepS K B F H z s)(k:Kept B F0 F H)(ez:z[i]?=be (be (.own ds)))(q1:s[i]?=be (be (.ref a)))(hB:B a=z6)(hF:F a=z6)(r:Reps K F Qq n_):
  Kept B F0 F (upd H a (.lst n_))/\RepS K B F (upd H a (.lst n_)) (z.set i (be (.own Qq))) s:=by
 have same:∀{G:Hp},G a=z6->Same G H->Same G (upd H a (.lst n_)):=λ{G} ga gs b o eb=>by
  have ne:b≠a:=λz=>by rw[z,ga]at eb;cases eb
  rw[ar ne];exact gs b o eb
 have r2:=rs.setOwn (i:=i) (a:=a) (vs:=n_) (ds:=Qq) hB hF r (λj dj hj e1 e2=>hj (rs.apart j i dj ds a e1 ez e2 q1));have es:s.set i (be (.ref a))=s:=by
  apply JB;intro n;by_cases hn:i=n
  .subst hn;rw[IZ (IB.mp q1).1,q1]
  .rw[Iz hn]
 rw[es]at r2;exact#[#[same hB k.bh,same hF k.fh,k.f0,k.out,k.eb,k.jf,k.jo],r2]
def Reps.put{K:Ex}{F:Hp}{d:D}{v:V}(r:Rep K F d v):∀{ds:List D} {vs:List V} (j:Nat),Reps K F ds vs->Reps K F (ds.set j d) (vs.set j v)
 |[],vs,j,h=>by rw[reps_nil.mp h];exact reps_nil.mpr rfl
 |x::ds,vs,0,h=>by
  let#[u,us,rfl,h1,h2]:=reps_cons.mp h;exact reps_cons.mpr #[v,us,rfl,r,h2]
 |x::ds,vs,j+1,h=>by
  let#[u,us,rfl,h1,h2]:=reps_cons.mp h;exact reps_cons.mpr #[u,_,rfl,h1,Reps.put r j h2]
def tL(i:Nat)(te ti:TD):TSD:=λE z=>match z[i]? with
 |some (be (.own ds))=>te z λd=>ti z λy=>match y with|.int k=>∃j,ixN ds.length k=be j/\E.nx (z.set i (be (.own (ds.set j d))))|_=>False
 |_=>False
def kB[Jx](i:Nat){x:Mr}{p1 p2:V4}(he:WDE X e te)(hb:WDE X b tb)(hN:(X.N[i]?=be x)\zA0)(hv:Vis X.env.scope x\zA5)(hd:zND x\zA1)
  (g7:zNC x\zA1)
  (ha:∀v,Wu (.Subscript (.Name x p1) b p2) X.env v=(do
   let ov <-Wk [v] (V3 (.Name x p1) X.env)
   let iv <-Wk [v,ov] (V3 b X.env)
   WC p2
   Wk [v,ov,iv] (Xk ov iv v)
   XQ [v,ov,iv] []):=by intro _;rfl)
  (hs:(Wn [.Subscript (.Name x p1) b p2] e pos.line X.env=pure false)\zA0) (hw:(Wo [.Subscript (.Name x p1) b p2] e X.env=pure none)\zA0)
  (h1:((V0 [.Subscript (.Name x p1) b p2] X.env).map (·.2)=[Wu (.Subscript (.Name x p1) b p2) X.env])\zA0):WDS X (.Assign [.Subscript (.Name x p1) b p2] e pos) (tL i te tb):=⟨(gL he.out (xY (cN hN hv hd g7) hb.out rM ha) hs hw h1).anti λE s H q=>by
 let#[B,F0,F,z,k,rs,ED,h,e]:=q;unfold tL at h;split at h
 .rename_i ds ez;refine#[B,F,z,k.kf,rs,_,h,λd v F1 H1 g1 hx rv=>?_];let#[a,vs,q1,q2,q3,q4,q5]:=(rs.grow g1).own i ds ez;refine#[.ref a,q1,B,F1,z,k.kf.grow g1,rs.grow g1,_,hx,λy w F2 H2 g2 hy ry=>?_];split at hy
  .let#[j,ej,hn]:=hy;have r2:=(rs.grow g1).grow g2;have k2:=(k.grow g1).grow g2;have Mz:F2 a=none:=g2.out a q4 (by rw[q2];exact λz=>nomatch z);refine#[a,vs,_,j,rfl,rep_int.mp ry,g2.hh _ _ q2,by rw[q5.length];exact ej,?_];let#[k3,r3]:=r2.change k2 ez q1 q3 Mz (Reps.put (rv.mono g2.ff) j (q5.mono g2.ff));exact e.nx _ s F2 _ k3 hn r3
  .exact hy.elim
 .exact h.elim⟩
end
end My
namespace My
open Exc
abbrev XD:=Mr->List (Mr×D)->Prop
def ErrD(K:Ex)(F:Hp)(x:Mr)(fs:List (Mr×D))(C:Pi)(od:Option Pi):Prop:=
 nsIn K SL x=be (be (.ref C))/\∃vs,RepF K F fs vs/\((od=z6/\vs=[])\/∃b,od=be b/\F b=be (.xd vs))
abbrev SpX:=List D->(D->Prop)->XD->Prop
def lSpX(K:Ex)(S:SpX):Sp:=λvs H Q E=>∃F ds,Same F H/\Reps K F ds vs/\∃(R:D->Prop) (RX:XD),S ds R RX/\(∀d v F' H',Grow F H F' H'->R d->Rep K F' d v->Q v H')/\
 ∀x fs C od F' H',Grow F H F' H'->RX x fs->ErrD K F' x fs C od->E (.ref C) od H'
def Exd(X:Cx)(H:Hp)(s:SB)(e C:Pi)(od:Option Pi):Prop:=
  H e=z6/\X.s₀.heap.get? e=z6/\(∀p∈X.pn,p.1≠e)/\
  ((∃sl vs,s.heap.get? e=be #[.ref C,od,.fields vs,sl]/\vs[1]?=be .none)\/
    ∃T fl,ExAt s.heap e C od T fl/\X.s₀.heap.get? T=z6/\H T=z6/\∀p∈X.pn,p.1≠T)
def XOk(X:Cx)[J:Jx]:Prop:=∀(σ:L2.St) (z:SD) (F H:Hp) (s:SB) (e C:Pi) (od:Option Pi) (x:Mr) (fs:List (Mr×D)),Inv X [] σ H s->Kept J.B J.F0 F H->RepS X.K J.B F H z σ->J.RX z x fs->ErrD X.K F x fs C od->Exd X H s e C od->X.xe (.ref e) s
variable{X:Cx}{pins:List (Pi×Wa)}{σ:L2.St}{H:Hp}{s:SB}
def Inv.nopins(I:Inv X pins σ H s):Inv X [] σ H s:=I.pins_of λp hp=>by cases hp
section
variable {X:Cx}{k:Nat}{f:Pi}{fd:V2}{ps:List Mr}{sp:Sp}{E:XK}
def ia{pins:List (Pi×Wa)}{σ:L2.St}{H:Hp}{s:SB}{Q:VK}{us:List Os}{vs:List V}(F:FnOk X.prog X.w X.K X.mg X.base (CX1 X.prog X.w) k f fd ps sp)(hr:Room k X.A)(hb:Binds X.K fd ps [])
  (hx:∀e s',CX1 X.prog X.w X.stack H s E e s'->X.xe e s') (I:Inv X pins σ H s) (r:Vals vs us) (h:sp vs H Q E):VW (VT X.prog X.w) X.A (call (.ref f) us) (EP X pins σ Q) X.xe s:=by
 have hl:us.length=ps.length:=by rw[<-L2.Vals.length r];exact F.len _ _ _ _ h
 have g9:=hb s us I.kIn (by rw[IQ];exact hl);rw[IQ]at g9;refine Wt (Wr (F.run X.A X.stack s H #[us,[]] us vs Q E hr I.env0 g9 r h) λr s' hq=>?_);cases r with
 |error e=>exact hx e s' hq
 |ok fl=>
  cases fl with
  |ret u=>exact I.after hq
  |next=>exact False.elim hq
  |brk=>exact False.elim hq
  |cont=>exact False.elim hq
end
variable{b:Pi}
def ex_free(I:Inv X pins σ H s)(f7:X.ex=[])(q:s.heap.get? b=z6):X.s₀.heap.get? b=none:=by
 cases z:X.s₀.heap.get? b with
 |none=>rfl
 |some o=>
  let#[o',z']:=I.base.there b o z (by rw[f7];simp);rw[q]at z';cases z'
def pn_free(I:Inv X pins σ H s)(q:s.heap.get? b=z6):∀p∈X.pn,p.1≠b:=λp hp z=>by
 have:=(I.pin p (Jk _ hp)).1;rw[z,q]at this;cases this
def XOk.out[J:Jx](hx:XOk X)(f7:X.ex=[]){z:SD}{s':SB}{ev:Os}(I:Inv X pins σ H s)
  (h:CX1 X.prog X.w X.stack H s (λCv od H'=>∃x fs C F',Cv=.ref C/\Kept J.B J.F0 F' H'/\RepS X.K J.B F' H' z σ/\J.RX z x fs/\ErrD X.K F' x fs C od) ev s'):X.xe ev s':=by
 let#[e,C,od,T,H',rfl,Mt,hb,un,hok,Qr,ne,nT,He,HT,x,fs,C',F',hC,kk,rr,hR,er]:=h;cases hC;have I':Inv X pins σ H' s':=I.call' Mt un hok hb (λb z=>absurd z Nq);exact hx σ z F' H' s' e C od x fs (Inv.nopins I') kk rr hR er #[He,ex_free I f7 ne,pn_free I ne,.inr #[T,.none,Qr,ex_free I f7 nT,HT,pn_free I nT]]
abbrev CalX(P:VU)(w:VX)(K:Ex)(mg:Mr->Option Os)(base:Heap)(n:Nat)(x:Mr)(ps:List Mr)(S:SpX):Prop:=Cal P w K mg base n x ps (lSpX K S)
def AO[J:Jx](S:SpX)(t:TDA):TD:=λz R=>t z λds=>S ds R (J.RX z)
variable{ps:List Mr}{x:Mr}
def tM[J:Jx]{pos:V4}{n m:Nat}{S:SpX}{p:V4}{e:VV}{es:List VV}{t:TDA}(C:CalX X.prog X.w X.K X.mg X.base n x ps S)(hx:XOk X)(hr:Room m X.A)(ha:WDA X (e::es) t)(f7:(X.ex=[])\zA0)(hg:Gl X x\zA0)(hn:(n<=m)\zA1)(d9:zND x\zA1)
  (he:zSE X e es\zA0) (c8:zPL X pos es\zA0):WDE X (.Call (.Name x p) (e::es) [] pos) (AO S t):=⟨by
 have ha:=ha.out;let#[f,fd,F,hb,hk,hm]:=C;intro pins s σ H Q I h;let#[B,Fr,z,kf,rs,R,h1,h2]:=h;obtain rfl:B=J.B:=kf.eb;refine V5 (cz I hg hm ?_ d9);refine callWith_K (h₀:=X.base) I.ok.mod.kin hk (thn (ha pos pins s σ H (λvs H1=>lSpX X.K S vs H1 Q (λCv od H'=>∃x fs C F',Cv=.ref C/\Kept J.B J.F0 F' H'/\RepS X.K J.B F' H' z σ/\J.RX z x fs/\ErrD X.K F' x fs C od)) I #[_,Fr,z,kf,rs,_,h1,λds vs F1 H1 g1 hx rx=>?_]) λus s1 ⟨vs,H1,I1,r,q⟩=>#[I1.kIn,?_]) he c8
 .exact#[F1,ds,g1.fh,rx,R,J.RX z,hx,λd v F' H' g=>h2 d v F' H' (g1.trans g),λx fs C od F' H' g hR er=>#[x,fs,C,F',rfl,(kf.grow g1).grow g,(rs.grow g1).grow g,hR,er]]
 .exact ia F (hr.mono hn) hb (λe s' hq=>hx.out f7 I1 hq) I1 r q⟩
section
variable {P:VU}{w:VX}{K:Ex}{mg:Mr->Option Os}{base:Heap}
variable{N:List Mr}
def tN{qual:Mr}{scope:Wl}{f:Pi}{cd:Os}{A:VY}{outer:List WD}{s:SB}{H:Hp}{E':XK}{pins:List (Pi×Wa)}{σ:L2.St}{H':Hp}{s':SB}{e C T:Pi}{od:Option Pi}{fl:Os}
  (I':Inv (cxOf (CX1 P w) P w K mg base N qual scope f cd A outer s H E') pins σ H' s') (hx:ExAt s'.heap e C od T fl) (ne:s.heap.get? e=z6) (nT:s.heap.get? T=z6) (He:H' e=z6) (HT:H' T=z6) (hE:E' (.ref C) od H'):
  (cxOf (CX1 P w) P w K mg base N qual scope f cd A outer s H E').xe (.ref e) s':=by
 show VW _ _ (Xm _ _) _ _ _;unfold Xm;refine P3 (rY I'.ok.frames I'.stack rfl hx λh2 T2 p9 Mh v5=>fQ (s:={s' with heap:=h2}) p9 λh3 OB Mf=>?_);have f1:∀b,s'.heap.get? b=z6->s.heap.get? b=none:=λb q=>ex_free I' rfl q;have hok:HOk P w H' s'.heap:=I'.hok;have q2:s.heap.get? T2=z6/\H' T2=none:=Mh.elim (λz=>by rw[z];exact#[nT,HT]) λz=>#[f1 _ (Heap.get?_none_of_le z),hok.fresh z];have Uh:∀b∈[T,e],s.heap.get? b=none:=λb hb=>by
  rcases Ik.mp hb with z|z
  .rw[z];exact nT
  .rw[Ih.mp z];exact ne
 have u2:Un (frs outer) [] H H' s.heap h2:=gU (show Un (frs outer) [] H H' s.heap s'.heap from I'.base) v5 Uh λb hb=>rZ hb;have u3:Un (frs outer) [] H H' s.heap h3:=gU u2 Mf (λb hb=>by rw[Ih.mp hb];exact q2.1) λb hb=>by cases hb
 have k2:=fR hok v5 (λb hb=>I'.stkFree b hb) (λb hb=>by
  rcases Ik.mp hb with z|z
  .rw[z];exact HT
  .rw[Ih.mp z];exact He)
 have k3:=fR k2 Mf (λb hb=>by cases hb) (λb hb=>by rw[Ih.mp hb];exact q2.2);exact#[e,C,od,T2,H',rfl,I'.os,I'.bare,u3,k3,OB,ne,q2.1,He,q2.2,hE]
variable{ps:List Mr}
def _root_.L2.Fun.okX{x:Mr}{st:VS}{f:Pi}{fd:V2}{k:Nat}{S:SpX}(T:Fun K x x st f fd)(F:FnScope N ps (ah st))(len:∀ds R RX,S ds R RX->ds.length=ps.length)
  (a9:∀(cdv:Os) (A:VY) (outer:List WD) (s:SB) (H:Hp) (E:XK) (J:Jx),Room k (A.deeper (V7 x (ah st) s.heap.objs.size f cdv))->XOk (cxOf (CX1 P w) P w K mg base N x (ah st) f cdv A outer s H E)->
   ∃t,DSs (cxOf (CX1 P w) P w K mg base N x (ah st) f cdv A outer s H E) (aL st) t/\∀ds R RX,(∀z,J.RX z=RX)->S ds R RX->t {nx:=λ_=>R .non,rt:=R} (startD N ds)):FnOk P w K mg base (CX1 P w) (k+1) f fd ps (lSpX K S):=by
 refine Fun.okC T F (λvs H Q E h=>?_) (λcdv A outer s H vs Q E hr h=>?_)
 .let#[F,ds,fh,rs,R,RX,h,_]:=h;rw[rs.length];exact len ds R RX h
 .let#[F,ds,fh,rs,R,RX,h,q,qx]:=h
  letI:Jx:=#[H,F,λ_=>RX]
  have hx:XOk (cxOf (CX1 P w) P w K mg base N x (ah st) f cdv A outer s H E):=by
   intro σ z F' H' s' e C od y fs I kk rr hR er ⟨He,ne,_,hx⟩;have hE:E (.ref C) od H':=qx y fs C od F' H' #[kk.f0,kk.fh,kk.bh,kk.out] hR er;rcases hx with⟨sl,vs,h1,h2⟩|⟨T,fl,h1,h2,h3,_⟩
   .exact se I h1 h2 He ne hE
   .exact tN I h1 ne h2 He h3 hE
  let#[t,ht,hq]:=a9 cdv A outer s H E inferInstance hr hx;refine#[_,ht,H,F,F,startD N ds,#[Same.refl H,fh,Same.refl F,λ_ h _=>h,rfl,Same.refl F,λ_ h _=>h],dQ rs,_,hq ds R RX (λ_=>rfl) h,#[λz' s' F' H' k hn _=>q _ _ F' H' #[k.f0,k.fh,k.bh,k.out] hn (rep_non.mpr rfl),λd v F' H' k hd rd=>q d v F' H' #[k.f0,k.fh,k.bh,k.out] hd rd,λ_ _ _ _ _ h _=>h.elim,λ_ _ _ _ _ h _=>h.elim]]
def Tx.okX{x:Mr}{st:VS}{k:Nat}{S:SpX}(T:Tx K mg x st ps)(F:FnScope N ps (ah st))(len:∀ds R RX,S ds R RX->ds.length=ps.length)
  (a9:∀(f:Pi) (cdv:Os) (A:VY) (outer:List WD) (s:SB) (H:Hp) (E:XK) (J:Jx),Room k (A.deeper (V7 x (ah st) s.heap.objs.size f cdv))->XOk (cxOf (CX1 P w) P w K mg base N x (ah st) f cdv A outer s H E)->
   ∃t,DSs (cxOf (CX1 P w) P w K mg base N x (ah st) f cdv A outer s H E) (aL st) t/\∀ds R RX,(∀z,J.RX z=RX)->S ds R RX->t {nx:=λ_=>R .non,rt:=R} (startD N ds)):CalX P w K mg base (k+1) x ps S:=by
 let#[f,fd,T,hb,hm]:=T;exact#[f,fd,T.okX F len λcdv A outer s H E J hr hx=>a9 f cdv A outer s H E J hr hx,hb,T.kp,hm]
end
variable{P:VU}{w:VX}{h:Heap}
def ObjOk.there{a:Pi}{o:HO}(x:ObjOk P w H h a o):∃u,h.get? a=be u:=by
 cases o with
 |lst xs=>let#[_,_,_,_,e]:=x;exact#[_,e]
 |tup xs=>let#[_,_,_,o,e,_]:=x;exact#[_,e]
 |dK a_=>let#[_,_,_,_,o,_,_,e,_]:=x;exact#[_,e]
 |dT a_=>let#[_,_,_,_,o,_,_,e,_]:=x;exact#[_,e]
 |set S n=>let#[o,_,_,_,e,_]:=x;exact#[_,e]
 |ins C dx fs=>let#[_,_,_,e,_]:=x;exact#[_,e]
 |own y=>exact x
 |xd fs=>let#[_,#[_,_,_,e,_],_]:=x;exact#[_,e]
 |rng lo hi=>let#[_,_,_,e]:=x;exact#[_,e]
 |frz ob u=>let#[e,_]:=x;exact#[_,e]
 |tbl ps=>exact#[_,(show h.get? a=be _ from x)]
 |met f y=>exact#[_,(show h.get? a=be _ from x)]
 |ext φ=>let#[_,e,_]:=x;exact e
def fZ{a:Pi}(x:HOk P w H h)(e:h.get? a=z6):H a=none:=by
 cases q:H a with
 |none=>rfl
 |some o=>
  let#[u,hu]:=ObjOk.there (x a o q);rw[e]at hu;cases hu
def del(H:Hp)(a:Pi):Hp:=λb=>if b=a then z6 else H b
def gc{a:Pi}:del H a a=none:=by unfold del;rw[if_pos rfl]
def cv{a:Pi}(h:b≠a):del H a b=H b:=by unfold del;rw[if_neg h]
section
variable {X:Cx}{pins:List (Pi×Wa)}{σ:L2.St}{H:Hp}{s:SB}{e:Pi}
variable{φ:Heap->Prop}
def Inv.drop(I:Inv X pins σ H s)(h:H e=be (.ext φ))(ne:X.s₀.heap.get? e=z6):Inv X pins σ (del H e) s:=by
 have nx:∀b o,H b=be o->(∀φ,o≠.ext φ)->b≠e:=λb o q n z=>by rw[z,h]at q;cases q;exact n φ rfl
 refine#[I.ok,I.os,I.bare,#[I.base.keep,I.base.slot,λb o q n hx=>?_,I.base.there,λb xs q=>?_,λb o u q=>?_,λb ps q=>?_],I.loc,I.cell,?_,λx c q=>?_,λp hp=>?_,λa o q=>?_,I.len]
 .have:b≠e:=λz=>by rw[z,ne]at q;cases q
  rw[cv this];exact I.base.free b o q n hx
 .have:=I.base.tups b xs q;rw[cv (nx b _ this λφ z=>nomatch z)];exact this
 .have:=I.base.frzs b o u q;rw[cv (nx b _ this λφ z=>nomatch z)];exact this
 .let#[m,this]:=I.base.tbls b ps q;exact#[m,by rw[cv (nx b _ this λφ z=>nomatch z)];exact this]
 .by_cases z:X.env.locals=e
  .rw[z];exact gc
  .rw[cv z];exact I.free
 .by_cases z:c=e
  .rw[z];exact gc
  .rw[cv z];exact I.freeC x c q
 .let#[h1,h2,h3]:=I.pin p hp;refine#[h1,?_,h3];by_cases z:p.1=e
  .rw[z];exact gc
  .rw[cv z];exact h2
 .by_cases z:a=e
  .rw[z,gc]at q;cases q
  .rw[cv z]at q;exact(I.hok a o q).stay (λb u _ r=>r) (λb r=>by rw[cv (nx b _ r λφ z=>nomatch z)];exact r) λb xs r=>by rw[cv (nx b _ r λφ z=>nomatch z)];exact r
def Inv.adopt(I:Inv X pins σ H s)(He:H e=z6)(ok:ObjOk X.prog X.w H s.heap e (.ext φ))(ne:X.s₀.heap.get? e=z6)(hl:e≠X.env.locals)(hc:∀x c,X.env.cells.lookup x=be c->c≠e)(hp:∀p∈X.pn++pins,p.1≠e):Inv X pins σ (upd H e (.ext φ)) s:=by
 refine#[I.ok,I.os,I.bare,#[I.base.keep,I.base.slot,λb o q n hx=>?_,I.base.there,λb xs q=>?_,λb o u q=>?_,λb ps q=>?_],I.loc,I.cell,?_,λx c q=>?_,λp NR=>?_,λa o q=>?_,I.len]
 .have:b≠e:=λz=>by rw[z,ne]at q;cases q
  rw[ar this];exact I.base.free b o q n hx
 .have:=I.base.tups b xs q;rw[ar (bM this He)];exact this
 .have:=I.base.frzs b o u q;rw[ar (bM this He)];exact this
 .let#[m,this]:=I.base.tbls b ps q;exact#[m,by rw[ar (bM this He)];exact this]
 .rw[ar (Ne.symm hl)];exact I.free
 .rw[ar (hc x c q)];exact I.freeC x c q
 .let#[h1,h2,h3]:=I.pin p NR;refine#[h1,?_,h3];rw[ar (hp p NR)];exact h2
 .by_cases z:a=e
  .rw[z,aC]at q;cases q;rw[z];exact ok
  .rw[ar z]at q;exact(I.hok a o q).stay (λb u _ r=>r) (λb r=>by rw[ar (bM r He)];exact r) λb xs r=>by rw[ar (bM r He)];exact r
end
structure ErrK(K:Ex)(mg:Str->Option Os)(x:Str)(C N:Pi)(bm:List Os):Prop where
 ns:nsIn K SL x=be (be (.ref C))
 mg:mg x=be (.ref C)
 kp:keepIn K (.ref C)=true
 obj:∃nm q bs sn sub ab col dd k0 k1 k2 k3 k5,K.lookup C=be (We nm q C N bs bm true sn sub ab col dd k0 k1 k2 k3 k5 "ValueError.__new__")
 tail:tailIn K veLine bm=true
structure ErrN(K:Ex)(N:Pi):Prop where
 ok:nsOkIn K N=true
 no:nsIn K N "__init__"=be z6
def kC{K:Ex}:∀{l:List Os},tailIn K veLine l=true->aO l=true
 |[],e=>by simp[tailIn,veLine]at e
 |v::r,e=>by
  unfold tailIn at e;rcases Lk.mp e with q|q
  .rw[beq_iff_eq.mp q];decide+kernel
  .split at q
   .split at q
    .simp only[IS,beq_iff_eq]at q;unfold aO;exact kC q.2
    .cases q
   .cases q
variable{K:Ex}{mg:Mr->Option Os}{C N:Pi}{bm:List Os}
def ErrK.base(k:ErrK K mg x C N bm):bm.contains (.type "BaseException")=true:=eQ Nn (kC k.tail)
section
variable {X:Cx}[J:Jx]{x:Mr}{C N:Pi}{bm:List Os}{e:VV}{es:List VV}{t:TDA}{p a8 pos:V4}
def AQ(x:Mr)(t:TDA):TSD:=λ_ z=>t z λds=>ds.length<=1000/\J.RX z x []
def AR(h:∃C N bm,ErrK X.K X.mg x C N bm/\ErrN X.K N)(hx:XOk X)(hc:X.calm=true)(ha:WDA X (e::es) t)(f7:(X.ex=[])\zA0)(hg:Gl X x\zA0)(d9:zND x\zA1)
  (he:zSE X e es\zA0) (c8:zPL X a8 es\zA0):WDS X (.Raise (be (.Call (.Name x p) (e::es) [] a8)) z6 pos) (AQ x t):=⟨by
 have ha:=ha.out;let#[C,N,bm,k,kn]:=h;intro pins s σ H D I h;let#[B,F0,F,z,kf,rs,ED,h,ee]:=h;obtain rfl:B=J.B:=kf.eb;let#[nm,q,bs,sn,sub,ab,col,dd,k0,k1,k2,k3,k5,lk]:=k.obj;refine jP (nm:=nm) (q:=q) (C:=C) (N:=N) (bs:=bs) (bm:=bm) (hdct:=true) (sn:=sn) (sub:=sub) (ab:=ab) (col:=col) (dd:=dd) (k0:=k0) (k1:=k1) (k2:=k2) (k3:=k3) (k5:=k5) (newId:="ValueError.__new__") k.base (I.ok.hd hc) ?_;refine V5 (cz I hg k.mg ?_ d9);refine callWith_K (h₀:=X.base) I.ok.mod.kin k.kp (thn (ha a8 pins s σ H (λvs H1=>∃F1,vs.length<=1000/\Grow F H F1 H1/\J.RX z x []) I #[_,F,z,kf.kf,rs,_,h,λds vs F1 H1 g1 hx rx=>#[F1,by rw[rx.length];exact hx.1,g1,hx.2]]) λus s1 hh=>#[hh.elim λ_ h=>h.elim λ_ h=>h.1.kIn,?_]) he c8;let#[vs,H1,I1,r,F1,hl,g1,hR]:=hh;have hC:=I1.kIn _ _ lk;let#[hp,gg,dr,tk,os]:=s1;refine XA PySem.F.excBase_ValueError (tail_of_in I1.kIn k.tail) hC (.of_isNs (isNs_of_in I1.kIn kn.ok)) (nsMap_none_of_in I1.kIn kn.ok kn.no) (λh' ea hm=>?_) (by show us.length<=_;rw[<-L2.Vals.length r];exact sz hl);let#[ta,h1,h2,h3]:=hm.there;have I2:Inv X pins σ H1 #[h',gg,dr,tk,os]:=I1.kept (t':=tk) hm.keeps;refine#[ea,ta,z6,[].toArray,rfl,hm.keeps _ _ hC,h1,?_];exact hx σ z F1 H1 _ ea C z6 x [] (Inv.nopins I2) (kf.kf.grow g1) (rs.grow g1) hR #[k.ns,[],repf_nil.mpr rfl,.inl #[rfl,rfl]] #[fZ I1.hok hm.new,ex_free I1 f7 hm.new,pn_free I1 hm.new,.inl #[[].toArray,_,h1,rfl]]⟩
end
def XN(e C:Pi)(od:Option Pi):HO:=.ext λh=>∃t sl,h.get? e=be #[.ref C,od,.fields [.ref t,.none,.none,.none,.bool false,.none].toArray,sl]
variable{e:Pi}{od:Option Pi}{sl:Array (Option Os)}
def XN.ok{t:Pi}(q:h.get? e=be #[.ref C,od,.fields [.ref t,.none,.none,.none,.bool false,.none].toArray,sl]):ObjOk P w H h e (XN e C od):=
 #[#[t,sl,q],#[_,q],λh1 h2 ⟨t,sl,q⟩ k=>#[t,sl,k _ q]]
def XN.get(x:HOk P w H h)(q:H e=be (XN e C od)):∃t sl,h.get? e=be #[.ref C,od,.fields [.ref t,.none,.none,.none,.bool false,.none].toArray,sl]:=(x e _ q).1
def ErrF(K:Ex)(F:Hp)(fs:List (Mr×D))(od:Option Pi):Prop:=∃vs,RepF K F fs vs/\((od=z6/\vs=[])\/∃b,od=be b/\F b=be (.xd vs))
def lEi(K:Ex)(C:Pi)(S:SiD):Sp:=λvs H Q _=>∃e us H1 F ds,vs=.ref e::us/\H=upd H1 e (XN e C z6)/\H1 e=z6/\Same F H1/\Reps K F ds us/\
 ∃R:List (Mr×D)->Prop,S ds R/\∀fs od F' H',Grow F H1 F' H'->R fs->H' e=be (XN e C od)->F' e=z6->ErrF K F' fs od->Q .non H'
def CalE(P:VU)(w:VX)(K:Ex)(mg:Mr->Option Os)(base:Heap)(n:Nat)(x:Mr)(ps:List Mr)(S:SiD):Prop:=
 ∃C N bm f fd,ErrK K mg x C N bm/\Iq K (.ref C) "__init__"=be (be (.ref f))/\isFn K (.ref f)=true/\FnOk P w K mg base (CX1 P w) n f fd ps (lEi K C S)/\Binds K fd ps []
section
variable {X:Cx}{pins:List (Pi×Wa)}{σ:L2.St}{H:Hp}{s:SB}{e:Pi}
def Inv.newx{C:Pi}{h':Heap}{us:List Os}(I:Inv X pins σ H s)(f7:X.ex=[])(hm:Heap.MadeExcOf s.heap h' e (.ref C) us):Inv X pins σ (upd H e (XN e C z6)) {s with heap:=h'}:=by
 let#[ta,h1,h2,h3]:=hm.there;have I2:Inv X pins σ H {s with heap:=h'}:=I.kept (t':=s.toks) hm.keeps;refine Inv.adopt I2 (fZ I.hok hm.new) (XN.ok h1) (ex_free I f7 hm.new) (λz=>?_) (λx c q z=>?_) λp hp z=>?_
 .let#[m,#[o,_,_,ho,_],_]:=I.loc;rw[<-z,hm.new]at ho;cases ho
 .let#[v,o,ho,_]:=I.cell x c q;rw[z,hm.new]at ho;cases ho
 .have:=(I.pin p hp).1;rw[z,hm.new]at this;cases this
end
structure BaseK(K:Ex)(mg:Str->Option Os)(y:Str)(M:Pi):Prop where
 mg:mg y=be (.ref M)
 rd:readsIn K M (.type "type")=true
 fc:findCls K (.ref M) (.type "type") "__init__"=be (.val (.builtin "ValueError.__init__"))
 sp:specialIn K (.ref M) "__getattribute__"=be (be (.builtin "type.__getattribute__"))
structure ErrA(K:Ex)(x:Str)(C:Pi)(cd:Xh):Prop where
 ns:nsIn K SL x=be (be (.ref C))
 cl:KD K C=be cd
 mro:aO cd.mro=true
 hd:cd.hasDict=true
 sa:Iq K (.ref C) "__setattr__"=be (be (.builtin "object.__setattr__"))
def ErrK.a(k:ErrK K mg x C N bm)(sa:Iq K (.ref C) "__setattr__"=be (be (.builtin "object.__setattr__"))):∃cd,ErrA K x C cd:=by
 let#[nm,q,bs,sn,sub,ab,col,dd,k0,k1,k2,k3,k5,lk]:=k.obj;exact⟨_,k.ns,by unfold KD;rw[lk],by
  show aO (.ref C::bm)=true;unfold aO;exact kC k.tail,rfl,sa⟩
def lX(K:Ex)[J:Jx](x:Mr)(t:TID):TS:=λE σ H=>∃C e od ws F z fs,nsIn K SL x=be (be (.ref C))/\σ[0]?=be (be (.ref e))/\H e=be (XN e C od)/\J.B e=z6/\F e=z6/\Kept J.B J.F0 F H/\RepS K J.B F H z σ/\RepF K F fs ws/\
 ((od=z6/\ws=[])\/∃b,od=be b/\H b=be (.xd ws)/\J.B b=z6/\F b=z6/\b≠e/\ws≠[])/\
 ∃R:List (Mr×D)->Prop,t z fs R/\∀m8 Px F' H',Kept J.B J.F0 F' H'->R m8->H' e=be (XN e C Px)->F' e=z6->ErrF K F' m8 Px->E.nx σ H'
abbrev DX(X:Cx)[Jx](x:Mr)(st:List VS)(t:TID):Prop:=PSs X st (lX X.K x t)
structure WDX(X:Cx)[Jx](x:Str)(st:List VS)(t:TID):Prop where
 out:DX X x st t
def tO{a:Pi}{o:HO}(h:H a=be o):upd H a o=H:=by
 funext b;unfold upd;by_cases q:b=a
 .rw[if_pos q,q,h]
 .rw[if_neg q]
section
variable {X:Cx}[J:Jx]{x f:Mr}{e:VV}{te:TD}{ta:TDA}{pos d5 p:V4}{rest:List VS}{tr:TID}
def kD:WDX X x [] tJ:=⟨pss_nil.anti λE s H q=>by
 let#[C,a,od,ws,F,z,fs,hn,h0,f_,hB,j7,k,rs,rf,hd,R,hR,kk]:=q;rcases hd with⟨rfl,rfl⟩|⟨b,rfl,hb,Py,Nv,ne,_⟩
 .exact kk fs z6 F H k hR f_ j7 #[[],rf,.inl #[rfl,rfl]]
 .have s1:Same F (upd F b (.xd ws)):=aN Nv _;refine kk fs (be b) (upd F b (.xd ws)) H #[k.bh,λc o q=>?_,k.f0.trans s1,λc h1 h2=>?_,k.eb,k.jf,k.jo] hR f_ (by rw[ar (Ne.symm ne)];exact j7) #[ws,RepF.mono s1 fs ws rf,.inr #[b,rfl,aC]]
  .by_cases hc:c=b
   .subst hc;rw[aC]at q;cases q;exact hb
   .rw[ar hc]at q;exact k.fh c o q
  .have:c≠b:=λz=>h2 (z ▸ Py);rw[ar this];exact k.out c h1 h2⟩
def AS(ta:TDA)(tr:TID):TID:=λz fs R=>ta z λds=>ds.length<=1000/\tr z fs R
def kE{y sx:Mr}{ps py b7 a8:V4}{es:List VV}{pl:Xq Bool}(hb:∃M,BaseK X.K X.mg y M)(hA:∃C cd,ErrA X.K x C cd)(ha:WDA X es ta)(hr:WDX X x rest tr)(hg:Gl X y\zA0)(hN:(X.N[0]?=be sx)\zA0)(hv:Vis X.env.scope sx\zA5)(hd:zND sx\zA1)
  (g7:zNC sx\zA1) (Ui:zND y\zA1)
  (he:(VZ (.Name sx ps::es) X.env=(false,V3 (.Name sx ps) X.env)::VZ es X.env)\zA0) (c8:zPL X a8 es\zA0)
  (ht:V3 (.Call (.Attribute (.Name y py) "__init__" b7) (.Name sx ps::es) [] a8) X.env=(do
   let ov <-V3 (.Name y py) X.env
   WC b7.atName
   let (f,first) <-Wk [ov] (WU ov "__init__" pl)
   Xw a8 f first (WK a8 (VZ (.Name sx ps::es) X.env)) (W0 a8 (WI [] X.env))):=by rfl)
  (hs:(V' (.Call (.Attribute (.Name y py) "__init__" b7) (.Name sx ps::es) [] a8) z6 pos.line X.env=pure false)\zA0):WDX X x (.Expr (.Call (.Attribute (.Name y py) "__init__" b7) (.Name sx ps::es) [] a8) pos::rest) (AS ta tr):=⟨by
 have ha:=ha.out;have hr:=hr.out;let#[M,bk]:=hb;let#[C,cd,er]:=hA;have step:PS X (.Expr (.Call (.Attribute (.Name y py) "__init__" b7) (.Name sx ps::es) [] a8) pos) (λE σ H=>∃C' e od,nsIn X.K SL x=be (be (.ref C'))/\σ[0]?=be (be (.ref e))/\
   lA X.K ta σ H (λvs H1=>H1 e=be (XN e C' od)/\vs.length<=1000/\E.nx σ H1)):=by
  intro pins s σ H D I h;let#[C',ea,od,hn,h0,h]:=h;rw[er.ns]at hn;cases hn;refine wpAny_Expr_any (methodCall_KW (pl:=pl) (cz I hg bk.mg ?_ Ui) ht) I.quiet hs;refine method_cls I.kIn bk.sp (cls_value I.kIn bk.rd bk.fc Nn ?_);have I0:Inv X pins σ H {s with toks:=s.toks+1}:=I.tok _;let#[B,F,z,kf,rs,R,h1,h2]:=h;refine PyProof.Rows.callWith_builtin1 (thn (bv (cN (i:=0) hN hv hd g7) ha he a8 pins _ σ H (λvs H1=>∃us,vs=.ref ea::us/\H1 ea=be (XN ea C od)/\us.length<=1000/\D.nx σ H1) I0 #[.ref ea,h0,#[B,F,z,kf,rs,R,h1,λds vs F' H' g hx rx=>#[vs,rfl,h2 ds vs F' H' g hx rx]]]) λus s1 hh=>?_) he c8;let#[vs,H1,I1,r,Vo,ev,w6,hl,Nw]:=hh;subst ev;cases r with
  |cons r1 r2=>
   rename_i u0 Vp;obtain rfl:u0=Value.ref ea:=r1;let#[t0,sl,j_]:=XN.get I1.hok w6;refine zL (K:=X.K) (C:=C) (cd:=cd) I1.kIn j_ rfl rfl er.cl er.mro (by rw[<-L2.Vals.length r2];exact sz hl) λh' g1 g2=>?_;refine#[σ,H1,?_,Nw];have w:=I1.write (x:=ea) (e:=ea) (o:=XN ea C od) (h':=h') (t':=s1.toks) (by rw[w6];exact True.intro) (.inl rfl) (λb u hb q=>g2 b u hb q) #[_,g1] (XN.ok g1);rw[tO w6]at w;exact w
 refine(eK step hr).anti λE s H q=>?_;let#[C',a,od,ws,F,z,fs,hn,h0,f_,hB,j7,k,rs,rf,f9,R,hR,kk]:=q;refine#[C',a,od,hn,h0,_,F,z,k,rs,_,hR,λds vs F1 H1 g hx rx=>#[g.hh a _ f_,by rw[rx.length];exact hx.1,?_]];refine#[C',a,od,ws,F1,z,fs,hn,h0,g.hh a _ f_,hB,g.out a j7 (by rw[f_];exact λz=>nomatch z),k.grow g,rs.grow g,RepF.mono g.ff fs ws rf,?_,R,hx.2,kk];rcases f9 with f9|⟨b,h1,h2,h3,h4,h5⟩
 .exact .inl f9
 .exact .inr #[b,h1,g.hh b _ h2,h3,g.out b h4 (by rw[h2];exact λz=>nomatch z),h5]⟩
def AT(f:Mr)(te:TD)(tr:TID):TID:=λz fs R=>fs=[]/\te z λd=>tr z [(f,d)] R
def kF{sx:Mr}{ps:V4}(hA:∃C cd,ErrA X.K x C cd)(hf:∀C,nsIn X.K SL x=be (be (.ref C))->Iq X.K (.ref C) f=be z6)(he:WDE X e te)(hr:WDX X x rest tr)(hN:(X.N[0]?=be sx)\zA0)(hv:Vis X.env.scope sx\zA5)(hd:zND sx\zA1)
  (g7:zNC sx\zA1) (hs:(V' e (be (.Attribute (.Name sx ps) f d5)) pos.line X.env=pure false)\zA0):WDX X x (.Assign [.Attribute (.Name sx ps) f d5] e pos::rest) (AT f te tr):=⟨by
 have he:=he.out;have hr:=hr.out;let#[C,cd,er]:=hA;have Ny:=hf C er.ns;have step:PS X (.Assign [.Attribute (.Name sx ps) f d5] e pos) (λE σ H=>∃e,σ[0]?=be (be (.ref e))/\
   lE X.K te σ H (λv H1=>H1 e=be (XN e C z6)/\∀b,H1 b=z6->b≠e->E.nx σ (upd (upd H1 b (.xd [(f,v)])) e (XN e C (be b))))):=by
  intro pins s σ H D I h;let#[ea,h0,h]:=h;refine Ws (thn (he pins s σ H _ I h) λu s1 ⟨y,H1,I1,ry,w6,Nw⟩=>thn (cN (i:=0) hN hv hd g7 pins s1 σ H1 (λv H'=>v=.ref ea/\H'=H1) I1 #[.ref ea,h0,rfl,rfl]) λov s2 hh=>?_) hs;let#[v0,H2,I2,r0,e1,e2]:=hh;subst e1 e2;obtain rfl:ov=Value.ref ea:=r0;let#[t0,sl,j_]:=XN.get I2.hok w6;refine zJ (K:=X.K) (C:=C) (cd:=cd) I2.kIn j_ rfl rfl rfl er.cl er.mro er.hd er.sa Ny λh' g1 g2 g3 tk=>?_;have m_:H2 s2.heap.objs.size=none:=I2.hok.fresh (Ii _);have k_:s2.heap.objs.size≠ea:=Jl (Heap.lt_size j_);have Qt:∀b o,s2.heap.get? b=be o->b≠s2.heap.objs.size:=λb o q=>Iv (Heap.lt_size q);have Qu:∀b,H2 b=z6->b≠ea:=λb q z=>by rw[z,w6]at q;cases q
  refine#[σ,_,?_,Nw _ m_ k_];have H_:∀b o,H2 b=be o->(∀φ,o≠.ext φ)->upd (upd H2 s2.heap.objs.size (.xd [(f,y)])) ea (XN ea C (be s2.heap.objs.size)) b=be o:=λb o q n=>by
   have n1:b≠ea:=λz=>by rw[z,w6]at q;cases q;exact n _ rfl
   rw[ar n1,ar (bM q m_)];exact q
  refine I2.un (h':=h') (t':=tk) #[λb o q n _ _=>g3 b o (Qu b n) q,λb o q n _ _=>#[o.slots,g3 b o (Qu b n) q],λb o q n _=>?_,λb o q _=>?_,λb xs q=>H_ b _ q (λφ z=>nomatch z),λb o u q=>H_ b _ q (λφ z=>nomatch z),λb ps q=>#[[].toArray,by rw[H_ b _ q (λφ z=>nomatch z)];simp]] λa o q=>?_
  .rw[ar (Qu b n),ar (Qt b o q)];exact n
  .by_cases hb:b=ea
   .rw[hb];exact#[_,g1]
   .exact#[o,g3 b o hb q]
  .by_cases ha:a=ea
   .subst ha;rw[aC]at q;cases q;exact XN.ok g1
   .rw[ar ha]at q;by_cases hb:a=s2.heap.objs.size
    .subst hb;rw[aC]at q;cases q;refine#[_,g2,λg=>?_];rw[IC];by_cases hg:g=f
     .subst hg;simp;exact ry
     .have:(g==f)=false:=by simpa using hg
      rw[this,if_neg hg];exact True.intro
    .rw[ar hb]at q;refine(I2.hok a o q).stay (λb u g9 r=>?_) (λb r=>H_ b _ r (λφ z=>nomatch z)) λb xs r=>H_ b _ r (λφ z=>nomatch z);refine g3 b u (λz=>?_) r;rcases g9 with e1|e1
     .exact ha (e1 ▸ z)
     .rw[z,w6]at e1;cases e1
 refine(eK step hr).anti λE s H q=>?_;let#[C',a,od,ws,F,z,fs,hn,h0,f_,hB,j7,k,rs,rf,f9,R,#[rfl,hR],kk]:=q;rw[er.ns]at hn;cases hn;have Uj:ws=[]:=repf_nil.mp rf;subst Uj;refine#[a,h0,_,F,z,k,rs,_,hR,λd v F1 H1 g hx rv=>?_];have MD:F1 a=none:=g.out a j7 (by rw[f_];exact λz=>nomatch z);have k1:=k.grow g;rcases f9 with⟨rfl,_⟩|⟨b,rfl,h1,h2,h3,h4⟩
 .refine#[g.hh a _ f_,λb hb k_=>?_];have Py:J.B b=none:=k1.bh.free hb;have Nv:F1 b=none:=k1.fh.free hb;have same:∀{G:Hp},G a=z6->G b=z6->Same G H1->Same G (upd (upd H1 b (.xd [(f,v)])) a (XN a C (be b))):=λ{G} ga gb gs c o q=>by
   have n1:c≠a:=λz=>by rw[z,ga]at q;cases q
   have n2:c≠b:=λz=>by rw[z,gb]at q;cases q
   rw[ar n1,ar n2];exact gs c o q
  have o_:=rs.grow g;refine#[C,a,be b,[(f,v)],F1,z,[(f,d)],er.ns,h0,aC,hB,MD,#[same hB Py k1.bh,same MD Nv k1.fh,k1.f0,k1.out,k1.eb,k1.jf,k1.jo],?_,repf_cons.mpr #[v,[],rfl,rv,repf_nil.mpr rfl],.inr #[b,rfl,by rw[ar k_];exact aC,Py,Nv,k_,λz=>nomatch z],R,hx,kk];refine#[o_.len,o_.val,λi ds e'=>?_,o_.apart];let#[c,vs,q1,q2,q]:=o_.own i ds e';have n1:c≠a:=λz=>by rw[z,g.hh a _ f_]at q2;cases q2
  have n2:c≠b:=λz=>by rw[z,hb]at q2;cases q2
  exact#[c,vs,q1,by rw[ar n1,ar n2];exact q2,q]
 .exact absurd rfl h4.2⟩
end
section
variable {P:VU}{w:VX}{K:Ex}{mg:Mr->Option Os}{base:Heap}
def Cls.okE{x qual:Mr}{st:VS}{f C N0:Pi}{bm:List Os}{fd:V2}{N:List Mr}{p0:Mr}{ps:List Mr}{k:Nat}{S:SiD}(T:Fun K "__init__" qual st f fd)(hb:Binds K fd (p0::ps) [])(F:FnScope (p0::N) (p0::ps) (ah st))(len:∀ds R,S ds R->ds.length=ps.length)
  (ek:ErrK K mg x C N0 bm) (hi:Iq K (.ref C) "__init__"=be (be (.ref f))) (hf:isFn K (.ref f)=true)
  (a9:∀(cdv:Os) (A:VY) (outer:List WD) (s:SB) (H:Hp) (E:XK) (J:Jx),Room k (A.deeper (V7 qual (ah st) s.heap.objs.size f cdv))->
   ∃t,DX (cxOf (CX1 P w) P w K mg base (p0::N) qual (ah st) f cdv A outer s H E).nox x (aL st) t/\∀ds R,S ds R->t (z6::startD N ds) [] R):CalE P w K mg base (k+1) x (p0::ps) S:=by
 refine#[C,N0,bm,f,fd,ek,hi,hf,Fun.okC T F (λvs H Q E h=>?_) (λcdv A outer s H vs Q E hr h=>?_),hb]
 .let#[a,us,H1,F,ds,rfl,_,_,_,rs,R,h,_]:=h;rw[Iu,Iu,rs.length,len ds R h]
 .let#[a,us,H1,F1,ds,rfl,rfl,ha,fh,rs,R,h,q]:=h
  letI:Jx:=#[H1,F1,λ_ _ _=>False]
  let#[t,ht,hq]:=a9 cdv A outer s _ E inferInstance hr;have Fa:F1 a=none:=fh.free ha;have hl:L2.start (p0::N) (.ref a::us)=be (.ref a)::L2.start N us:=by
   unfold L2.start;rw[IH,Iu,Iu,Lj];rfl
  have s1:Same H1 (upd H1 a (XN a C z6)):=aN ha _;refine#[_,ht.nox,C,a,z6,[],F1,z6::startD N ds,[],ek.ns,by rw[hl];rfl,aC,ha,Fa,#[s1,fh.trans s1,Same.refl F1,λ_ h _=>h,rfl,Same.refl F1,λ_ h _=>h],?_,repf_nil.mpr rfl,.inl #[rfl,rfl],R,hq ds R h,λm8 Px F' H' g hR f_ j7 er=>q m8 Px F' H' #[g.f0,g.fh,g.bh,g.out] hR f_ j7 er];rw[hl];exact tK (dQ rs)
end
section
variable {M:Xx}{A:VY}{E:Os->SB->Prop}{h:Heap}{g:Array Xy}{d:Drawn}{t:Nat}{os:OsState}
variable {nm q:Mr}{C N:Pi}{bs bm:List Os}{hdct:Bool}{sn:List Mr}{sub:List Os}{ab:Bool}{col:Option Bool}{dd:Option Pi}{k0 k1 k2 k3 k5:Option Os}{newId:String}
variable {Qv q':Mr}{C' N':Pi}{Qw OH:List Os}{OI:Bool}{Qx:List Mr}{Nz:List Os}{Qy:Bool}{NA:Option Bool}{OJ:Option Pi}{Qz QA QB QC QE:Option Os}{NB:String}
def tP{e:Pi}{oe:Wa}{b:Bool}{Q:Bool->SB->Prop}(hC:h.get? C=be (We nm q C N bs bm hdct sn sub ab col dd k0 k1 k2 k3 k5 newId))(hD:h.get? C'=be (We Qv q' C' N' Qw OH OI Qx Nz Qy NA OJ Qz QA QB QC QE NB))
  (he:h.get? e=be oe) (D_:oe.cls=.ref C) (b_:OH.contains (.type "BaseException")=true) (hb:(Value.ref C::bm).contains (.ref C')=b) (hq:Q b #[h,g,d,t,os]):VW M A (excMatches (.ref e) (.ref C')) Q E #[h,g,d,t,os]:=by
 have Qb:(Value.ref C'::OH).contains (.type "BaseException")=true:=by rw[KA,b_,Kg]
 have f:=tc_notTuple;unfold excMatches
 repeat(first|(with_reducible refine Wb he ?_;rw[D_])|with_reducible refine Wb hD ?_|(with_reducible refine WB hD ?_;rw[Qb])|(with_reducible refine WB hC ?_;rw[hb])|wp_step)
 cases b with
 |true=>wp_walk;exact hq
 |false=>wp_walk;exact hq
end
abbrev _root_.L2.Cx.held(X:Cx)(e:Pi):Cx:={X with A:=X.A.mark (be (.ref e)),calm:=false,xe:=λ_ _=>False}
section
variable {X:Cx}{pins:List (Pi×Wa)}{σ:L2.St}{H:Hp}{s:SB}{e:Pi}
def Cx.Ok.held(ok:X.Ok):(X.held e).Ok:=
 #[ok.mod,ok.kind,ok.glob,ok.blt,ok.above,ok.inj,ok.has,ok.cab,(λz=>nomatch z),ok.frames,ok.stk,ok.exf,ok.bs,ok.bsz,ok.noex,ok.exfs,ok.funs,ok.frf]
def Inv.held(I:Inv X pins σ H s):Inv (X.held e) pins σ H s:=#[Cx.Ok.held I.ok,I.os,I.bare,I.base,I.loc,I.cell,I.free,I.freeC,I.pin,I.hok,I.len]
def Inv.unheld(ok:X.Ok)(I:Inv (X.held e) pins σ H s):Inv X pins σ H s:=#[ok,I.os,I.bare,I.base,I.loc,I.cell,I.free,I.freeC,I.pin,I.hok,I.len]
def SP.unheld{D:Ends}{f:Flow}{s':SB}(ok:X.Ok)(h:SP (X.held e) pins D f s'):SP X pins D f s':=by
 cases f with
 |next=>let#[σ',H',I,q]:=h;exact#[σ',H',Inv.unheld ok I,q]
 |brk=>let#[σ',H',I,q]:=h;exact#[σ',H',Inv.unheld ok I,q]
 |cont=>let#[σ',H',I,q]:=h;exact#[σ',H',Inv.unheld ok I,q]
 |ret u=>let#[v,σ',H',I,r,q]:=h;exact#[v,σ',H',Inv.unheld ok I,r,q]
def ib{M:Xx}{A:VY}{E:Os->SB->Prop}{i:Nat}{x:Mr}{pos:V4}{Q:Unit->SB->Prop}(I:Inv X pins σ H s)(hN:X.N.Nodup)(hi:X.N[i]?=be x)(hk:X.env.scope.names.lookup x=be .local)
  (h:∀s',Inv X pins (σ.set i z6) H s'->Q () s'):VW M A (do Xb X.env x .none;unbindBehindTheSuite X.env x pos) Q E s:=by
 let#[m,hn,hl]:=id I.loc;have D_:(X.env.scope.kind== .class||(X.env.scope.kind== .module&&X.env.locals !=X.env.globals))=false:=by rw[I.ok.kind];rfl
 have hiσ:i<σ.length:=by rw[I.len];exact(IB.mp hi).1
 have cne:=I.cne;refine wpAny_nameGoes_keeps hk hn D_ λh' v i9 hs=>?_;let#[oL,_,_,Sl,_]:=id hn;have g6:HOk X.prog X.w H h':=λb ob e=>by
  refine(I.hok b ob e).stay (λc w' hc q=>(hs.2 c ?_).trans q) (λ_ q=>q) λ_ _ q=>q;rintro rfl;rcases hc with rfl|hc
  .rw[I.free]at e;cases e
  .rw[I.free]at hc;cases hc
 refine h _ #[I.ok,I.os,I.bare,#[λb o e n hb hx=>?_,λb o e n hb hx=>?_,I.base.free,λb o e hx=>?_,I.base.tups,I.base.frzs,I.base.tbls],#[_,i9,λj y v' e1 e2 e3=>?_],λy c e=>?_,I.free,I.freeC,λp hp=>?_,g6,by simpa using I.len]
 .exact(hs.2 b (Iv (IG (Heap.lt_size e) I.ok.above))).trans (I.base.keep b o e n hb hx)
 .let#[sl,e1]:=I.base.slot b o e n hb hx;exact#[sl,(hs.2 b (Iv (IG (Heap.lt_size e) I.ok.above))).trans e1]
 .let#[o',e1]:=I.base.there b o e hx;exact#[o',(hs.2 b (Iv (IG (Heap.lt_size e) I.ok.above))).trans e1]
 .by_cases hj:j=i
  .subst hj;rw[IZ hiσ]at e2;cases e2
  .rw[Iz (Ne.symm hj)]at e2;let#[u',r',q]:=hl j y v' e1 e2 e3;refine#[u',r',?_];rcases q with⟨k,e⟩|⟨k,c,e,z⟩
   .refine .inl #[k,?_];have:y≠x:=λe=>hj (ju hN e1 (e ▸ hi));simp[this,e]
   .exact .inr #[k,c,e,z.sameBut hs (cne y c e)]
 .let#[w',z]:=I.cell y c e;exact#[w',z.sameBut hs (cne y c e)]
 .let#[e,n,ne,nf,d]:=I.pin p hp;exact#[(hs.2 p.1 ne).trans e,n,ne,nf,d]
def Inv.stay{h':Heap}{m8 ex:List Pi}(I:Inv X pins σ H s)(st:Stay m8 ex s.heap h')(Pr:∀b∈m8,b∈frs X.stack)(hH:∀b∈ex,H b=z6)(h0:∀b∈ex,X.s₀.heap.get? b=z6)(hL:∀b∈ex,b≠X.env.locals)(hc:∀b∈ex,∀x c,X.env.cells.lookup x=be c->c≠b)
  (hp:∀b∈ex,∀p∈X.pn++pins,p.1≠b):Inv X pins σ H {s with heap:=h'}:=by
 have hok:HOk X.prog X.w H h':=fR I.hok st (λb hb=>I.stkFree b (Pr b hb)) hH;have sub:∀b∈m8,b=X.env.locals\/b∈X.fs:=λb hb=>Ik.mp (I.stkSub b (Pr b hb));have nL:∀b o,X.s₀.heap.get? b=be o->b≠X.env.locals:=λb o q=>Iv (IG (Heap.lt_size q) I.ok.above);have SR:∀b o,X.s₀.heap.get? b=be o->b∉ex:=λb o q z=>by rw[h0 b z]at q;cases q
 have n5:∀x c v,X.env.cells.lookup x=be c->s.heap.IsCell c v->h'.IsCell c v:=λx c v e ⟨o,ho,hd⟩=>by
  let#[sl,z]:=st.slot c o ho (λz=>hc c z x c e rfl);exact#[_,z,hd]
 refine#[I.ok,I.os,I.bare,#[λb o e n hb hx=>?_,λb o e n hb hx=>?_,I.base.free,λb o e hx=>?_,I.base.tups,I.base.frzs,I.base.tbls],?_,λy c e=>?_,I.free,I.freeC,λp NR=>?_,hok,I.len]
 .exact st.keep b o (I.base.keep b o e n hb hx) (SR b o e) (λz=>(sub b z).elim (nL b o e) hb)
 .let#[sl,e1]:=I.base.slot b o e n hb hx;let#[y9,e2]:=st.slot b _ e1 (SR b o e);exact#[y9,e2]
 .let#[o',e1]:=I.base.there b o e hx;exact st.there b o' e1
 .let#[m,#[o,es,ep,ho,r],hl]:=I.loc;let#[sl,z]:=st.slot _ o ho (λz=>hL _ z rfl);refine#[m,#[_,es,ep,z,r],λj y v' e1 e2 e3=>?_];let#[u',r',q]:=hl j y v' e1 e2 e3;refine#[u',r',?_];rcases q with q|⟨k,c,e,z⟩
  .exact .inl q
  .exact .inr #[k,c,e,n5 y c _ e z]
 .let#[w',z]:=I.cell y c e;exact#[w',n5 y c _ e z]
 .let#[e,n,ne,nf,d]:=I.pin p NR;exact#[st.keep _ _ e (λz=>hp _ z p NR rfl) (λz=>(sub _ z).elim ne nf),n,ne,nf,d]
end
def subE(x c:Mr):Bool:=x==c||c=="MotifError"
structure ErrsK(K:Ex)(mg:Str->Option Os)(es:List Str):Prop where
 cls:∀x∈es,∃C N bm,ErrK K mg x C N bm
 sub:∀x∈es,∀y∈es,∀C C',nsIn K SL x=be (be (.ref C))->nsIn K SL y=be (be (.ref C'))->Jn K C (.ref C')=be (subE x y)
def ErrsK.has{es:List Mr}(k:ErrsK K mg es){y:Mr}{C' N':Pi}{OH:List Os}(hx:x∈es)(hy:y∈es)(a:ErrK K mg x C N bm)(b:ErrK K mg y C' N' OH):(Value.ref C::bm).contains (.ref C')=subE x y:=by
 have h:=k.sub x hx y hy C C' a.ns b.ns;let#[nm,q,bs,sn,sub,ab,col,dd,k0,k1,k2,k3,k5,lk]:=a.obj;unfold Jn KD at h;rw[lk]at h;simp only[J2,List.isEmpty_cons,Bool.false_eq_true,if_false,Option.some.injEq]at h;exact h
structure Held(X:Cx)(pins:List (Pi×Wa))(H:Hp)(s:SB)(e C:Pi)(od:Option Pi)(T:Pi):Prop where
 ex:ExAt s.heap e C od T .none
 He:H e=z6
 HT:H T=z6
 e0:X.s₀.heap.get? e=z6
 T0:X.s₀.heap.get? T=z6
 eP:∀p∈X.pn++pins,p.1≠e
 TP:∀p∈X.pn++pins,p.1≠T
section
variable {X:Cx}{pins:List (Pi×Wa)}{σ:L2.St}{H:Hp}{s:SB}
variable{vs:Array Os}
def ic{b:Pi}{o:Wa}(I:Inv X pins σ H s)(h:s.heap.get? b=be o)(hd:o.data=.fields vs):b≠X.env.locals:=λz=>by
 let#[m,#[o',es,ep,ho,f9,_],_]:=I.loc;rw[<-z,h]at ho;cases ho;rw[hd]at f9;cases f9
def fld_cell{b:Pi}{o:Wa}(I:Inv X pins σ H s)(h:s.heap.get? b=be o)(hd:o.data=.fields vs):∀x c,X.env.cells.lookup x=be c->c≠b:=λx c q z=>by
 let#[v,o',ho,f9]:=I.cell x c q;rw[z,h]at ho;cases ho;rw[hd]at f9;cases f9
variable{od:Option Pi}
def Held.flight{e C T:Pi}{h':Heap}(I:Inv X pins σ H s)(k:Held X pins H s e C od T)(hx:ExAt h' e C od T .none)(st:Stay [] [T] s.heap h'):Inv X pins σ H {s with heap:=h'}/\Held X pins H {s with heap:=h'} e C od T:=by
 let#[sl,vs,oT,ts,he,h1,v9,hT,l_,h3]:=k.ex;refine#[Inv.stay I st (λb hb=>by cases hb) (λb hb=>?_) (λb hb=>?_) (λb hb=>?_) (λb hb=>?_) (λb hb=>?_),#[hx,k.He,k.HT,k.e0,k.T0,k.eP,k.TP]]<;>rw[Ih.mp hb]
 .exact k.HT
 .exact k.T0
 .exact ic I hT l_
 .exact fld_cell I hT l_
 .exact k.TP
def XO.ok{P:VU}{w:VX}{h:Heap}{e C:Pi}{sl:Array (Option Os)}(q:h.get? e=be #[.ref C,od,.fields vs,sl]):ObjOk P w H h e (XO e C od):=
 #[#[vs,sl,q],#[_,q],λh1 h2 ⟨vs,sl,q⟩ k=>#[vs,sl,k _ q]]
end
def RepS.unset{B F:Hp}{z:SD}{s:L2.St}{i:Nat}(h:RepS K B F H z s):RepS K B F H (z.set i z6) (s.set i z6):=by
 have get:∀{j:Nat} {x:D},(z.set i z6)[j]?=be (be x)->j≠i/\z[j]?=be (be x):=λ{j x} e=>by
  by_cases hj:i=j
  .subst hj;rw[JA]at e;simp at e
  .rw[Iz hj]at e;exact#[λz=>hj z.symm,e]
 refine#[by rw[Jc,Jc];exact h.len,λj x e nx=>?_,λj ds e=>?_,λj k dj dk a e1 e2 e3 e4=>?_]
 .let#[hj,e]:=get e;rw[Iz (λz=>hj z.symm)];exact h.val j x e nx
 .let#[hj,e]:=get e;rw[Iz (λz=>hj z.symm)];exact h.own j ds e
 .let#[hj,e1]:=get e1;let#[hk,e2]:=get e2;rw[Iz (λz=>hj z.symm)]at e3;rw[Iz (λz=>hk z.symm)]at e4;exact h.apart j k dj dk a e1 e2 e3 e4
abbrev TH:=Mr->List (Mr×D)->TSD
def DH(X:Cx)[J:Jx](hs:List Wp)(th:TH):Prop:=
 ∀(pins:List (Pi×Wa)) (s:SB) (σ:L2.St) (H:Hp) (D:Ends) (e C:Pi) (od:Option Pi) (T:Pi) (x:Mr) (fs:List (Mr×My.D)) (B F0 F:Hp) (z:SD) (ED:EndsD),Inv X pins σ H s->Held X pins H s e C od T->Kept B F0 F H->RepS X.K B F H z σ->ErrD X.K F x fs C od->
  th x fs ED z->EndsOk X.K B F0 ED D->VW (VT X.prog X.w) X.A (W' (.ref e) X.env hs) (SP X pins D) X.xe s
structure WDH(X:Cx)[Jx](hs:List Wp)(th:TH):Prop where
 out:DH X hs th
section
variable {X:Cx}[J:Jx]{es:List Mr}{c:Mr}{b₀:VS}{v4:List VS}{pos pc:V4}{rest:List Wp}{t:TSD}{r:TH}
def AU:TH:=λ_ _ _ _=>False
def AV(es:List Mr)(c:Mr)(t:TSD)(r:TH):TH:=λx fs E z=>(x∈es/\c∈es)/\if subE x c=true then t E z else r x fs E z
def dHas(es:List Mr)(c:Mr)(i:Nat)(t:TSD)(r:TH):TH:=λx fs E z=>(x∈es/\c∈es)/\if subE x c=true then t {nx:=λz'=>E.nx (z'.set i z6),rt:=E.rt,bk:=λz'=>E.bk (z'.set i z6),ct:=λz'=>E.ct (z'.set i z6)} (z.set i (be (.exc x fs)))else r x fs E z
def ie:WDH X [] AU:=#[λ_ _ _ _ _ _ _ _ _ _ _ _ _ _ _ _ _ _ _ _ _ h _=>h.elim]
def kG(hE:ErrsK X.K X.mg es)(hs:∀e,WDSs (X.held e) (b₀::v4) t)(hr:WDH X rest r)(hg:Gl X c\zA0)(d9:zND c\zA1):WDH X (.ExceptHandler (be (.Name c pc)) z6 (b₀::v4) pos::rest) (AV es c t r):=⟨by
 have hs:=λe=>(hs e).out;have hr:=hr.out;intro pins s σ H D e C od T x fs B F0 F z ED I hd k rs er ht ee;let#[#[OK,OL],ht]:=ht;let#[Cc,Nc,Uk,kc]:=hE.cls c OL;let#[MF,Nx,Ul,kx]:=hE.cls x OK;obtain rfl:MF=C:=by have h1:=kx.ns;rw[er.1]at h1;cases h1;rfl
 have hb:=hE.has OK OL kx kc;let#[nm,q,bs,sn,sub,ab,col,dd,k0,k1,k2,k3,k5,lk]:=kx.obj;let#[Qv,q',Qw,Qx,Nz,Qy,NA,OJ,Qz,QA,QB,QC,QE,QF]:=kc.obj;refine Xz (Xs (cz (X:=X.held e) (Inv.held I) hg kc.mg ?_ d9)) (by intro q;cases q);let#[sl,vs,oT,ts,he,h1,v9,hT,l_,h3]:=id hd.ex;refine tP (g:=s.gens) (d:=s.drawn) (t:=s.toks) (os:=s.os) (I.kIn _ _ lk) (I.kIn _ _ QF) he rfl kc.base hb ?_;cases I_:subE x c with
 |true=>
  rw[I_,if_pos rfl]at ht;refine codeAny_handlers_suite (fQ hd.ex λh' ge y_=>?_);let#[I',_]:=Held.flight I hd ge y_;exact V9 (hs e pins _ σ H D (Inv.held I') #[B,F0,F,z,k,rs,ED,ht,ee]) (λf s1 q=>SP.unheld I.ok q) λ_ _ z=>False.elim z
 |false=>
  rw[I_,if_neg IA]at ht;exact hr pins s σ H D e MF od T x fs B F0 F z ED I hd k rs er ht ee⟩
def kH(i:Nat){n:Mr}(hE:ErrsK X.K X.mg es)(hN:X.N.Nodup)(hs:∀e,WDSs (X.held e) (b₀::v4) t)(hr:WDH X rest r)(hg:Gl X c\zA0)(hi:(X.N[i]?=be n)\zA0)(hk:(X.env.scope.names.lookup n=be .local)\zA0)(d9:zND c\zA1):WDH X (.ExceptHandler (be (.Name c pc)) (be n) (b₀::v4) pos::rest) (dHas es c i t r):=⟨by
 have hs:=λe=>(hs e).out;have hr:=hr.out;intro pins s σ H D e C od T x fs B F0 F z ED I hd k rs er ht ee;let#[#[OK,OL],ht]:=ht;let#[Cc,Nc,Uk,kc]:=hE.cls c OL;let#[MF,Nx,Ul,kx]:=hE.cls x OK;obtain rfl:MF=C:=by have h1:=kx.ns;rw[er.1]at h1;cases h1;rfl
 have hb:=hE.has OK OL kx kc;let#[nm,q,bs,sn,sub,ab,col,dd,k0,k1,k2,k3,k5,lk]:=kx.obj;let#[Qv,q',Qw,Qx,Nz,Qy,NA,OJ,Qz,QA,QB,QC,QE,QF]:=kc.obj;refine Xz (Xs (cz (X:=X.held e) (Inv.held I) hg kc.mg ?_ d9)) (by intro q;cases q);let#[sl,vs,oT,ts,he,h1,v9,hT,l_,h3]:=id hd.ex;refine tP (g:=s.gens) (d:=s.drawn) (t:=s.toks) (os:=s.os) (I.kIn _ _ lk) (I.kIn _ _ QF) he rfl kc.base hb ?_;cases I_:subE x c with
 |true=>
  rw[I_,if_pos rfl]at ht;refine codeAny_handlers_suite_as (fQ hd.ex λh' ge y_=>?_);let#[I',f9]:=Held.flight I hd ge y_;let#[y9,n_,_,_,QG,_]:=id ge;have I2:Inv X pins σ (upd H e (XO e MF od)) {s with heap:=h'}:=Inv.adopt I' hd.He (XO.ok QG) hd.e0 (ic I' QG rfl) (fld_cell I' QG rfl) hd.eP;refine eJ (X:=X.held e) (v:=.ref e) (Inv.held I2) hN hi (.inl hk) rfl (λs2 I3=>?_) (.inr hk);have g:=Grow.new k.fh hd.He (XO e MF od);let#[ns,ws,rf,QH]:=er;have rep:Rep X.K (upd F e (XO e MF od)) (.exc x fs) (.ref e):=rep_exc.mpr #[e,MF,od,ws,rfl,ns,aC,RepF.mono g.ff fs ws rf,QH.imp id λ⟨b,q1,q2⟩=>#[b,q1,g.ff _ _ q2]];have Um:EndsOk X.K B F0 {nx:=λz'=>ED.nx (z'.set i z6),rt:=ED.rt,bk:=λz'=>ED.bk (z'.set i z6),ct:=λz'=>ED.ct (z'.set i z6)} {nx:=λσ' H'=>D.nx (σ'.set i z6) H',rt:=D.rt,bk:=λσ' H'=>D.bk (σ'.set i z6) H',ct:=λσ' H'=>D.ct (σ'.set i z6) H'}:=
   #[λz' s' F' H' k hz r=>ee.nx _ _ F' H' k hz (RepS.unset r),ee.rt,λz' s' F' H' k hz r=>ee.bk _ _ F' H' k hz (RepS.unset r),λz' s' F' H' k hz r=>ee.ct _ _ F' H' k hz (RepS.unset r)]
  refine V9 (hs e pins s2 _ _ _ I3 #[B,F0,_,_,k.grow g,(rs.grow g).set rep,_,ht,Um]) (λf s3 q=>?_) λ_ _ z=>False.elim z;have q':=SP.unheld I.ok q;cases f with
  |next=>let#[σ',H',I4,q4]:=q';exact ib I4 hN hi hk λs5 I5=>#[_,H',I5,q4]
  |brk=>let#[σ',H',I4,q4]:=q';exact ib I4 hN hi hk λs5 I5=>#[_,H',I5,q4]
  |cont=>let#[σ',H',I4,q4]:=q';exact ib I4 hN hi hk λs5 I5=>#[_,H',I5,q4]
  |ret u=>let#[v,σ',H',I4,rv,q4]:=q';exact ib I4 hN hi hk λs5 I5=>#[v,_,H',I5,rv,q4]
 |false=>
  rw[I_,if_neg IA]at ht;exact hr pins s σ H D e MF od T x fs B F0 F z ED I hd k rs er ht ee⟩
end
abbrev _root_.L2.Cx.tried(X:Cx)(pn:List (Pi×Wa))(xe:Os->SB->Prop):Cx:={X with pn:=pn,xe:=xe}
section
variable {X:Cx}{pn pins:List (Pi×Wa)}{xe:Os->SB->Prop}{σ:L2.St}{H:Hp}{s:SB}
def Cx.Ok.tried(ok:X.Ok):(X.tried pn xe).Ok:=#[ok.mod,ok.kind,ok.glob,ok.blt,ok.above,ok.inj,ok.has,ok.cab,ok.hd,ok.frames,ok.stk,ok.exf,ok.bs,ok.bsz,ok.noex,ok.exfs,ok.funs,ok.frf]
def Inv.tried(I:Inv X pins σ H s):Inv (X.tried (X.pn++pins) xe) [] σ H s:=#[Cx.Ok.tried I.ok,I.os,I.bare,I.base,I.loc,I.cell,I.free,I.freeC,λp hp=>I.pin p (by simpa using hp),I.hok,I.len]
def Inv.untried(ok:X.Ok)(I:Inv (X.tried (X.pn++pins) xe) [] σ H s):Inv X pins σ H s:=#[ok,I.os,I.bare,I.base,I.loc,I.cell,I.free,I.freeC,λp hp=>I.pin p (by simpa using hp),I.hok,I.len]
def SP.untried{D:Ends}{f:Flow}{s':SB}(ok:X.Ok)(h:SP (X.tried (X.pn++pins) xe) [] D f s'):SP X pins D f s':=by
 cases f with
 |next=>let#[σ',H',I,q]:=h;exact#[σ',H',Inv.untried ok I,q]
 |brk=>let#[σ',H',I,q]:=h;exact#[σ',H',Inv.untried ok I,q]
 |cont=>let#[σ',H',I,q]:=h;exact#[σ',H',Inv.untried ok I,q]
 |ret u=>let#[v,σ',H',I,r,q]:=h;exact#[v,σ',H',Inv.untried ok I,r,q]
end
def AW{h₀:Wp}{hs:List Wp}{σ':L2.St}{H':Hp}{s':SB}{D:Ends}{xe:Os->SB->Prop}(I2:Inv X pins σ' H' s')
  (hd:Exd (X.tried (X.pn++pins) xe) H' s' e C od) (f7:X.ex=[]) (J_:X.stack=X.env::X.outer) (m_:X.env.frame=be X.env.locals)
  (hh:∀s4 T2,Inv X pins σ' H' s4->Held X pins H' s4 e C od T2->VW (VT X.prog X.w) X.A (W' (.ref e) X.env (h₀::hs)) (SP X pins D) X.xe s4):
  VW (VT X.prog X.w) X.A (WM (.ref e) X.env) (λ_ s₂=>VW (VT X.prog X.w) X.A (W2 (.ref e) z6) (λ_ s₃=>VW (VT X.prog X.w) X.A (W' (.ref e) X.env (h₀::hs)) (SP X pins D) X.xe s₃) X.xe s₂) X.xe s':=by
 let#[He,e0,eP,hd]:=hd;have stk:s'.heap.FunFrames X.base (X.env::X.outer):=by rw[<-J_];exact I2.stack
 have SS:X.A.frames=be (X.env::X.outer):=by rw[<-J_];exact I2.ok.frames
 have e_:∀(t7:Heap) (T2:Pi) (ex:List Pi),(∀b∈ex,H' b=z6/\X.s₀.heap.get? b=z6/\(∃o vs,s'.heap.get? b=be o/\o.data=.fields vs)/\∀p∈X.pn++pins,p.1≠b)->ExAt t7 e C od T2 (WT X.env.locals)->(H' T2=z6/\X.s₀.heap.get? T2=z6/\∀p∈X.pn++pins,p.1≠T2)->Stay (frs (X.env::X.outer)) ex s'.heap t7->
   VW (VT X.prog X.w) X.A (W2 (.ref e) z6) (λ_ s₃=>VW (VT X.prog X.w) X.A (W' (.ref e) X.env (h₀::hs)) (SP X pins D) X.xe s₃) X.xe {s' with heap:=t7}:=by
  intro t7 T2 ex K' p9 Mh v5;let#[OC,T0,TP]:=Mh;have I3:Inv X pins σ' H' {s' with heap:=t7}:=Inv.stay I2 v5 (λb hb=>by rw[J_];exact hb) (λb hb=>(K' b hb).1) (λb hb=>(K' b hb).2.1) (λb hb=>let ⟨_,_,q1,q2⟩:=(K' b hb).2.2.1;ic I2 q1 q2) (λb hb=>let ⟨_,_,q1,q2⟩:=(K' b hb).2.2.1;fld_cell I2 q1 q2) (λb hb=>(K' b hb).2.2.2);let#[sl,vs,oT,ts,he,g1,v9,hT,l_,g3]:=id p9;refine fQ (s:={s' with heap:=t7}) p9 λh3 OB Mf=>?_;have I4:Inv X pins σ' H' {s' with heap:=h3}:=Inv.stay (s:={s' with heap:=t7}) I3 Mf (λb hb=>by cases hb) (λb hb=>by rw[Ih.mp hb];exact OC) (λb hb=>by rw[Ih.mp hb];exact T0) (λb hb=>by rw[Ih.mp hb];exact ic I3 hT l_) (λb hb=>by rw[Ih.mp hb];exact fld_cell I3 hT l_) (λb hb=>by rw[Ih.mp hb];exact TP);exact hh _ T2 I4 #[OB,He,OC,e0,T0,eP,TP]
 have new:∀T2,s'.heap.objs.size<=T2->H' T2=z6/\X.s₀.heap.get? T2=z6/\∀p∈X.pn++pins,p.1≠T2:=λT2 z=>
  have NP:s'.heap.get? T2=none:=Heap.get?_none_of_le z
  ⟨fZ I2.hok NP,ex_free I2 f7 NP,λp hp z=>by
   have:=(I2.pin p hp).1;rw[z,NP]at this;cases this⟩
 rcases hd with⟨sl,vs,he,hv⟩|⟨T,fl,MY,T0,HT,TP⟩
 .refine rX SS stk m_ he hv λt7 T2 p9 Mh v5=>e_ t7 T2 [e] (λb hb=>?_) p9 (new T2 Mh) v5;rw[Ih.mp hb];exact#[He,e0,#[_,_,he,rfl],eP]
 .let#[sl,vs,oT,ts,he,g1,v9,hT,l_,g3]:=id MY;refine rY SS stk m_ MY λt7 T2 p9 Mh v5=>e_ t7 T2 [T,e] (λb hb=>?_) p9 (Mh.elim (λz=>by rw[z];exact#[HT,T0,TP]) (new T2)) v5;rcases Ik.mp hb with z|z
  .rw[z];exact#[HT,T0,#[_,_,hT,l_],TP]
  .rw[Ih.mp z];exact#[He,e0,#[_,_,he,rfl],eP]
def ErrG(K:Ex)(f y:Mr):Prop:=∃C cd,ErrA K y C cd/\Iq K (.ref C) "__getattribute__"=be (be (.builtin "BaseException.__getattribute__"))/\Iq K (.ref C) "__getattr__"=be z6/\Iq K (.ref C) f=be z6
def AX(ys:List Mr)(f:Mr)(te:TD):TD:=λz R=>te z λd=>match d with|.exc y fs=>y∈ys/\∃d,fs.lookup f=be d/\R d|_=>False
def ig[J:Jx]{e:VV}{te:TD}{pos:V4}{ys:List Mr}{f:Mr}(hG:∀y∈ys,ErrG X.K f y)(he:WDE X e te)(hb:(V1 e f X.env (V3 e X.env)=V3 e X.env)\zA0):WDE X (.Attribute e f pos) (AX ys f te):=⟨by
 have he:=he.out;intro pins s σ H Q I h;let#[B,F,z,kf,rs,R,h1,h2]:=h;refine attr_of hb (thn (he pins s σ H (λv H1=>∃F1 x fs,Grow F H F1 H1/\Rep X.K F1 (.exc x fs) v/\x∈ys/\∃d,fs.lookup f=be d/\R d) I #[B,F,z,kf,rs,_,h1,λd v F1 H1 g1 hx rx=>?_]) λu s1 ⟨v,H1,I1,rv,F1,x,fs,g1,rx,hy,d,hl,hR⟩=>?_)
 .split at hx
  .let#[hy,d,hl,hR]:=hx;exact#[F1,_,_,g1,rx,hy,d,hl,hR]
  .exact hx.elim
 .let#[a,C,od,vs,rfl,hn,Uo,rf,QH]:=rep_exc.mp rx;obtain rfl:u=Value.ref a:=rv;let#[C',cd,ea,ga,gb,hf]:=hG x hy;have i9:=ea.ns;rw[hn]at i9;cases i9;let#[n_,sl,j_]:=(I1.hok a _ (g1.fh _ _ Uo)).1;let#[w',hw,j5]:=rf.look hl;rcases QH with⟨_,e2⟩|⟨b,rfl,g9⟩
  .rw[e2]at hw;cases hw
  .let#[mA,hns,z7]:=(show ObjOk X.prog X.w H1 s1.heap b (.xd vs)from I1.hok b _ (g1.fh _ _ g9));let#[uv,hu,ru]:=RelO.some_of (v:=w') (o:=mA f) (by rw[<-hw];exact z7 f);let#[Up,ho,look]:=rg hns;have QI:hasDictIn X.K C=true:=by unfold hasDictIn;rw[ea.cl];exact ea.hd
   exact zK (K:=X.K) (ox:=#[.ref C,be b,.fields n_,sl]) (od:=Up) I1.kIn #[j_,rfl,rfl,ho] ea.cl ea.mro ga gb (findObj_own QI hf rfl (by rw[look,hu])) (rk ru) λtk=>#[w',H1,I1.tok tk,ru,h2 d w' F1 H1 g1 hR j5]⟩
def AY:tailIn K veLine veLine=true:=by
 unfold tailIn;rfl
def tQ{c:Os}{d:Option Pi}{es:Array DictEntry}{ep:Nat}(l:K.lookup N=be #[c,d,.dict es ep,sl])(h:es.toList.all (λe=>match e.key with|.str _ _=>true|_=>false)=true):nsOkIn K N=true:=by
 unfold nsOkIn;rw[l];dsimp only;rw[<-KE];exact h
def AZ{M:Pi}{c0:Os}{dd:Option Pi}{cd:Xh}(l:K.lookup M=be #[c0,dd,.cls cd,sl])(hn:cd.ns=N)(h1:nsOkIn K N=true)(h2:nsIn K N "__init__"=be z6):tailIn K veLine (.ref M::veLine)=true:=by
 unfold tailIn;subst hn;dsimp only;rw[l];dsimp only;rw[h1,h2,AY];simp
def tR(S:SpX):SpD:=λds R=>S ds R λ_ _=>False
def CalX.no{base:Heap}{n:Nat}{S:SpX}(C:CalX P w K mg base n x ps S):CalD P w K mg base n x ps (tR S):=by
 let#[f,fd,F,hb,hk,hm]:=C;refine#[f,fd,F.imp λvs H Q E h=>?_,hb,hk,hm];let#[F,ds,fh,rs,R,h,q]:=h;exact#[F,ds,fh,rs,R,_,h,q,λ_ _ _ _ _ _ _ z=>z.elim]
end My
namespace My
def repS(x:Mr)(n:Nat):Str:=#[(Iw n x.cps.toList).flatten.toArray]
def tS(x:Mr)(n:Nat):(Iw n x.cps).foldl (·++·) [].toArray=(Iw n x.cps.toList).flatten.toArray:=by
 have:∀(m:Nat) (g8:List Nat),(Iw m x.cps).foldl (·++·) g8.toArray=(g8++(Iw m x.cps.toList).flatten).toArray:=by
  intro m;induction m with
  |zero=>intro g8;simp
  |succ m ih=>
   intro g8;rw[Jd,K7,Jd,Jr,<-IU];rw[show g8.toArray++x.cps=(g8++x.cps.toList).toArray by simp];exact ih _
 have h:=this n [];simpa using h
def A1(x:Mr)(n:Nat):(repS x n).length=n*x.length:=by
 show(Iw n x.cps.toList).flatten.toArray.size=n*x.cps.size;rw[Ir];induction n with
 |zero=>simp
 |succ n ih=>rw[Jd,Jr,Ix,ih,Jz,J1];simp
def tT{α:Type}(l:List α):∀m:Nat,(Il m).filterMap (λk=>l[k]?)=l.take m
 |0=>by simp
 |m+1=>by
  rw[JR,List.filterMap_append,tT l m,Ll];cases h:l[m]?<;>simp[h]
def A2(lo hi:Option Int)(n:Nat):Builtin.Str.strSliceIndices lo hi 1 n=(Il (HT.sIx n n hi-HT.sIx n 0 lo)).map λk=>HT.sIx n 0 lo+k:=by
 have MG:∀(i:Int) (d:Nat),max 0 (min (if i<0 then i+(n:Int)else i) (n:Int))=((HT.sIx n d (be i):Nat):Int):=by
  intro i d;show max 0 (min (if i<0 then i+(n:Int)else i) (n:Int))=(((if i<0 then(i+(n:Int)).toNat else min i.toNat n):Nat):Int);by_cases h:i<0
  .rw[if_pos h,if_pos h];lia
  .rw[if_neg h,if_neg h];lia
 have h1:Builtin.Str.strSliceIndices lo hi 1 n=sliceRange ((HT.sIx n 0 lo:Nat):Int) ((HT.sIx n n hi:Nat):Int) 1:=by
  unfold Builtin.Str.strSliceIndices;simp only[show(1:Int)>0 by decide,if_true];cases lo with
  |none=>cases hi with
   |none=>rfl
   |some j=>rw[<-MG j n];rfl
  |some i=>cases hi with
   |none=>rw[<-MG i 0];rfl
   |some j=>rw[<-MG i 0,<-MG j n]
 rw[h1];unfold sliceRange;simp only[show(1:Int)>0 by decide,if_true];have e3:(if((HT.sIx n 0 lo:Nat):Int)<((HT.sIx n n hi:Nat):Int)then(((HT.sIx n n hi:Nat):Int)-((HT.sIx n 0 lo:Nat):Int)+1-1)/1 else 0).toNat=HT.sIx n n hi-HT.sIx n 0 lo:=by
  split<;>lia
 rw[e3];apply JS;intro k _;lia
def slice_cps(y:Mr)(lo hi:Option Int):Txt.slice y lo hi=#[((y.cps.toList.drop (HT.sIx y.length 0 lo)).take (HT.sIx y.length y.length hi-HT.sIx y.length 0 lo)).toArray]:=by
 have la:HT.sIx y.length 0 lo<=y.length:=HT.sIx_le _ _ (IL _) lo;have lb:HT.sIx y.length y.length hi<=y.length:=HT.sIx_le _ _ (Ii _) hi;unfold Txt.slice;rw[A2];split
 .rename_i h;have hl:HT.sIx y.length y.length hi-HT.sIx y.length 0 lo=y.length:=by simpa using h
  have ha:HT.sIx y.length 0 lo=0\/y.length=0:=KK
  rw[hl];let#[cp]:=y;have e:(JC (HT.sIx (Str.mk cp).length 0 lo) cp.toList)=cp.toList:=by
   rcases ha with ha|ha
   .rw[ha];rfl
   .have:cp=[].toArray:=Lm ha;subst this;simp
  show(#[cp]:Mr)=#[((JC (HT.sIx (Str.mk cp).length 0 lo) cp.toList).take cp.size).toArray];rw[e,JD Nq]
 .congr 2;rw[K5];have:=tT (y.cps.toList.drop (HT.sIx y.length 0 lo)) (HT.sIx y.length y.length hi-HT.sIx y.length 0 lo);rw[<-this];congr 1;funext k;simp
section
variable {X:Cx}[J:Jx]{a b c e:VV}{ta tb tc te:TD}{pos:V4}
def tU:R2:=λx y H Q=>∃i n,x=.str i/\y=.int n/\(-(2^62)<=n/\n<=1000000/\i.length*n.toNat<=1000000)/\Q (.str (repS i n.toNat)) H
def A3:OpR X (Wc .Mult) tU:=by
 intro pins s σ H x y v u Q I rx ry h;let#[i,n,rfl,rfl,#[h1,h2,h3],q]:=h;let#[t,rfl]:=rx;let#[t',rfl]:=ry;have e_:∀tk t2,EP X pins σ Q (.str (repS i n.toNat) t2) {s with toks:=tk}:=λtk t2=>#[.str _,H,I.tok tk,#[_,rfl],q];have hs:i.length*n.toNat<=sizeLine:=Io h3 Nk;refine PySem.P.mul_str (by
  have a1:¬n< -(2^63:Int):=KK
  have a2:¬n>=2^63:=KK
  rw[decide_eq_false a1,decide_eq_false a2];rfl) (λn1 n2 hg=>?_) (λn1 n2=>?_) ?_
 .have hn:0<n:=by lia
  have h5:(2^63-1)/n>=1000000000000:=by
   have:(1000000000000:Int)*n<=2^63-1:=by lia
   exact Ln hn this
  have h6:i.length<=1000000:=by
   have:i.length*1<=i.length*n.toNat:=Lo _ KK;lia
  lia
 .unfold Builtin.Str.tooLong;exact decide_eq_false KK
 .by_cases c1:n<1
  .rw[if_pos c1];have e0:n.toNat=0:=by lia
   have:=e_ (s.toks+1) s.toks;rw[e0]at this;exact#[IL _,this]
  .rw[if_neg c1];by_cases c2:(n==1||i.length==0)=true
   .rw[if_pos c2];have e1:repS i n.toNat=i:=by
     rcases Lk.mp c2 with c|c
     .have:n=1:=by simpa using c
      subst this;show(#[(Iw 1 i.cps.toList).flatten.toArray]:Mr)=i;simp
     .have h0:i.length=0:=by simpa using c
      have h1:i.cps=[].toArray:=Lm h0;let#[cp]:=i;dsimp only at h1;subst h1;show(#[(Iw n.toNat []).flatten.toArray]:Mr)=#[[].toArray];simp
    have:=e_ s.toks t;rw[e1]at this;exact this
   .rw[if_neg c2];have:=e_ (s.toks+1) s.toks;unfold repS at this;rw[<-tS]at this;refine#[?_,this];show((Iw n.toNat i.cps).foldl (·++·) [].toArray).size<=sizeLine;rw[tS,Ir];have:=A1 i n.toNat;have e3:(repS i n.toNat).length=(Iw n.toNat i.cps.toList).flatten.length:=by show(Iw n.toNat i.cps.toList).flatten.toArray.size=_;rw[Ir]
    rw[<-e3,this,Kx];exact hs
def rdMulX:RD2:=λx y R=>match x,y with
 |.int i,.int j=>CMul i j/\R (.int (i*j))
 |.str i,.int n=>(-(2^62)<=n/\n<=1000000/\i.length*n.toNat<=1000000)/\R (.str (repS i n.toNat))
 |.lst xs,.int n=>(-(2^62)<=n/\n<=1000000/\xs.length*n.toNat<=1000000)/\R (.lst (Iw n.toNat xs).flatten)
 |_,_=>False
def Reps.rep{K:Ex}{F:Hp}{xs:List D}{us:List V}(r:Reps K F xs us):∀n:Nat,Reps K F (Iw n xs).flatten (Iw n us).flatten
 |0=>reps_nil.mpr rfl
 |n+1=>by
  rw[Jd,Jr,Jd,Jr];exact r.append (Reps.rep r n)
def A4{K:Ex}:aY K (λx y H Q=>rI CMul (λi j=>.int (i*j)) x y H Q\/(tU x y H Q\/rRep x y H Q)) rdMulX:=by
 intro x y u v F H R Q fh h rx ry q;unfold rdMulX at h;split at h
 .exact .inl #[_,_,rep_int.mp rx,rep_int.mp ry,h.1,q _ _ F H (Grow.refl fh) h.2 (rep_int.mpr rfl)]
 .exact .inr (.inl #[_,_,rep_str.mp rx,rep_int.mp ry,h.1,q _ _ F H (Grow.refl fh) h.2 (rep_str.mpr rfl)])
 .let#[l,vs,rfl,hq,rr]:=rep_lst.mp rx;let#[#[h1,h2,h3],h]:=h;refine .inr (.inr #[l,_,vs,rfl,rep_int.mp ry,fh _ _ hq,KK,KK,by rw[rr.length];exact Io h3 Nk,λp hp=>?_]);exact q _ _ _ _ (Grow.new fh hp _) h (rep_lst.mpr #[p,_,rfl,aC,(Reps.rep rr _).mono (aN (fh.free hp) _)])
 .exact h.elim
def A5(ha:WDE X a ta)(hb:WDE X b tb):WDE X (.BinOp a .Mult b pos) (dOp rdMulX ta tb):=#[dh (OpR.or qS (OpR.or A3 zx)) A4 ha.out hb.out]
def tV:SlR X (λx lo hi H Q=>∃y,x=.str y/\y.length<=sizeLine/\Q (.str (Txt.slice y lo hi)) H):=by
 intro pins s σ H x v vl vu lo hi sl Q I rx hs pl pu h;let#[y,rfl,hz,q]:=h;let#[t,rfl]:=rx;have e_:∀t' k,EP X pins σ Q (.str (Txt.slice y lo hi) t') {s with toks:=k}:=λt' k=>#[.str _,H,I.tok k,#[_,rfl],q];have le:=Io (Txt.slice_le y lo hi) hz;refine#["str",_,PySem.F.slot_str_getitem.lookup,XF _ _ _,?_];cases pl with
 |none=>cases pu with
  |none=>exact Wq (l:=z6) (u:=z6) (st:=z6) hs rfl (WQ #[le,e_])
  |int j tj=>exact Wq (l:=z6) (u:=be (j,tj)) (st:=z6) hs rfl (WQ #[le,e_])
 |int i ti=>cases pu with
  |none=>exact Wq (l:=be (i,ti)) (u:=z6) (st:=z6) hs rfl (WQ #[le,e_])
  |int j tj=>exact Wq (l:=be (i,ti)) (u:=be (j,tj)) (st:=z6) hs rfl (WQ #[le,e_])
abbrev TDO:=SD->(Option Int->Prop)->Prop
def A6:TDO:=λ_ R=>R z6
def A7(te:TD):TDO:=λz R=>te z λx=>match x with|.int i=>R (be i)|_=>False
def lO(K:Ex)[J:Jx](t:TDO):TO:=λs H Q=>∃B F z,Kept B J.F0 F H/\RepS K B F H z s/\∃R:Option Int->Prop,t z R/\∀o F' H',Grow F H F' H'->R o->Q o H'
abbrev DPO(X:Cx)[Jx](e:Option VV)(t:TDO):Prop:=PO X e (lO X.K t)
structure WDPO(X:Cx)[Jx](e:Option VV)(t:TDO):Prop where
 out:DPO X e t
def PO.anti{X:Cx}{e:Option VV}{t t':TO}(h:PO X e t)(a:∀s H Q,t' s H Q->t s H Q):PO X e t':=λpins s σ H Q I q=>h pins s σ H Q I (a _ _ _ q)
def bV:WDPO X z6 A6:=⟨PO.anti jI λs H Q q=>by
 let#[B,F,z,kf,rs,R,h1,h2]:=q;exact h2 z6 F H (Grow.refl kf.fh) h1⟩
def bz(he:WDE X e te):WDPO X (be e) (A7 te):=⟨PO.anti (jJ he.out) λs H Q q=>by
 let#[B,F,z,kf,rs,R,h1,h2]:=q;refine#[B,F,z,kf,rs,_,h1,λx u F1 H1 g1 hx rx=>?_];split at hx
 .exact#[_,rep_int.mp rx,h2 _ F1 H1 g1 hx]
 .exact hx.elim⟩
def rdSl:D->Option Int->Option Int->(D->Prop)->Prop:=λx lo hi R=>match x with
 |.str y=>y.length<=1000000/\R (.str (Txt.slice y lo hi))
 |.lst xs=>R (.lst (cutD xs lo hi))
 |.rol xs=>R (.lst (cutD xs lo hi))
 |.tup xs=>¬(HT.sIx xs.length 0 lo=0/\HT.sIx xs.length xs.length hi=xs.length)/\R (.tup (cutD xs lo hi))
 |_=>False
def dSl(ta:TD)(tl th:TDO):TD:=λz R=>ta z λx=>tl z λlo=>th z λhi=>rdSl x lo hi R
def bK{lo hi:Option VV}{tl th:TDO}{p2:V4}(ha:WDE X a ta)(hl:WDPO X lo tl)(hu:WDPO X hi th):WDE X (.Subscript a (.Slice lo hi z6 p2) pos) (dSl ta tl th):=⟨(gR (SlR.or tV (SlR.or gS rH)) ha.out hl.out hu.out).anti λs H Q q=>by
 let#[B,F,z,kf,rs,R,h1,h2]:=q;refine#[B,F,z,kf,rs,_,h1,λx u F1 H1 g1 hx rx=>?_];refine#[B,F1,z,kf.grow g1,rs.grow g1,_,hx,λlo F2 H2 g2 hy=>?_];refine#[B,F2,z,(kf.grow g1).grow g2,(rs.grow g1).grow g2,_,hy,λhi F3 H3 g3 hw=>?_];have g:=g1.trans (g2.trans g3);have MH:=(rx.mono g2.ff).mono g3.ff;unfold rdSl at hw;split at hw
 .exact .inl #[_,rep_str.mp MH,Io hw.1 Nk,h2 _ _ F3 H3 g hw.2 (rep_str.mpr rfl)]
 .let#[l,vs,rfl,hq,rr]:=rep_lst.mp MH;refine .inr (.inl #[l,vs,rfl,SqL.of (g3.fh _ _ hq),λp hp=>?_]);exact h2 _ _ _ _ (g.trans (Grow.new g3.fh hp _)) hw (rep_lst.mpr #[p,_,rfl,aC,(rr.cut _ _).mono (aN (g3.fh.free hp) _)])
 .let#[l,vs,rfl,hq,rr]:=rep_rol.mp MH;refine .inr (.inl #[l,vs,rfl,g3.fh.seq hq,λp hp=>?_]);exact h2 _ _ _ _ (g.trans (Grow.new g3.fh hp _)) hw (rep_lst.mpr #[p,_,rfl,aC,(rr.cut _ _).mono (aN (g3.fh.free hp) _)])
 .let#[l,vs,rfl,hq,rr]:=rep_tup_mp MH;refine .inr (.inr #[l,vs,rfl,g3.fh.tup hq,by rw[rr.length];exact hw.1,λp hp=>?_]);exact h2 _ _ _ _ (g.trans (Grow.new g3.fh hp _)) hw.2 (rep_tupS.mpr #[p,_,rfl,aC,(rr.cut _ _).mono (aN (g3.fh.free hp) _)])
 .exact hw.elim⟩
def rdIn(neg:Bool):RD2:=λx y R=>match y with
 |.str j=>kdS x λi=>R (.bl (if neg then !(!(Builtin.Str.occurrences j i 0 j.length 1).isEmpty)else !(Builtin.Str.occurrences j i 0 j.length 1).isEmpty))
 |.lst ys=>(bD x=true/\ys.all bD=true)/\R (.bl (if neg then !(ys.any λy=>eqF y x)else ys.any λy=>eqF y x))
 |.rol ys=>(bD x=true/\ys.all bD=true)/\R (.bl (if neg then !(ys.any λy=>eqF y x)else ys.any λy=>eqF y x))
 |.tup ys=>(bD x=true/\ys.all bD=true)/\R (.bl (if neg then !(ys.any λy=>eqF y x)else ys.any λy=>eqF y x))
 |_=>False
def ii{K:Ex}{H:Hp}{x:D}{u:V}(rx:Rep K H x u)(fx:bD x=true):∀{ys:List D} {vs:List V},Reps K H ys vs->ys.all bD=true->inV u vs=ys.any λy=>eqF y x
 |[],vs,r,_=>by rw[reps_nil.mp r];rfl
 |y::ys,vs,r,f=>by
  let#[v,vr,rfl,r1,r2]:=reps_cons.mp r;rw[JL,IS]at f;have ih:=ii rx fx r2 f.2;unfold inV at ih ⊢;rw[Kf,Kf,ih,sO r1 rx f.1 fx]
def rInV(K:Ex)(neg:Bool):R2:=λx y H Q=>(∃i j,x=.str i/\y=.str j/\Q (.bl (if neg then !(!(Builtin.Str.occurrences j i 0 j.length 1).isEmpty)else !(Builtin.Str.occurrences j i 0 j.length 1).isEmpty)) H)\/rIn K neg x y H Q
def A8{K:Ex}{neg:Bool}:aY K (rInV K neg) (rdIn neg):=by
 intro x y u v F H R Q fh h rx ry q;cases y with
 |str j=>
  replace h:=kdS.of h;let#[i,rfl,h]:=h;exact .inl #[_,_,rep_str.mp rx,rep_str.mp ry,q _ _ F H (Grow.refl fh) h (rep_bl.mpr rfl)]
 |lst ys=>
  let#[#[f1,f2],h]:=h;let#[l,vs,rfl,hq,rr]:=rep_lst.mp ry;exact .inr #[l,vs,rfl,.inl (fh.seq (SqL.of hq)),gY rx f1,dB rr f2,q _ _ F H (Grow.refl fh) h (rep_bl.mpr (by rw[ii rx f1 rr f2]))]
 |rol ys=>
  let#[#[f1,f2],h]:=h;let#[l,vs,rfl,hq,rr]:=rep_rol.mp ry;exact .inr #[l,vs,rfl,.inl (fh.seq hq),gY rx f1,dB rr f2,q _ _ F H (Grow.refl fh) h (rep_bl.mpr (by rw[ii rx f1 rr f2]))]
 |tup ys=>
  let#[#[f1,f2],h]:=h;let#[l,vs,rfl,hq,rr]:=rep_tup_mp ry;exact .inr #[l,vs,rfl,.inr (fh.tup hq),gY rx f1,dB rr f2,q _ _ F H (Grow.refl fh) h (rep_bl.mpr (by rw[ii rx f1 rr f2]))]
 |_=>exact False.elim h
def A9:OpR X (V6 .NotIn) (rInV X.K true):=OpR.or zp zo
end
end My
namespace L2
def Its(x:Mr):It:=#[λi _=>i<x.length,λi H v H'=>H'=H/\∃c,x.cps[i]?=be c/\v=.str #[[c].toArray],λi _=>x.length<=i]
def Ba{P:VU}{w:VX}{K:Ex}{tg:VV}(x:Mr)(t:XU)(it:Pi):Turn P w K tg (Its x) [it] it (λi h=>h.IsStrIter it "str_ascii_iterator" x t i) where
 mem:=Nq
 obj:=λi h st b hb=>by
  have e:b=it:=by simpa using hb
  subst e;let#[o,e,c,d]:=st;exact#[o,e,λv z=>by rw[d]at z;cases z]
 keep:=λi h h' st k=>by
  let#[o,e,r]:=st;exact#[o,k it Nq o e,r]
 item:=by
  intro X hP hw hK hc i pins s σ H E I hf st hg;subst hP hw hK;have hi:i<x.cps.size:=hg;let#[f0,f1,f2,f3,f4,f5]:=hf it Nq;refine wpAny_pyNext_ascii_item st (c:=x.cps[i]) (Lp hi) λh' y_ sb=>?_;have I1:Inv X pins σ H {s with heap:=h',toks:=s.toks+1}:=I.turned (t':=s.toks+1) (λb o hb e=>(sb.2 b hb).trans e) f0 f1 f3 f4 f5;let#[o,e,c,d]:=id y_;exact#[_,rfl,jw (s:={s with heap:=h',toks:=s.toks+1}) e c d Nk #[.str #[[x.cps[i]].toArray],H,I1,#[_,rfl],#[rfl,_,Lp hi,rfl],y_,λb hb=>(hf b hb).1]]
 done:=by
  intro X hP hw hK hc i pins s σ H E I hf st hg;subst hP hw hK;have hi:x.cps.size<=i:=hg;let#[f0,f1,f2,f3,f4,f5]:=hf it Nq;exact wpAny_pyNext_ascii_end (I.ok.hd hc) st (Array.getElem?_eq_none hi) λh' eb=>#[rfl,I.turned (t':=s.toks) (λb o hb e=>eb b o hb e) f0 f1 f3 f4 f5]
 self:=λA i s Q E st hQ=>wpAny_pyIter_striter_ascii st hQ
def iStr(tl:TE):TI:=λσ H R=>tl σ H λv H1=>∃x,v=.str x/\x.cps.all (·<128)=true/\R (Its x) H1
def tW{X:Cx}{tg l:VV}{tl:TE}(hl:PE X l tl):PI X tg l (iStr tl):=by
 intro pins s σ H R I h;refine thn (hl pins s σ H _ I h) λv s1 c7=>?_;let#[v1,H1,I1,r1,q1]:=c7;let#[x,rfl,ha,q]:=q1;let#[t,rfl]:=r1;refine wpAny_pyIter_ascii ha ?_;refine#[s1.heap.objs.size,[s1.heap.objs.size],_,_,H1,rfl,I1.kept (t':=s1.toks) λb o e=>Heap.get?_push_of_some _ e,Ba x t _,#[_,Heap.get?_push_size _ rfl,rfl,rfl],λb hb=>?_,q];have e:b=s1.heap.objs.size:=by simpa using hb
 subst e;exact I1.fpOk (Ii _) (I1.hok.fresh (Ii _))
def Bb{x:Mr}{g:TG}{tb:TS}{D:Ends}{σ:St}{H:Hp}(Pv:Nat->St->Hp->Prop)(h0:Pv 0 σ H)
  (hs:∀i c σ H,x.cps[i]?=be c->Pv i σ H->g (.str #[[c].toArray]) σ H λσ2 H2=>tb {D with nx:=Pv (i+1),ct:=Pv (i+1),bk:=D.nx} σ2 H2) (hd:∀σ H,Pv x.length σ H->D.nx σ H):
  ∃W:Nat->Nat->St->Hp->Prop,(∃m,W 0 m σ H)/\∀i m σ H,W i m σ H->
   ((Its x).stop i H/\D.nx σ H)\/((Its x).go i H/\∃N:St->Hp->Prop,(∀σ' H',N σ' H'->∃m',m'<m/\W (i+1) m' σ' H')/\∀v H',(Its x).yld i H v H'->g v σ H' λσ2 H2=>tb {D with nx:=N,ct:=N,bk:=D.nx} σ2 H2):=by
 refine#[λi m σ H=>m=x.length-i/\i<=x.length/\Pv i σ H,#[x.length,Nq,IL _,h0],?_];rintro i m σ H ⟨rfl,hi,p⟩;by_cases gV:i<x.length
 .refine .inr #[gV,Pv (i+1),λσ' H' p'=>#[x.length-(i+1),KK,rfl,gV,p'],λv H' y=>?_];let#[e,c,hc,rfl]:=y;subst e;exact hs i c σ _ hc p
 .have e:i=x.length:=by lia
  subst e;exact .inl #[Ii _,hd σ H p]
end L2
namespace My
section
variable {X:Cx}[J:Jx]{a b c e:VV}{ta tb tc te:TD}{pos:V4}
def bW(x:Mr):List D:=x.cps.toList.map λc=>D.str #[[c].toArray]
def dItS(t:TD):TDI:=λz R=>t z λy=>match y with|.str x=>x.cps.all (·<128)=true/\R (bW x)|_=>False
def signs_get{x:Mr}{k c:Nat}(h:x.cps[k]?=be c):(bW x)[k]?=be (.str #[[c].toArray]):=by
 unfold bW;rw[Iy,K8,h];rfl
def fz(x:Mr):(bW x).length=x.length:=by unfold bW;rw[Ij];simp[Str.length]
def Bc(i:Nat){x:Mr}{p:V4}{body:List VS}{tb:TSD}(hp:Wd (VT X.prog X.w) X.A X.env X.xe)(hc:X.calm=true)(hN:X.N.Nodup)(he:WDE X e te)(hb:WDSs X body tb)(hi:(X.N[i]?=be x)\zA0)(hx:Loc X.env.scope x\zA4)
  (hf:zFN X x\zA2) (hs:(∀y,zFS X e y)\zA3):WDS X (.For (.Name x p) e body [] pos) (dFor i (dItS te) tb):=⟨(cO hp hc (tW he.out) (dO hN hi hx hf) hb.out hs).anti λE s H q=>by
 let#[B,F0,F,z,kp,rs,ED,h,e]:=q;refine#[B,F,z,kp.kf,rs,_,h,λd v F1 H1 g1 hd rd=>?_];split at hd
 .rename_i y;let#[ha,W,w0,d6,out]:=hd;refine#[y,rep_str.mp rd,ha,Bb (λk s' H'=>∃F' z',Kept B F0 F' H'/\RepS X.K B F' H' z' s'/\W k z') #[F1,z,kp.grow g1,rs.grow g1,w0] ?_ ?_]
  .rintro k c s' H' hk⟨F',z',k',r',w'⟩;exact#[B,F0,F',_,k',r'.set (d:=.str #[[c].toArray]) (rep_str.mpr rfl),_,d6 k (.str #[[c].toArray]) z' (signs_get hk) w',#[λz3 s3 F3 H3 k3 h3 r3=>#[F3,z3,k3,r3,h3],e.rt,e.nx,λz3 s3 F3 H3 k3 h3 r3=>#[F3,z3,k3,r3,h3]]]
  .rintro s' H'⟨F',z',k',r',w'⟩;exact e.nx z' s' F' H' k' (out z' (by rw[fz];exact w')) r'
 .exact hd.elim⟩
variable {g_ iter:VV}{x:Mr}{px:V4}{scope:Wl}{ti:TD}
def itS{K:Ex}:ItOk K (iStr (lE K ti)) (dItS ti):=λ{s H B F z P Q} kf rs h1 h2=>by
 refine#[B,F,z,kf,rs,_,h1,λd v F1 H1 g1 hd rd=>?_];split at hd
 .rename_i y;let#[ha,hd]:=hd;have hl:=fz y;refine#[y,rep_str.mp rd,ha,h2 _ _ F1 H1 g1 hd #[λk F' H' G hk=>by rw[hl]at hk;exact hk,λk F' H' v H'' G hk hy=>?_,λF' H' G=>by show y.length<=_;rw[hl];exact Ii _]];let#[e,c,hc,rfl]:=hy;exact#[e,.str #[[c].toArray],signs_get hc,rep_str.mpr rfl]
 .exact hd.elim
end
section
variable {X:Cx}[J:Jx]{a b c e o:VV}{es:List VV}{ta tb tc te to:TD}{t:TDA}{pos:V4}
abbrev RTx:=Mr->List D->(D->Prop)->Prop
def dTx(r:RTx)(to:TD)(t:TDA):TD:=λz R=>to z λx=>match x with|.str y=>t z λds=>r y ds R|_=>False
def MtS(X:Cx)(id:String)(r:RTx):Prop:=∃rv:V->List V->Hp->VK->Prop,MtR X id rv/\∀(y:Mr) (ds:List D) (vs:List V) (F H:Hp) (R:D->Prop) (Q:VK),Reps X.K F ds vs->r y ds R->(∀d v,(∀G,Rep X.K G d v)->R d->Q v H)->rv (.str y) vs H Q
variable{b7 a8:V4}
def kI{name:Mr}{id:String}{r:RTx}(slot:Slot "str" name id)(Oq:typeOf (.builtin id)=pure (.type "method_descriptor"))(hm:MtS X id r)(ho:DE X o to)(ha:DA X (e::es) t)
  (b_:(V1 o name X.env (V3 o X.env)=V3 o X.env)\zA0)
  (f6:zHF X a8 (e::es)\zA0)
  (c9:((b7.endLine==a8.line)=true)\zA0) (hs:zSE X e es\zA0) (s9:zPL X a8 es\zA0):
  DE X (.Call (.Attribute o name b7) (e::es) [] a8) (dTx r to t):=by
 let#[rv,hm,L]:=hm;refine(eO PySem.F.plainAttrs_str slot Oq hm ho ha b_ f6 c9 hs s9).anti λs H Q q=>?_;let#[B,F,z,kf,rs,R,h1,h2]:=q;refine#[B,F,z,kf,rs,_,h1,λx u F1 H1 g1 hx rx=>?_];split at hx
 .rename_i y;rw[rep_str.mp rx];refine#[rfl,B,F1,z,kf.grow g1,rs.grow g1,_,hx,λds vs F2 H2 g2 hy ry=>?_];exact L y ds vs F2 H2 R Q ry hy λd v rd hR=>h2 d v F2 H2 (g1.trans g2) hR (rd F2)
 .exact hx.elim
def rEnds:RTx:=λy ds R=>match ds with|[.str p]=>R (.bl (Txt.endswith y p))|_=>False
def ms_ends:MtS X "str.endswith" rEnds:=by
 refine#[λx vs H Q=>∃y p,x=.str y/\vs=[.str p]/\Q (.bl (Txt.endswith y p)) H,?_,?_]
 .intro pins s σ H x vs v us Q I rx rv h;let#[y,p,rfl,rfl,q]:=h;let#[t,rfl]:=rx;let#[u,rfl,t',rfl]:=vals1 rv;exact SC.endswith #[.bl _,H,I,rfl,q]
 .intro y ds vs F H R Q r h q;unfold rEnds at h;split at h
  .let#[v,vr,rfl,h1,h2]:=reps_cons.mp r;rw[reps_nil.mp h2,rep_str.mp h1];exact#[_,_,rfl,rfl,q _ _ (λ_=>rep_bl.mpr rfl) h]
  .exact h.elim
def Bd(ho:WDE X o to)(ha:WDA X [e] t)(b_:(V1 o "endswith" X.env (V3 o X.env)=V3 o X.env)\zA0)
  (f6:zHF X a8 [e]\zA0)
  (c9:((b7.endLine==a8.line)=true)\zA0) (hs:zSE X e []\zA0):WDE X (.Call (.Attribute o "endswith" b7) [e] [] a8) (dTx rEnds to t):=#[kI PySem.F.slot_str_endswith PySem.F.type_str_endswith ms_ends ho.out ha.out b_ f6 c9 hs]
def rSIndex:RTx:=λy ds R=>match ds with|[.str p]=>∃i rest,Builtin.Str.occurrences y p 0 y.length 1=i::rest/\R (.int (i:Nat))|_=>False
def Be:MtS X "str.index" rSIndex:=by
 refine#[λx vs H Q=>∃y p i rest,x=.str y/\vs=[.str p]/\Builtin.Str.occurrences y p 0 y.length 1=i::rest/\Q (.int (i:Nat)) H,?_,?_]
 .intro pins s σ H x vs v us Q I rx rv h;let#[y,p,i,rest,rfl,rfl,ho,q]:=h;let#[t,rfl]:=rx;let#[u,rfl,t',rfl]:=vals1 rv;exact SC.index ho #[.int _,H,I.tok _,#[_,rfl],q]
 .intro y ds vs F H R Q r h q;unfold rSIndex at h;split at h
  .let#[i,rest,ho,h]:=h;let#[v,vr,rfl,h1,h2]:=reps_cons.mp r;rw[reps_nil.mp h2,rep_str.mp h1];exact#[_,_,i,rest,rfl,rfl,ho,q _ _ (λ_=>rep_int.mpr rfl) h]
  .exact h.elim
def kJ(ho:WDE X o to)(ha:WDA X [e] t)(b_:(V1 o "index" X.env (V3 o X.env)=V3 o X.env)\zA0)
  (f6:zHF X a8 [e]\zA0)
  (c9:((b7.endLine==a8.line)=true)\zA0) (hs:zSE X e []\zA0):WDE X (.Call (.Attribute o "index" b7) [e] [] a8) (dTx rSIndex to t):=#[kI PySem.F.slot_str_index PySem.F.type_str_index Be ho.out ha.out b_ f6 c9 hs]
def Reps.init{K:Ex}{F:Hp}:∀{ds:List D} {vs:List V},Reps K F ds vs->Reps K F ds.dropLast vs.dropLast
 |[],vs,r=>by rw[reps_nil.mp r];exact reps_nil.mpr rfl
 |[d],vs,r=>by
  let#[v,vr,rfl,_,h2]:=reps_cons.mp r;rw[reps_nil.mp h2];exact reps_nil.mpr rfl
 |d::d2::ds,vs,r=>by
  let#[v,vr,rfl,h1,h2]:=reps_cons.mp r;let#[v2,Vq,rfl,h3,h4]:=reps_cons.mp h2;rw[Lq,Lq];exact reps_cons.mpr #[v,_,rfl,h1,Reps.init h2]
end
end My
namespace My
open Exc
section
variable {X:Cx}{a b c e:VV}{ta tb tc te:TD}{pos:V4}{st:VS}{rest:List VS}{t u:TSD}
def bA[Jx]{c:VV}{l r:List VS}{tc:TDT}(hc:WDT X c tc)(ha:WDSs X l t)(hb:WDSs X r u):WDS X (.If c l r pos) (dIfS tc t u):=#[sS (c:=c) (l:=l) (r:=r) (tc:=tc) (hc:=hc.out) (ha:=ha.out) (hb:=hb.out)]
end
section
variable {P:VU}{w:VX}{K:Ex}{mg:Mr->Option Os}{base:Heap}
variable{x qual:Mr}{st:VS}{f:Pi}{fd:V2}{N ps:List Mr}{k:Nat}
def _root_.L2.Fun.okDW{S:SpD}(T:Fun K x qual st f fd)(F:FnScope N ps (ah st))(len:∀ds R,S ds R->ds.length=ps.length)
  (a9:∀(cdv:Os) (A:VY) (outer:List WD) (s:SB) (H:Hp) (E:XK) (J:Jx),Room k (A.deeper (V7 qual (ah st) s.heap.objs.size f cdv))->
   ∃t,WDSs (cxOf (Exc.CX1 P w) P w K mg base N qual (ah st) f cdv A outer s H E).nox (aL st) t/\∀ds R,S ds R->t {nx:=λ_=>R .non,rt:=R} (startD N ds)):FnOk P w K mg base (Exc.CX1 P w) (k+1) f fd ps (lSp K S):=
 T.okD F len λcdv A outer s H E J hr=>let ⟨t,h,q⟩:=a9 cdv A outer s H E J hr;#[t,h.out,q]
def Tx.okDW{S:SpD}(T:Tx K mg x st ps)(F:FnScope N ps (ah st))(len:∀ds R,S ds R->ds.length=ps.length)
  (a9:∀(f:Pi) (cdv:Os) (A:VY) (outer:List WD) (s:SB) (H:Hp) (E:XK) (J:Jx),Room k (A.deeper (V7 x (ah st) s.heap.objs.size f cdv))->
   ∃t,WDSs (cxOf (Exc.CX1 P w) P w K mg base N x (ah st) f cdv A outer s H E).nox (aL st) t/\∀ds R,S ds R->t {nx:=λ_=>R .non,rt:=R} (startD N ds)):CalD P w K mg base (k+1) x ps S:=
 Tx.okD T F len λf cdv A outer s H E J hr=>let ⟨t,h,q⟩:=a9 f cdv A outer s H E J hr;#[t,h.out,q]
def Tx.okXW{S:SpX}(T:Tx K mg x st ps)(F:FnScope N ps (ah st))(len:∀ds R RX,S ds R RX->ds.length=ps.length)
  (a9:∀(f:Pi) (cdv:Os) (A:VY) (outer:List WD) (s:SB) (H:Hp) (E:XK) (J:Jx),Room k (A.deeper (V7 x (ah st) s.heap.objs.size f cdv))->XOk (cxOf (CX1 P w) P w K mg base N x (ah st) f cdv A outer s H E)->
   ∃t,WDSs (cxOf (CX1 P w) P w K mg base N x (ah st) f cdv A outer s H E) (aL st) t/\∀ds R RX,(∀z,J.RX z=RX)->S ds R RX->t {nx:=λ_=>R .non,rt:=R} (startD N ds)):CalX P w K mg base (k+1) x ps S:=
 Tx.okX T F len λf cdv A outer s H E J hr hx=>let ⟨t,h,q⟩:=a9 f cdv A outer s H E J hr hx;#[t,h.out,q]
def Cls.okIW{C:Pi}{p0:Mr}{S:SiD}(T:Fun K "__init__" qual st f fd)(hb:Binds K fd (p0::ps) [])(F:FnScope (p0::N) (p0::ps) (ah st))(len:∀ds R,S ds R->ds.length=ps.length)
  (hns:nsIn K SL x=be (be (.ref C))) (l6:mg x=be (.ref C)) (mk:Mk K C f)
  (a9:∀(cdv:Os) (A:VY) (outer:List WD) (s:SB) (H:Hp) (E:XK) (J:Jx),Room k (A.deeper (V7 qual (ah st) s.heap.objs.size f cdv))->
   ∃t,WDI (cxOf (Exc.CX1 P w) P w K mg base (p0::N) qual (ah st) f cdv A outer s H E).nox x (aL st) t/\∀ds R,S ds R->t (z6::startD N ds) [] R):CalM P w K mg base (k+1) x (p0::ps) S:=
 Cls.okI T hb F len hns l6 mk λcdv A outer s H E J hr=>let ⟨t,h,q⟩:=a9 cdv A outer s H E J hr;#[t,h.out,q]
def Cls.okEW{C N0:Pi}{bm:List Os}{p0:Mr}{S:SiD}(T:Fun K "__init__" qual st f fd)(hb:Binds K fd (p0::ps) [])(F:FnScope (p0::N) (p0::ps) (ah st))(len:∀ds R,S ds R->ds.length=ps.length)
  (ek:ErrK K mg x C N0 bm) (hi:Iq K (.ref C) "__init__"=be (be (.ref f))) (hf:isFn K (.ref f)=true)
  (a9:∀(cdv:Os) (A:VY) (outer:List WD) (s:SB) (H:Hp) (E:XK) (J:Jx),Room k (A.deeper (V7 qual (ah st) s.heap.objs.size f cdv))->
   ∃t,WDX (cxOf (CX1 P w) P w K mg base (p0::N) qual (ah st) f cdv A outer s H E).nox x (aL st) t/\∀ds R,S ds R->t (z6::startD N ds) [] R):CalE P w K mg base (k+1) x (p0::ps) S:=
 Cls.okE T hb F len ek hi hf λcdv A outer s H E J hr=>let ⟨t,h,q⟩:=a9 cdv A outer s H E J hr;#[t,h.out,q]
end
inductive MO where
 |ins (x:Str) (fs:List (Str×D))|lst (ds:List D)|dti (a_:List ((Int×Int)×Int))
abbrev MS:=List (Pi×MO)
def MRep(K:Ex)(F H:Hp)(a:Pi):MO->Prop
 |.ins x fs=>∃C dx ws,nsIn K SL x=be (be (.ref C))/\H a=be (.ins C dx ws)/\RepF K F fs ws
 |.lst ds=>∃vs,H a=be (.lst vs)/\Reps K F ds vs
 |.dti a_=>H a=be (.dT (dtiV a_))
def aw(M:MS):List Pi:=M.map (·.1)
def mget:MS->Pi->Option MO
 |[],_=>z6
 |(b,o)::r,a=>if b=a then be o else mget r a
def mput:MS->Pi->MO->MS
 |[],_,_=>[]
 |(b,p)::r,a,o=>if b=a then(b,o)::r else(b,p)::mput r a o
def mdel:MS->Pi->MS
 |[],_=>[]
 |(b,p)::r,a=>if b=a then r else(b,p)::mdel r a
def bt:∀{M:MS} {a:Pi} {o:MO},mget M a=be o->(a,o)∈M
 |[],_,_,h=>by cases h
 |(b,p)::r,a,o,h=>by
  unfold mget at h;split at h
  .rename_i e;subst e;cases h;exact Ip
  .exact Im _ (bt h)
variable{M:MS}{a:Pi}{o:MO}
def bX(h:(a,o)∈M):a∈aw M:=IJ.mpr #[_,h,rfl]
def ij:∀(M:MS) (a:Pi) (o:MO),aw (mput M a o)=aw M
 |[],_,_=>rfl
 |(b,p)::r,a,o=>by
  unfold mput;split
  .rfl
  .show b::aw (mput r a o)=b::aw r;rw[ij r a o]
def mem_put:∀{M:MS} {a b:Pi} {o q:MO},(aw M).Nodup->(b,q)∈mput M a o->(b=a/\q=o/\a∈aw M)\/(b≠a/\(b,q)∈M)
 |[],_,_,_,_,_,h=>by cases h
 |(c,p)::r,a,b,o,q,nd,h=>by
  have OM:c∉aw r/\(aw r).Nodup:=Jo.mp nd;unfold mput at h;split at h
  .rename_i e;subst e;rcases Ik.mp h with z|z
   .cases z;exact .inl #[rfl,rfl,Ip]
   .have:b∈aw r:=bX z;exact .inr #[λe=>OM.1 (e ▸ this),Im _ z]
  .rename_i ne;rcases Ik.mp h with z|z
   .cases z;exact .inr #[ne,Ip]
   .rcases mem_put OM.2 z with⟨e1,e2,e3⟩|⟨e1,e2⟩
    .exact .inl #[e1,e2,Im _ e3]
    .exact .inr #[e1,Im _ e2]
def kK:∀{M:MS} {a b:Pi} {q:MO},(aw M).Nodup->(b,q)∈mdel M a->b≠a/\(b,q)∈M
 |[],_,_,_,_,h=>by cases h
 |(c,p)::r,a,b,q,nd,h=>by
  have OM:c∉aw r/\(aw r).Nodup:=Jo.mp nd;unfold mdel at h;split at h
  .rename_i e;subst e;exact#[λe=>OM.1 (e ▸ bX h),Im _ h]
  .rename_i ne;rcases Ik.mp h with z|z
   .cases z;exact#[ne,Ip]
   .let#[e1,e2]:=kK OM.2 z;exact#[e1,Im _ e2]
def del_sub:∀{M:MS} {a:Pi},(aw (mdel M a)).Sublist (aw M)
 |[],_=>.slnil
 |(c,p)::r,a=>by
  unfold mdel;split
  .exact List.sublist_cons_self _ _
  .exact List.Sublist.cons_cons _ del_sub
variable{K:Ex}{F H F' H':Hp}
def MRep.mono(ff:Same F F')(hh:∀o,H a=be o->H' a=be o):∀{o:MO},MRep K F H a o->MRep K F' H' a o
 |.ins x fs,⟨C,dx,ws,n,h,r⟩=>#[C,dx,ws,n,hh _ h,RepF.mono ff fs ws r]
 |.lst ds,⟨vs,h,r⟩=>#[vs,hh _ h,Reps.mono ff ds vs r]
 |.dti a_,h=>hh _ h
def MRep.there:∀{o:MO},MRep K F H a o->H a≠z6
 |.ins x fs,⟨C,dx,ws,n,h,r⟩=>by rw[h];exact λz=>nomatch z
 |.lst ds,⟨vs,h,r⟩=>by rw[h];exact λz=>nomatch z
 |.dti a_,h=>by rw[show H a=_ from h];exact λz=>nomatch z
structure RepM(K:Ex)(F H:Hp)(M:MS):Prop where
 nd:(aw M).Nodup
 ok:∀a o,(a,o)∈M->MRep K F H a o
 fr:∀a,a∈aw M->F a=z6
def RepM.nil:RepM K F H []:=#[Le,(λ_ _ h=>nomatch h),(λ_ h=>nomatch h)]
def RepM.here(r:RepM K F H M)(h:a∈aw M):H a≠none:=by
 let#[#[b,o],h1,rfl]:=IJ.mp h;exact(r.ok _ _ h1).there
structure GrowM(M M':MS)(F H F' H':Hp):Prop where
 ff:Same F F'
 fh:Same F' H'
 hh:∀b o,b∉aw M->H b=be o->H' b=be o
 out:∀b,b∉aw M->F b=z6->H b≠z6->F' b=z6
 ks:∀b,b∈aw M'->b∈aw M\/H b=z6
def Grow.toM(g:Grow F H F' H'):GrowM M M F H F' H':=#[g.ff,g.fh,λb o _ h=>g.hh b o h,λb _ h1 h2=>g.out b h1 h2,λb h=>.inl h]
def GrowM.refl(h:Same F H):GrowM M M F H F H:=(Grow.refl h).toM
def GrowM.trans{M1 M2:MS}{F1 H1 F2 H2:Hp}(g:GrowM M M1 F H F1 H1)(k:GrowM M1 M2 F1 H1 F2 H2):GrowM M M2 F H F2 H2 where
  ff:=g.ff.trans k.ff
  fh:=k.fh
  hh:=λb o nb h=>k.hh b o (λz=>by rcases g.ks b z with q|q;exact nb q;rw[q]at h;cases h) (g.hh b o nb h)
  out:=λb nb h1 h2=>k.out b (λz=>by rcases g.ks b z with q|q;exact nb q;exact h2 q) (g.out b nb h1 h2) (by
    cases e:H b with
    |none=>exact absurd e h2
    |some o=>rw[g.hh b o nb e];exact λz=>nomatch z)
  ks :=λb h=>by
    rcases k.ks b h with q|q
    . exact g.ks b q
    . by_cases nb:b∈aw M
      . exact .inl nb
      . right;cases e:H b with
        |none=>rfl
        |some o=>rw[g.hh b o nb e]at q;cases q
def RepM.grow(r:RepM K F H M)(g:Grow F H F' H'):RepM K F' H' M:=
 #[r.nd,λa o h=>(r.ok a o h).mono g.ff λo e=>g.hh a o e,λa h=>g.out a (r.fr a h) (r.here h)]
variable{ho:HO}
def RepM.put{o':MO}(r:RepM K F H M)(e:mget M a=be o)(h:MRep K F (upd H a ho) a o'):RepM K F (upd H a ho) (mput M a o'):=
 ⟨by rw[ij];exact r.nd,λb q hb=>by
  rcases mem_put r.nd hb with⟨rfl,rfl,_⟩|⟨ne,hb⟩
  .exact h
  .exact(r.ok b q hb).mono (Same.refl F) λu z=>by rw[ar ne];exact z,λb hb=>r.fr b (by rw[ij]at hb;exact hb)⟩
def GrowM.put{o':MO}(fh:Same F H)(fa:F a=z6)(e:mget M a=be o):GrowM M (mput M a o') F H F (upd H a ho) where
 ff:=Same.refl F
 fh:=λb u z=>by
  have ne:b≠a:=by rintro rfl;rw[fa]at z;cases z
  rw[ar ne];exact fh b u z
 hh:=λb u nb z=>by
  have ne:b≠a:=by rintro rfl;exact nb (bX (bt e))
  rw[ar ne];exact z
 out:=λb _ h _=>h
 ks:=λb h=>.inl (by rw[ij]at h;exact h)
def RepM.new{p:Pi}(r:RepM K F H M)(fh:Same F H)(hp:H p=z6)(h:MRep K F (upd H p ho) p o):RepM K F (upd H p ho) ((p,o)::M):=by
 have np:p∉aw M:=λz=>r.here z hp;refine#[Jo.mpr #[np,r.nd],λb q hb=>?_,λb hb=>?_]
 .rcases Ik.mp hb with z|z
  .cases z;exact h
  .exact(r.ok b q z).mono (Same.refl F) λu z'=>by rw[ar (λe:b=p=>np (e ▸ bX z))];exact z'
 .rcases Ik.mp hb with z|z
  .rw[z];exact fh.free hp
  .exact r.fr b z
def GrowM.new{p:Pi}(fh:Same F H)(hp:H p=z6):GrowM M ((p,o)::M) F H F (upd H p ho) where
 ff:=Same.refl F
 fh:=fh.trans (aN hp _)
 hh:=λb u _ z=>aN hp _ b u z
 out:=λb _ h _=>h
 ks:=λb h=>by
  rcases Ik.mp h with z|z
  .exact .inr (by rw[z];exact hp)
  .exact .inl z
structure RepZ(K:Ex)(B F H:Hp)(z:SD)(s:L2.St)(M:MS):Prop where
 rs:RepS K B F H z s
 no:∀(i:Nat) ds,z[i]?≠be (be (.own ds))
 rm:RepM K F H M
 mb:∀a,a∈aw M->B a=z6
variable{B:Hp}{M':MS}
def Kept.growM[Jx]{F0:Hp}(k:Kept B F0 F H)(mb:∀a,a∈aw M->B a=z6)(g:GrowM M M' F H F' H'):Kept B F0 F' H' where
 bh:=λb o e=>g.hh b o (λz=>by rw[mb b z]at e;cases e) (k.bh b o e)
 fh:=g.fh
 f0:=k.f0.trans g.ff
 out:=λb h1 h2=>g.out b (λz=>h2 (mb b z)) (k.out b h1 h2) (by
  cases e:B b with
  |none=>exact absurd e h2
  |some o=>rw[k.bh b o e];exact λz=>nomatch z)
 eb:=k.eb
 jf:=k.jf
 jo:=k.jo
variable{z:SD}{s:L2.St}
def RepS.growM(r:RepS K B F H z s)(no:∀(i:Nat) ds,z[i]?≠be (be (.own ds)))(g:GrowM M M' F H F' H'):RepS K B F' H' z s where
 len:=r.len
 val:=λi d e n=>let ⟨v,q1,q2⟩:=r.val i d e n;#[v,q1,q2.mono g.ff]
 own:=λi ds e=>absurd e (no i ds)
 apart:=r.apart
def RepZ.growM(r:RepZ K B F H z s M)(bh:Same B H)(g:GrowM M M' F H F' H')(rm:RepM K F' H' M'):RepZ K B F' H' z s M':=
 ⟨r.rs.growM r.no g,r.no,rm,λa h=>by
  rcases g.ks a h with q|q
  .exact r.mb a q
  .exact bh.free q⟩
def RepZ.set{i:Nat}{d:D}{v:V}(r:RepZ K B F H z s M)(rd:Rep K F d v):RepZ K B F H (z.set i (be d)) (s.set i (be v)) M:=
 ⟨r.rs.set rd,λj ds e=>by
  by_cases hj:i=j
  .subst hj;rw[JA]at e;simp at e;have:=rd.noown;rw[e.2]at this;cases this
  .rw[Iz hj]at e;exact r.no j ds e,r.rm,r.mb⟩
class Jm extends Jx where
 RM:SD->MS->XD
abbrev TME:=SD->MS->(D->MS->Prop)->Prop
abbrev TMT:=SD->MS->(Bool->MS->Prop)->Prop
abbrev TMA:=SD->MS->(List D->MS->Prop)->Prop
structure EndsM where
 nx:SD->MS->Prop
 rt:D->MS->Prop
 bk:SD->MS->Prop:=λ_ _=>False
 ct:SD->MS->Prop:=λ_ _=>False
abbrev TMS:=EndsM->SD->MS->Prop
def mE(K:Ex)[J:Jm](t:TME):TE:=λs H Q=>∃F z M,Kept J.B J.F0 F H/\RepZ K J.B F H z s M/\∃R:D->MS->Prop,t z M R/\∀d v M' F' H',GrowM M M' F H F' H'->R d M'->Rep K F' d v->RepM K F' H' M'->Q v H'
def mT(K:Ex)[J:Jm](t:TMT):TT:=λs H Q=>∃F z M,Kept J.B J.F0 F H/\RepZ K J.B F H z s M/\∃R:Bool->MS->Prop,t z M R/\∀b M' F' H',GrowM M M' F H F' H'->R b M'->RepM K F' H' M'->Q b H'
def mA(K:Ex)[J:Jm](t:TMA):TA:=λs H Q=>∃F z M,Kept J.B J.F0 F H/\RepZ K J.B F H z s M/\∃R:List D->MS->Prop,t z M R/\∀ds vs M' F' H',GrowM M M' F H F' H'->R ds M'->Reps K F' ds vs->RepM K F' H' M'->Q vs H'
structure EndsOkM[J:Jm](K:Ex)(F0:Hp)(ED:EndsM)(E:Ends):Prop where
 nx:∀z' s' M' F' H',Kept J.B F0 F' H'->ED.nx z' M'->RepZ K J.B F' H' z' s' M'->E.nx s' H'
 rt:∀d v M' F' H',Kept J.B F0 F' H'->ED.rt d M'->Rep K F' d v->RepM K F' H' M'->(∀a,a∈aw M'->J.B a=z6)->E.rt v H'
 bk:∀z' s' M' F' H',Kept J.B F0 F' H'->ED.bk z' M'->RepZ K J.B F' H' z' s' M'->E.bk s' H'
 ct:∀z' s' M' F' H',Kept J.B F0 F' H'->ED.ct z' M'->RepZ K J.B F' H' z' s' M'->E.ct s' H'
def mS(K:Ex)[J:Jm](t:TMS):TS:=λE s H=>∃F0 F z M,Kept J.B F0 F H/\RepZ K J.B F H z s M/\∃ED:EndsM,t ED z M/\EndsOkM K F0 ED E
structure ME(X:Cx)[Jm](e:VV)(t:TME):Prop where
 out:PE X e (mE X.K t)
structure MT(X:Cx)[Jm](e:VV)(t:TMT):Prop where
 out:PT X e (mT X.K t)
structure MW(X:Cx)[Jm](e:VV)(t:TMT):Prop where
 out:PW X e (mT X.K t)
structure MA(X:Cx)[Jm](es:List VV)(t:TMA):Prop where
 out:PA X es (mA X.K t)
structure MSt(X:Cx)[Jm](st:VS)(t:TMS):Prop where
 out:PS X st (mS X.K t)
structure MSs(X:Cx)[Jm](st:List VS)(t:TMS):Prop where
 out:PSs X st (mS X.K t)
section
variable {X:Cx}{a b c e:VV}{ta tb:TME}{pos:V4}
def mP(t:TD):TME:=λz M R=>t z λd=>R d M
def mPT(t:TDT):TMT:=λz M R=>t z λd=>R d M
def mPA(t:TDA):TMA:=λz M R=>t z λd=>R d M
def ag[J:Jm]{t:TD}(h:WDE X e t):ME X e (mP t):=⟨PE.anti h.out λs H Q q=>by
 let#[F,z,M,k,r,R,h1,h2]:=q;exact#[J.B,F,z,k,r.rs,_,h1,λd v F' H' g hd rd=>h2 d v M F' H' g.toM hd rd (r.rm.grow g)]⟩
def bp[J:Jm]{t:TDT}(h:WDT X e t):MT X e (mPT t):=⟨PT.anti h.out λs H Q q=>by
 let#[F,z,M,k,r,R,h1,h2]:=q;exact#[J.B,F,z,k,r.rs,_,h1,λd F' H' g hd=>h2 d M F' H' g.toM hd (r.rm.grow g)]⟩
variable{es:List VV}
def ax[J:Jm]{t:TDA}(h:WDA X es t):MA X es (mPA t):=⟨PA.anti h.out λs H Q q=>by
 let#[F,z,M,k,r,R,h1,h2]:=q;exact#[J.B,F,z,k,r.rs,_,h1,λd v F' H' g hd rd=>h2 d v M F' H' g.toM hd rd (r.rm.grow g)]⟩
def mOp(r:RD2)(ta tb:TME):TME:=λz M R=>ta z M λx M1=>tb z M1 λy M2=>r x y λd=>R d M2
variable{r:R2}{rd:RD2}
def tX[J:Jm]{e:VV}{ta tb:TME}(L:aY X.K r rd)(h:PE X e (tOp r (mE X.K ta) (mE X.K tb))):ME X e (mOp rd ta tb):=⟨h.anti λs H Q q=>by
 let#[F,z,M,k,rs,R,h1,h2]:=q;refine#[F,z,M,k,rs,_,h1,λx u M1 F1 H1 g1 hx rx m1=>?_];refine#[F1,z,M1,k.growM rs.mb g1,rs.growM k.bh g1 m1,_,hx,λy v M2 F2 H2 g2 hy ry m2=>?_];exact L x y u v F2 H2 _ Q g2.fh hy (rx.mono g2.ff) ry λd w F3 H3 g3 hd rd=>h2 d w M2 F3 H3 ((g1.trans g2).trans g3.toM) hd rd (m2.grow g3)⟩
def tY[J:Jm]{op:Xc}(ho:OpR X (Wc op) r)(L:aY X.K r rd)(ha:ME X a ta)(hb:ME X b tb):ME X (.BinOp a op b pos) (mOp rd ta tb):=tX L (jA ho ha.out hb.out)
def kL[J:Jm](ha:ME X a ta)(hb:ME X b tb)(hs:eN b\zA6):ME X (.Subscript a b pos) (mOp rdIx ta tb):=tX sG (pe_ix rL ha.out hb.out hs)
def ik[Jm](ha:ME X a ta)(hb:ME X b tb):ME X (.BinOp a .Add b pos) (mOp jS ta tb):=tY si sj ha hb
def dE[Jm](ha:ME X a ta)(hb:ME X b tb):ME X (.BinOp a .Sub b pos) (mOp jT ta tb):=tY qR sk ha hb
def mTst(t:TME):TMT:=λz M R=>t z M λx M1=>match x with|.bl k=>R k M1|_=>False
def fA[J:Jm]{op:XX}(ho:OpR X (V6 op) r)(L:aY X.K r rd)(ha:ME X a ta)(hb:ME X b tb)(hm:Wi op b=false):MT X (.Compare a [op] [b] pos) (mTst (mOp rd ta tb)):=⟨(ra ho ha.out hb.out hm).anti λs H Q q=>by
 let#[F,z,M,k,rs,R,h1,h2]:=q;refine#[F,z,M,k,rs,_,h1,λx u M1 F1 H1 g1 hx rx m1=>?_];refine#[F1,z,M1,k.growM rs.mb g1,rs.growM k.bh g1 m1,_,hx,λy v M2 F2 H2 g2 hy ry m2=>?_];refine L x y u v F2 H2 _ _ g2.fh hy (rx.mono g2.ff) ry λd w F3 H3 g3 hd rd=>?_;dsimp only at hd;split at hd
 .exact#[_,rep_bl.mp rd,h2 _ M2 F3 H3 ((g1.trans g2).trans g3.toM) hd (m2.grow g3)]
 .exact hd.elim⟩
def tZ[Jm](ha:ME X a ta)(hb:ME X b tb):MT X (.Compare a [.Lt] [b] pos) (mTst (mOp rdLt ta tb)):=fA qY sB ha hb (nomark _)
def Bf[Jm](ha:ME X a ta)(hb:ME X b tb):MT X (.Compare a [.Gt] [b] pos) (mTst (mOp rdGt ta tb)):=fA jC jU ha hb (nomark _)
def gf[Jm](ha:ME X a ta)(hb:ME X b tb):MT X (.Compare a [.Eq] [b] pos) (mTst (mOp rdEq ta tb)):=fA jB jV ha hb (nomark _)
def kM[Jm](ha:ME X a ta)(hb:ME X b tb):MT X (.Compare a [.NotEq] [b] pos) (mTst (mOp rdNe ta tb)):=fA qX sC ha hb (nomark _)
def kN[Jm](ha:ME X a ta)(hb:ME X b tb):MT X (.Compare a [.Is] [b] pos) (mTst (mOp (rdIs id) ta tb)):=fA qZ sF ha hb (nomark _)
def Bg[Jm](ha:ME X a ta)(hb:ME X b tb)(hm:(Wi .NotIn b=false)\zA0):MT X (.Compare a [.NotIn] [b] pos) (mTst (mOp (rdIn true) ta tb)):=fA A9 A8 ha hb hm
variable {tA tB:TMT}{rest:List VV}
def mt_w[Jm](h:MW X a tA):MT X a tA:=#[PW.pt h.out]
def Bh[Jm](ha:MT X a tA):MW X (.BoolOp .And [a] pos) tA:=#[qF ha.out]
def il[Jm](ha:MT X a tA):MW X (.BoolOp .Or [a] pos) tA:=#[qG ha.out]
def mAnd(tA tB:TMT):TMT:=λz M R=>tA z M λk M1=>if k=true then tB z M1 R else R false M1
def mOr(tA tB:TMT):TMT:=λz M R=>tA z M λk M1=>if k=true then R true M1 else tB z M1 R
def Bi[J:Jm](ha:MT X a tA)(hb:MW X (.BoolOp .And (b::rest) pos) tB):MW X (.BoolOp .And (a::b::rest) pos) (mAnd tA tB):=⟨(qH ha.out hb.out).anti λs H Q q=>by
 let#[F,z,M,k,rs,R,h1,h2]:=q;refine#[F,z,M,k,rs,_,h1,λx M1 F1 H1 g1 hx m1=>?_];cases x with
 |true=>exact#[F1,z,M1,k.growM rs.mb g1,rs.growM k.bh g1 m1,R,hx,λy M2 F2 H2 g2 hy m2=>h2 y M2 F2 H2 (g1.trans g2) hy m2]
 |false=>exact h2 _ M1 F1 H1 g1 hx m1⟩
def im[J:Jm](ha:MT X a tA)(hb:MW X (.BoolOp .Or (b::rest) pos) tB):MW X (.BoolOp .Or (a::b::rest) pos) (mOr tA tB):=⟨(qI ha.out hb.out).anti λs H Q q=>by
 let#[F,z,M,k,rs,R,h1,h2]:=q;refine#[F,z,M,k,rs,_,h1,λx M1 F1 H1 g1 hx m1=>?_];cases x with
 |false=>exact#[F1,z,M1,k.growM rs.mb g1,rs.growM k.bh g1 m1,R,hx,λy M2 F2 H2 g2 hy m2=>h2 y M2 F2 H2 (g1.trans g2) hy m2]
 |true=>exact h2 _ M1 F1 H1 g1 hx m1⟩
def mIf(tc:TMT)(ta tb:TME):TME:=λz M R=>tc z M λk M1=>if k=true then ta z M1 R else tb z M1 R
def gh[J:Jm]{tc:TMT}(hc:MT X c tc)(ha:ME X a ta)(hb:ME X b tb):ME X (.IfExp c a b pos) (mIf tc ta tb):=⟨(xS hc.out ha.out hb.out).anti λs H Q q=>by
 let#[F,z,M,k,rs,R,h1,h2]:=q;refine#[F,z,M,k,rs,_,h1,λx M1 F1 H1 g1 hx m1=>?_];cases x with
 |true=>exact#[F1,z,M1,k.growM rs.mb g1,rs.growM k.bh g1 m1,R,hx,λd v M2 F2 H2 g2 hy rd m2=>h2 d v M2 F2 H2 (g1.trans g2) hy rd m2]
 |false=>exact#[F1,z,M1,k.growM rs.mb g1,rs.growM k.bh g1 m1,R,hx,λd v M2 F2 H2 g2 hy rd m2=>h2 d v M2 F2 H2 (g1.trans g2) hy rd m2]⟩
def mNil:TMA:=λ_ M R=>R [] M
def Bj(ta:TME)(tr:TMA):TMA:=λz M R=>ta z M λx M1=>tr z M1 λxs M2=>R (x::xs) M2
def aS[J:Jm]:MA X [] mNil:=⟨pa_nil.anti λs H Q q=>by
 let#[F,z,M,k,rs,R,h1,h2]:=q;exact h2 [] [] M F H (GrowM.refl k.fh) h1 (reps_nil.mpr rfl) rs.rm⟩
variable{t:TMA}
def aA[J:Jm]{e:VV}{te:TME}(ha:ME X e te)(hr:MA X es t)(hs:zSE X e es\zA0):MA X (e::es) (Bj te t):=⟨(bv ha.out hr.out hs).anti λs H Q q=>by
 let#[F,z,M,k,rs,R,h1,h2]:=q;refine#[F,z,M,k,rs,_,h1,λx u M1 F1 H1 g1 hx rx m1=>?_];refine#[F1,z,M1,k.growM rs.mb g1,rs.growM k.bh g1 m1,_,hx,λxs us M2 F2 H2 g2 hy ry m2=>?_];exact h2 _ _ M2 F2 H2 (g1.trans g2) hy (reps_cons.mpr #[_,_,rfl,rx.mono g2.ff,ry]) m2⟩
def mTup(t:TMA):TME:=λz M R=>t z M λxs M1=>xs.length<=1000/\R (.tup xs) M1
def ub[J:Jm]{x1}(h:MA X es t):ME X (.Tuple es x1 pos) (mTup t):=⟨(rA h.out).anti λs H Q q=>by
 let#[F,z,M,k,rs,R,h1,h2]:=q;refine#[F,z,M,k,rs,_,h1,λds vs M1 F1 H1 g1 hx rx m1=>?_];have hl:=rx.length;refine#[sz (by rw[hl];exact hx.1),λp hp=>?_];have gn:=Grow.new g1.fh hp (.tup vs);exact h2 _ _ M1 _ _ (g1.trans gn.toM) hx.2 (rep_tupS.mpr #[p,vs,rfl,aC,rx.mono (aN (g1.fh.free hp) _)]) (m1.grow gn)⟩
def mLst(t:TMA):TME:=λz M R=>t z M λxs M1=>xs.length<=1000/\∀p,p∉aw M1->R (.ptr p) ((p,.lst xs)::M1)
def kO[J:Jm](h:MA X es t):ME X (.List es pos) (mLst t):=⟨(jG h.out).anti λs H Q q=>by
 let#[F,z,M,k,rs,R,h1,h2]:=q;refine#[F,z,M,k,rs,_,h1,λds vs M1 F1 H1 g1 hx rx m1=>?_];have hl:=rx.length;refine#[sz (by rw[hl];exact hx.1),λp hp=>?_];exact h2 _ _ _ F1 _ (g1.trans (GrowM.new g1.fh hp)) (hx.2 p λz=>m1.here z hp) (rep_ptr.mpr rfl) (m1.new g1.fh hp #[vs,aC,rx])⟩
def mCB(r:RDn)(t:TMA):TME:=λz M R=>t z M λds M1=>r ds λd=>R d M1
variable{x:Mr}{p:V4}
def Bk[J:Jm]{e:VV}{id:String}{r:List V->Hp->VK->Prop}{rd:RDn}(hc:bT X (.builtin id) r)(L:cA X.K r rd)(hm:X.mg x=z6)(hv:V_ x=be (.builtin id))(ha:MA X (e::es) t)(hg:Gl X x\zA0)(hn:(x≠"__name__")\zA1)(d9:zND x\zA1)
  (he:zSE X e es\zA0) (c8:zPL X pos es\zA0):ME X (.Call (.Name x p) (e::es) [] pos) (mCB rd t):=⟨(fP hc hg hm hv ha.out hn d9 he c8).anti λs H Q h=>by
 let#[F,z,M,k,rs,R,h1,h2]:=h;refine#[F,z,M,k,rs,_,h1,λds vs M1 F1 H1 g1 hx rx m1=>?_];exact L ds vs F1 H1 _ Q g1.fh hx rx λd w F' H' g hd rd=>h2 d w M1 F' H' (g1.trans g.toM) hd rd (m1.grow g)⟩
def uc[Jm]{e:VV}(hm:X.mg "len"=z6)(ha:MA X [e] t)(hg:Gl X "len"\zA0)(he:zSE X e []\zA0):ME X (.Call (.Name "len" p) [e] [] pos) (mCB jX t):=Bk jD sI hm PySem.boot_len ha hg Nk Nk he
def Bl[J:Jm]{e:VV}{T:String}{r:List V->Hp->VK->Prop}{rd:RDn}(hc:bT X (.type T) r)(L:cA X.K r rd)(hm:X.mg x=z6)(hv:V_ x=be (.type T))(ha:MA X (e::es) t)(hg:Gl X x\zA0)(hn:(x≠"__name__")\zA1)(d9:zND x\zA1)
  (he:zSE X e es\zA0) (c8:zPL X pos es\zA0):ME X (.Call (.Name x p) (e::es) [] pos) (mCB rd t):=⟨(jH hc hg hm hv ha.out hn d9 he c8).anti λs H Q h=>by
 let#[F,z,M,k,rs,R,h1,h2]:=h;refine#[F,z,M,k,rs,_,h1,λds vs M1 F1 H1 g1 hx rx m1=>?_];exact L ds vs F1 H1 _ Q g1.fh hx rx λd w F' H' g hd rd=>h2 d w M1 F' H' (g1.trans g.toM) hd rd (m1.grow g)⟩
def kP[Jm](hm:X.mg "int"=z6)(ha:MA X [e] t)(hg:Gl X "int"\zA0)(he:zSE X e []\zA0):ME X (.Call (.Name "int" p) [e] [] pos) (mCB kq t):=Bl sT sU hm PyProof.Rows.boot_int ha hg Nk Nk he
def dF(M:MS)(d:D)(x:Mr)(fs:List (Mr×D)):Prop:=match d with|.ptr a=>mget M a=be (.ins x fs)|.obj y gs=>y=x/\gs=fs|_=>False
def mFld(x f:Mr)(te:TME):TME:=λz M R=>te z M λd M1=>∃fs,dF M1 d x fs/\∃d',fs.lookup f=be d'/\R d' M1
def io{K:Ex}{F H:Hp}{M:MS}{d:D}{v:V}{fs:List (Mr×D)}(fh:Same F H)(rm:RepM K F H M)(rd:Rep K F d v)(h:dF M d x fs):∃a C dx ws,v=.ref a/\nsIn K SL x=be (be (.ref C))/\H a=be (.ins C dx ws)/\RepF K F fs ws:=by
 unfold dF at h;split at h
 .rename_i a;let#[C,dx,ws,n,h1,h2]:=rm.ok _ _ (bt h);exact#[a,C,dx,ws,rep_ptr.mp rd,n,h1,h2]
 .let#[rfl,rfl]:=h;let#[a,C,dx,ws,e,n,h1,h2]:=rep_obj.mp rd;exact#[a,C,dx,ws,e,n,fh _ _ h1,h2]
 .exact h.elim
def aD[J:Jm]{f:Mr}(hA:ClsA X.K x f)(he:ME X e ta)(hb:(V1 e f X.env (V3 e X.env)=V3 e X.env)\zA0):ME X (.Attribute e f pos) (mFld x f ta):=⟨(rl he.out hb).anti λs H Q q=>by
 let#[C,hn,hc,hf]:=hA;let#[F,z,M,k,rs,R,h1,h2]:=q;refine#[F,z,M,k,rs,_,h1,λd u M1 F1 H1 g1 hx rx m1=>?_];let#[fs,hi,d',hl,hR]:=hx;let#[a,C',dx,ws,rfl,i9,hH,rf]:=io g1.fh m1 rx hi;rw[hn]at i9;cases i9;let#[v,l,rv]:=rf.look hl;exact#[a,C,dx,ws,v,rfl,hH,hc,hf,l,h2 d' v M1 F1 H1 g1 hR rv m1]⟩
end
abbrev XDM:=Mr->List (Mr×D)->MS->Prop
abbrev SpM:=List D->MS->(D->MS->Prop)->XDM->Prop
def lSpM(K:Ex)(S:SpM):Sp:=λvs H Q E=>∃F ds M,Same F H/\Reps K F ds vs/\RepM K F H M/\∃(R:D->MS->Prop) (RX:XDM),S ds M R RX/\(∀d v M' F' H',GrowM M M' F H F' H'->R d M'->Rep K F' d v->RepM K F' H' M'->Q v H')/\
 ∀x fs C od M' F' H',GrowM M M' F H F' H'->RX x fs M'->ErrD K F' x fs C od->RepM K F' H' M'->E (.ref C) od H'
abbrev CalMM(P:VU)(w:VX)(K:Ex)(mg:Mr->Option Os)(base:Heap)(n:Nat)(x:Mr)(ps:List Mr)(S:SpM):Prop:=Cal P w K mg base n x ps (lSpM K S)
def ofX(S:SpX):SpM:=λds M R RX=>S ds (λd=>R d M) λx fs=>RX x fs M
def ofD(S:SpD):SpM:=λds M R _=>S ds λd=>R d M
variable{vs:List V}
def Bm{S:SpX}{Q:VK}{E:XK}(h:lSpM K (ofX S) vs H Q E):lSpX K S vs H Q E:=by
 let#[F,ds,M,fh,rs,rm,R,RX,hS,q,qx]:=h;exact#[F,ds,fh,rs,_,_,hS,λd v F' H' g hd rd=>q d v M F' H' g.toM hd rd (rm.grow g),λx fs C od F' H' g hR er=>qx x fs C od M F' H' g.toM hR er (rm.grow g)]
def Bn{S:SpD}{Q:VK}{E:XK}(h:lSpM K (ofD S) vs H Q E):lSp K S vs H Q E:=by
 let#[F,ds,M,fh,rs,rm,R,RX,hS,q,qx]:=h;exact#[F,ds,fh,rs,_,hS,λd v F' H' g hd rd=>q d v M F' H' g.toM hd rd (rm.grow g)]
section
variable {P:VU}{w:VX}{K:Ex}{mg:Mr->Option Os}{base:Heap}{n:Nat}{x:Mr}{ps:List Mr}
def CalX.toM{S:SpX}(C:CalX P w K mg base n x ps S):CalMM P w K mg base n x ps (ofX S):=by
 let#[f,fd,F,hb,hk,hm]:=C;exact#[f,fd,F.imp λvs H Q E h=>Bm h,hb,hk,hm]
def CalD.toM{S:SpD}(C:CalD P w K mg base n x ps S):CalMM P w K mg base n x ps (ofD S):=by
 let#[f,fd,F,hb,hk,hm]:=C;exact#[f,fd,F.imp λvs H Q E h=>Bn h,hb,hk,hm]
def CalMth(P:VU)(w:VX)(K:Ex)(mg:Mr->Option Os)(base:Heap)(n:Nat)(x m:Mr)(ps:List Mr)(sp:Sp):Prop:=
 ∃C f fd,nsIn K SL x=be (be (.ref C))/\Cls K C/\Meth K C m f/\FnOk P w K mg base (CX1 P w) n f fd ps sp/\Binds K fd ps []
variable{sp:Sp}
def Cal.mono{n':Nat}(h:Cal P w K mg base n x ps sp)(hn:n<=n'):Cal P w K mg base n' x ps sp:=by
 let#[f,fd,F,h]:=h;exact#[f,fd,F.mono hn,h]
def Cal.imp{MX:Sp}(h:Cal P w K mg base n x ps sp)(i:∀vs H Q E,MX vs H Q E->sp vs H Q E):Cal P w K mg base n x ps MX:=by
 let#[f,fd,F,h]:=h;exact#[f,fd,F.imp i,h]
def CalMth.imp{m:Mr}{MX:Sp}(h:CalMth P w K mg base n x m ps sp)(i:∀vs H Q E,MX vs H Q E->sp vs H Q E):CalMth P w K mg base n x m ps MX:=by
 let#[C,f,fd,h1,h2,h3,h4,h5]:=h;exact#[C,f,fd,h1,h2,h3,h4.imp i,h5]
end
def XOkM(X:Cx)[J:Jm]:Prop:=∀(σ:L2.St) (z:SD) (M:MS) (F H:Hp) (s:SB) (e C:Pi) (od:Option Pi) (x:Mr) (fs:List (Mr×D)),Inv X [] σ H s->Kept J.B J.F0 F H->RepZ X.K J.B F H z σ M->J.RM z M x fs->ErrD X.K F x fs C od->Exd X H s e C od->X.xe (.ref e) s
def EX(X:Cx)[J:Jm](z:SD)(σ:L2.St):XK:=λCv od H'=>∃x fs C M' F',Cv=.ref C/\Kept J.B J.F0 F' H'/\RepZ X.K J.B F' H' z σ M'/\J.RM z M' x fs/\ErrD X.K F' x fs C od
def XOkM.out{X:Cx}[J:Jm](hx:XOkM X)(f7:X.ex=[]){pins:List (Pi×Wa)}{σ:L2.St}{s s':SB}{ev:Os}(I:Inv X pins σ H s)
  (h:CX1 X.prog X.w X.stack H s (EX X z σ) ev s'):X.xe ev s':=by
 let#[e,C,od,T,H',rfl,Mt,hb,un,hok,Qr,ne,nT,He,HT,x,fs,C',M',F',hC,kk,rr,hR,er]:=h;cases hC;have I':Inv X pins σ H' s':=I.call' Mt un hok hb (λb z=>absurd z Nq);exact hx σ z M' F' H' s' e C od x fs (Inv.nopins I') kk rr hR er #[He,ex_free I f7 ne,pn_free I ne,.inr #[T,.none,Qr,ex_free I f7 nT,HT,pn_free I nT]]
section
variable {X:Cx}[J:Jm]{a b c e o:VV}{ta tb te:TME}{pos p b7 a8:V4}{n m:Nat}{ps:List Mr}{S:SpM}{x:Mr}{es:List VV}{t:TMA}
def Bo(S:SpM)(t:TMA):TME:=λz M R=>t z M λds M1=>S ds M1 R λx fs M'=>J.RM z M' x fs
variable{ds:List My.D}{vs:List V}
def ip{σ:L2.St}{z:SD}{M M1:MS}{F H F1 H1:Hp}{Q:VK}{R:D->MS->Prop}(k:Kept J.B J.F0 F H)(rs:RepZ X.K J.B F H z σ M)(g1:GrowM M M1 F H F1 H1)(m1:RepM X.K F1 H1 M1)(rx:Reps X.K F1 ds vs)
  (hS:S ds M1 R λx fs M'=>J.RM z M' x fs) (h2:∀d v M' F' H',GrowM M M' F H F' H'->R d M'->Rep X.K F' d v->RepM X.K F' H' M'->Q v H'):lSpM X.K S vs H1 Q (EX X z σ):=
 #[F1,ds,M1,g1.fh,rx,m1,R,_,hS,λd v M' F' H' g hd rd m'=>h2 d v M' F' H' (g1.trans g) hd rd m',λy fs C od M' F' H' g hR er m'=>#[y,fs,C,M',F',rfl,(k.growM rs.mb g1).growM (rs.growM k.bh g1 m1).mb g,(rs.growM k.bh g1 m1).growM (k.growM rs.mb g1).bh g m',hR,er]]
def aK(C:CalMM X.prog X.w X.K X.mg X.base n x ps S)(hx:XOkM X)(hr:Room m X.A)(ha:MA X (e::es) t)(f7:(X.ex=[])\zA0)(hg:Gl X x\zA0)(hn:(n<=m)\zA1)(d9:zND x\zA1)
  (he:zSE X e es\zA0) (c8:zPL X pos es\zA0):
  ME X (.Call (.Name x p) (e::es) [] pos) (Bo S t):=by
 let#[f,fd,F,hb,hk,hm]:=C;refine#[λpins s σ H Q I h=>?_];let#[Fr,z,M,k,rs,R,h1,h2]:=h;refine V5 (cz I hg hm ?_ d9);refine callWith_K (h₀:=X.base) I.ok.mod.kin hk (thn (ha.out pos pins s σ H (λvs H1=>lSpM X.K S vs H1 Q (EX X z σ)) I #[Fr,z,M,k,rs,_,h1,λds vs M1 F1 H1 g1 hx rx m1=>ip k rs g1 m1 rx hx h2]) λus s1 hh=>#[hh.elim λ_ h=>h.elim λ_ h=>h.1.kIn,?_]) he c8;let#[vs,H1,I1,r,q]:=hh;exact ia F (hr.mono hn) hb (λe s' hq=>hx.out f7 I1 hq) I1 r q
def ud(cs:List Mr)(m:Mr)(S:Mr->SpM)(to:TME)(t:TMA):TME:=λz M R=>to z M λd M1=>∃x,x∈cs/\∃fs,dF M1 d x fs/\fs.lookup m=z6/\t z M1 λds M2=>S x (d::ds) M2 R λx fs M'=>J.RM z M' x fs
variable{cs:List Mr}{pl:Xq Bool}
def aT{nm:Mr}{S:Mr->SpM}(C:∀x,x∈cs->CalMth X.prog X.w X.K X.mg X.base n x nm ps (lSpM X.K (S x)))(hx:XOkM X)(hr:Room m X.A)(ho:ME X o te)(ha:MA X (e::es) t)(f7:(X.ex=[])\zA0)(hn:(n<=m)\zA1)
  (m4:zSE X e es\zA0) (c8:zPL X pos es\zA0)
  (ht:V3 (.Call (.Attribute o nm b7) (e::es) [] pos) X.env=(do
   let ov <-V3 o X.env
   WC b7.atName
   let (f,first) <-Wk [ov] (WU ov nm pl)
   Xw pos f first (WK pos (VZ (e::es) X.env)) (W0 pos (WI [] X.env))):=by rfl):
  ME X (.Call (.Attribute o nm b7) (e::es) [] pos) (ud cs nm S te t):=by
 refine#[λpins s σ H Q I h=>?_];let#[Fr,z,M,k,rs,R,h1,h2]:=h;refine methodCall_KW (pl:=pl) (thn (ho.out pins s σ H (λv H1=>∃d M1 F1,GrowM M M1 Fr H F1 H1/\Rep X.K F1 d v/\RepM X.K F1 H1 M1/\∃x,x∈cs/\∃fs,dF M1 d x fs/\fs.lookup nm=z6/\t z M1 λds M2=>S x (d::ds) M2 R λx fs M'=>J.RM z M' x fs) I #[Fr,z,M,k,rs,_,h1,λd v M1 F1 H1 g1 hd rd m1=>#[d,M1,F1,g1,rd,m1,hd]]) λu s1 hh=>?_) ht;let#[v,H1,I1,rv,d,M1,F1,g1,rd,m1,x,QJ,fs,hi,hl,hq]:=hh;let#[C',f,fd,hns,i_,M0,F,hb]:=C x QJ;let#[a,C2,dx,ws,rfl,p6,hH,rf]:=io g1.fh m1 rd hi;rw[hns]at p6;cases p6;obtain rfl:u=Value.ref a:=rv;refine jF I1 hH i_ M0 (rf.none hl) ?_;refine callWith_K (first:=[.ref a]) (h₀:=X.base) I.ok.mod.kin M0.kp (thn (ha.out pos pins s1 σ H1 (λvs H2=>lSpM X.K (S x) (.ref a::vs) H2 Q (EX X z σ)) I1 #[F1,z,M1,k.growM rs.mb g1,rs.growM k.bh g1 m1,_,hq,λds vs M2 F2 H2 g2 hx rx m2=>ip k rs (g1.trans g2) m2 (reps_cons.mpr #[_,_,rfl,rd.mono g2.ff,rx]) hx h2]) λus s2 hh=>#[hh.elim λ_ h=>h.elim λ_ h=>h.1.kIn,?_]) m4 c8;let#[vs,H2,I2,r,q2]:=hh;exact ia (us:=.ref a::us) (vs:=.ref a::vs) F (hr.mono hn) hb (λe s' hq=>hx.out f7 I2 hq) I2 (.cons rfl r) q2
def bY{nm:Mr}{S:Mr->SpM}(C:∀x,x∈cs->CalMth X.prog X.w X.K X.mg X.base n x nm ps (lSpM X.K (S x)))(hx:XOkM X)(hr:Room m X.A)(ho:ME X o te)(f7:(X.ex=[])\zA0)(hn:(n<=m)\zA1)
  (ht:V3 (.Call (.Attribute o nm b7) [] [] pos) X.env=(do
   let ov <-V3 o X.env
   WC b7.atName
   let (f,first) <-Wk [ov] (WU ov nm pl)
   Xw pos f first (WK pos (VZ [] X.env)) (W0 pos (WI [] X.env))):=by rfl):
  ME X (.Call (.Attribute o nm b7) [] [] pos) (ud cs nm S te mNil):=by
 refine#[λpins s σ H Q I h=>?_];let#[Fr,z,M,k,rs,R,h1,h2]:=h;refine methodCall_KW (pl:=pl) (thn (ho.out pins s σ H (λv H1=>∃d M1 F1,GrowM M M1 Fr H F1 H1/\Rep X.K F1 d v/\RepM X.K F1 H1 M1/\∃x,x∈cs/\∃fs,dF M1 d x fs/\fs.lookup nm=z6/\S x [d] M1 R λx fs M'=>J.RM z M' x fs) I #[Fr,z,M,k,rs,_,h1,λd v M1 F1 H1 g1 hd rd m1=>#[d,M1,F1,g1,rd,m1,hd]]) λu s1 hh=>?_) ht;let#[v,H1,I1,rv,d,M1,F1,g1,rd,m1,x,QJ,fs,hi,hl,hq]:=hh;let#[C',f,fd,hns,i_,M0,F,hb]:=C x QJ;let#[a,C2,dx,ws,rfl,p6,hH,rf]:=io g1.fh m1 rd hi;rw[hns]at p6;cases p6;obtain rfl:u=Value.ref a:=rv;refine jF I1 hH i_ M0 (rf.none hl) ?_;refine callWith_K0 (first:=[.ref a]) I1.kIn M0.kp (ia (E:=EX X z σ) (us:=[.ref a]) (vs:=[.ref a]) F (hr.mono hn) hb (λe s' hq=>hx.out f7 I1 hq) I1 (.cons rfl .nil) ?_);exact ip k rs g1 m1 (fg rd) hq h2
def make_of{C:Pi}{S:SiD}{x:Mr}{σ:L2.St}{z:SD}{M M1:MS}{F H F1 H1:Hp}{a dx:Pi}{Q:VK}{E:XK}{T:List (Mr×D)->Prop}(g1:GrowM M M1 F H F1 H1)(m1:RepM X.K F1 H1 M1)(rx:Reps X.K F1 ds vs)(hS:S ds T)
  (ha:H1 a=z6) (t6:H1 dx=z6) (k_:dx≠a) (q:∀fs ws dx F' H',Grow F1 H1 F' H'->T fs->H' a=be (.ins C dx ws)->F' a=z6->RepF X.K F' fs ws->Q (.ref a) H'):
  lSi X.K C S (.ref a::(vs++[])) (upd (upd H1 dx (.own a)) a (.ins C dx [])) (λv H2=>v=.non/\Q (.ref a) H2) E:=
 #[a,dx,vs,H1,F1,ds,by rw[IQ],rfl,ha,t6,k_,g1.fh,rx,_,hS,λfs ws MC F' H' g hR f_ j7 rf=>#[rfl,q fs ws MC F' H' g hR f_ j7 rf]]
def Bp(x:Mr)(S:SiD)(t:TMA):TME:=λz M R=>t z M λds M1=>S ds λfs=>R (.obj x fs) M1
def iq{S:SiD}(M:CalM X.prog X.w X.K X.mg X.base n x ps S)(hr:Room m X.A)(ha:MA X (e::es) t)(hg:Gl X x\zA0)(hn:(n+1<=m)\zA1)(d9:zND x\zA1)
  (he:zSE X e es\zA0) (c8:zPL X pos es\zA0):
  ME X (.Call (.Name x p) (e::es) [] pos) (Bp x S t):=by
 let#[C,f,fd,hns,l6,mk,F,hb]:=M;refine#[(gQ mk F (hr.mono hn) hg l6 hb .nil eU ha.out d9 he c8).anti λs H Q q=>?_];let#[F,z,M,k,rs,R,h1,h2]:=q;refine#[F,z,M,k,rs,_,h1,λds vs M1 F1 H1 g1 hx rx m1=>?_];intro a dx ha t6 k_;refine make_of (σ:=s) (z:=z) (x:=x) g1 m1 rx hx ha t6 k_ λfs ws dx F' H' g hR f_ j7 rf=>?_;have s1:Same F' (upd F' a (.ins C dx ws)):=aN j7 _;have g2:Grow F1 H1 (upd F' a (.ins C dx ws)) H':=⟨g.ff.trans s1,λb o q=>by
  by_cases hb:b=a
  .subst hb;rw[aC]at q;cases q;exact f_
  .rw[ar hb]at q;exact g.fh b o q,g.hh,λb q1 q2=>by
  by_cases hb:b=a
  .subst hb;exact absurd ha q2
  .rw[ar hb];exact g.out b q1 q2⟩
 exact h2 (.obj x fs) (.ref a) M1 (upd F' a (.ins C dx ws)) H' (g1.trans g2.toM) hR (rep_obj.mpr #[a,C,dx,ws,rfl,hns,aC,RepF.mono s1 fs ws rf]) (m1.grow g2)
def Bq(x:Mr)(S:SiD)(t:TMA):TME:=λz M R=>t z M λds M1=>S ds λfs=>∀a,a∉aw M1->R (.ptr a) ((a,.ins x fs)::M1)
def Br{S:SiD}(M:CalM X.prog X.w X.K X.mg X.base n x ps S)(hr:Room m X.A)(ha:MA X (e::es) t)(hg:Gl X x\zA0)(hn:(n+1<=m)\zA1)(d9:zND x\zA1)
  (he:zSE X e es\zA0) (c8:zPL X pos es\zA0):
  ME X (.Call (.Name x p) (e::es) [] pos) (Bq x S t):=by
 let#[C,f,fd,hns,l6,mk,F,hb]:=M;refine#[(gQ mk F (hr.mono hn) hg l6 hb .nil eU ha.out d9 he c8).anti λs H Q q=>?_];let#[F,z,M,k,rs,R,h1,h2]:=q;refine#[F,z,M,k,rs,_,h1,λds vs M1 F1 H1 g1 hx rx m1=>?_];intro a dx ha t6 k_;refine make_of (σ:=s) (z:=z) (x:=x) g1 m1 rx hx ha t6 k_ λfs ws dx F' H' g hR f_ j7 rf=>?_;have na:a∉aw M1:=λz=>m1.here z ha;have m2:=m1.grow g;refine h2 (.ptr a) (.ref a) _ F' H' (g1.trans #[g.ff,g.fh,λb o _ q=>g.hh b o q,λb _ q1 q2=>g.out b q1 q2,λb q=>?_]) (hR a na) (rep_ptr.mpr rfl) #[Jo.mpr #[na,m2.nd],λb o q=>?_,λb q=>?_]
 .rcases Ik.mp q with q|q
  .exact .inr (by rw[q];exact ha)
  .exact .inl q
 .rcases Ik.mp q with q|q
  .cases q;exact#[C,dx,ws,hns,f_,rf]
  .exact m2.ok b o q
 .rcases Ik.mp q with q|q
  .rw[q];exact j7
  .exact m2.fr b q
end
section
variable {X:Cx}{x:Mr}{e:VV}{es:List VV}{t:TA}{p a8 pos:V4}{n m:Nat}{ps:List Mr}{S:SiD}
def Leave(X:Cx)(σ:L2.St)(F1 H1:Hp)(x:Mr)(fs:List (Mr×D)):Prop:=∀F' H' s' e C od,Inv X [] σ H' s'->Grow F1 H1 F' H'->ErrD X.K F' x fs C od->Exd X H' s' e C od->X.xe (.ref e) s'
def Bs(M:CalE X.prog X.w X.K X.mg X.base n x ps S)(hr:Room m X.A)(hc:X.calm=true)(ha:PA X (e::es) t)(f7:(X.ex=[])\zA0)(hg:Gl X x\zA0)(hn:(n+1<=m)\zA1)(d9:zND x\zA1)
  (he:zSE X e es\zA0) (c8:zPL X a8 es\zA0):
  PS X (.Raise (be (.Call (.Name x p) (e::es) [] a8)) z6 pos) (λ_ σ H=>t σ H λvs H1=>vs.length<=1000/\∃F1 ds,Same F1 H1/\Reps X.K F1 ds vs/\∃T:List (Mr×D)->Prop,S ds T/\∀fs,T fs->Leave X σ F1 H1 x fs):=by
 let#[C,N,bm,f,fd,k,hi,Og,Fn,hb]:=M;intro pins s σ H D I h;let#[nm,q,bs,sn,sub,ab,col,dd,k0,k1,k2,k3,k5,lk]:=k.obj;refine jP (nm:=nm) (q:=q) (C:=C) (N:=N) (bs:=bs) (bm:=bm) (hdct:=true) (sn:=sn) (sub:=sub) (ab:=ab) (col:=col) (dd:=dd) (k0:=k0) (k1:=k1) (k2:=k2) (k3:=k3) (k5:=k5) (newId:="ValueError.__new__") k.base (I.ok.hd hc) ?_;refine V5 (cz I hg k.mg ?_ d9);refine callWith_K (h₀:=X.base) I.ok.mod.kin k.kp (thn (ha a8 pins s σ H _ I h) λus s1 hh=>#[hh.elim λ_ h=>h.elim λ_ h=>h.1.kIn,?_]) he c8;let#[vs,H1,I1,r,hl,F1,ds,QK,rx,T,hS,hT]:=hh;have hC:=I1.kIn _ _ lk;have Uq:us.length<=sizeLine:=by rw[<-L2.Vals.length r];exact sz hl
 refine zN (g:=s1.gens) (d:=s1.drawn) (t:=s1.toks) (os:=s1.os) (rest:=us) I1.kIn (tail_of_in I1.kIn k.tail) hC hi (beq_iff_eq.mp Og) (λh' ea hm=>?_) Uq;have I2:=Inv.newx I1 f7 hm;have r2:Vals (V.ref ea::vs) (Value.ref ea::us):=.cons rfl r;have He:H1 ea=none:=fZ I1.hok hm.new;have F_:lEi X.K C S (V.ref ea::vs) (upd H1 ea (XN ea C z6)) (λv H'=>v=.non/\∃fs od F',Grow F1 H1 F' H'/\Leave X σ F1 H1 x fs/\H' ea=be (XN ea C od)/\F' ea=z6/\ErrF X.K F' fs od) (λ_ _ _=>False):=
  #[ea,vs,H1,F1,ds,rfl,rfl,He,QK,rx,_,hS,λfs od F' H' g hR h1 h2 h3=>#[rfl,fs,od,F',g,hT fs hR,h1,h2,h3]]
 have b9:(Value.ref ea::us).length=ps.length:=by rw[<-L2.Vals.length r2];exact Fn.len _ _ _ _ F_
 have g9:=hb {s1 with heap:=h'} (Value.ref ea::us) I2.kIn (by rw[IQ];exact b9);rw[IQ]at g9;refine Wt (Wr (Fn.run _ X.stack _ _ #[Value.ref ea::us,[]] (Value.ref ea::us) _ _ _ ((hr.mono hn).make C us []) (I2.env0.make C us []) g9 r2 F_) λrr s' hq=>?_);cases rr with
 |error e'=>exact(eU (X:=X) pins σ _ _ e' s' I2 hq:X.xe e' s')
 |ok fl=>
  cases fl with
  |next=>exact False.elim hq
  |brk=>exact False.elim hq
  |cont=>exact False.elim hq
  |ret u=>
   let#[v,H',I3,rv,rfl,fs,od,F',g,hR,w6,Ur,er]:=I2.after hq;obtain rfl:u=Value.none:=rv;refine#[rfl,?_];have e0:X.s₀.heap.get? ea=none:=ex_free I1 f7 hm.new;have I4:=Inv.drop I3 w6 e0;let#[ta,sl,j_]:=XN.get I3.hok w6;have g4:Grow F1 H1 F' (del H' ea):=⟨g.ff,λb o q=>by
    have:b≠ea:=λz=>by rw[z,Ur]at q;cases q
    rw[cv this];exact g.fh b o q,λb o q=>by
    have:b≠ea:=λz=>by rw[z,He]at q;cases q
    rw[cv this];exact g.hh b o q,g.out⟩
   refine#[ea,ta,od,sl,rfl,I3.kIn _ _ lk,j_,?_];exact hR F' (del H' ea) s' ea C od (Inv.nopins I4) g4 #[k.ns,er] #[gc,e0,pn_free I1 hm.new,.inl #[sl,_,j_,rfl]]
def Bt(h:∃C N bm,ErrK X.K X.mg x C N bm/\ErrN X.K N)(hc:X.calm=true)(ha:PA X (e::es) t)(f7:(X.ex=[])\zA0)(hg:Gl X x\zA0)(d9:zND x\zA1)
  (he:zSE X e es\zA0) (c8:zPL X a8 es\zA0):
  PS X (.Raise (be (.Call (.Name x p) (e::es) [] a8)) z6 pos) (λ_ σ H=>t σ H λvs H1=>vs.length<=1000/\∃F1,Same F1 H1/\Leave X σ F1 H1 x []):=by
 let#[C,N,bm,k,kn]:=h;intro pins s σ H D I h;let#[nm,q,bs,sn,sub,ab,col,dd,k0,k1,k2,k3,k5,lk]:=k.obj;refine jP (nm:=nm) (q:=q) (C:=C) (N:=N) (bs:=bs) (bm:=bm) (hdct:=true) (sn:=sn) (sub:=sub) (ab:=ab) (col:=col) (dd:=dd) (k0:=k0) (k1:=k1) (k2:=k2) (k3:=k3) (k5:=k5) (newId:="ValueError.__new__") k.base (I.ok.hd hc) ?_;refine V5 (cz I hg k.mg ?_ d9);refine callWith_K (h₀:=X.base) I.ok.mod.kin k.kp (thn (ha a8 pins s σ H _ I h) λus s1 hh=>#[hh.elim λ_ h=>h.elim λ_ h=>h.1.kIn,?_]) he c8;let#[vs,H1,I1,r,hl,F1,QK,hR]:=hh;have hC:=I1.kIn _ _ lk;let#[hp,gg,dr,tk,os]:=s1;refine XA PySem.F.excBase_ValueError (tail_of_in I1.kIn k.tail) hC (.of_isNs (isNs_of_in I1.kIn kn.ok)) (nsMap_none_of_in I1.kIn kn.ok kn.no) (λh' ea hm=>?_) (by show us.length<=_;rw[<-L2.Vals.length r];exact sz hl);let#[ta,h1,h2,h3]:=hm.there;have I2:Inv X pins σ H1 #[h',gg,dr,tk,os]:=I1.kept (t':=tk) hm.keeps;refine#[ea,ta,z6,[].toArray,rfl,hm.keeps _ _ hC,h1,?_];exact hR F1 H1 _ ea C z6 (Inv.nopins I2) (Grow.refl QK) #[k.ns,[],repf_nil.mpr rfl,.inl #[rfl,rfl]] #[fZ I1.hok hm.new,ex_free I1 f7 hm.new,pn_free I1 hm.new,.inl #[[].toArray,_,h1,rfl]]
end
section
variable {X:Cx}[J:Jm]{x:Mr}{e:VV}{es:List VV}{t:TMA}{p a8 pos:V4}{n m:Nat}{ps:List Mr}{S:SiD}
def Bu(x:Mr)(S:SiD)(t:TMA):TMS:=λ_ z M=>t z M λds M1=>ds.length<=1000/\S ds λfs=>J.RM z M1 x fs
def ue{σ:L2.St}{z:SD}{M M1:MS}{F H F1 H1:Hp}{fs:List (Mr×D)}(hx:XOkM X)(k:Kept J.B J.F0 F H)(rs:RepZ X.K J.B F H z σ M)(g1:GrowM M M1 F H F1 H1)(m1:RepM X.K F1 H1 M1)(hR:J.RM z M1 x fs):Leave X σ F1 H1 x fs:=λF' H' s' e C od I g er ex=>
 hx σ z M1 F' H' s' e C od x fs I ((k.growM rs.mb g1).grow g) ((rs.growM k.bh g1 m1).growM (k.growM rs.mb g1).bh g.toM (m1.grow g)) hR er ex
def ir(M:CalE X.prog X.w X.K X.mg X.base n x ps S)(hr:Room m X.A)(hx:XOkM X)(hc:X.calm=true)(ha:MA X (e::es) t)(f7:(X.ex=[])\zA0)(hg:Gl X x\zA0)(hn:(n+1<=m)\zA1)(d9:zND x\zA1)
  (he:zSE X e es\zA0) (c8:zPL X a8 es\zA0):
  MSt X (.Raise (be (.Call (.Name x p) (e::es) [] a8)) z6 pos) (Bu x S t):=⟨(Bs M hr hc ha.out f7 hg hn d9 he c8).anti λE s H q=>by
 let#[F0,F,z,M,k,rs,ED,h,ee]:=q;exact#[F,z,M,k.kf,rs,_,h,λds vs M1 F1 H1 g1 ge rx m1=>#[by rw[rx.length];exact ge.1,F1,ds,g1.fh,rx,_,ge.2,λfs hR=>ue hx k.kf rs g1 m1 hR]]⟩
def Bv(x:Mr)(t:TMA):TMS:=λ_ z M=>t z M λds M1=>ds.length<=1000/\J.RM z M1 x []
def kQ(h:∃C N bm,ErrK X.K X.mg x C N bm/\ErrN X.K N)(hx:XOkM X)(hc:X.calm=true)(ha:MA X (e::es) t)(f7:(X.ex=[])\zA0)(hg:Gl X x\zA0)(d9:zND x\zA1)
  (he:zSE X e es\zA0) (c8:zPL X a8 es\zA0):
  MSt X (.Raise (be (.Call (.Name x p) (e::es) [] a8)) z6 pos) (Bv x t):=⟨(Bt h hc ha.out f7 hg d9 he c8).anti λE s H q=>by
 let#[F0,F,z,M,k,rs,ED,h,ee]:=q;exact#[F,z,M,k.kf,rs,_,h,λds vs M1 F1 H1 g1 ge rx m1=>#[by rw[rx.length];exact ge.1,F1,g1.fh,ue hx k.kf rs g1 m1 ge.2]]⟩
end
section
variable {X:Cx}[J:Jm]{a b c e:VV}{ta tb tc te:TME}{pos:V4}{st:VS}{rest:List VS}{t u:TMS}
def Bw:TMS:=λE z M=>E.nx z M
def mSeq(t u:TMS):TMS:=λE z M=>t {E with nx:=u E} z M
def aR:MSs X [] Bw:=⟨pss_nil.anti λE s H q=>by
 let#[F0,F,z,M,k,rs,ED,h,e]:=q;exact e.nx z s M F H k h rs⟩
def aj(h1:MSt X st t)(h2:MSs X rest u):MSs X (st::rest) (mSeq t u):=⟨(eK h1.out h2.out).anti λE s H q=>by
 let#[F0,F,z,M,k,rs,ED,h,e]:=q;exact#[F0,F,z,M,k,rs,{ED with nx:=u ED},h,#[λz' s' M' F' H' k' hz r'=>#[F0,F',z',M',k',r',ED,hz,e],e.rt,e.bk,e.ct]]⟩
def au(h1:MSt X st t):MSs X [st] t:=#[qK h1.out]
def mRet(te:TME):TMS:=λE z M=>te z M E.rt
def aE(he:ME X e te):MSt X (.Return (be e) pos) (mRet te):=⟨(qL he.out).anti λE s H q=>by
 let#[F0,F,z,M,k,rs,ED,h,e]:=q;exact#[F,z,M,k.kf,rs,_,h,λd v M' F' H' g hd rd m'=>e.rt d v M' F' H' (k.growM rs.mb g) hd rd m' (rs.growM k.bh g m').mb]⟩
def By(te:TME):TMS:=λE z M=>te z M λ_ M1=>E.nx z M1
def bO(he:ME X e te)(hs:(V' e z6 pos.line X.env=pure false)\zA0):MSt X (.Expr e pos) (By te):=⟨(jv he.out hs).anti λE s H q=>by
 let#[F0,F,z,M,k,rs,ED,h,e]:=q;exact#[F,z,M,k.kf,rs,_,h,λd v M' F' H' g hd rd m'=>e.nx z s M' F' H' (k.growM rs.mb g) hd (rs.growM k.bh g m')]⟩
def mIfS(c:TMT)(t u:TMS):TMS:=λE z M=>c z M λb M1=>if b=true then t E z M1 else u E z M1
variable{l r:List VS}
def aX{c:VV}{tc:TMT}(hc:MT X c tc)(ha:MSs X l t)(hb:MSs X r u):MSt X (.If c l r pos) (mIfS tc t u):=⟨(qM hc.out ha.out hb.out).anti λE s H q=>by
 let#[F0,F,z,M,k,rs,ED,h,e]:=q;refine#[F,z,M,k.kf,rs,_,h,λb M1 F1 H1 g hk m1=>?_];cases b with
 |true=>exact#[F0,F1,z,M1,k.growM rs.mb g,rs.growM k.bh g m1,ED,hk,e]
 |false=>exact#[F0,F1,z,M1,k.growM rs.mb g,rs.growM k.bh g m1,ED,hk,e]⟩
def mIfJ(c:TMT)(t u:TMS):TMS:=λE z M=>∃J:SD->MS->Prop,(c z M λb M1=>if b=true then t {E with nx:=J} z M1 else u {E with nx:=J} z M1)/\∀z' M',J z' M'->E.nx z' M'
def iu{c:VV}{tc:TMT}(hc:MT X c tc)(ha:MSs X l t)(hb:MSs X r u):MSt X (.If c l r pos) (mIfJ tc t u):=⟨(aX hc ha hb).out.anti λE s H q=>by
 let#[F0,F,z,M,k,rs,ED,#[J,h,j],e]:=q;exact#[F0,F,z,M,k,rs,{ED with nx:=J},h,#[λz' s' M' F' H' k' hz r'=>e.nx z' s' M' F' H' k' (j z' M' hz) r',e.rt,e.bk,e.ct]]⟩
def mSet(i:Nat)(te:TME):TMS:=λE z M=>∃P:D->MS->Prop,te z M P/\∀d M',P d M'->E.nx (z.set i (be d)) M'
def aG(i:Nat){x:Mr}{d5:V4}(hN:X.N.Nodup)(he:ME X e te)(hi:(X.N[i]?=be x)\zA0)(hx:Loc X.env.scope x\zA4)(hs:(V' e (be (.Name x d5)) pos.line X.env=pure false)\zA0)
  (hf:zFN X x\zA2):MSt X (.Assign [.Name x d5] e pos) (mSet i te):=⟨(gM hN hi hx he.out hs hf).anti λE s H q=>by
 let#[F0,F,z,M,k,rs,ED,#[P,h,j],e]:=q;exact#[F,z,M,k.kf,rs,P,h,λd v M' F' H' g hd rd m'=>e.nx _ _ M' F' H' (k.growM rs.mb g) (j d M' hd) ((rs.growM k.bh g m').set rd)]⟩
def Bz(x f:Mr)(to te:TME):TMS:=λE z M=>te z M λd M1=>to z M1 λo M2=>match o with|.ptr a=>∃fs,mget M2 a=be (.ins x fs)/\fs.length<1000/\E.nx z (mput M2 a (.ins x (putD f d fs)))|_=>False
def bZ{x f:Mr}{o:VV}{to:TME}{d5:V4}(hA:ClsA X.K x f)(ho:ME X o to)(he:ME X e te)(hs:(V' e (be (.Attribute o f d5)) pos.line X.env=pure false)\zA0):
  MSt X (.Assign [.Attribute o f d5] e pos) (Bz x f to te):=⟨(rn ho.out he.out hs).anti λE s H q=>by
 let#[C,hn,hc,hf]:=hA;let#[F0,F,z,M,k,rs,ED,h,ee]:=q;refine#[F,z,M,k.kf,rs,_,h,λd v M1 F1 H1 g1 hx rd m1=>?_];have k1:=k.growM rs.mb g1;have o_:=rs.growM k.bh g1 m1;refine#[F1,z,M1,k1.kf,o_,_,hx,λo' v' M2 F2 H2 g2 hy ro m2=>?_];have k2:=k1.growM o_.mb g2;have NS:=o_.growM k1.bh g2 m2;split at hy
 .rename_i a;let#[fs,hm,hl,Nw]:=hy;let#[C',dx,ws,i9,hH,rf]:=m2.ok _ _ (bt hm);rw[hn]at i9;cases i9;have fa:=m2.fr a (bX (bt hm));refine#[a,C,dx,ws,rep_ptr.mp ro,hH,hc,hf,by rw[rf.length];exact hl,?_];have m3:RepM X.K F2 (upd H2 a (.ins C dx (putF f v ws))) (mput M2 a (.ins x (putD f d fs))):=m2.put hm #[C,dx,_,hn,aC,RepF.put (rd.mono g2.ff) rf];have g3:GrowM M2 (mput M2 a (.ins x (putD f d fs))) F2 H2 F2 (upd H2 a (.ins C dx (putF f v ws))):=GrowM.put k2.fh fa hm;exact ee.nx z s _ F2 _ (k2.growM NS.mb g3) Nw (NS.growM k2.bh g3 m3)
 .exact hy.elim⟩
def BA(c:TMT)(tb:TMS):TMS:=λE z M=>∃W:Nat->SD->MS->Prop,(∃m,W m z M)/\∀m z M,W m z M->
 c z M λb M1=>if b=true then tb {E with nx:=λz' M'=>∃m',m'<m/\W m' z' M',ct:=λz' M'=>∃m',m'<m/\W m' z' M',bk:=E.nx} z M1 else E.nx z M1
def BB{c:VV}{body:List VS}{tc:TMT}{tb:TMS}(hp:Wd (VT X.prog X.w) X.A X.env X.xe)(hc:MT X c tc)(hb:MSs X body tb):MSt X (.While c body [] pos) (BA tc tb):=⟨(qN hp hc.out hb.out).anti λE s H q=>by
 let#[F0,F,z,M,k,rs,ED,#[W,#[m0,w0],d6],e]:=q;refine#[λm s' H'=>∃F' z' M',Kept J.B F0 F' H'/\RepZ X.K J.B F' H' z' s' M'/\W m z' M',#[m0,F,z,M,k,rs,w0],?_];rintro m s1 H1⟨F1,z1,M1,k1,r1,w1⟩;refine#[F1,z1,M1,k1.kf,r1,_,d6 m z1 M1 w1,λb M2 F2 H2 g2 hk m2=>?_];cases b with
 |true=>
  refine#[λs3 H3=>∃F3 z3 M3,Kept J.B F0 F3 H3/\RepZ X.K J.B F3 H3 z3 s3 M3/\∃m',m'<m/\W m' z3 M3,λs3 H3 ⟨F3,z3,M3,k3,r3,m',l,w3⟩=>#[m',l,F3,z3,M3,k3,r3,w3],?_];exact#[F0,F2,z1,M2,k1.growM r1.mb g2,r1.growM k1.bh g2 m2,_,hk,#[λz3 s3 M3 F3 H3 k3 h3 r3=>#[F3,z3,M3,k3,r3,h3],e.rt,e.nx,λz3 s3 M3 F3 H3 k3 h3 r3=>#[F3,z3,M3,k3,r3,h3]]]
 |false=>exact e.nx z1 s1 M2 F2 H2 (k1.growM r1.mb g2) hk (r1.growM k1.bh g2 m2)⟩
end
section
variable {X:Cx}[J:Jm]{a b c e o:VV}{ta tb tc te to:TME}{pos:V4}{st:VS}{rest:List VS}{t u:TMS}
abbrev TMI:=SD->MS->(List D->MS->Prop)->Prop
def mItR(t:TME):TMI:=λz M R=>t z M λx M1=>match x with|.int n=>(0<=n/\n<2^62)/\R ((Il n.toNat).map λk=>D.int ((k:Nat):Int)) M1|_=>False
def mFor(i:Nat)(ti:TMI)(tb:TMS):TMS:=λE z M=>ti z M λds M1=>∃W:Nat->SD->MS->Prop,W 0 z M1/\(∀k x z M,ds[k]?=be x->W k z M->tb {E with nx:=W (k+1),ct:=W (k+1),bk:=E.nx} (z.set i (be x)) M)/\∀z M,W ds.length z M->E.nx z M
def BC(i:Nat){x:Mr}{p p1 p2:V4}{body:List VS}{tb:TMS}(hp:Wd (VT X.prog X.w) X.A X.env X.xe)(hc:X.calm=true)(hN:X.N.Nodup)(hm:X.mg "range"=z6)(he:ME X e te)(hb:MSs X body tb)(hg:Gl X "range"\zA0)(hi:(X.N[i]?=be x)\zA0)(hx:Loc X.env.scope x\zA4)
  (hf:zFN X x\zA2) (hs:(∀y,zFS X (.Call (.Name "range" p1) [e] [] p2) y)\zA3) (v_:zSE X e []\zA0) (i8:(VZ [e] X.env=[(false,V3 e X.env)])\zA0):
  MSt X (.For (.Name x p) (.Call (.Name "range" p1) [e] [] p2) body [] pos) (mFor i (mItR te) tb):=⟨(cO hp hc (jx hg hm (bv he.out pa_nil v_) i8) (dO hN hi hx hf) hb.out hs).anti λE s H q=>by
 let#[F0,F,z,M,kp,rs,ED,h,e]:=q;refine#[F,z,M,kp.kf,rs,_,h,λd v M1 F1 H1 g1 hd rd m1=>?_];split at hd
 .rename_i n;let#[#[b1,b2],W,w0,d6,out]:=hd;have hl:((Il n.toNat).map λk=>D.int ((k:Nat):Int)).length=n.toNat:=by simp
  refine#[n,by rw[rep_int.mp rd],KK,b2,jz (lo:=0) (n:=n.toNat) (λk s' H'=>∃F' z' M',Kept J.B F0 F' H'/\RepZ X.K J.B F' H' z' s' M'/\W k z' M') #[F1,z,M1,kp.growM rs.mb g1,rs.growM kp.bh g1 m1,w0] ?_ ?_]
  .rintro k s' H' hk⟨F',z',M',k',r',w'⟩;have e1:(0:Int)+(k:Int)=(k:Int):=by lia
   exact#[F0,F',_,M',k',r'.set (d:=.int (k:Int)) (rep_int.mpr (by rw[e1])),_,d6 k (.int (k:Int)) z' M' (by simp[hk]) w',#[λz3 s3 M3 F3 H3 k3 h3 r3=>#[F3,z3,M3,k3,r3,h3],e.rt,e.nx,λz3 s3 M3 F3 H3 k3 h3 r3=>#[F3,z3,M3,k3,r3,h3]]]
  .rintro s' H'⟨F',z',M',k',r',w'⟩;exact e.nx z' s' M' F' H' k' (out z' M' (by rw[hl];exact w')) r'
 .exact hd.elim⟩
def BD(te:TME):TME:=λz M R=>te z M λd M1=>match d with|.ptr a=>∃ds,mget M1 a=be (.lst ds)/\R (.int ds.length) M1|_=>False
def kR{p:V4}(hm:X.mg "len"=z6)(ha:ME X e te)(hg:Gl X "len"\zA0)(he:zSE X e []\zA0):ME X (.Call (.Name "len" p) [e] [] pos) (BD te):=⟨(fP jD hg hm PySem.boot_len (bv ha.out pa_nil he) Nk Nk he).anti λs H Q h=>by
 let#[F,z,M,k,rs,R,h1,h2]:=h;refine#[F,z,M,k,rs,_,h1,λd v M1 F1 H1 g1 hx rx m1=>?_];split at hx
 .rename_i a;let#[ds,hm,hR]:=hx;let#[vs,hH,rr]:=m1.ok _ _ (bt hm);exact#[.ref a,vs.length,by rw[rep_ptr.mp rx],.inl #[vs,SqL.of hH,rfl],h2 _ _ M1 F1 H1 g1 hR (rep_int.mpr (by rw[rr.length])) m1]
 .exact hx.elim⟩
def mIxP(ta tb:TME):TME:=λz M R=>ta z M λx M1=>tb z M1 λy M2=>kdP x λa=>kdI y λi=>∃ds,mget M2 a=be (.lst ds)/\∃d,atI ds i=be d/\R d M2
def BE(ha:ME X a ta)(hb:ME X b tb)(hs:eN b\zA6):ME X (.Subscript a b pos) (mIxP ta tb):=⟨(pe_ix ix_list ha.out hb.out hs).anti λs H Q h=>by
 let#[F,z,M,k,rs,R,h1,h2]:=h;refine#[F,z,M,k,rs,_,h1,λx u M1 F1 H1 g1 hx rx m1=>?_];refine#[F1,z,M1,k.growM rs.mb g1,rs.growM k.bh g1 m1,_,hx,λy v M2 F2 H2 g2 hy ry m2=>?_];let#[p,rfl,ON]:=kdP.of hy;let#[i,rfl,ds,hm,d,hd,hR]:=kdI.of ON;let#[vs,hH,rr]:=m2.ok _ _ (bt hm);let#[w,e2,j5]:=rr.at hd;exact#[p,vs,_,w,rep_ptr.mp rx,rep_int.mp ry,SqL.of hH,e2,h2 d w M2 F2 H2 (g1.trans g2) hR j5 m2]⟩
def BF(to te:TME):TME:=λz M R=>to z M λo M1=>match o with|.ptr a=>(∃ds,mget M1 a=be (.lst ds))/\te z M1 λd M2=>∃ds,mget M2 a=be (.lst ds)/\ds.length<=100000/\R .non (mput M2 a (.lst (ds++[d])))|_=>False
def BG{b7 a8:V4}(ho:ME X o to)(he:ME X e te)(n4:zSE X e []\zA0)
  (b_:(V1 o "append" X.env (V3 o X.env)=V3 o X.env)\zA0)
  (f6:zHF X a8 [e]\zA0)
  (c9:((b7.endLine==a8.line)=true)\zA0):
  ME X (.Call (.Attribute o "append" b7) [e] [] a8) (BF to te):=⟨(eO PySem.F.plainAttrs_list PySem.F.slot_list_append PySem.F.type_list_append jL ho.out (bv he.out pa_nil n4) b_ f6 c9 n4).anti λs H Q h=>by
 let#[F,z,M,k,rs,R,h1,h2]:=h;refine#[F,z,M,k,rs,_,h1,λx u M1 F1 H1 g1 hx rx m1=>?_];split at hx
 .rename_i a;let#[#[Vr,QL],hx]:=hx;let#[Us,Ut,Vs]:=m1.ok _ _ (bt QL);rw[rep_ptr.mp rx];refine#[.inl #[rfl,Us,SqL.of Ut],?_];refine#[F1,z,M1,k.growM rs.mb g1,rs.growM k.bh g1 m1,_,hx,λd v M2 F2 H2 g2 hd rd m2=>?_];let#[ds,hm,hl,hR]:=hd;let#[vs,hH,rr]:=m2.ok _ _ (bt hm);have hz:vs.length<sizeLine:=by
   rw[rr.length];have h2:(100000:Nat)<sizeLine:=Nk
   lia
  refine#[a,vs,v,rfl,rfl,hH,hz,?_];exact h2 _ _ _ F2 _ (g1.trans (g2.trans (GrowM.put g2.fh (m2.fr a (bX (bt hm))) hm))) hR (rep_non.mpr rfl) (m2.put hm #[_,aC,rr.append (fg rd)])
 .exact hx.elim⟩
def frzD:MO->D|.ins x fs=>.obj x fs|.lst ds=>.lst ds|.dti a_=>.dti a_
def mFrz(i:Nat)(t:TMS):TMS:=λE z M=>match z[i]? with|some (be (.ptr a))=>∃o,mget M a=be o/\t E (z.set i (be (frzD o))) (mdel M a)|_=>False
def uf(i:Nat){OD:List VS}(h:MSs X OD t):MSs X OD (mFrz i t):=⟨PSs.anti h.out λE s H q=>by
 let#[F0,F,z,M,k,rs,ED,h,e]:=q;unfold mFrz at h;split at h
 .rename_i a ez;let#[o,hm,h]:=h;have mem:=bt hm;have fa:=rs.rm.fr a (bX mem);have ba:=rs.mb a (bX mem);let#[v,hv,rv]:=rs.rs.val i _ ez rfl;have Uu:=rep_ptr.mp rv;subst Uu;have hok:=rs.rm.ok a o mem;let#[ho,f_,QM]:∃ho,H a=be ho/\∀F',Same F F'->F' a=be ho->Rep X.K F' (frzD o) (.ref a):=by
   cases o with
   |ins x fs=>let#[C,dx,ws,n,h1,h2]:=hok;exact#[_,h1,λF' s' hF=>rep_obj.mpr #[a,C,dx,ws,rfl,n,hF,RepF.mono s' fs ws h2]]
   |lst ds=>let#[vs,h1,h2]:=hok;exact#[_,h1,λF' s' hF=>rep_lst.mpr #[a,vs,rfl,hF,h2.mono s']]
   |dti a_=>exact#[_,hok,λF' s' hF=>rep_dti.mpr #[a,rfl,hF]]
  have s1:Same F (upd F a ho):=aN fa _;have hs:s.set i (be (.ref a))=s:=by
   apply JB;intro n;by_cases hn:i=n
   .subst hn;rw[IZ (IB.mp hv).1,hv]
   .rw[Iz hn]
  have k1:Kept J.B F0 (upd F a ho) H:=⟨k.bh,λb u q=>by
   by_cases hb:b=a
   .subst hb;rw[aC]at q;cases q;exact f_
   .rw[ar hb]at q;exact k.fh b u q,k.f0.trans s1,λb h1 h2=>by
   by_cases hb:b=a
   .subst hb;exact absurd ba h2
   .rw[ar hb];exact k.out b h1 h2,k.eb,k.jf,k.jo⟩
  have r0:RepS X.K J.B (upd F a ho) H z s:=#[rs.rs.len,λi d e n=>let ⟨v,q1,q2⟩:=rs.rs.val i d e n;#[v,q1,q2.mono s1],λi ds e=>absurd e (rs.no i ds),rs.rs.apart];have Uv:RepM X.K (upd F a ho) H (mdel M a):=⟨rs.rm.nd.sublist del_sub,λb q hb=>by
   let#[ne,hb]:=kK rs.rm.nd hb;exact(rs.rm.ok b q hb).mono s1 λ_ z=>z,λb hb=>by
   let#[#[b',q],g9,rfl]:=IJ.mp hb;let#[ne,SU]:=kK rs.rm.nd g9;rw[ar ne];exact rs.rm.fr _ (bX SU)⟩
  have z0:RepZ X.K J.B (upd F a ho) H z s (mdel M a):=#[r0,rs.no,Uv,λb hb=>rs.mb b (del_sub.subset hb)];have z1:=z0.set (i:=i) (QM _ s1 aC);rw[hs]at z1;exact#[F0,_,_,_,k1,z1,ED,h,e]
 .exact h.elim⟩
end
def kS{N:List Mr}{ds:List D}(rs:Reps K F ds vs):∀(i:Nat) d,(startD N ds)[i]?≠be (be (.own d)):=by
 intro i d e;unfold startD at e;by_cases hi:i<ds.length
 .rw[Ja (by simpa using hi),Iy]at e;cases q:ds[i]? with
  |none=>rw[q]at e;cases e
  |some x=>
   rw[q]at e;cases e;let#[v,_,q2]:=rs.get q;exact rep_own q2
 .rw[Jp (by simpa using hi),Ku]at e;split at e
  .cases e
  .cases e
def growM_nil(g:GrowM [] M' F H F' H'):Grow F H F' H':=#[g.ff,g.fh,λb o h=>g.hh b o (λz=>nomatch z) h,λb h1 h2=>g.out b (λz=>nomatch z) h1 h2]
section
variable {P:VU}{w:VX}{K:Ex}{mg:Mr->Option Os}{base:Heap}
variable{x:Mr}{ps:List Mr}{S:SpM}
def CalMM.toX{n:Nat}{S0:SpX}(C:CalMM P w K mg base n x ps S)(h:∀ds R RX,S0 ds R RX->S ds [] (λd _=>R d) λx fs _=>RX x fs):CalX P w K mg base n x ps S0:=by
 let#[f,fd,F,hb,hk,hm]:=C;refine#[f,fd,F.imp λvs H Q E q=>?_,hb,hk,hm];let#[F,ds,fh,rs,R,RX,hS,q1,q2]:=q;exact#[F,ds,[],fh,rs,RepM.nil,_,_,h ds R RX hS,λd v M' F' H' g hd rd _=>q1 d v F' H' (growM_nil g) hd rd,λy fs C od M' F' H' g hR er _=>q2 y fs C od F' H' (growM_nil g) hR er]
open Classical in
def Fun.okM{x qual:Mr}{st:VS}{f:Pi}{fd:V2}{N ps:List Mr}{k:Nat}{S:SpM}{dV:Os}(T:FunG K dV x qual st f fd)(F:FnScope N ps (ah st))(len:∀ds M R RX,S ds M R RX->ds.length=ps.length)
  (a9:∀(cdv:Os) (A:VY) (outer:List WD) (s:SB) (H:Hp) (E:XK) (J:Jm),Room k (A.deeper (V7 qual (ah st) s.heap.objs.size f cdv))->XOkM (cxOf (CX1 P w) P w K mg base N qual (ah st) f cdv A outer s H E)->
   ∃t,MSs (cxOf (CX1 P w) P w K mg base N qual (ah st) f cdv A outer s H E) (aL st) t/\∀ds M R RX,(∀z,J.RM z=λM' x fs=>RX x fs M')->S ds M R RX->t {nx:=λ_ M'=>R .non M',rt:=R} (startD N ds) M):FnOk P w K mg base (CX1 P w) (k+1) f fd ps (lSpM K S):=by
 refine Fun.okC T F (λvs H Q E h=>?_) (λcdv A outer s H vs Q E hr h=>?_)
 .let#[F,ds,M,fh,rs,rm,R,RX,h,_]:=h;rw[rs.length];exact len ds M R RX h
 .let#[F,ds,M,fh,rs,rm,R,RX,h,q,qx]:=h
  let B:Hp:=λb=>if b∈aw M then z6 else H b
  have SV:∀{b:Pi},b∈aw M->B b=none:=λ{b} h=>if_pos h;have Pz:∀{b:Pi},b∉aw M->B b=H b:=λ{b} h=>if_neg h
  letI:Jm:={B:=B,F0:=F,RX:=λ_ _ _=>False,RM:=λ_ M' x fs=>RX x fs M'}
  have gr:∀{M':MS} {F' H':Hp},Kept B F F' H'->(∀a,a∈aw M'->B a=z6)->GrowM M M' F H F' H':=λ{M' F' H'} k mb=>⟨k.f0,k.fh,λb o nb e=>k.bh b o (by rw[Pz nb];exact e),λb nb h1 h2=>k.out b h1 (by rw[Pz nb];exact h2),λb hb=>by
   by_cases nb:b∈aw M
   .exact .inl nb
   .right;rw[<-Pz nb];exact mb b hb⟩
  have hx:XOkM (cxOf (CX1 P w) P w K mg base N qual (ah st) f cdv A outer s H E):=by
   intro σ z M' F' H' s' e C od y fs I kk rr hR er ⟨He,ne,_,hx⟩;have hE:E (.ref C) od H':=qx y fs C od M' F' H' (gr kk rr.mb) hR er rr.rm;rcases hx with⟨sl,vs,h1,h2⟩|⟨T,fl,h1,h2,h3,_⟩
   .exact se I h1 h2 He ne hE
   .exact tN I h1 ne h2 He h3 hE
  let#[t,ht,hq]:=a9 cdv A outer s H E inferInstance hr hx;have k0:Kept B F F H:=⟨λb o e=>by
   by_cases nb:b∈aw M
   .rw[SV nb]at e;cases e
   .rw[Pz nb]at e;exact e,fh,Same.refl F,λ_ h _=>h,rfl,Same.refl F,λ_ h _=>h⟩
  have r0:RepZ K B F H (startD N ds) (L2.start N vs) M:=#[dQ rs,kS rs,rm,λa h=>SV h];exact#[_,ht.out,F,F,startD N ds,M,k0,r0,_,hq ds M R RX (λ_=>rfl) h,#[λz' s' M' F' H' k hn r=>q _ _ M' F' H' (gr k r.mb) hn (rep_non.mpr rfl) r.rm,λd v M' F' H' k hd rd QN mb=>q d v M' F' H' (gr k mb) hd rd QN,λ_ _ _ _ _ _ h _=>h.elim,λ_ _ _ _ _ _ h _=>h.elim]]
variable{N:List Mr}
def Tx.okM{st:VS}{k:Nat}(T:Tx K mg x st ps)(F:FnScope N ps (ah st))(len:∀ds M R RX,S ds M R RX->ds.length=ps.length)
  (a9:∀(f:Pi) (cdv:Os) (A:VY) (outer:List WD) (s:SB) (H:Hp) (E:XK) (J:Jm),Room k (A.deeper (V7 x (ah st) s.heap.objs.size f cdv))->XOkM (cxOf (CX1 P w) P w K mg base N x (ah st) f cdv A outer s H E)->
   ∃t,MSs (cxOf (CX1 P w) P w K mg base N x (ah st) f cdv A outer s H E) (aL st) t/\∀ds M R RX,(∀z,J.RM z=λM' x fs=>RX x fs M')->S ds M R RX->t {nx:=λ_ M'=>R .non M',rt:=R} (startD N ds) M):CalMM P w K mg base (k+1) x ps S:=by
 let#[f,fd,T,hb,hm]:=T;exact#[f,fd,Fun.okM T F len λcdv A outer s H E J hr hx=>a9 f cdv A outer s H E J hr hx,hb,T.kp,hm]
def Txm(K:Ex)(x m:Mr)(qual:Mr)(st:VS)(ps:List Mr):Prop:=
 ∃C f fd,nsIn K SL x=be (be (.ref C))/\Cls K C/\Meth K C m f/\Fun K m qual st f fd/\Binds K fd ps []
def Txm.okM{m qual:Mr}{st:VS}{k:Nat}(T:Txm K x m qual st ps)(F:FnScope N ps (ah st))(len:∀ds M R RX,S ds M R RX->ds.length=ps.length)
  (a9:∀(f:Pi) (cdv:Os) (A:VY) (outer:List WD) (s:SB) (H:Hp) (E:XK) (J:Jm),Room k (A.deeper (V7 qual (ah st) s.heap.objs.size f cdv))->XOkM (cxOf (CX1 P w) P w K mg base N qual (ah st) f cdv A outer s H E)->
   ∃t,MSs (cxOf (CX1 P w) P w K mg base N qual (ah st) f cdv A outer s H E) (aL st) t/\∀ds M R RX,(∀z,J.RM z=λM' x fs=>RX x fs M')->S ds M R RX->t {nx:=λ_ M'=>R .non M',rt:=R} (startD N ds) M):CalMth P w K mg base (k+1) x m ps (lSpM K S):=by
 let#[C,f,fd,h1,h2,h3,T,hb]:=T;exact#[C,f,fd,h1,h2,h3,Fun.okM T F len λcdv A outer s H E J hr hx=>a9 f cdv A outer s H E J hr hx,hb]
end
end My
namespace L2
section
variable {X:Cx}{pins:List (Pi×Wa)}{σ:St}{H:Hp}{s:SB}{h':Heap}
def Inv.turned2{t':Nat}{e it:Pi}(I:Inv X pins σ H s)(k:∀b o,b≠e->b≠it->s.heap.get? b=be o->h'.get? b=be o)(he:FpOk X pins H e)(hi:FpOk X pins H it):Inv X pins σ H {s with heap:=h',toks:=t'}:=by
 let#[e0,e1,e2,e3,e4,e5]:=he;let#[i0,i1,i2,i3,i4,i5]:=hi;have Ni:∀b u,H b=be u->b≠e/\b≠it:=λb u q=>#[(λz=>by rw[z,e0]at q;cases q),(λz=>by rw[z,i0]at q;cases q)];have nc:∀{b:Pi},b∉[e,it]->b≠e/\b≠it:=λ{b} h=>#[λz=>h (by simp[z]),λz=>h (by simp[z])];refine I.step (g':=s.gens) (d':=s.drawn) (ch:=[e,it]) (λb hb=>?_) (λb o _ _ hc q _=>k b o (nc hc).1 (nc hc).2 q) (λb o _ _ hc q _=>#[o.slots,k b o (nc hc).1 (nc hc).2 q]) (λ_ _ _ _ n=>n)
  (λb o hc q=>#[o,k b o (nc hc).1 (nc hc).2 q]) (λ_ _ q=>q) (λ_ _ _ q=>q) (λb ps q=>#[[].toArray,by rw[q];simp]) (λm hm=>?_) (λb u q=>?_) I.bare
 .rcases Ik.mp hb with z|z
  .rw[z];exact#[e3,e1,e4,e5]
  .rw[Ih.mp z];exact#[i3,i1,i4,i5]
 .let#[o,es,ep,ho,r]:=hm;exact#[o,es,ep,k _ o (Ne.symm e1) (Ne.symm i1) ho,r]
 .refine(I.hok b u q).stay (λc v hc q'=>k c v ?_ ?_ q') (λ_ q=>q) λ_ _ q=>q
  .rcases hc with z|z
   .rw[z];exact(Ni b u q).1
   .exact(Ni c _ z).1
  .rcases hc with z|z
   .rw[z];exact(Ni b u q).2
   .exact(Ni c _ z).2
end
def Itel(K:Ex)(a:Pi):It:=
 #[λi H=>∃xs x,SqL K H a xs/\xs[i]?=be x,λi H x H'=>∃T v,H T=z6/\x=.ref T/\H'=upd H T (.tup [.int i,v])/\∀xs,SqL K H a xs->xs[i]?=be v,λi H=>∃xs,SqL K H a xs/\xs.length<=i]
def Ites(x:Mr):It:=#[λi _=>i<x.length,λi H v H'=>∃T c,H T=z6/\v=.ref T/\H'=upd H T (.tup [.int i,.str #[[c].toArray]])/\x.cps[i]?=be c,λi _=>i=x.length]
variable{P:VU}{w:VX}
def BH{H:Hp}{h:Heap}{T:Pi}{i:Int}{t:XU}{v:V}{u:Os}(r:RelV v u)(q:h.get? T=be {cls:=.type "tuple",data:=.seq [.int i t,u].toArray}):ObjOk P w H h T (.tup [.int i,v]):=
 #[by show 2<=sizeLine;decide,[.int i t,u],.cons #[t,rfl] (.cons r .nil),#[_,q,rfl,_,rfl]]
def uh{X:Cx}{pins:List (Pi×Wa)}{σ:St}{H:Hp}{s:SB}{h':Heap}{t':Nat}{e it:Pi}{i:Int}{t:XU}{v:V}{u:Os}(I:Inv X pins σ H s)(he:FpOk X pins H e)(hi:FpOk X pins H it)(le:e<s.heap.objs.size)(li:it<s.heap.objs.size)(r:RelV v u)
  (hT:h'.get? s.heap.objs.size=be {cls:=.type "tuple",data:=.seq [.int i t,u].toArray}) (hk:∀b o,b≠e->b≠it->s.heap.get? b=be o->h'.get? b=be o):Inv X pins σ (upd H s.heap.objs.size (.tup [.int i,v])) {s with heap:=h',toks:=t'}:=by
 have I1:Inv X pins σ (upd H s.heap.objs.size (.tup [.int i,v])) {s with heap:=s.heap.push {cls:=.type "tuple",data:=.seq [.int i t,u].toArray},toks:=t'}:=
  I.laid (λb o q=>Heap.get?_push_of_some _ q) (Ii _) (BH r (Heap.get?_push_size _ rfl))
 have fp:∀{b:Pi},FpOk X pins H b->b<s.heap.objs.size->FpOk X pins (upd H s.heap.objs.size (.tup [.int i,v])) b:=λ{b} h l=>#[by rw[ar (Iv l)];exact h.1,h.2];refine I1.turned2 (h':=h') (t':=t') (λb o h1 h2 q=>?_) (fp he le) (fp hi li);rcases Heap.get?_push_cases (show(s.heap.push {cls:=.type "tuple",data:=.seq [.int i t,u].toArray}).get? b=be o from q)with⟨rfl,rfl⟩|q2
 .exact hT
 .exact hk b o h1 h2 q2
variable{w9:List VV}
def BI{K:Ex}{x1:Nat}{tp:V4}(a e it:Pi)(NT:e≠it):Turn P w K (.Tuple w9 x1 tp) (Itel K a) [e,it] e (λi h=>(∃d_,IsEnum h e it i d_)/\h.IsListIter it a i) where
 mem:=Nq
 obj:=λi h st b hb=>by
  let#[#[d_,he],hit]:=st;rcases Ik.mp hb with z|z
  .rw[z];exact#[_,he,λv z=>by cases z]
  .rw[Ih.mp z];let#[o,ho,c,d]:=hit;exact#[o,ho,λv z=>by rw[d]at z;cases z]
 keep:=λi h h' st k=>#[let ⟨d_,he⟩:=st.1;#[d_,k e Nq _ he],st.2.at λo q=>k it Nq o q]
 item:=by
  intro X hP hw hK hc i pins s σ H E I hf st hg;subst hP hw hK;let#[xs,x,hq,hx]:=hg;let#[its,rv,p,hz]:=I.list hq;let#[u,hu,ru]:=rv.get hx;let#[#[d_,he],hit]:=st;have fe:=hf e Nq;have fi:=hf it Nq;have le:e<s.heap.objs.size:=Heap.lt_size he;have li:it<s.heap.objs.size:=by let#[o,ho,_]:=hit;exact Heap.lt_size ho
  refine wpAny_pyNext_enum_item he hit p.isList (x:=u) (by simpa using hu) NT λh' Md NC hT k8 hk=>?_;refine#[_,rfl,W9 Md λh2 QO m9=>?_];have t8:Heap.SameBut e h' h2:=m9;have nT:s.heap.objs.size≠e:=Jl le;have I1:Inv X pins σ (upd H s.heap.objs.size (.tup [.int i,x])) {s with heap:=h2,toks:=s.toks+1}:=uh I fe fi le li ru ((t8.2 _ nT).trans hT) λb o h1 h3 q=>(t8.2 b h1).trans (hk b o h1 h3 q);refine#[.ref s.heap.objs.size,_,I1,rfl,#[_,x,I.hok.fresh (Ii _),rfl,rfl,λys hy=>by rw[I.list_inj hy hq];exact hx],#[#[u,by simpa using QO],NC.at λo q=>(t8.2 it (Ne.symm NT)).trans q],λb hb=>?_];rcases Ik.mp hb with z|z
  .rw[z,ar (Iv le)];exact fe.1
  .rw[Ih.mp z,ar (Iv li)];exact fi.1
 done:=by
  intro X hP hw hK hc i pins s σ H E I hf st hg;subst hP hw hK;let#[xs,hq,hx]:=hg;let#[its,rv,p,hz]:=I.list hq;let#[#[d_,he],hit]:=st;have hl:=rv.length;let#[f0,f1,f2,f3,f4,f5]:=hf it Nq;exact wpAny_pyNext_enum_end (I.ok.hd hc) he hit p.isList Qh λh' eb=>#[rfl,I.turned (t':=s.toks) (λb o hb q=>eb b o hb q) f0 f1 f3 f4 f5]
 self:=λ_ _ _ _ _ st h=>let ⟨⟨d_,he⟩,_⟩:=st;WG he h
def BJ{K:Ex}{x1:Nat}{tp:V4}(x:Mr)(t:XU)(e it:Pi)(NT:e≠it):Turn P w K (.Tuple w9 x1 tp) (Ites x) [e,it] e (λi h=>(∃d_,IsEnum h e it i d_)/\h.IsStrIter it "str_ascii_iterator" x t i) where
 mem:=Nq
 obj:=λi h st b hb=>by
  let#[#[d_,he],hit]:=st;rcases Ik.mp hb with z|z
  .rw[z];exact#[_,he,λv z=>by cases z]
  .rw[Ih.mp z];let#[o,ho,c,d]:=hit;exact#[o,ho,λv z=>by rw[d]at z;cases z]
 keep:=λi h h' st k=>#[let ⟨d_,he⟩:=st.1;#[d_,k e Nq _ he],let ⟨o,ho,r⟩:=st.2;#[o,k it Nq o ho,r]]
 item:=by
  intro X hP hw hK hc i pins s σ H E I hf st hg;subst hP hw hK;have hi:i<x.cps.size:=hg;let#[#[d_,he],hit]:=st;have fe:=hf e Nq;have fi:=hf it Nq;have le:e<s.heap.objs.size:=Heap.lt_size he;have li:it<s.heap.objs.size:=by let#[o,ho,_]:=hit;exact Heap.lt_size ho
  refine wpAny_pyNext_enum_itemD (Draws.strAscii (A:=X.A.in1) (by exact I.ok.hd hc) it x t) he hit hi NT (by simp[NT]) λu h' tk hP Md NC hT k8 hk=>?_;let#[c,tu,Mn,rfl]:=hP;refine#[_,rfl,W9 Md λh2 QO m9=>?_];have t8:Heap.SameBut e h' h2:=m9;have nT:s.heap.objs.size≠e:=Jl le;have I1:Inv X pins σ (upd H s.heap.objs.size (.tup [.int i,.str #[[c].toArray]])) {s with heap:=h2,toks:=tk+1}:=uh I fe fi le li #[tu,rfl] ((t8.2 _ nT).trans hT) λb o h1 h3 q=>(t8.2 b h1).trans (hk b o h1 h3 q);refine#[.ref s.heap.objs.size,_,I1,rfl,#[_,c,I.hok.fresh (Ii _),rfl,rfl,Mn],#[#[_,by simpa using QO],let ⟨o,ho,r⟩:=NC;#[o,(t8.2 it (Ne.symm NT)).trans ho,r]],λb hb=>?_];rcases Ik.mp hb with z|z
  .rw[z,ar (Iv le)];exact fe.1
  .rw[Ih.mp z,ar (Iv li)];exact fi.1
 done:=by
  intro X hP hw hK hc i pins s σ H E I hf st hg;subst hP hw hK;have hi:i=x.cps.size:=hg;subst hi;let#[#[d_,he],hit]:=st;let#[f0,f1,f2,f3,f4,f5]:=hf it Nq;exact wpAny_pyNext_enum_endD (Draws.strAscii (A:=X.A.in1) (by exact I.ok.hd hc) it x t) he hit λh' eb=>#[rfl,I.turned (t':=s.toks) (λb o hb q=>eb b o hb q) f0 f1 f3 f4 f5]
 self:=λ_ _ _ _ _ st h=>let ⟨⟨d_,he⟩,_⟩:=st;WG he h
def iEnL(K:Ex)(ta:TA):TI:=λσ H R=>ta σ H λvs H1=>∃a,vs=[.ref a]/\(∃xs,SqL K H1 a xs)/\R (Itel K a) H1
def iEnS(ta:TA):TI:=λσ H R=>ta σ H λvs H1=>∃x,vs=[.str x]/\x.cps.all (·<128)=true/\R (Ites x) H1
section
variable {X:Cx}{w9:List VV}{x1:Nat}{tp p pos:V4}{l:VV}{ta:TA}
def BK(hg:Gl X "enumerate")(hm:X.mg "enumerate"=z6)(ha:PA X [l] ta)(hs:(VZ [l] X.env=[(false,V3 l X.env)])\zA0):PI X (.Tuple w9 x1 tp) (.Call (.Name "enumerate" p) [l] [] pos) (iEnL X.K ta):=by
 intro pins s σ H R I h;refine Call_ (dN I hg hm PyProof.Rows.boot_enumerate (PyProof.Rows.callWith_type1 (thn (ha pos pins s σ H _ I h) λus s1 ⟨vs,H1,I1,r1,q1⟩=>?_) hs rfl));let#[a,rfl,#[xs,hq],q]:=q1;let#[u,rfl,ru]:=vals1 r1;cases ru;let#[its,rv,pl,hz]:=I1.list hq;refine call_enumerate_list pl.isList λh' he hit k8 hk=>?_;have I2:Inv X pins σ H1 {s1 with heap:=h'}:=I1.kept (t':=s1.toks) hk;refine WG he ?_;have ne:s1.heap.objs.size+1≠s1.heap.objs.size:=Lr _;refine#[s1.heap.objs.size+1,[s1.heap.objs.size+1,s1.heap.objs.size],_,_,H1,rfl,I2,BI a _ _ ne,#[#[_,he],hit],λb hb=>?_,q];rcases Ik.mp hb with z|z
 .rw[z];exact I1.fpOk (Jy _) (I1.hok.fresh (Jy _))
 .rw[Ih.mp z];exact I1.fpOk (Ii _) (I1.hok.fresh (Ii _))
def ui(hg:Gl X "enumerate")(hm:X.mg "enumerate"=z6)(ha:PA X [l] ta)(hs:(VZ [l] X.env=[(false,V3 l X.env)])\zA0):PI X (.Tuple w9 x1 tp) (.Call (.Name "enumerate" p) [l] [] pos) (iEnS ta):=by
 intro pins s σ H R I h;refine Call_ (dN I hg hm PyProof.Rows.boot_enumerate (PyProof.Rows.callWith_type1 (thn (ha pos pins s σ H _ I h) λus s1 ⟨vs,H1,I1,r1,q1⟩=>?_) hs rfl));let#[x,rfl,QP,q]:=q1;let#[u,rfl,t,rfl]:=vals1 r1;refine call_enumerate_str λh' he hit k8 hk=>?_;have I2:Inv X pins σ H1 {s1 with heap:=h'}:=I1.kept (t':=s1.toks) hk;refine WG he ?_;have ne:s1.heap.objs.size+1≠s1.heap.objs.size:=Lr _;have Uw:strIterType x="str_ascii_iterator":=by unfold strIterType;rw[QP];rfl
 rw[Uw]at hit;refine#[s1.heap.objs.size+1,[s1.heap.objs.size+1,s1.heap.objs.size],_,_,H1,rfl,I2,BJ x t _ _ ne,#[#[_,he],hit],λb hb=>?_,q];rcases Ik.mp hb with z|z
 .rw[z];exact I1.fpOk (Jy _) (I1.hok.fresh (Jy _))
 .rw[Ih.mp z];exact I1.fpOk (Ii _) (I1.hok.fresh (Ii _))
end
end L2
namespace My
open Exc
section
variable {X:Cx}[J:Jm]{a b c e o:VV}{ta tb tc te to:TME}{pos:V4}{st:VS}{rest:List VS}{t u:TMS}
def kT{K:Ex}{F:Hp}:∀(is:List Nat) (ds:List D) (vs:List V) (z:SD),Reps K F ds vs->(∀(i:Nat) d,z[i]?≠be (be (.own d)))->∀(i:Nat) d,(cn is ds z)[i]?≠be (be (.own d))
 |[],_,_,z,_,h=>h
 |_::_,[],_,z,_,h=>h
 |i::is,d::ds,vs,z,r,h=>by
  let#[v,vr,rfl,r1,r2]:=reps_cons.mp r;refine kT is ds vr _ r2 λj q e=>?_;by_cases hj:i=j
  .subst hj;rw[JA]at e;simp at e;have:=r1.noown;rw[e.2]at this;cases this
  .rw[Iz hj]at e;exact h j q e
def mItE(t:TME):TMI:=λz M R=>t z M λx M1=>match x with|.lst ds=>R ds M1|_=>False
def BL(t:TME):TMI:=λz M R=>t z M λx M1=>match x with|.str x=>x.cps.all (·<128)=true/\R (bW x) M1|_=>False
def uj(is:List Nat)(ti:TMI)(tb:TMS):TMS:=λE z M=>ti z M λds M1=>∃W:Nat->SD->MS->Prop,W 0 z M1/\(∀(k:Nat) x z M,ds[k]?=be x->W k z M->tb {E with nx:=W (k+1),ct:=W (k+1),bk:=E.nx} (cn is [.int k,x] z) M)/\∀z M,W ds.length z M->E.nx z M
variable{is:List Nat}
def uk{K:Ex}{F0 F1 H1:Hp}{z:SD}{s:L2.St}{M1:MS}{E:Ends}{ED:EndsM}{It':It}{g:TG}{tb:TMS}{OO:TS}{ds:List D}(hK:K=X.K)(k1:Kept J.B F0 F1 H1)(o_:RepZ K J.B F1 H1 z s M1)(e:EndsOkM K F0 ED E)(b9:is.length=2)
  (go:∀k F' H',Same F1 F'->Same F' H'->k<ds.length->It'.go k H') (stop:∀F' H',Same F1 F'->Same F' H'->It'.stop ds.length H')
  (yld:∀k F' H' x H'',Same F1 F'->Same F' H'->k<ds.length->It'.yld k H' x H''->∃T d v,H' T=z6/\x=.ref T/\H''=upd H' T (.tup [.int k,v])/\ds[k]?=be d/\Rep K F' d v)
  (hg:∀(dd:List D) (vs:List V) (T:Pi) (z:SD) (s:L2.St) (F H:Hp) (Q:L2.St->Hp->Prop),dd.length=2->H T=be (.tup vs)->Reps K F dd vs->RepS K J.B F H z s->(∀s',RepS K J.B F H (cn is dd z) s'->Q s' H)->g (.ref T) s H Q)
  (QQ:∀E s H,mS K tb E s H->OO E s H)
  (hd:∃W:Nat->SD->MS->Prop,W 0 z M1/\(∀(k:Nat) x z M,ds[k]?=be x->W k z M->tb {ED with nx:=W (k+1),ct:=W (k+1),bk:=ED.nx} (cn is [.int k,x] z) M)/\∀z M,W ds.length z M->ED.nx z M):
  ∃W:Nat->Nat->L2.St->Hp->Prop,(∃m,W 0 m s H1)/\∀i m σ H,W i m σ H->
   (It'.stop i H/\E.nx σ H)\/(It'.go i H/\∃N:L2.St->Hp->Prop,(∀σ' H',N σ' H'->∃m',m'<m/\W (i+1) m' σ' H')/\∀x H',It'.yld i H x H'->g x σ H' λσ2 H2=>OO {E with nx:=N,ct:=N,bk:=E.nx} σ2 H2):=by
 let#[W,w0,d6,out]:=hd;refine#[λk m s' H'=>m=ds.length-k/\k<=ds.length/\∃F' z' M',Kept J.B F0 F' H'/\Same F1 F'/\RepZ K J.B F' H' z' s' M'/\W k z' M',#[ds.length,Nq,IL _,F1,z,M1,k1,Same.refl F1,o_,w0],?_];rintro k m s' H'⟨rfl,hk,F',z',M',k',g',r',w'⟩;by_cases gV:k<ds.length
 .refine .inr #[go k F' H' g' k'.fh gV,λs3 H3=>∃F3 z3 M3,Kept J.B F0 F3 H3/\Same F1 F3/\RepZ K J.B F3 H3 z3 s3 M3/\W (k+1) z3 M3,λs3 H3 h3=>#[ds.length-(k+1),KK,rfl,gV,h3],λx H'' hy=>?_];let#[T,d,v,hT,rfl,rfl,hd,rd]:=yld k F' H' x H'' g' k'.fh gV hy;have gn:=Grow.new k'.fh hT (.tup [.int k,v]);have k2:=k'.grow gn;have r2:=r'.growM k'.bh gn.toM (r'.rm.grow gn);have rp:Reps K (upd F' T (.tup [.int k,v])) [.int k,d] [.int k,v]:=reps_cons.mpr #[_,_,rfl,rep_int.mpr rfl,fg (rd.mono gn.ff)];refine hg [.int k,d] _ T z' s' _ _ _ rfl aC rp r2.rs λs2 NS=>QQ _ _ _ ?_;have gF:Same F1 (upd F' T (.tup [.int k,v])):=g'.trans gn.ff;refine#[upd F' T (.tup [.int k,v]),upd F' T (.tup [.int k,v]),_,M',#[k2.bh,k2.fh,Same.refl _,λb h1 _=>h1,k2.eb,k2.jf.trans k2.f0,λb h1 h2=>k2.out b (k2.jo b h1 h2) h2],#[NS,kT is _ _ z' rp r2.no,r2.rm,r2.mb],_,d6 k d z' M' hd w',?_];have up:∀{F3 H3:Hp},Kept J.B (upd F' T (.tup [.int k,v])) F3 H3->Kept J.B F0 F3 H3:=λk3=>#[k3.bh,k3.fh,k2.f0.trans k3.f0,λb h1 h2=>k3.out b (k2.out b h1 h2) h2,k2.eb,k2.jf,k2.jo];exact#[λz3 s3 M3 F3 H3 k3 h3 r3=>#[F3,z3,M3,up k3,gF.trans k3.f0,r3,h3],λd v M3 F3 H3 k3=>e.rt d v M3 F3 H3 (up k3),λz3 s3 M3 F3 H3 k3=>e.nx z3 s3 M3 F3 H3 (up k3),λz3 s3 M3 F3 H3 k3 h3 r3=>#[F3,z3,M3,up k3,gF.trans k3.f0,r3,h3]]
 .have ek:k=ds.length:=by lia
  subst ek;exact .inl #[stop F' H' g' k'.fh,e.nx z' s' M' F' H' k' (out z' M' w') r']
variable{es:List VV}{body:List VS}
def BM{x1:Nat}{tp p1 p2:V4}{tb:TMS}(hp:Wd (VT X.prog X.w) X.A X.env X.xe)(hc:X.calm=true)(hm:X.mg "enumerate"=z6)(he:ME X e te)(hG:DGs X es is)(hb:MSs X body tb)(b9:(is.length=2)\zA0)(hg:Gl X "enumerate"\zA0)
  (hn:((V0 es X.env).length=2)\zA0) (m4:((V0 es X.env).findIdx? (·.1)=none)\zA0)
  (hs:(∀y,zFS X (.Call (.Name "enumerate" p1) [e] [] p2) y)\zA3) (v_:zSE X e []\zA0) (i8:(VZ [e] X.env=[(false,V3 e X.env)])\zA0):
  MSt X (.For (.Tuple es x1 tp) (.Call (.Name "enumerate" p1) [e] [] p2) body [] pos) (uj is (mItE te) tb):=by
 let#[ug,OP,kk]:=hG;refine#[(cO hp hc (BK hg hm (bv he.out pa_nil v_) i8) (gK hc OP hn m4) hb.out hs).anti λE s H q=>?_];let#[F0,F,z,M,kp,rs,ED,h,e]:=q;refine#[F,z,M,kp.kf,rs,_,h,λd v M1 F1 H1 g1 hd rd m1=>?_];split at hd
 .rename_i ds;let#[p,vs,rfl,hq,rr]:=rep_lst.mp rd;refine#[p,rfl,#[vs,SqL.of (g1.fh _ _ hq)],uk (It':=Itel X.K p) rfl (kp.growM rs.mb g1) (rs.growM kp.bh g1 m1) e b9 (λk F' H' s1 s2 hk=>?_) (λF' H' s1 s2=>?_) (λk F' H' x H'' s1 s2 hk hy=>?_) (λdd n_ T z s F H Q hl hT rp K_ hQ=>?_) (λ_ _ _ h=>h) hd]
  .have s_:k<vs.length:=by rw[rr.length];exact hk
   exact#[vs,vs[k],SqL.of (s2 _ _ (s1 _ _ hq)),by simp[s_]]
  .exact#[vs,SqL.of (s2 _ _ (s1 _ _ hq)),by rw[rr.length];exact Ii _]
  .let#[T,v,hT,e1,e2,hv]:=hy;let#[d,hd,rd]:=rr.get' (hv vs (SqL.of (s2 _ _ (s1 _ _ hq))));exact#[T,d,v,hT,e1,e2,hd,rd.mono s1]
  .exact#[T,n_,rfl,SqT.of hT,by rw[rp.length];exact hl,kk dd n_ z s J.B F H Q (by rw[hl,b9]) rp K_ hQ]
 .exact hd.elim
def BN{x1:Nat}{tp p1 p2:V4}{tb:TMS}(hp:Wd (VT X.prog X.w) X.A X.env X.xe)(hc:X.calm=true)(hm:X.mg "enumerate"=z6)(he:ME X e te)(hG:DGs X es is)(hb:MSs X body tb)(b9:(is.length=2)\zA0)(hg:Gl X "enumerate"\zA0)
  (hn:((V0 es X.env).length=2)\zA0) (m4:((V0 es X.env).findIdx? (·.1)=none)\zA0)
  (hs:(∀y,zFS X (.Call (.Name "enumerate" p1) [e] [] p2) y)\zA3) (v_:zSE X e []\zA0) (i8:(VZ [e] X.env=[(false,V3 e X.env)])\zA0):
  MSt X (.For (.Tuple es x1 tp) (.Call (.Name "enumerate" p1) [e] [] p2) body [] pos) (uj is (BL te) tb):=by
 let#[ug,OP,kk]:=hG;refine#[(cO hp hc (ui hg hm (bv he.out pa_nil v_) i8) (gK hc OP hn m4) hb.out hs).anti λE s H q=>?_];let#[F0,F,z,M,kp,rs,ED,h,e]:=q;refine#[F,z,M,kp.kf,rs,_,h,λd v M1 F1 H1 g1 hd rd m1=>?_];split at hd
 .rename_i x;let#[ha,hd]:=hd;have hl:=fz x;refine#[x,by rw[rep_str.mp rd],ha,uk (It':=Ites x) rfl (kp.growM rs.mb g1) (rs.growM kp.bh g1 m1) e b9 (λk F' H' s1 s2 hk=>?_) (λF' H' s1 s2=>?_) (λk F' H' x H'' s1 s2 hk hy=>?_) (λdd n_ T z s F H Q hl hT rp K_ hQ=>?_) (λ_ _ _ h=>h) hd]
  .rw[hl]at hk;exact hk
  .exact hl
  .let#[T,c,hT,e1,e2,hc]:=hy;exact#[T,.str #[[c].toArray],.str #[[c].toArray],hT,e1,e2,signs_get hc,rep_str.mpr rfl]
  .exact#[T,n_,rfl,SqT.of hT,by rw[rp.length];exact hl,kk dd n_ z s J.B F H Q (by rw[hl,b9]) rp K_ hQ]
 .exact hd.elim
end
end My
namespace L2
section
variable {prog:VU}{w:VX}{K:Type}[DecidableEq K]{m5:HeapKind prog w K}{A:VY}{E:Os->SB->Prop}{s:SB}{d a:Pi}{k:K}{xs:List (K×Pi×Os)}
def BO{v:Os}{Q:Os->SB->Prop}(hu:m5.room A)(q_:m5.is s.heap k a)(hm:s.heap.DictOfH m5 d xs)
  (h1:∀p,W5 xs k=be p->Q p.2 {s with toks:=s.toks+m5.draws k})
  (h2:W5 xs k=z6->∀h',h'.DictOfH m5 d (xs++[(k,a,v)])->Heap.SameBut d s.heap h'->Q v {s with heap:=h',toks:=s.toks+m5.draws k})
  (k8:xs.length<=sizeLine):VW (VT prog w) A (W_ d (.ref a) v) Q E s:=by
 let#[o,es,ep,ho,hc,hd,he,SW,hn]:=hm;unfold W_
 try with_reducible refine Wg ?_
 refine P3 (m5.pyHash hu q_ ?_);refine P3 (wpAny_dictFind_heap (s:={s with toks:=s.toks+m5.draws k}) hu q_ ho hd he SW hn ?_ ?_)
 .intro NO;have QR:k∉xs.map (·.1):=not_mem_keys_of_get NO;refine P3 (XB (P3 (wpAny_updateDictKeys (hz:=by have e:=size_of_entries he;lia) (s:={s with toks:=s.toks+m5.draws k}) ho hd (SZ (h2 (atKey_none_of_get NO) _ ⟨_,_,ep+1,Heap.get?_update_self _ ho (Obj.isFreed_of_dict (Obj.data_mapDictKeys hd _)),
   hc.mapDictKeys _,Obj.data_mapDictKeys hd _,?_,?_,?_⟩ (Heap.SameBut.update ..))))))
  .simp[he,entryOfKey]
  .intro x hx;rcases IK.mp hx with hx|hx
   .exact m5.keeps (SW x hx) ho hd (Heap.SameBut.update ..)
   .simp only[Ih]at hx;subst hx;exact m5.keeps q_ ho hd (Heap.SameBut.update ..)
  .rw[II,JT];refine#[hn,Nq,?_];intro x hx y hy;simp only[IH,JN,Ih]at hy;subst hy;exact λe=>QR (e ▸ hx)
 .intro j p hj;refine P3 (wpAny_dictEntries (s:={s with toks:=s.toks+m5.draws k}) ho hd ?_);rw[entry_at he j,hj];exact P3 (XB (SZ (h1 p (atKey_of_get hn hj))))
def BP(m5:HeapKind prog w K)(d a:Pi)(hd:(d==Wj)=false)(v:Os):
  MeetsIn prog w (Builtin.«dict.setdefault» #[[.ref d,.ref a,v],[]]) (λA R s=>m5.room A.in1/\∃k xs,m5.is s.heap k a/\s.heap.DictOfH m5 d xs/\xs.length<=sizeLine/\
   (∀p,W5 xs k=be p->R (.ok (.ret p.2)) {s with toks:=s.toks+m5.draws k})/\
   (W5 xs k=z6->∀h',h'.DictOfH m5 d (xs++[(k,a,v)])->Heap.SameBut d s.heap h'->R (.ok (.ret v)) {s with heap:=h',toks:=s.toks+m5.draws k})):=
 .of_wp λA R s hh=>by
  let#[hu,k,xs,q_,hm,hz,h1,h2]:=hh;unfold Builtin.«dict.setdefault»;refine P3 ?_;unfold Builtin.Dict.keyAndDefault;refine P3 (wpAny_notOrdered_dict hm.typeIs ?_);show VW _ _ (pure (d,Value.ref a,be v)) _ _ s;refine SZ ?_;show VW _ _ (if(d==Wj)=true then _ else(W_ d (.ref a) v>>=_)) _ _ s;rw[if_neg (by rw[hd];exact IA)];exact P3 (BO hu q_ hm (λp hp=>SZ #[p.2,rfl,h1 p hp]) (λhn h' No MZ=>SZ #[v,rfl,h2 hn h' No MZ]) hz)
end
end L2
namespace My
open Exc
def lookD:List ((Int×Int)×Int)->Int->Int->Option Int
 |[],_,_=>z6
 |((a,b),h)::r,x,y=>if a=x/\b=y then be h else lookD r x y
def kU(x y:Int):∀a_:List ((Int×Int)×Int),valV (dtiV a_) [.inl x,.inl y]=(lookD a_ x y).map V.int
 |[]=>rfl
 |((a,b),h)::r=>by
  show valV (([.inl a,.inl b],V.int h)::dtiV r) _=_;unfold lookD;by_cases e:a=x/\b=y
  .rw[if_pos e,jM (by rw[e.1,e.2])];rfl
  .rw[if_neg e,jN (λz=>e (by
    have z':([Sum.inl a,Sum.inl b]:List Key)=[.inl x,.inl y]:=z;injection z' with z1 z2;injection z2 with z2 _;exact#[Sum.inl.inj z1,Sum.inl.inj z2])),kU x y r]
def sdD(a_:List ((Int×Int)×Int))(x y v:Int):List ((Int×Int)×Int):=if(lookD a_ x y).isSome then a_ else a_++[((x,y),v)]
def BQ:V->List V->Hp->VK->Prop:=λx vs H Q=>∃a b i j d a_,x=.ref a/\vs=[.ref b,.int d]/\H a=be (.dT (dtiV a_))/\H b=be (.tup [.int i,.int j])/\Q (.int ((lookD a_ i j).getD d)) H
def BR{X:Cx}(hu:X.A.units+1<WN):MtR X "dict.get" BQ:=by
 intro pins s σ H x vs v us Q I rx rv h;let#[a,b,i,j,d,a_,rfl,rfl,ha,hb,q]:=h;let#[u,u',rfl,ru,rd]:=vals2 rv;cases(show v=Value.ref a from rx);refine zI hu I (DGet.t (k:=[.inl i,.inl j]) ha hb) ru rd λw' s' I' j5=>#[.int ((lookD a_ i j).getD d),H,I',?_,q];rw[kU]at j5;cases e:lookD a_ i j with
 |none=>rw[e]at j5;exact j5
 |some z=>rw[e]at j5;exact j5
def rSdT:V->List V->Hp->VK->Prop:=λx vs H Q=>∃a b i j d a_,x=.ref a/\vs=[.ref b,.int d]/\H a=be (.dT (dtiV a_))/\H b=be (.tup [.int i,.int j])/\a_.length<100000/\∀w,Q (.int w) (upd H a (.dT (dtiV (sdD a_ i j d))))
variable{H:Hp}{a:Pi}
def BS{o:HO}(h:H a=be o):upd H a o=H:=by
 funext b;by_cases e:b=a
 .subst e;rw[aC,h]
 .rw[ar e]
def BT{X:Cx}(hu:X.A.units+1<WN):MtR X "dict.setdefault" rSdT:=by
 intro pins s σ H x vs v us Q I rx rv h;let#[a,b,i,j,d,a_,rfl,rfl,ha,hb,hl,q]:=h;let#[u,u',rfl,ru,t,rfl]:=vals2 rv;cases(show v=Value.ref a from rx);cases(show u=Value.ref b from ru);let#[z,hd,xs,z7,dd]:=zE I.hok ha;have b9:xs.length=a_.length:=by rw[<-Paired.length z7];simp[dtiV]
 have big:(100000:Nat)<sizeLine:=Nk
 have g9:H b=be (.tup (([.inl i,.inl j]:List Key).map kV)):=hb;have m6:=z7.val [.inl i,.inl j];rw[kU]at m6;refine Xp PySem.F.slot_dict_setdefault dd.typeIs PySem.F.entry_dict_setdefault (PySem.F.args_dict_setdefault_3 _ _ _) (BP (WL (bS X.prog X.w)) a b hd (.int d t)) #[XH hu,[.inl i,.inl j],xs,key_of I.hok g9,dd,KK,λp hp=>?_,λhn h' OJ hs=>?_]
 .rw[hp]at m6;cases e:lookD a_ i j with
  |none=>rw[e]at m6;exact m6.elim
  |some w=>
   rw[e]at m6;have:=q w;unfold sdD at this;rw[e]at this;have e2:(if(be w:Option Int).isSome then a_ else a_++[((i,j),d)])=a_:=rfl;rw[e2,BS ha]at this;exact#[.int w,H,I.tok _,m6,this]
 .rw[hn]at m6;cases e:lookD a_ i j with
  |some w=>rw[e]at m6;exact m6.elim
  |none=>
   have e2:sdD a_ i j d=a_++[((i,j),d)]:=by unfold sdD;rw[e];rfl
   have e3:dtiV (sdD a_ i j d)=dtiV a_++[([.inl i,.inl j],.int d)]:=by rw[e2];simp[dtiV]
   let#[o,es,ep,ho,hx,h3,h4,_,h5]:=OJ;have new:ObjOk X.prog X.w (upd H a (.dT (dtiV (sdD a_ i j d)))) h' a (.dT (dtiV (sdD a_ i j d))):=by
    refine#[by rw[e3,Ix];simp[dtiV];lia,hd,_,?_,o,es,ep,ho,hx,h3,h4,h5];rw[e3];refine KT.keeps (H:=H) (Paired.snoc (a:=(([.inl i,.inl j]:List Key),V.int d)) (b:=(([.inl i,.inl j]:List Key),b,Value.int d t)) z7 #[rfl,g9,#[t,rfl]]) λc ys ec=>?_;rw[ar (xF ec ha (λz=>nomatch z))];exact ec
   exact#[.int d,_,zF I (by rw[ha];exact True.intro) hs #[o,ho] new,#[t,rfl],q d]
section
variable {X:Cx}[J:Jm]{a b c e o f:VV}{ta tb tc te to:TME}{pos b7 a8:V4}{t:TMA}
def mD0:TME:=λ_ M R=>R (.dti []) M
def BU:ME X (.Dict [] [] pos) mD0:=⟨pe_dnewT.anti λs H Q q=>by
 let#[F,z,M,k,rs,R,h1,h2]:=q;intro p hp;have gn:=Grow.new k.fh hp (.dT []);exact h2 _ _ M _ _ gn.toM h1 (rep_dti.mpr #[p,rfl,aC]) (rs.rm.grow gn)⟩
def mDN:TME:=λ_ M R=>∀p,p∉aw M->R (.ptr p) ((p,.dti [])::M)
def BV:ME X (.Dict [] [] pos) mDN:=⟨pe_dnewT.anti λs H Q q=>by
 let#[F,z,M,k,rs,R,h1,h2]:=q;intro p hp;exact h2 _ _ _ F _ (GrowM.new k.fh hp) (h1 p λz=>rs.rm.here z hp) (rep_ptr.mpr rfl) (rs.rm.new k.fh hp aC)⟩
def kdK(ds:List D)(k:Int->Int->Int->Prop):Prop:=kd2 ds λa b=>kdT a λl=>kd2 l λx y=>kdI x λi=>kdI y λj=>kdI b (k i j)
def kdK.of{ds:List D}{k:Int->Int->Int->Prop}(h:kdK ds k):∃i j x,ds=[.tup [.int i,.int j],.int x]/\k i j x:=by
 let#[a,b,rfl,h2]:=kd2.of h;let#[l,rfl,h3]:=kdT.of h2;let#[x,y,rfl,h4]:=kd2.of h3;let#[i,rfl,h5]:=kdI.of h4;let#[j,rfl,h6]:=kdI.of h5;let#[v,rfl,h7]:=kdI.of h6;exact#[i,j,v,rfl,h7]
def BW(to:TME)(t:TMA):TME:=λz M R=>to z M λd M1=>match d with|.dti a_=>(t z M1 λds M2=>kdK ds λi j x=>R (.int ((lookD a_ i j).getD x)) M2)|_=>False
def BX(hu:X.A.units+1<WN)(ho:ME X o to)(ha:MA X [e,f] t)(b_:(V1 o "get" X.env (V3 o X.env)=V3 o X.env)\zA0)
  (f6:zHF X a8 [e,f]\zA0)
  (c9:((b7.endLine==a8.line)=true)\zA0) (n4:zSE X e [f]\zA0) (c8:zPL X a8 [f]\zA0):
  ME X (.Call (.Attribute o "get" b7) [e,f] [] a8) (BW to t):=⟨(eO PySem.F.plainAttrs_dict PySem.F.slot_dict_get PySem.F.type_dict_get (BR hu) ho.out ha.out b_ f6 c9 n4 c8).anti λs H Q h=>by
 let#[F,z,M,k,rs,R,h1,h2]:=h;refine#[F,z,M,k,rs,_,h1,λx u M1 F1 H1 g1 hx rx m1=>?_];split at hx
 .rename_i a_;let#[p,rfl,hp]:=rep_dti.mp rx;refine#[.inr (.inr (.inl #[rfl,.inr #[_,g1.fh _ _ hp]])),?_];refine#[F1,z,M1,k.growM rs.mb g1,rs.growM k.bh g1 m1,_,hx,λds vs M2 F2 H2 g2 hd rd m2=>?_];let#[i,j,x,rfl,hd]:=kdK.of hd
  focus
   let#[v1,r1,rfl,q1,q2]:=reps_cons.mp rd;let#[v2,r2,rfl,q3,q4]:=reps_cons.mp q2;rw[reps_nil.mp q4,rep_int.mp q3];let#[b,us,rfl,hb,ru]:=rep_tupS.mp q1;have QS:us=[.int i,.int j]:=(Reps.ints (ns:=[i,j])).mp ru;subst QS;exact#[p,b,i,j,x,a_,rfl,rfl,g2.fh _ _ (g2.ff _ _ hp),g2.fh _ _ hb,h2 _ _ M2 F2 H2 (g1.trans g2) hd (rep_int.mpr rfl) m2]
 .exact hx.elim⟩
def mDsd(to:TME)(t:TMA):TME:=λz M R=>to z M λd M1=>match d with|.ptr a=>(∃a_,mget M1 a=be (.dti a_))/\(t z M1 λds M2=>kdK ds λi j x=>∃a_,mget M2 a=be (.dti a_)/\a_.length<100000/\∀w,R (.int w) (mput M2 a (.dti (sdD a_ i j x))))|_=>False
def BY(hu:X.A.units+1<WN)(ho:ME X o to)(ha:MA X [e,f] t)(b_:(V1 o "setdefault" X.env (V3 o X.env)=V3 o X.env)\zA0)
  (f6:zHF X a8 [e,f]\zA0)
  (c9:((b7.endLine==a8.line)=true)\zA0) (n4:zSE X e [f]\zA0) (c8:zPL X a8 [f]\zA0):
  ME X (.Call (.Attribute o "setdefault" b7) [e,f] [] a8) (mDsd to t):=⟨(eO PySem.F.plainAttrs_dict PySem.F.slot_dict_setdefault PySem.F.type_dict_setdefault (BT hu) ho.out ha.out b_ f6 c9 n4 c8).anti λs H Q h=>by
 let#[F,z,M,k,rs,R,h1,h2]:=h;refine#[F,z,M,k,rs,_,h1,λx u M1 F1 H1 g1 hx rx m1=>?_];split at hx
 .rename_i a;let#[#[Vt,QL],hx]:=hx;rw[rep_ptr.mp rx];refine#[.inr (.inr (.inl #[rfl,.inr #[_,m1.ok _ _ (bt QL)]])),?_];refine#[F1,z,M1,k.growM rs.mb g1,rs.growM k.bh g1 m1,_,hx,λds vs M2 F2 H2 g2 hd rd m2=>?_];let#[i,j,x,rfl,a_,hm,hl,hR]:=kdK.of hd
  focus
   let#[v1,r1,rfl,q1,q2]:=reps_cons.mp rd;let#[v2,r2,rfl,q3,q4]:=reps_cons.mp q2;rw[reps_nil.mp q4,rep_int.mp q3];let#[b,us,rfl,hb,ru]:=rep_tupS.mp q1;have QS:us=[.int i,.int j]:=(Reps.ints (ns:=[i,j])).mp ru;subst QS;refine#[a,b,i,j,x,a_,rfl,rfl,m2.ok _ _ (bt hm),g2.fh _ _ hb,hl,λw=>?_];exact h2 _ _ _ F2 _ (g1.trans (g2.trans (GrowM.put g2.fh (m2.fr a (bX (bt hm))) hm))) (hR w) (rep_int.mpr rfl) (m2.put hm aC)
 .exact hx.elim⟩
end
section
variable {P:VU}{w:VX}{K:Ex}{mg:Mr->Option Os}{base:Heap}
open Classical in
def Cls.okIM{x qual:Mr}{st:VS}{f C:Pi}{fd:V2}{N:List Mr}{p0:Mr}{ps:List Mr}{k:Nat}{S:SiD}(T:Fun K "__init__" qual st f fd)(hb:Binds K fd (p0::ps) [])(F:FnScope N (p0::ps) (ah st))(len:∀ds R,S ds R->ds.length=ps.length)
  (hns:nsIn K SL x=be (be (.ref C))) (l6:mg x=be (.ref C)) (mk:Mk K C f)
  (a9:∀(cdv:Os) (A:VY) (outer:List WD) (s:SB) (H:Hp) (E:XK) (J:Jm),Room k (A.deeper (V7 qual (ah st) s.heap.objs.size f cdv))->XOkM (cxOf (CX1 P w) P w K mg base N qual (ah st) f cdv A outer s H E).nox->
   ∃t,MSs (cxOf (CX1 P w) P w K mg base N qual (ah st) f cdv A outer s H E).nox (aL st) t/\∀a ds R,(∀z M x fs,¬J.RM z M x fs)->S ds R->t {nx:=λ_ M'=>∃fs,M'=[(a,.ins x fs)]/\R fs,rt:=λ_ _=>False} (startD N (.ptr a::ds)) [(a,.ins x [])]):CalM P w K mg base (k+1) x (p0::ps) S:=by
 refine#[C,f,fd,hns,l6,mk,Fun.okC T F (λvs H Q E h=>?_) (λcdv A outer s H vs Q E hr h=>?_),hb]
 .let#[a,dx,us,H1,F,ds,rfl,_,_,_,_,_,rs,R,h,_]:=h;rw[Iu,Iu,rs.length,len ds R h]
 .let#[a,dx,us,H1,F1,ds,rfl,rfl,ha,t6,k_,fh,rs,R,h,q]:=h
  let H:Hp:=upd (upd H1 dx (.own a)) a (.ins C dx [])
  let B:Hp:=λb=>if b=a then z6 else H b
  have OQ:B a=none:=if_pos rfl;have hB:∀{b:Pi},b≠a->B b=H b:=λ{b} h=>if_neg h;have n9:∀{b:Pi} {o:HO},H1 b=be o->b≠a/\H b=be o:=λ{b o} e=>by
   have n1:b≠a:=bM e ha;exact#[n1,by show upd _ _ _ b=_;rw[ar n1,ar (bM e t6)];exact e]
  letI:Jm:={B:=B,F0:=F1,RX:=λ_ _ _=>False,RM:=λ_ _ _ _=>False}
  have hx:XOkM (cxOf (CX1 P w) P w K mg base N qual (ah st) f cdv A outer s H E).nox:=λσ z M' F' H' s' e C od y fs I kk rr hR er _=>hR.elim;let#[t,ht,hq]:=a9 cdv A outer s H E inferInstance hr hx;have Fa:F1 a=none:=fh.free ha;have k0:Kept B F1 F1 H:=⟨λb o e=>by
   by_cases n:b=a
   .rw[n,OQ]at e;cases e
   .rw[hB n]at e;exact e,λb o e=>(n9 (fh b o e)).2,Same.refl F1,λ_ h _=>h,rfl,Same.refl F1,λ_ h _=>h⟩
  have K_:Reps K F1 (.ptr a::ds) (.ref a::us):=reps_cons.mpr #[_,_,rfl,rep_ptr.mpr rfl,rs];have QT:RepM K F1 H [(a,.ins x [])]:=⟨by simp[aw],λb o hb=>by
   have e:=Ih.mp hb;cases e;exact#[C,dx,[],hns,aC,repf_nil.mpr rfl],λb hb=>by
   have e:b=a:=by simpa[aw]using hb
   rw[e];exact Fa⟩
  have r0:RepZ K B F1 H (startD N (.ptr a::ds)) (L2.start N (.ref a::us)) [(a,.ins x [])]:=⟨dQ K_,kS K_,QT,λb hb=>by
   have e:b=a:=by simpa[aw]using hb
   rw[e];exact OQ⟩
  refine#[_,ht.out.nox,F1,F1,_,_,k0,r0,_,hq a ds R (λ_ _ _ _ z=>z) h,#[λz' s' M' F' H' kk hn r=>?_,λd v M' F' H' kk hd rd QN mb=>hd.elim,λ_ _ _ _ _ _ h _=>h.elim,λ_ _ _ _ _ _ h _=>h.elim]];let#[fs,rfl,hR]:=hn;let#[C',MC,ws,i9,f_,rf]:=r.rm.ok a _ (Ih.mpr rfl);have Mg:nsIn K SL x=be (be (.ref C')):=i9;rw[hns]at Mg;cases Mg;exact q fs ws MC F' H' ⟨kk.f0,kk.fh,λb o e=>kk.bh b o (by show B b=be o;rw[hB (n9 e).1];exact(n9 e).2),λb h1 h2=>kk.out b h1 (by
   show B b≠z6;cases e:H1 b with
   |none=>exact absurd e h2
   |some o=>rw[hB (n9 e).1,(n9 e).2];exact λz=>nomatch z)⟩ hR f_ (r.rm.fr a (by simp[aw])) rf
end
section
variable {P:VU}{w:VX}{K:Ex}{mg:Mr->Option Os}{base:Heap}{n:Nat}{x m:Mr}{ps:List Mr}
variable{S:SpM}
def CalMth.one(h:CalMth P w K mg base n x m ps (lSpM K S)):∀y,y∈[x]->CalMth P w K mg base n y m ps (lSpM K ((λ_=>S) y)):=λy hy=>by
 rw[Ih.mp hy];exact h
def ul{f:Pi}{fd:V2}{sp:Sp}(h:∀vs H Q E,¬sp vs H Q E):FnOk P w K mg base (CX1 P w) n f fd ps sp:=#[λvs H Q E q=>(h _ _ _ _ q).elim,λA outer s H args us vs Q E _ _ _ _ q=>(h _ _ _ _ q).elim]
def um(h:∀ds M R RX,¬S ds M R RX):∀vs H Q E,¬lSpM K S vs H Q E:=by
 rintro vs H Q E⟨F,ds,M,_,_,_,R,RX,q,_⟩;exact h ds M R RX q
def CalMth.never{qual:Mr}{st:VS}(T:Txm K x m qual st ps)(h:∀ds M R RX,¬S ds M R RX):CalMth P w K mg base n x m ps (lSpM K S):=by
 let#[C,f,fd,h1,h2,h3,T,hb]:=T;exact#[C,f,fd,h1,h2,h3,ul (um h),hb]
def CalMM.never{st:VS}(T:Tx K mg x st ps)(h:∀ds M R RX,¬S ds M R RX):CalMM P w K mg base n x ps S:=by
 let#[f,fd,T,hb,hm]:=T;exact#[f,fd,ul (um h),hb,T.kp,hm]
end
section
variable {X:Cx}[J:Jm]{a b c e:VV}{ta tb:TME}{pos:V4}
def mUn(r:D->(D->Prop)->Prop)(ta:TME):TME:=λz M R=>ta z M λx M1=>r x λd=>R d M1
end
def kW(S:SpM):SpM:=λds M R RX=>∃M1 M2,M=M1++M2/\S ds M2 (λd M'=>R d (M1++M')) λx fs M'=>RX x fs (M1++M')
def keys_app{M1 M2:MS}:a∈aw (M1++M2)↔a∈aw M1\/a∈aw M2:=by unfold aw;rw[II,IK]
variable{K:Ex}{vs:List V}
def uo{S:SpM}{Q:VK}{E:XK}(h:lSpM K (kW S) vs H Q E):lSpM K S vs H Q E:=by
 let#[F,ds,M,fh,rs,rm,R,RX,#[M1,M2,rfl,hS],q,qx]:=h;have nd:(aw M1++aw M2).Nodup:=by have:=rm.nd;unfold aw at this ⊢;rw[II]at this;exact this
 have QU:∀{a:Pi},a∈aw M1->a∉aw M2:=λ{a} h1 h2=>(JT.mp nd).2.2 a h1 a h2 rfl;have Ux:RepM K F H M2:=#[(JT.mp nd).2.1,λa o h=>rm.ok a o (IE _ h),λa h=>rm.fr a (keys_app.mpr (.inr h))];have up:∀{M':MS} {F' H':Hp},GrowM M2 M' F H F' H'->RepM K F' H' M'->GrowM (M1++M2) (M1++M') F H F' H'/\RepM K F' H' (M1++M'):=λ{M' F' H'} g r=>by
  have SX:∀{a:Pi},a∈aw M1->H a≠none:=λ{a} h=>rm.here (keys_app.mpr (.inl h));have QV:∀{a:Pi},a∈aw M1->a∉aw M':=λ{a} h1 h2=>by
   rcases g.ks a h2 with z|z
   .exact QU h1 z
   .exact SX h1 z
  refine#[#[g.ff,g.fh,λb o nb e=>g.hh b o (λz=>nb (keys_app.mpr (.inr z))) e,λb nb h1 h2=>g.out b (λz=>nb (keys_app.mpr (.inr z))) h1 h2,λb hb=>?_],#[?_,λa o h=>?_,λa h=>?_]]
  .rcases keys_app.mp hb with z|z
   .exact .inl (keys_app.mpr (.inl z))
   .exact(g.ks b z).imp (λz=>keys_app.mpr (.inr z)) id
  .unfold aw;rw[II];exact JT.mpr #[(JT.mp nd).1,r.nd,λa h1 b h2 e=>QV h1 (e ▸ h2)]
  .rcases IK.mp h with z|z
   .have ka:a∈aw M1:=bX z;exact(rm.ok a o (Jk _ z)).mono g.ff λo e=>g.hh a o (QU ka) e
   .exact r.ok a o z
  .rcases keys_app.mp h with z|z
   .exact g.out a (QU z) (rm.fr a (keys_app.mpr (.inl z))) (SX z)
   .exact r.fr a z
 exact#[F,ds,M2,fh,rs,Ux,_,_,hS,λd v M' F' H' g hd rd m'=>q d v _ F' H' (up g m').1 hd rd (up g m').2,λx fs C od M' F' H' g hR er m'=>qx x fs C od _ F' H' (up g m').1 hR er (up g m').2]
section
variable {P:VU}{w:VX}{K:Ex}{mg:Mr->Option Os}{base:Heap}{n:Nat}{x m:Mr}{ps:List Mr}{S:SpM}
def CalMM.frame(C:CalMM P w K mg base n x ps S):CalMM P w K mg base n x ps (kW S):=C.imp λ_ _ _ _ h=>uo h
def CalMth.frame(C:CalMth P w K mg base n x m ps (lSpM K S)):CalMth P w K mg base n x m ps (lSpM K (kW S)):=C.imp λ_ _ _ _ h=>uo h
end
def nilX(S:SpX):SpM:=λds M R RX=>M=[]/\∃(R0:D->Prop) (w_:XD),S ds R0 w_/\(∀d M',R0 d->R d M')/\∀x fs M',w_ x fs->RX x fs M'
def CalMM.nilX{P:VU}{w:VX}{mg:Mr->Option Os}{base:Heap}{n:Nat}{x:Mr}{ps:List Mr}{S:SpX}(C:CalMM P w K mg base n x ps (nilX S)):CalX P w K mg base n x ps S:=C.toX λ_ R RX h=>#[rfl,R,RX,h,λ_ _ h=>h,λ_ _ _ h=>h]
mutual
def cw:D->Bool
 |.non=>true|.bl _=>true|.int _=>true|.str _=>true|.ptr _=>true
 |.tup ds=>flats ds
 |.lst ds=>flats ds
 |_=>false
def flats:List D->Bool
 |[]=>true
 |d::ds=>cw d&&flats ds
end
def cutF(F:Hp)(a:Pi):Hp:=λb=>if b=a then z6 else F b
variable{F:Hp}
def gj{b:Pi}(h:b≠a):cutF F a b=F b:=if_neg h
mutual
def Rep.cutF{K:Ex}{F:Hp}{a:Pi}{C:Pi}{dx:Pi}{ws:List (Mr×V)}(ea:F a=be (.ins C dx ws)):∀(d:D) (v:V),cw d=true->Rep K F d v->Rep K (My.cutF F a) d v
 |.non,v,_,h=>by unfold Rep at h ⊢;exact h
 |.bl b,v,_,h=>by unfold Rep at h ⊢;exact h
 |.int b,v,_,h=>by unfold Rep at h ⊢;exact h
 |.str b,v,_,h=>by unfold Rep at h ⊢;exact h
 |.ptr b,v,_,h=>by unfold Rep at h ⊢;exact h
 |.tup ds,v,n,h=>by
  unfold Rep at h ⊢;let#[p,vs,e,q,r]:=h;have ne:p≠a:=λz=>by rw[z,ea]at q;cases q
  exact#[p,vs,e,by rw[gj ne];exact q,Reps.cutF ea ds vs (by unfold cw at n;exact n) r]
 |.lst ds,v,n,h=>by
  unfold Rep at h ⊢;let#[p,vs,e,q,r]:=h;have ne:p≠a:=λz=>by rw[z,ea]at q;cases q
  exact#[p,vs,e,by rw[gj ne];exact q,Reps.cutF ea ds vs (by unfold cw at n;exact n) r]
 |.rol _,_,n,_=>by unfold cw at n;cases n
 |.obj _ _,_,n,_=>by unfold cw at n;cases n
 |.exc _ _,_,n,_=>by unfold cw at n;cases n
 |.own _,_,n,_=>by unfold cw at n;cases n
 |.dti _,_,n,_=>by unfold cw at n;cases n
def Reps.cutF{K:Ex}{F:Hp}{a:Pi}{C:Pi}{dx:Pi}{ws:List (Mr×V)}(ea:F a=be (.ins C dx ws)):∀(ds:List D) (vs:List V),flats ds=true->Reps K F ds vs->Reps K (My.cutF F a) ds vs
 |[],vs,_,h=>by unfold Reps at h ⊢;exact h
 |d::ds,vs,n,h=>by
  unfold flats at n;rw[IS]at n;unfold Reps at h ⊢;let#[v,r,e,q1,q2]:=h;exact#[v,r,e,Rep.cutF ea d v n.1 q1,Reps.cutF ea ds r n.2 q2]
end
def lendD(a:Pi)(o:D)(d:D):D:=match d with|.ptr b=>if b=a then o else .ptr b|d=>d
def lend(S:SpX):SpM:=λds M R _=>∃a x fs,mget M a=be (.ins x fs)/\S (ds.map (lendD a (.obj x fs))) (λd=>cw d=true/\R d M) λ_ _=>False
def BZ{F2:Hp}{o d:D}{v:V}(g:Same F F2)(ro:Rep K F2 o (.ref a))(h:Rep K F d v):Rep K F2 (lendD a o d) v:=by
 unfold lendD;split
 .rename_i b;split
  .rename_i e;rw[rep_ptr.mp h,e];exact ro
  .exact rep_ptr.mpr (rep_ptr.mp h)
 .exact h.mono g
def B0{F2:Hp}{o:D}(g:Same F F2)(ro:Rep K F2 o (.ref a)){ds:List D}:∀{vs:List V},Reps K F ds vs->Reps K F2 (ds.map (lendD a o)) vs:=by
 induction ds with
 |nil=>intro vs h;rw[reps_nil.mp h];exact reps_nil.mpr rfl
 |cons d ds ih=>
  intro vs h;let#[v,r,rfl,q1,q2]:=reps_cons.mp h;exact reps_cons.mpr #[v,r,rfl,BZ g ro q1,ih q2]
def B1{S:SpX}{Q:VK}{E:XK}(h:lSpM K (lend S) vs H Q E):lSpX K S vs H Q E:=by
 let#[F,ds,M,fh,rs,rm,R,RX,#[a,x,fs,hm,hS],q,qx]:=h;have ma:=bt hm;let#[C,dx,ws,n,hH,rf]:=rm.ok _ _ ma;have fa:=rm.fr a (bX ma);have g:Same F (upd F a (.ins C dx ws)):=aN fa _;have g2:Same (upd F a (.ins C dx ws)) H:=λb o e=>by
  by_cases hb:b=a
  .subst hb;rw[aC]at e;cases e;exact hH
  .rw[ar hb]at e;exact fh b o e
 have ro:Rep K (upd F a (.ins C dx ws)) (.obj x fs) (.ref a):=by
  unfold Rep;exact#[a,C,dx,ws,rfl,n,aC,RepF.mono g fs ws rf]
 refine#[upd F a (.ins C dx ws),_,g2,B0 g ro rs,_,_,hS,λd v F' H' g' hd rd=>?_,λ_ _ _ _ _ _ _ z=>z.elim];have ea:F' a=be (.ins C dx ws):=g'.ff a _ aC;have ff:Same F (cutF F' a):=λb o e=>by
  have ne:b≠a:=λz=>by rw[z,fa]at e;cases e
  rw[gj ne];exact g'.ff b o (by rw[ar ne];exact e)
 have Uy:Same (cutF F' a) H':=λb o e=>by
  by_cases hb:b=a
  .subst hb;unfold cutF at e;rw[if_pos rfl]at e;cases e
  .rw[gj hb]at e;exact g'.fh b o e
 have out:∀b,F b=z6->H b≠z6->cutF F' a b=none:=λb h1 h2=>by
  by_cases hb:b=a
  .subst hb;exact if_pos rfl
  .rw[gj hb];exact g'.out b (by rw[ar hb];exact h1) h2
 exact q d v M (cutF F' a) H' #[ff,Uy,λb o _ e=>g'.hh b o e,λb _ h1 h2=>out b h1 h2,λb z=>.inl z] hd.2 (Rep.cutF ea d v hd.1 rd)
  #[rm.nd,λb o hb=>(rm.ok b o hb).mono ff λo e=>g'.hh b o e,λb hb=>out b (rm.fr b hb) (rm.here hb)]
def NoOwn(z:SD):Prop:=∀(i:Nat) ds,z[i]?≠be (be (.own ds))
def ofB(B H:Hp)(M:MS):Hp:=λb=>if b∈aw M then H b else B b
def jOf(B H F:Hp)(M:MS):Jx:=#[ofB B H M,F,λ_ _ _=>False]
def endD(E:EndsM)(M:MS):EndsD:=#[λz=>E.nx z M/\NoOwn z,λd=>E.rt d M,λz=>E.bk z M/\NoOwn z,λz=>E.ct z M/\NoOwn z]
def mPS(t:TSD):TMS:=λE z M=>t (endD E M) z
section
variable {X:Cx}[J:Jm]
variable{B H:Hp}{M:MS}
def kX{b:Pi}(h:b∈aw M):ofB B H M b=H b:=if_pos h
def kY{b:Pi}(h:b∉aw M):ofB B H M b=B b:=if_neg h
variable{K:Ex}{F0 F:Hp}{z:SD}{s:L2.St}
def dG{F' H':Hp}(k:Kept J.B F0 F H)(rz:RepZ K J.B F H z s M)(k':@Kept (jOf J.B H F M) (ofB J.B H M) F F' H'):Kept J.B F0 F' H'/\RepM K F' H' M:=by
 have nk:∀b,J.B b≠z6->b∉aw M:=λb e z=>e (rz.mb b z);let#[bh,fh,f0,out,_,_,_]:=k';refine#[#[λb o e=>?_,fh,k.f0.trans f0,λb h1 h2=>?_,k.eb,k.jf,k.jo],rz.rm.nd,λb o hb=>(rz.rm.ok b o hb).mono f0 λo e=>?_,λb hb=>?_]
 .exact bh b o (by rw[kY (nk b (by rw[e];exact λz=>nomatch z))];exact e)
 .exact out b (k.out b h1 h2) (by rw[kY (nk b h2)];exact h2)
 .exact bh b o (by rw[kX (bX hb)];exact e)
 .exact out b (rz.rm.fr b hb) (by rw[kX hb];exact rz.rm.here hb)
def gk{B':Hp}(r:RepS K B F H z s)(no:NoOwn z):RepS K B' F H z s:=#[r.len,r.val,λi ds e=>absurd e (no i ds),r.apart]
def uq(k:Kept J.B F0 F H):@Kept (jOf J.B H F M) (ofB J.B H M) F F H:=
 @Kept.mk (jOf J.B H F M) _ _ _ _ (λb o e=>by
  by_cases hb:b∈aw M
  .rw[kX hb]at e;exact e
  .rw[kY hb]at e;exact k.bh b o e) k.fh (Same.refl F) (λ_ h _=>h) rfl (Same.refl F) (λ_ h _=>h)
def ut{ED:EndsM}{D:Ends}(k:Kept J.B F0 F H)(rz:RepZ K J.B F H z s M)(e:EndsOkM K F0 ED D):@EndsOk (jOf J.B H F M) K (ofB J.B H M) F (endD ED M) D:=
 @EndsOk.mk (jOf J.B H F M) _ _ _ _ _ (λz' s' F' H' k' hz r'=>e.nx z' s' M F' H' (dG k rz k').1 hz.1 #[gk r' hz.2,hz.2,(dG k rz k').2,rz.mb])
  (λd v F' H' k' hd rd=>e.rt d v M F' H' (dG k rz k').1 hd rd (dG k rz k').2 rz.mb)
  (λz' s' F' H' k' hz r'=>e.bk z' s' M F' H' (dG k rz k').1 hz.1 #[gk r' hz.2,hz.2,(dG k rz k').2,rz.mb])
  (λz' s' F' H' k' hz r'=>e.ct z' s' M F' H' (dG k rz k').1 hz.1 #[gk r' hz.2,hz.2,(dG k rz k').2,rz.mb])
def uu{st:VS}{t:TSD}(h:∀J':Jx,@WDS X J' st t):MSt X st (mPS t):=⟨λpins s σ H D I q=>by
 let#[F0,F,z,M,k,rz,ED,ht,e]:=q;exact @WDS.out X (jOf J.B H F M) st t (h _) pins s σ H D I #[ofB J.B H M,F,F,z,uq k,gk rz.rs rz.no,_,ht,ut k rz e]⟩
def mTry(tb:Jm->TMS)(th:TH):TMS:=λE z M=>∃RM:SD->MS->XD,(∀J':Jm,J'.RM=RM->tb J' E z M)/\∀z' M' x fs,RM z' M' x fs->th x fs (endD E M') z'
def jTry(B F0:Hp)(RM:SD->MS->XD):Jm:={B:=B,F0:=F0,RX:=λ_ _ _=>False,RM:=RM}
variable{RM:SD->MS->XD}
def Kept.reM(k:Kept J.B F0 F H):@Kept (jTry J.B F0 RM).toJx J.B F0 F H:=@Kept.mk (jTry J.B F0 RM).toJx J.B F0 F H k.bh k.fh k.f0 k.out rfl (Same.refl F0) (λ_ h _=>h)
def Kept.unM{F' H':Hp}(k:Kept J.B F0 F H)(k':@Kept (jTry J.B F0 RM).toJx J.B F0 F' H'):Kept J.B F0 F' H':=by
 let#[a,b,c,d,_,_,_]:=k';exact#[a,b,c,d,k.eb,k.jf,k.jo]
def iy{body:List VS}{h₀:Wp}{hs:List Wp}{pos:V4}{tb:Jm->TMS}{th:TH}
  (hb:∀(pn:List (Pi×Wa)) (xe:Os->SB->Prop) (J':Jm),Wd (VT X.prog X.w) X.A X.env xe->@XOkM (X.tried pn xe) J'->@MSs (X.tried pn xe) J' body (tb J'))
  (hh:∀J':Jx,@WDH X J' (h₀::hs) th) (f7:(X.ex=[])\zA0) (J_:(X.stack=X.env::X.outer)\zA0) (m_:(X.env.frame=be X.env.locals)\zA0):MSt X (.Try body (h₀::hs) [] [] pos) (mTry tb th):=⟨by
 intro pins s σ H D I h;let#[F0,F,z,M,k,rz,ED,#[RM,h1,h2],ee]:=h;have ok:=I.ok;have hx:@XOkM (X.tried (X.pn++pins) (λe s₁=>VW (VT X.prog X.w) X.A (WM e X.env) (λ_ s₂=>VW (VT X.prog X.w) X.A (W2 e z6) (λ_ s₃=>VW (VT X.prog X.w) X.A (W' e X.env (h₀::hs)) (SP X pins D) X.xe s₃) X.xe s₂) X.xe s₁)) (jTry J.B F0 RM):=by
  intro σ' z' M' F' H' s' e C od x fs I1 kk rr hR er hd;have k2:Kept J.B F0 F' H':=Kept.unM k kk;exact AW (Inv.untried ok I1) hd f7 J_ m_ λs4 T2 I4 hl=>@WDH.out X (jOf J.B H' F' M') _ _ (hh _) pins s4 σ' H' D e C od T2 x fs (ofB J.B H' M') F' F' z' (endD ED M') I4 hl (uq k2) (gk rr.rs rr.no) er (h2 z' M' x fs hR) (ut k2 rr ee)
 refine wpAny_Try_except (V9 (@MSs.out _ (jTry J.B F0 RM) _ _ (hb (X.pn++pins) _ (jTry J.B F0 RM) PassesOwn.looking hx) [] s σ H D (Inv.tried I) ?_) (λf s1 q=>?_) λe s1 q=>q)
 .exact#[F0,F,z,M,Kept.reM k,rz,ED,h1 (jTry J.B F0 RM) rfl,@EndsOkM.mk (jTry J.B F0 RM) _ _ _ _ (λz' s' M' F' H' k'=>ee.nx z' s' M' F' H' (Kept.unM k k')) (λd v M' F' H' k'=>ee.rt d v M' F' H' (Kept.unM k k')) (λz' s' M' F' H' k'=>ee.bk z' s' M' F' H' (Kept.unM k k')) (λz' s' M' F' H' k'=>ee.ct z' s' M' F' H' (Kept.unM k k'))]
 .have q:=SP.untried ok q;cases f with
  |next=>exact WA q
  |ret v=>exact q
  |brk=>exact q
  |cont=>exact q⟩
end
end My
namespace My
section
variable {K:Ex}{h:Heap}{mg:Mr->Option Os}{x y m q f:Mr}{st:VS}{ps:List Mr}
abbrev NsC(K:Ex)(x:Mr)(C:Pi):Prop:=nsIn K SL x=be (be (.ref C))
variable{C:Pi}
def NsC.uniq{D:Pi}(a:NsC K x C)(b:NsC K x D):C=D:=by
 have e:=a.symm.trans b;cases e;rfl
abbrev BindA(x q:Mr)(st:VS)(ps:List Mr):Prop:=∀(kV doc pm:Os) (an:Option Pi) (cdv ct:Os) (us:List Os),us.length=ps.length->Wy (fnOf x q (bw st) (aL st) (ah st) .none kV doc pm an cdv ct) #[us,[]]=pure (ps.zip us)
def FnIn(K:Ex)(x:Mr)(st:VS):Prop:=∃f fd,NsC K x f/\Fun K x x st f fd
variable{oc kV dc pm cd ct:Os}{od an:Option Pi}{sl:Array (Option Os)}
def fnIn_mk{f:Pi}(a:nsIn K SL x=be (be (.ref f)))(l:K.lookup f=be #[oc,od,.func (fnOf x x (bw st) (aL st) (ah st) .none kV dc pm an cd ct),sl])(c:codeIn K cd x=true)(k:keepIn K (.ref f)=true):FnIn K x st:=#[f,_,a,gT l c k]
def FnIn.tx(T:FnIn K x st)(X:K.In h)(G:h.Ns SL mg)(b:BindA x x st ps\zA7):Tx K mg x st ps:=by
 let#[f,fd,a,F]:=T;exact#[f,fd,F,F.binds b,mg_of X G a]
def FnIn.law{p:Mr}(T:FnIn K x st)(X:K.In h)(G:h.Ns SL mg){fa:Pi}(Ny:mg x=be (.ref fa))(b:∀(kV doc pm:Os) (an:Option Pi) (cdv ct v:Os),Wy (fnOf x x (bw st) (aL st) (ah st) .none kV doc pm an cdv ct) #[[v],[]]=pure [(p,v)]):∃fd,(∀(s:SB) (v:Os),WO s fd #[[v],[]] [(p,v)])/\Fun K x x st fa fd:=by
 let#[f,fd,a,F]:=T;have e:=Ny.symm.trans (mg_of X G a);cases e;refine#[fd,λs v=>?_,F];let#[oc,od,kV,doc,pm,an,cdv,ct,osl,rfl,lk,g7]:=F.ex;exact .of_eq (b _ _ _ _ _ _ v)
variable{us:List Os}
def bq{x:Mr}{xs:List Mr}(h:us.length=(x::xs).length):∃u t,us=u::t/\t.length=xs.length:=by
 cases us with
 |nil=>cases h
 |cons u t=>exact#[u,t,rfl,Nat.succ.inj h]
def len_0(h:us.length=([]:List Mr).length):us=[]:=J3 h
variable{x0:Mr}
def B2(b:∀(kV doc pm:Os) (an:Option Pi) (cdv ct u0:Os),Wy (fnOf x q (bw st) (aL st) (ah st) .none kV doc pm an cdv ct) #[[u0],[]]=pure [(x0,u0)]):BindA x q st [x0]:=λkV doc pm an cdv ct us hl=>by
 let#[u0,t0,rfl,h0]:=bq hl;cases len_0 h0;exact b kV doc pm an cdv ct u0
variable{x1:Mr}
def bind2(b:∀(kV doc pm:Os) (an:Option Pi) (cdv ct u0 u1:Os),Wy (fnOf x q (bw st) (aL st) (ah st) .none kV doc pm an cdv ct) #[[u0,u1],[]]=pure [(x0,u0),(x1,u1)]):BindA x q st [x0,x1]:=λkV doc pm an cdv ct us hl=>by
 let#[u0,t0,rfl,h0]:=bq hl;let#[u1,t1,rfl,h1]:=bq h0;cases len_0 h1;exact b kV doc pm an cdv ct u0 u1
variable{x2:Mr}
def bind3(b:∀(kV doc pm:Os) (an:Option Pi) (cdv ct u0 u1 u2:Os),Wy (fnOf x q (bw st) (aL st) (ah st) .none kV doc pm an cdv ct) #[[u0,u1,u2],[]]=pure [(x0,u0),(x1,u1),(x2,u2)]):BindA x q st [x0,x1,x2]:=λkV doc pm an cdv ct us hl=>by
 let#[u0,t0,rfl,h0]:=bq hl;let#[u1,t1,rfl,h1]:=bq h0;let#[u2,t2,rfl,h2]:=bq h1;cases len_0 h2;exact b kV doc pm an cdv ct u0 u1 u2
variable{x3:Mr}
def bind4(b:∀(kV doc pm:Os) (an:Option Pi) (cdv ct u0 u1 u2 u3:Os),Wy (fnOf x q (bw st) (aL st) (ah st) .none kV doc pm an cdv ct) #[[u0,u1,u2,u3],[]]=pure [(x0,u0),(x1,u1),(x2,u2),(x3,u3)]):BindA x q st [x0,x1,x2,x3]:=λkV doc pm an cdv ct us hl=>by
 let#[u0,t0,rfl,h0]:=bq hl;let#[u1,t1,rfl,h1]:=bq h0;let#[u2,t2,rfl,h2]:=bq h1;let#[u3,t3,rfl,h3]:=bq h2;cases len_0 h3;exact b kV doc pm an cdv ct u0 u1 u2 u3
def bind5{x4:Mr}(b:∀(kV doc pm:Os) (an:Option Pi) (cdv ct u0 u1 u2 u3 u4:Os),Wy (fnOf x q (bw st) (aL st) (ah st) .none kV doc pm an cdv ct) #[[u0,u1,u2,u3,u4],[]]=pure [(x0,u0),(x1,u1),(x2,u2),(x3,u3),(x4,u4)]):BindA x q st [x0,x1,x2,x3,x4]:=λkV doc pm an cdv ct us hl=>by
 let#[u0,t0,rfl,h0]:=bq hl;let#[u1,t1,rfl,h1]:=bq h0;let#[u2,t2,rfl,h2]:=bq h1;let#[u3,t3,rfl,h3]:=bq h2;let#[u4,t4,rfl,h4]:=bq h3;cases len_0 h4;exact b kV doc pm an cdv ct u0 u1 u2 u3 u4
def bind6{x4 x5:Mr}(b:∀(kV doc pm:Os) (an:Option Pi) (cdv ct u0 u1 u2 u3 u4 u5:Os),Wy (fnOf x q (bw st) (aL st) (ah st) .none kV doc pm an cdv ct) #[[u0,u1,u2,u3,u4,u5],[]]=pure [(x0,u0),(x1,u1),(x2,u2),(x3,u3),(x4,u4),(x5,u5)]):BindA x q st [x0,x1,x2,x3,x4,x5]:=λkV doc pm an cdv ct us hl=>by
 let#[u0,t0,rfl,h0]:=bq hl;let#[u1,t1,rfl,h1]:=bq h0;let#[u2,t2,rfl,h2]:=bq h1;let#[u3,t3,rfl,h3]:=bq h2;let#[u4,t4,rfl,h4]:=bq h3;let#[u5,t5,rfl,h5]:=bq h4;cases len_0 h5;exact b kV doc pm an cdv ct u0 u1 u2 u3 u4 u5
structure ClF(K:Ex)(x:Str)(C:Pi):Prop where
 ns:NsC K x C
 cl:Cls K C
 ha:Iq K (.ref C) "__class__"=be (be (.builtin "object.__class__"))
 hn:specialIn K (.builtin "object.__class__") "__get__"=be (be (.builtin "getset_descriptor.__get__"))
 ht:takesIn K (.builtin "object.__class__")=be true
 hm:Jn K C (.type "object")=be true
def ClIn(K:Ex)(x:Mr):Prop:=∃C,ClF K x C
def clIn_mk(a:nsIn K SL x=be (be (.ref C)))(pg:plainGet K C Str.empty=true)(hd:hasDictIn K C=true)(po:plainOver K C=true)(sa:Iq K (.ref C) "__setattr__"=be (be (.builtin "object.__setattr__")))
  (ha:Iq K (.ref C) "__class__"=be (be (.builtin "object.__class__"))) (hn:specialIn K (.builtin "object.__class__") "__get__"=be (be (.builtin "getset_descriptor.__get__"))) (ht:takesIn K (.builtin "object.__class__")=be true) (hm:Jn K C (.type "object")=be true):ClIn K x:=#[C,a,#[pg,hd,po,sa],ha,hn,ht,hm]
def NoIn(K:Ex)(x f:Mr):Prop:=∃C,NsC K x C/\Iq K (.ref C) f=be z6
def noIn_mk(a:nsIn K SL x=be (be (.ref C)))(b:Iq K (.ref C) f=be z6):NoIn K x f:=#[C,a,b]
def ClIn.a(c:ClIn K x)(n:NoIn K x f):ClsA K x f:=by
 let#[C,k]:=c;let#[D,a,b]:=n;cases NsC.uniq k.ns a;exact#[C,a,k.cl,b]
def NoIn.all(n:NoIn K x f):∀C,nsIn K SL x=be (be (.ref C))->Iq K (.ref C) f=be none:=λC hC=>by
 let#[D,a,b]:=n;cases NsC.uniq hC a;exact b
def MtIn(K:Ex)(x m q:Mr)(st:VS):Prop:=∃C f fd,NsC K x C/\Meth K C m f/\Fun K m q st f fd
def mtIn_mk{f:Pi}(a:nsIn K SL x=be (be (.ref C)))(b:Iq K (.ref C) m=be (be (.ref f)))(i:isFn K (.ref f)=true)(l:K.lookup f=be #[oc,od,.func (fnOf m q (bw st) (aL st) (ah st) .none kV dc pm an cd ct),sl])(c:codeIn K cd q=true)(k:keepIn K (.ref f)=true):MtIn K x m q st:=#[C,f,_,a,#[b,i,k],gT l c k]
def MtIn.txm(T:MtIn K x m q st)(c:ClIn K x)(b:BindA m q st ps\zA7):Txm K x m q st ps:=by
 let#[C,k]:=c;let#[D,f,fd,a,mt,F]:=T;cases NsC.uniq k.ns a;exact#[C,f,fd,a,k.cl,mt,F,F.binds b]
def InIn(K:Ex)(x q:Mr)(st:VS):Prop:=∃C f fd,NsC K x C/\Mk K C f/\Fun K "__init__" q st f fd
def inIn_mk{f:Pi}(a:nsIn K SL x=be (be (.ref C)))(mk:makesIn K C=true)(b:Iq K (.ref C) "__init__"=be (be (.ref f)))(i:isFn K (.ref f)=true)(kp:keepIn K (.ref C)=true)(l:K.lookup f=be #[oc,od,.func (fnOf "__init__" q (bw st) (aL st) (ah st) .none kV dc pm an cd ct),sl])(c:codeIn K cd q=true)(k:keepIn K (.ref f)=true):InIn K x q st:=#[C,f,_,a,#[mk,b,i,kp],gT l c k]
def Txi(K:Ex)(mg:Mr->Option Os)(x q:Mr)(st:VS)(ps:List Mr):Prop:=∃C f fd,NsC K x C/\mg x=be (.ref C)/\Mk K C f/\Fun K "__init__" q st f fd/\Binds K fd ps []
def InIn.txi(T:InIn K x q st)(X:K.In h)(G:h.Ns SL mg)(b:BindA "__init__" q st ps\zA7):Txi K mg x q st ps:=by
 let#[C,f,fd,a,mk,F]:=T;exact#[C,f,fd,a,mg_of X G a,mk,F,F.binds b]
def CiIn(K:Ex)(x:Mr)(i:Int):Prop:=∃t,nsIn K SL x=be (be (.int i t))
def CsIn(K:Ex)(x y:Mr):Prop:=∃t,nsIn K SL x=be (be (.str y t))
def ciIn_mk{i:Int}{t:XU}(a:nsIn K SL x=be (be (.int i t))):CiIn K x i:=#[t,a]
def csIn_mk{t:XU}(a:nsIn K SL x=be (be (.str y t))):CsIn K x y:=#[t,a]
def CiIn.g{i:Int}(c:CiIn K x i)(X:K.In h)(G:h.Ns SL mg):∃t,mg x=be (.int i t):=let ⟨t,a⟩:=c;#[t,mg_of X G a]
def CsIn.g(c:CsIn K x y)(X:K.In h)(G:h.Ns SL mg):∃t,mg x=be (.str y t):=let ⟨t,a⟩:=c;#[t,mg_of X G a]
def NnIn(K:Ex)(x:Mr):Prop:=nsIn K SL x=be z6
def nnIn_mk(a:nsIn K SL x=be z6):NnIn K x:=a
structure ErF(K:Ex)(x:Str)(bm:List Os)(C N:Pi):Prop where
 ns:NsC K x C
 kp:keepIn K (.ref C)=true
 ob:∃nm q bs sn sub ab col dd k0 k1 k2 k3 k5,K.lookup C=be (We nm q C N bs bm true sn sub ab col dd k0 k1 k2 k3 k5 "ValueError.__new__")
structure ErN(K:Ex)(N:Pi):Prop where
 ok:nsOkIn K N=true
 no:nsIn K N "__init__"=be z6
def EbIn(K:Ex):Prop:=∃C N,ErF K "MotifError" Exc.veLine C N/\ErN K N
def EdIn(K:Ex)(x:Mr)(C N:Pi):Prop:=∃B,NsC K "MotifError" B/\ErF K x (.ref B::Exc.veLine) C N
def E0In(K:Ex)(x:Mr):Prop:=∃C N,EdIn K x C N/\ErN K N
def E1In(K:Ex)(x q:Mr)(st:VS):Prop:=∃C N f fd,EdIn K x C N/\Iq K (.ref C) "__init__"=be (be (.ref f))/\isFn K (.ref f)=true/\Fun K "__init__" q st f fd
def EaIn(K:Ex)(x:Mr):Prop:=∃C,NsC K x C/\Iq K (.ref C) "__setattr__"=be (be (.builtin "object.__setattr__"))
def EgIn(K:Ex)(x:Mr):Prop:=∃C,NsC K x C/\Iq K (.ref C) "__getattribute__"=be (be (.builtin "BaseException.__getattribute__"))/\Iq K (.ref C) "__getattr__"=be z6
def EiIn(K:Ex)(x:Mr):Prop:=∃M,NsC K x M/\readsIn K M (.type "type")=true/\findCls K (.ref M) (.type "type") "__init__"=be (.val (.builtin "ValueError.__init__"))/\specialIn K (.ref M) "__getattribute__"=be (be (.builtin "type.__getattribute__"))
def EmIn(K:Ex)(x y:Mr):Prop:=∃C D,NsC K x C/\NsC K y D/\Jn K C (.ref D)=be (subE x y)
section
variable {B C D N:Pi}{nm qn:Mr}{bs:List Os}{sn:List Mr}{sub:List Os}{ab:Bool}{col:Option Bool}{dd:Option Pi}{k0 k1 k2 k3 k5:Option Os}{nc:Os}{nd:Option Pi}{ne:Array DictEntry}{np:Nat}{nl:Array (Option Os)}
def ebIn_mk(a:nsIn K SL "MotifError"=be (be (.ref C)))(kp:keepIn K (.ref C)=true)(o:K.lookup C=be (We nm qn C N bs Exc.veLine true sn sub ab col dd k0 k1 k2 k3 k5 "ValueError.__new__"))(nk:K.lookup N=be #[nc,nd,.dict ne np,nl])(al:ne.toList.all (λe=>match e.key with|.str _ _=>true|_=>false)=true)(ni:nsIn K N "__init__"=be z6):EbIn K:=#[C,N,#[a,kp,_,_,_,_,_,_,_,_,_,_,_,_,_,o],tQ nk al,ni]
def e0In_mk(b:nsIn K SL "MotifError"=be (be (.ref B)))(a:nsIn K SL x=be (be (.ref C)))(kp:keepIn K (.ref C)=true)(o:K.lookup C=be (We nm qn C N bs (.ref B::Exc.veLine) true sn sub ab col dd k0 k1 k2 k3 k5 "ValueError.__new__"))(nk:K.lookup N=be #[nc,nd,.dict ne np,nl])(al:ne.toList.all (λe=>match e.key with|.str _ _=>true|_=>false)=true)(ni:nsIn K N "__init__"=be z6):E0In K x:=#[C,N,#[B,b,a,kp,_,_,_,_,_,_,_,_,_,_,_,_,_,o],tQ nk al,ni]
def e1In_mk{f:Pi}{oc:Os}{od an:Option Pi}{sl:Array (Option Os)}{kV dc pm cd ct:Os}(b:nsIn K SL "MotifError"=be (be (.ref B)))(a:nsIn K SL x=be (be (.ref C)))(kp:keepIn K (.ref C)=true)(o:K.lookup C=be (We nm qn C N bs (.ref B::Exc.veLine) true sn sub ab col dd k0 k1 k2 k3 k5 "ValueError.__new__"))
  (j:Iq K (.ref C) "__init__"=be (be (.ref f))) (i:isFn K (.ref f)=true) (l:K.lookup f=be #[oc,od,.func (fnOf "__init__" q (bw st) (aL st) (ah st) .none kV dc pm an cd ct),sl]) (c:codeIn K cd q=true) (k:keepIn K (.ref f)=true):E1In K x q st:=#[C,N,f,_,#[B,b,a,kp,_,_,_,_,_,_,_,_,_,_,_,_,_,o],j,i,gT l c k]
def eaIn_mk(a:nsIn K SL x=be (be (.ref C)))(b:Iq K (.ref C) "__setattr__"=be (be (.builtin "object.__setattr__"))):EaIn K x:=#[C,a,b]
def egIn_mk(a:nsIn K SL x=be (be (.ref C)))(b:Iq K (.ref C) "__getattribute__"=be (be (.builtin "BaseException.__getattribute__")))(c:Iq K (.ref C) "__getattr__"=be z6):EgIn K x:=#[C,a,b,c]
def eiIn_mk(a:nsIn K SL x=be (be (.ref C)))(b:readsIn K C (.type "type")=true)(c:findCls K (.ref C) (.type "type") "__init__"=be (.val (.builtin "ValueError.__init__")))(d:specialIn K (.ref C) "__getattribute__"=be (be (.builtin "type.__getattribute__"))):EiIn K x:=#[C,a,b,c,d]
def emIn_mkT(e:subE x y=true)(a:nsIn K SL x=be (be (.ref C)))(c:nsIn K SL y=be (be (.ref D)))(d:Jn K C (.ref D)=be true):EmIn K x y:=#[C,D,a,c,e ▸ d]
def emIn_mkF(e:subE x y=false)(a:nsIn K SL x=be (be (.ref C)))(c:nsIn K SL y=be (be (.ref D)))(d:Jn K C (.ref D)=be false):EmIn K x y:=#[C,D,a,c,e ▸ d]
end
def EdIn.k{N:Pi}(e:EdIn K x C N)(b:EbIn K)(X:K.In h)(G:h.Ns SL mg):∃bm,ErrK K mg x C N bm:=by
 let#[B,hB,k]:=e;let#[B',N',kb,n]:=b;cases NsC.uniq kb.ns hB;let#[_,_,_,_,_,_,_,_,_,_,_,_,_,o]:=kb.ob;exact#[_,k.ns,mg_of X G k.ns,k.kp,k.ob,AZ o rfl n.ok n.no]
def E0In.k(e:E0In K x)(b:EbIn K)(X:K.In h)(G:h.Ns SL mg):∃C N bm,ErrK K mg x C N bm/\ErrN K N:=by
 let#[C,N,k,n]:=e;let#[bm,z]:=k.k b X G;exact#[C,N,bm,z,n.ok,n.no]
def Txe(K:Ex)(mg:Mr->Option Os)(x q:Mr)(st:VS)(ps:List Mr):Prop:=∃C N bm f fd,ErrK K mg x C N bm/\Iq K (.ref C) "__init__"=be (be (.ref f))/\isFn K (.ref f)=true/\Fun K "__init__" q st f fd/\Binds K fd ps []
def E1In.txe(e:E1In K x q st)(b:EbIn K)(X:K.In h)(G:h.Ns SL mg)(bi:BindA "__init__" q st ps\zA7):Txe K mg x q st ps:=by
 let#[C,N,f,fd,k,i,j,F]:=e;let#[bm,z]:=k.k b X G;exact#[C,N,bm,f,fd,z,i,j,F,F.binds bi]
def ErrK.a'{N:Pi}{bm:List Os}(k:ErrK K mg x C N bm)(a:EaIn K x):∃C cd,ErrA K x C cd:=by
 let#[D,hD,sa]:=a;cases NsC.uniq k.ns hD;exact#[C,k.a sa]
def E1In.a(e:E1In K x q st)(b:EbIn K)(a:EaIn K x)(X:K.In h)(G:h.Ns SL mg):∃C cd,ErrA K x C cd:=by
 let#[C,N,f,fd,k,_]:=e;let#[bm,z]:=k.k b X G;exact z.a' a
def E1In.c(e:E1In K x q st)(b:EbIn K)(X:K.In h)(G:h.Ns SL mg):∃C N bm,ErrK K mg x C N bm:=by
 let#[C,N,f,fd,k,_]:=e;let#[bm,z]:=k.k b X G;exact#[C,N,bm,z]
def EiIn.b(e:EiIn K x)(X:K.In h)(G:h.Ns SL mg):∃M,BaseK K mg x M:=by
 let#[M,a,b,c,d]:=e;exact#[M,mg_of X G a,b,c,d]
def EgIn.g(e:EgIn K x)(a:∃C cd,ErrA K x C cd)(n:NoIn K x f):ErrG K f x:=by
 let#[C,h1,h2,h3]:=e;let#[D,cd,ea]:=a;cases NsC.uniq ea.ns h1;exact#[C,cd,ea,h2,h3,n.all C h1]
def AllP(p:Mr->Prop):List Mr->Prop
 |[]=>True
 |a::l=>p a/\AllP p l
def AllP.mem{p:Mr->Prop}:∀{l:List Mr},AllP p l->∀x∈l,p x
 |_::_,h,_,.head _=>h.1
 |_::_,h,_,.tail _ m=>AllP.mem h.2 _ m
def B3{es:List Mr}(c:AllP (λx=>∃C N bm,ErrK K mg x C N bm) es)(s:AllP (λx=>AllP (λy=>EmIn K x y) es) es):ErrsK K mg es:=by
 refine#[c.mem,λx hx y hy C C' h1 h2=>?_];let#[A,B,a,b,m]:=(s.mem x hx).mem y hy;cases NsC.uniq a h1;cases NsC.uniq b h2;exact m
end
structure Bx where
 P:VU
 w:VX
 K:Ex
 mg:Mr->Option Os
 base:Heap
abbrev Bx.T(V:Bx)(x:Mr)(st:VS)(ps:List Mr):Prop:=Tx V.K V.mg x st ps
abbrev Bx.Tm(V:Bx)(x m q:Mr)(st:VS)(ps:List Mr):Prop:=Txm V.K x m q st ps
abbrev Bx.Ti(V:Bx)(x q:Mr)(st:VS)(ps:List Mr):Prop:=Txi V.K V.mg x q st ps
abbrev Bx.Te(V:Bx)(x q:Mr)(st:VS)(ps:List Mr):Prop:=Txe V.K V.mg x q st ps
abbrev Bx.Ek(V:Bx)(es:List Mr):Prop:=ErrsK V.K V.mg es
abbrev Bx.m(V:Bx)(x:Mr):Prop:=V.mg x=z6
abbrev Bx.gi(V:Bx)(x:Mr)(i:Int):Prop:=∃t,V.mg x=be (.int i t)
abbrev Bx.gs(V:Bx)(x y:Mr):Prop:=∃t,V.mg x=be (.str y t)
abbrev Bx.a(V:Bx)(x f:Mr):Prop:=ClsA V.K x f
abbrev Bx.D(V:Bx)(n:Nat)(x:Mr)(ps:List Mr)(S:SpD):Prop:=CalD V.P V.w V.K V.mg V.base n x ps S
abbrev Bx.X(V:Bx)(n:Nat)(x:Mr)(ps:List Mr)(S:SpX):Prop:=CalX V.P V.w V.K V.mg V.base n x ps S
abbrev Bx.MM(V:Bx)(n:Nat)(x:Mr)(ps:List Mr)(S:SpM):Prop:=CalMM V.P V.w V.K V.mg V.base n x ps S
abbrev Bx.M(V:Bx)(n:Nat)(x:Mr)(ps:List Mr)(S:SiD):Prop:=CalM V.P V.w V.K V.mg V.base n x ps S
abbrev Bx.E(V:Bx)(n:Nat)(x:Mr)(ps:List Mr)(S:SiD):Prop:=CalE V.P V.w V.K V.mg V.base n x ps S
abbrev Bx.Q(V:Bx)(n:Nat)(x m:Mr)(ps:List Mr)(S:SpM):Prop:=CalMth V.P V.w V.K V.mg V.base n x m ps (lSpM V.K S)
abbrev Bx.n(V:Bx)(x:Mr):Prop:=∃C N bm,ErrK V.K V.mg x C N bm/\ErrN V.K N
abbrev Bx.b(V:Bx)(x:Mr):Prop:=∃M,BaseK V.K V.mg x M
abbrev Bx.ea(V:Bx)(x:Mr):Prop:=∃C cd,ErrA V.K x C cd
abbrev Bx.xf(V:Bx)(x f:Mr):Prop:=∀C,nsIn V.K SL x=be (be (.ref C))->Iq V.K (.ref C) f=be z6
abbrev Bx.x(V:Bx)(f:Mr)(ys:List Mr):Prop:=∀y∈ys,ErrG V.K f y
section
variable {P:VU}{w:VX}{K:Ex}{mg:Mr->Option Os}{base:Heap}
variable{x qual p0:Mr}{st:VS}{N ps:List Mr}{k:Nat}{S:SiD}
def Txi.okI(T:Txi K mg x qual st (p0::ps))(F:FnScope (p0::N) (p0::ps) (ah st))(len:∀ds R,S ds R->ds.length=ps.length)
  (a9:∀(f:Pi) (cdv:Os) (A:VY) (outer:List WD) (s:SB) (H:Hp) (E:XK) (J:Jx),Room k (A.deeper (V7 qual (ah st) s.heap.objs.size f cdv))->
   ∃t,WDI (cxOf (Exc.CX1 P w) P w K mg base (p0::N) qual (ah st) f cdv A outer s H E).nox x (aL st) t/\∀ds R,S ds R->t (z6::startD N ds) [] R):CalM P w K mg base (k+1) x (p0::ps) S:=by
 let#[C,f,fd,a,b,c,d,e]:=T;exact Cls.okIW d e F len a b c (a9 f)
def Txi.okIM(T:Txi K mg x qual st (p0::ps))(F:FnScope N (p0::ps) (ah st))(len:∀ds R,S ds R->ds.length=ps.length)
  (a9:∀(f:Pi) (cdv:Os) (A:VY) (outer:List WD) (s:SB) (H:Hp) (E:XK) (J:Jm),Room k (A.deeper (V7 qual (ah st) s.heap.objs.size f cdv))->XOkM (cxOf (Exc.CX1 P w) P w K mg base N qual (ah st) f cdv A outer s H E).nox->
   ∃t,MSs (cxOf (Exc.CX1 P w) P w K mg base N qual (ah st) f cdv A outer s H E).nox (aL st) t/\∀a ds R,(∀z M x fs,¬J.RM z M x fs)->S ds R->t {nx:=λ_ M'=>∃fs,M'=[(a,.ins x fs)]/\R fs,rt:=λ_ _=>False} (startD N (.ptr a::ds)) [(a,.ins x [])]):CalM P w K mg base (k+1) x (p0::ps) S:=by
 let#[C,f,fd,a,b,c,d,e]:=T;exact Cls.okIM d e F len a b c (a9 f)
def Txe.okE(T:Txe K mg x qual st (p0::ps))(F:FnScope (p0::N) (p0::ps) (ah st))(len:∀ds R,S ds R->ds.length=ps.length)
  (a9:∀(f:Pi) (cdv:Os) (A:VY) (outer:List WD) (s:SB) (H:Hp) (E:XK) (J:Jx),Room k (A.deeper (V7 qual (ah st) s.heap.objs.size f cdv))->
   ∃t,WDX (cxOf (Exc.CX1 P w) P w K mg base (p0::N) qual (ah st) f cdv A outer s H E).nox x (aL st) t/\∀ds R,S ds R->t (z6::startD N ds) [] R):CalE P w K mg base (k+1) x (p0::ps) S:=by
 let#[C,N',bm,f,fd,a,b,c,d,e]:=T;exact Cls.okEW d e F len a b c (a9 f)
end
section
variable {X:Cx}[J:Jx]{a b c e o g_ iter:VV}{es:List VV}{ta tb tc te to ti tj:TD}{tt:TDT}{t:TDA}{pos px:V4}{x:Mr}{scope:Wl}
def uw(ix:Nat)(MB:TDI)(te:TD):TSD:=λE z=>MB z (cmpP te z λd=>match d with|.lst ys=>E.nx (z.set ix (be (.own ys)))|_=>False)
def B4{K:Ex}{E:Ends}{s:L2.St}{H:Hp}{ix:Nat}{wi:TI}{MB:TDI}(hI:ItOk K wi MB)(q:lS K (uw ix MB te) E s H):tAsg (fX wi (lT K dT1) (lE K te)) (fN ix) E s H:=by
 let#[B,F0,F,z,k,rs,ED,h,e]:=q;refine hI k.kf rs h λitems J F1 H1 g1 hg it=>tG (Q:=λv H=>E.nx (s.set ix (be v)) H) k.kf g1 rs (λD ys us F' H' hH hF GG hu ry hR=>?_) it (cmpP.g hg);have r2:=(rs.grow GG).setOwn (i:=ix) (a:=D) (k.bh.free hH) hF ry λj dj _ q1 q2=>by
  let#[a,vs,p1,p2,_]:=rs.own j dj q1;rw[p1]at q2;cases q2;rw[hH]at p2;cases p2
 rw[tO hu]at r2;exact e.nx _ _ F' H' (k.grow GG) hR r2
def B5(ix:Nat){y:Mr}{py n8:V4}(hc:X.calm=true)(S:CompScope X scope x)(hN:X.N.Nodup)(hi:WDE X iter ti)(he:∀cl s₀ H₀ fp,WDE (cj X scope cl x s₀ H₀ fp) g_ te)(OG:(X.N[ix]?=be y)\zA0)(hy:Loc X.env.scope y\zA4)
  (hf:zFN X y\zA2) (Mv:(V' (.ListComp g_ [#[.Name x px,iter,[],0]] scope pos) (be (.Name y py)) n8.line X.env=pure true)\zA0) (hs:(∀y,zFS X iter y)\zA3):
  WDS X (.Assign [.Name y py] (.ListComp g_ [#[.Name x px,iter,[],0]] scope pos) n8) (uw ix (dItS ti) te):=#[(tF hc S (tW hi.out) (λ_ _ _ _=>hZ) (λa b c d=>(he a b c d).out) hN OG hy hf Mv hs).anti λE s H q=>B4 itS q]
def rSCount:RTx:=λy ds R=>match ds with|[.str p]=>R (.int (Builtin.Str.occurrences y p 0 y.length (y.length+1)).length)|_=>False
def B6:MtS X "str.count" rSCount:=by
 refine#[λx vs H Q=>∃y p,x=.str y/\vs=[.str p]/\Q (.int (Builtin.Str.occurrences y p 0 y.length (y.length+1)).length) H,?_,?_]
 .intro pins s σ H x vs v us Q I rx rv h;let#[y,p,rfl,rfl,q]:=h;let#[t,rfl]:=rx;let#[u,rfl,t',rfl]:=vals1 rv;exact SC.count #[.int _,H,I.tok _,#[_,rfl],q]
 .intro y ds vs F H R Q r h q;unfold rSCount at h;split at h
  .let#[v,vr,rfl,h1,h2]:=reps_cons.mp r;rw[reps_nil.mp h2,rep_str.mp h1];exact#[_,_,rfl,rfl,q _ _ (λ_=>rep_int.mpr rfl) h]
  .exact h.elim
def ux{b7 a8:V4}(ho:WDE X o to)(ha:WDA X [e] t)(b_:(V1 o "count" X.env (V3 o X.env)=V3 o X.env)\zA0)
  (f6:zHF X a8 [e]\zA0)
  (c9:((b7.endLine==a8.line)=true)\zA0) (hs:zSE X e []\zA0):WDE X (.Call (.Attribute o "count" b7) [e] [] a8) (dTx rSCount to t):=#[kI PySem.F.slot_str_count PySem.F.type_str_count B6 ho.out ha.out b_ f6 c9 hs]
def B7(is:List Nat)(ti:TDI)(tb:TSD):TSD:=λE z=>ti z λds=>∃W:Nat->SD->Prop,W 0 z/\(∀(k:Nat) x z,ds[k]?=be x->W k z->tb {E with nx:=W (k+1),ct:=W (k+1),bk:=E.nx} (cn is [.int k,x] z))/\∀z,W ds.length z->E.nx z
variable{is:List Nat}
def B8{K:Ex}{B F0 F1 H1:Hp}{z:SD}{s:L2.St}{E:Ends}{ED:EndsD}{It':It}{g:TG}{tb:TSD}{OO:TS}{ds:List D}(k1:Kept B F0 F1 H1)(o_:RepS K B F1 H1 z s)(e:EndsOk K B F0 ED E)
  (go:∀k F' H',Same F1 F'->Same F' H'->k<ds.length->It'.go k H') (stop:∀F' H',Same F1 F'->Same F' H'->It'.stop ds.length H')
  (yld:∀k F' H' x H'',Same F1 F'->Same F' H'->k<ds.length->It'.yld k H' x H''->∃T d v,H' T=z6/\x=.ref T/\H''=upd H' T (.tup [.int k,v])/\ds[k]?=be d/\Rep K F' d v)
  (hg:∀(dd:List D) (vs:List V) (T:Pi) (z:SD) (s:L2.St) (F H:Hp) (Q:L2.St->Hp->Prop),dd.length=2->H T=be (.tup vs)->Reps K F dd vs->RepS K B F H z s->(∀s',RepS K B F H (cn is dd z) s'->Q s' H)->g (.ref T) s H Q)
  (QQ:∀E s H,lS K tb E s H->OO E s H)
  (hd:∃W:Nat->SD->Prop,W 0 z/\(∀(k:Nat) x z,ds[k]?=be x->W k z->tb {ED with nx:=W (k+1),ct:=W (k+1),bk:=ED.nx} (cn is [.int k,x] z))/\∀z,W ds.length z->ED.nx z):
  ∃W:Nat->Nat->L2.St->Hp->Prop,(∃m,W 0 m s H1)/\∀i m σ H,W i m σ H->
   (It'.stop i H/\E.nx σ H)\/(It'.go i H/\∃N:L2.St->Hp->Prop,(∀σ' H',N σ' H'->∃m',m'<m/\W (i+1) m' σ' H')/\∀x H',It'.yld i H x H'->g x σ H' λσ2 H2=>OO {E with nx:=N,ct:=N,bk:=E.nx} σ2 H2):=by
 let#[W,w0,d6,out]:=hd;refine#[λk m s' H'=>m=ds.length-k/\k<=ds.length/\∃F' z',Kept B F0 F' H'/\Same F1 F'/\RepS K B F' H' z' s'/\W k z',#[ds.length,Nq,IL _,F1,z,k1,Same.refl F1,o_,w0],?_];rintro k m s' H'⟨rfl,hk,F',z',k',g',r',w'⟩;by_cases gV:k<ds.length
 .refine .inr #[go k F' H' g' k'.fh gV,λs3 H3=>∃F3 z3,Kept B F0 F3 H3/\Same F1 F3/\RepS K B F3 H3 z3 s3/\W (k+1) z3,λs3 H3 h3=>#[ds.length-(k+1),KK,rfl,gV,h3],λx H'' hy=>?_];let#[T,d,v,hT,rfl,rfl,hd,rd]:=yld k F' H' x H'' g' k'.fh gV hy;have gn:=Grow.new k'.fh hT (.tup [.int k,v]);have k2:=k'.grow gn;have rp:Reps K (upd F' T (.tup [.int k,v])) [.int k,d] [.int k,v]:=reps_cons.mpr #[_,_,rfl,rep_int.mpr rfl,fg (rd.mono gn.ff)];refine hg [.int k,d] _ T z' s' _ _ _ rfl aC rp (r'.grow gn) λs2 NS=>QQ _ _ _ ?_;have gF:Same F1 (upd F' T (.tup [.int k,v])):=g'.trans gn.ff;refine#[B,upd F' T (.tup [.int k,v]),upd F' T (.tup [.int k,v]),_,#[k2.bh,k2.fh,Same.refl _,λb h1 _=>h1,k2.eb,k2.jf.trans k2.f0,λb h1 h2=>k2.out b (k2.jo b h1 h2) h2],NS,_,d6 k d z' hd w',?_];have up:∀{F3 H3:Hp},Kept B (upd F' T (.tup [.int k,v])) F3 H3->Kept B F0 F3 H3:=λk3=>#[k3.bh,k3.fh,k2.f0.trans k3.f0,λb h1 h2=>k3.out b (k2.out b h1 h2) h2,k2.eb,k2.jf,k2.jo];exact#[λz3 s3 F3 H3 k3 h3 r3=>#[F3,z3,up k3,gF.trans k3.f0,r3,h3],λd v F3 H3 k3=>e.rt d v F3 H3 (up k3),λz3 s3 F3 H3 k3=>e.nx z3 s3 F3 H3 (up k3),λz3 s3 F3 H3 k3 h3 r3=>#[F3,z3,up k3,gF.trans k3.f0,r3,h3]]
 .have ek:k=ds.length:=by lia
  subst ek;exact .inl #[stop F' H' g' k'.fh,e.nx z' s' F' H' k' (out z' w') r']
variable{p2:V4}
def B9{es:List VV}{x1:Nat}{tp p1:V4}{body:List VS}{tb:TSD}(hp:Wd (VT X.prog X.w) X.A X.env X.xe)(hc:X.calm=true)(hm:X.mg "enumerate"=z6)(he:WDE X e te)(hG:DGs X es is)(hb:WDSs X body tb)(b9:(is.length=2)\zA0)(hg:Gl X "enumerate"\zA0)
  (hn:((V0 es X.env).length=2)\zA0) (m4:((V0 es X.env).findIdx? (·.1)=none)\zA0)
  (hs:(∀y,zFS X (.Call (.Name "enumerate" p1) [e] [] p2) y)\zA3) (v_:zSE X e []\zA0) (i8:(VZ [e] X.env=[(false,V3 e X.env)])\zA0):
  WDS X (.For (.Tuple es x1 tp) (.Call (.Name "enumerate" p1) [e] [] p2) body [] pos) (B7 is (dItS te) tb):=by
 let#[ug,OP,kk]:=hG;refine#[(cO hp hc (ui hg hm (bv he.out pa_nil v_) i8) (gK hc OP hn m4) hb.out hs).anti λE s H q=>?_];let#[B,F0,F,z,kp,rs,ED,h,e]:=q;refine#[B,F,z,kp.kf,rs,_,h,λd v F1 H1 g1 hd rd=>?_];split at hd
 .rename_i x;let#[ha,hd]:=hd;have hl:=fz x;refine#[x,by rw[rep_str.mp rd],ha,B8 (It':=Ites x) (kp.grow g1) (rs.grow g1) e (λk F' H' s1 s2 hk=>?_) (λF' H' s1 s2=>?_) (λk F' H' x H'' s1 s2 hk hy=>?_) (λdd n_ T z s F H Q hl hT rp K_ hQ=>?_) (λ_ _ _ h=>h) hd]
  .rw[hl]at hk;exact hk
  .exact hl
  .let#[T,c,hT,e1,e2,hc]:=hy;exact#[T,.str #[[c].toArray],.str #[[c].toArray],hT,e1,e2,signs_get hc,rep_str.mpr rfl]
  .exact#[T,n_,rfl,SqT.of hT,by rw[rp.length];exact hl,kk dd n_ z s B F H Q (by rw[hl,b9]) rp K_ hQ]
 .exact hd.elim
def Ca(K:Ex):R2:=λx y H Q=>∃p xs i z,x=.ref p/\y=.int i/\0<=i/\SqL K H p xs/\xs[i.toNat]?=be z/\Q z H
def Cb:PGet X (Ca X.K):=by
 intro pins s σ H x y v u Q I rx ry h;let#[p,xs,i,z,rfl,rfl,h0,hq,he,q]:=h;cases rx;let#[t,rfl]:=ry;let#[its,r,pl,hz]:=I.list hq;let#[w,ew,j5]:=r.get he;have hl:=r.length;have hn:=line63;have hi:=(IB.mp he).1;exact wpAny_getItem_list pl.isList h0 KK (by simpa using ew) #[z,H,I,j5,q]
def uy(i:Nat)(ti te:TD):TSD:=λE z=>match z[i]? with
 |some (be (.own ds))=>ti z λy=>(match y with|.int k=>∃n,0<=k/\ds[k.toNat]?=be (.int n)/\te z λd=>(match d with|.int m=>E.nx (z.set i (be (.own (ds.set k.toNat (.int (n+m))))))|_=>False)|_=>False)
 |_=>False
def Cd(i:Nat){x:Mr}{p1:V4}(hb:WDE X b tb)(he:WDE X e te)(hN:(X.N[i]?=be x)\zA0)(hv:Vis X.env.scope x\zA5)(hd:zND x\zA1)
  (g7:zNC x\zA1)
  (ha:(∀ov iv new,augStore b ov iv new=(do Wk [new,ov,iv] (Xk ov iv new);XQ [new,ov,iv] [];pure .next))\zA8):
  WDS X (.AugAssign (.Subscript (.Name x p1) b p2) .Add e pos) (uy i tb te):=⟨(yb (cN hN hv hd g7) hb.out Cb he.out yc rM ha).anti λE s H q=>by
 let#[B,F0,F,z,k,rs,ED,h,e]:=q;unfold uy at h;split at h
 .rename_i ds ez;let#[a,vs,q1,q2,q3,q4,q5]:=rs.own i ds ez;refine#[.ref a,q1,B,F,z,k.kf,rs,_,h,λy w F2 H2 g2 hy ry=>?_];split at hy
  .rename_i k';let#[n,k0,en,hn]:=hy;have Mz:F2 a=none:=g2.out a q4 (by rw[q2];exact λz=>nomatch z);let#[v,ev,rv]:=q5.get en;refine#[a,vs,_,v,rfl,rep_int.mp ry,k0,SqL.of (g2.hh _ _ q2),ev,B,F2,z,k.kf.grow g2,rs.grow g2,_,hn,λd u F3 H3 g3 hd rd=>?_];split at hd
   .have r2:=(rs.grow g2).grow g3;have k2:=(k.grow g2).grow g3;have Pw:F3 a=none:=g3.out a Mz (by rw[g2.hh _ _ q2];exact λz=>nomatch z);rw[rep_int.mp rv,rep_int.mp rd];have gV:=(IB.mp en).1;refine#[_,_,rfl,rfl,a,vs,_,k'.toNat,rfl,rep_int.mp ry,g3.hh _ _ (g2.hh _ _ q2),by unfold ixN;rw[q5.length,if_pos k0,if_pos KK],?_];let#[k3,r3]:=r2.change k2 ez q1 q3 Pw (Reps.put (d:=.int _) (v:=.int _) (rep_int.mpr rfl) k'.toNat ((q5.mono g2.ff).mono g3.ff));exact e.nx _ s F3 _ k3 hd r3
   .exact hd.elim
  .exact hy.elim
 .exact h.elim⟩
def Ce(i:Nat)(t:TDA):TSD:=λE z=>t z λds=>match ds with
 |[.lst xs]=>E.nx (z.set i (be (.own xs)))
 |[.tup xs]=>E.nx (z.set i (be (.own xs)))
 |_=>False
def Cf[Jx](i:Nat){x:Mr}{d5 p:V4}{t:TDA}(hm:X.mg "list"=z6)(hN:X.N.Nodup)(ha:WDA X [e] t)(hi:(X.N[i]?=be x)\zA0)(hx:Loc X.env.scope x\zA4)(hg:Gl X "list"\zA0)(he:zSE X e []\zA0)(hs:(V' (.Call (.Name "list" p) [e] [] p2) (be (.Name x d5)) pos.line X.env=pure false)\zA0)
  (hf:zFN X x\zA2):WDS X (.Assign [.Name x d5] (.Call (.Name "list" p) [e] [] p2) pos) (Ce i t):=⟨(gM hN hi hx (jH rO hg hm PyProof.Rows.boot_list ha.out Nk Nk he) hs hf).anti λE s H q=>by
 let#[B,F0,F,z,k,rs,ED,h,e]:=q;refine#[B,F,z,k.kf,rs,_,h,λds vs F1 H1 g hd rd=>?_];have k1:=k.grow g;have r1:=rs.grow g;have e_:∀{xs:List D} {us:List V},Reps X.K F1 xs us->ED.nx (z.set i (be (.own xs)))->∀l,H1 l=z6->E.nx (s.set i (be (.ref l))) (upd H1 l (.lst us)):=λ{xs us} rr hn p hp=>by
  have hB:B p=none:=k1.bh.free hp;have hF:F1 p=none:=k1.fh.free hp;refine e.nx _ _ F1 _ #[k1.bh.trans (aN hp _),k1.fh.trans (aN hp _),k1.f0,k1.out,k1.eb,k1.jf,k1.jo] hn (r1.setOwn hB hF rr λj dj hj e1 e2=>?_);let#[a,us,q1,q2,_]:=r1.own j dj e1;rw[e2]at q1;cases q1;rw[hp]at q2;cases q2
 split at hd
 .let#[v,r,rfl,h1,h2]:=reps_cons.mp rd;rw[reps_nil.mp h2];let#[a,us,rfl,hq,rr]:=rep_lst.mp h1;exact#[a,us,rfl,.inl (g.fh.seq (SqL.of hq)),e_ rr hd]
 .let#[v,r,rfl,h1,h2]:=reps_cons.mp rd;rw[reps_nil.mp h2];let#[a,us,rfl,hq,rr]:=rep_tup_mp h1;exact#[a,us,rfl,.inr (g.fh.tup hq),e_ rr hd]
 .exact hd.elim⟩
end
mutual
def noL:D->Bool
 |.non=>true|.bl _=>true|.int _=>true|.str _=>true|.ptr _=>true|.dti _=>true
 |.tup ds=>noLs ds
 |.obj _ fs=>noLF fs
 |_=>false
def noLs:List D->Bool
 |[]=>true
 |d::ds=>noL d&&noLs ds
def noLF:List (Mr×D)->Bool
 |[]=>true
 |(_,d)::ds=>noL d&&noLF ds
end
def nlF(F:Hp):Hp:=λb=>match F b with|some (.lst _)=>z6|o=>o
end My
end
section
namespace My
open PySem PySem.Spec PyProof.Rows L2
variable{w:Int}
def b64B(h:0<w)(h':w<=33554432):-(2^64)<w/\w<2^64:=KK
variable{s:Int}
def s64B(h:0<=s)(h':s<w)(Vu:w<=33554432):-(2^64)<s/\s<2^64:=KK
def d30B(h:0<w)(h':w<=33554432):0<w/\w<1073741824:=KK
variable{x y:Int}
def ab24(h:x.natAbs<=12)(h':y.natAbs<=12):(x+y).natAbs<=24:=Io (KF x y) (J4 h h')
def sq0(a:Int):0<=a*a:=(Int.le_total 0 a).elim (λq=>KG q q) (λq=>Int.mul_nonneg_of_nonpos_of_nonpos q q)
def u64(h:w=1\/w=-1\/w=0):-(2^64)<w/\w<2^64:=KK
variable{k:Nat}
def n64(h:w.natAbs<=k)(hk:(k<=1073741823)\zA1):-(2^64)<w/\w<2^64:=KK
variable{a b:Int}
def i64(h:a<=w)(h':w<=b)(ha:( -1000000000001<=a)\zA1)(hb:(b<=1000000000001)\zA1):-(2^64)<w/\w<2^64:=KK
def Cg{X Y Z A B r:Nat}(h1:X<=Y)(h2:X=Z+2*B)(h3:1*A<=Z)(h5:Y<=A+r)(h6:r<B):False:=KK
def fdm(a b:Int)(hb:b≠0):(a-a.fdiv b*b).natAbs<b.natAbs/\(a.fdiv b).natAbs<=a.natAbs+1:=by
 have e:=Int.fmod_def a b;have e2:a-a.fdiv b*b=a.fmod b:=by rw[e,IN]
 rw[e2];have r:(a.fmod b).natAbs<b.natAbs:=by
  rcases(KK:0<b\/b<0)with h|h
  .have h1:=Ls a h;have h2:=Lu a h;lia
  .have h1:=Ls (-a) (show 0< -b by lia);have h2:=Lu (-a) (show 0< -b by lia);rw[Int.neg_fmod_neg]at h1 h2;lia
 refine#[r,?_];have e3:(b*a.fdiv b).natAbs=b.natAbs*(a.fdiv b).natAbs:=Jh _ _;have e4:=Int.mul_fdiv_self a b;rcases JQ (a.natAbs+1) (a.fdiv b).natAbs with c|c
 .have h1:b.natAbs*(a.natAbs+2)<=b.natAbs*(a.fdiv b).natAbs:=Lo _ c;have h2:b.natAbs*(a.natAbs+2)=b.natAbs*a.natAbs+2*b.natAbs:=by rw[Nat.mul_add,Kx _ 2]
  have h3:1*a.natAbs<=b.natAbs*a.natAbs:=Lv _ KK;have h5:(b*a.fdiv b).natAbs<=a.natAbs+(a.fmod b).natAbs:=by rw[e4];exact KH a _
  rw[e3]at h5;exact(Cg h1 h2 h3 h5 r).elim
 .exact c
def Uni(a b c d p0 p1 q0 q1:Int):Prop:=∃m n k l:Int,(m*l-n*k=1\/m*l-n*k=-1)/\p0=m*a+n*c/\p1=m*b+n*d/\q0=k*a+l*c/\q1=k*b+l*d
def Uni.refl(a b c d:Int):Uni a b c d a b c d:=#[1,0,0,1,.inl Nk,KK,KK,KK,KK]
variable{c d p0 p1 q0 q1:Int}
def Uni.step(t:Int)(h:Uni a b c d p0 p1 q0 q1):Uni a b c d q0 q1 (p0-t*q0) (p1-t*q1):=by
 let#[m,n,k,l,hd,rfl,rfl,rfl,rfl]:=h;refine#[k,l,m-t*k,n-t*l,?_,rfl,rfl,Oi,Oi];rcases hd with h|h
 .right;grind
 .left;grind
def Uni.neg(h:Uni a b c d p0 p1 q0 q1):Uni a b c d (-p0) (-p1) q0 q1:=by
 let#[m,n,k,l,hd,rfl,rfl,rfl,rfl]:=h;refine#[-m,-n,k,l,?_,Oi,Oi,rfl,rfl];rcases hd with h|h
 .right;grind
 .left;grind
def Uni.inv(h:Uni a b c d p0 p1 q0 q1):Uni p0 p1 q0 q1 a b c d:=by
 let#[m,n,k,l,hd,rfl,rfl,rfl,rfl]:=h;rcases hd with h|h
 .exact#[l,-n,-k,m,.inl Oi,Oi,Oi,Oi,Oi]
 .exact#[-l,n,k,-m,.inr Oi,Oi,Oi,Oi,Oi]
def Uni.det(h:Uni a b c d p0 p1 q0 q1):p0*q1-p1*q0=a*d-b*c\/p0*q1-p1*q0=-(a*d-b*c):=by
 let#[m,n,k,l,hd,rfl,rfl,rfl,rfl]:=h;rcases hd with h|h
 .left;grind
 .right;grind
def Lev(a b c d p0 p1 q0:Int):Prop:=0<=p1/\Uni a b c d p0 p1 q0 0
def FamOf(a b c d w h s:Int):Prop:=0<w/\0<h/\0<=s/\s<w/\Uni a b c d w 0 s h
def Ch(x:Int):(if x<0 then -x else x)=x\/(if x<0 then -x else x)=-x:=by
 split<;>simp
def Ci(h:x≠0):0<(if x<0 then -x else x):=by split<;>lia
def gl(hn:¬a*d=b*c)(h:Lev a b c d p0 p1 q0):FamOf a b c d (if q0<0 then -q0 else q0) p1 (p0%(if q0<0 then -q0 else q0)):=by
 let#[hp,hu]:=h;have dt:=hu.det;have Uz:q0≠0:=by
  rintro rfl;simp at dt;lia
 have Vv:p1≠0:=by
  rintro rfl;simp at dt;lia
 have hw:=Ci Uz;have hs:=Ch q0;generalize (if q0<0 then -q0 else q0)=w at hw hs;refine#[hw,KK,Ji _ KK,Jj _ hw,?_];have em:=JE p0 w;generalize p0%w=s at em;generalize p0/w=t at em;let#[m,n,k,l,hd,e1,e2,e3,e4]:=hu;rcases hs with e|e
 .refine#[k,l,m-t*k,n-t*l,?_,Oi,Oi,Oi,Oi];rcases hd with h|h
  .right;grind
  .left;grind
 .refine#[-k,-l,m+t*k,n+t*l,?_,Oi,Oi,Oi,Oi];rcases hd with h|h
  .left;grind
  .right;grind
variable{h i j:Int}
def in_fam(hh:0<h)(ex:x=i*w+j*s)(ey:y=j*h):y%h=0/\(x-y/h*s)%w=0:=by
 subst ex ey;rw[IW _ KK];refine#[Lw _ _,?_];have e:i*w+j*s-j*s=i*w:=KK
 rw[e];exact Lw _ _
variable{u v:Int}
def uz(eu:u=i*a+j*c)(ev:v=i*b+j*d):(u*d-v*c).fmod (a*d-b*c)=0/\(a*v-b*u).fmod (a*d-b*c)=0:=by
 subst eu ev;refine#[KI #[i,Oi],KI #[j,Oi]]
def FamOf.cells(f:FamOf a b c d w h s):w*h=a*d-b*c\/w*h=-(a*d-b*c):=by
 have:=f.2.2.2.2.det;simpa using this
def cD{A B:Nat}(h1:a.natAbs<=A)(h2:d.natAbs<=B):(a*d).natAbs<=A*B:=by
 rw[Jh];exact JU h1 h2
variable{g:Int}{N:Nat}
def Cj{gap:Int}(hg:0<g)(c0:0<=c)(cg:c<=g)(h:gap.natAbs<=N):(c*gap/g).natAbs<=N:=by
 have h1:(c*gap).natAbs<=g.natAbs*N:=by rw[Jh];exact JU KK h
 have e:((g.natAbs*N:Nat):Int)=N*g:=by rw[KJ,Int.natAbs_of_nonneg KK,IN]
 have l1:=Ln (a:=-(N:Int)) (b:=c*gap) hg (by rw[KL];lia);have l2:=Int.ediv_le_of_le_mul (a:=c*gap) (b:=(N:Int)) hg KK;lia
def dH(hw:0<w)(hh:0<h):w<=w*h/\h<=w*h:=by
 have h1:=Lx (show 1<=h by lia) (show 0<=w by lia);have h2:=IP (show 1<=w by lia) (show 0<=h by lia);lia
def FamOf.bd(f:FamOf a b c d w h s)(hN:(a*d-b*c).natAbs<=N):w<=N/\h<=N/\s<N:=by
 let#[h1,h2]:=dH f.1 f.2.1;have h3:w*h<=N:=by
  rcases f.cells with e|e<;>rw[e]
  .exact Je Ly (Lz.mpr hN)
  .exact Je Ly (Lz.mpr (by rw[KM];exact hN))
 exact#[Je h1 h3,Je h2 h3,Int.lt_of_lt_of_le f.2.2.2.1 (Je h1 h3)]
def Meas(x y g u:Int):Prop:=0<=g/\(∃i,x=i*g)/\(∃j,y=j*g)/\∃n,g=u*x+n*y
variable{q:Int}
def va(h:0<=g/\∃m n k l:Int,(m*l-n*k=1\/m*l-n*k=-1)/\u=m*1+n*0/\g=m*x+n*y/\q=k*1+l*0/\0=k*x+l*y):Meas x y g u:=by
 let#[h0,m,n,k,l,hd,e1,e2,e3,e4]:=h;refine#[h0,?_,?_,n,Oi]
 .rcases hd with h|h
  .exact#[l,Oi]
  .exact#[-l,Oi]
 .rcases hd with h|h
  .exact#[-k,Oi]
  .exact#[k,Oi]
def Meas.pos(h:Meas x y g u)(hx:0<x):0<g:=by
 let#[h0,#[i,hi],_]:=h;rcases(KK:g=0\/0<g)with e|e
 .subst e;simp at hi;lia
 .exact e
def Meas.le(h:Meas x y g u)(hx:0<x):g<=x:=by
 have hg:=h.pos hx;let#[h0,#[i,hi],_]:=h;have Vw:0<i:=by
  rcases(KK:i<=0\/0<i)with e|e
  .have:=Jt e h0;lia
  .exact e
 have:=IP (show 1<=i by lia) h0;lia
structure MetR(w1 h1 s1 w2 h2 s2 w h s A:Int):Prop where
 w0:0<w
 h0:0<h
 s0:0<=s
 sw:s<w
 in1:∃i,w=i*w1
 in2:∃i,w=i*w2
 up1:∃i j,s=i*w1+j*s1/\h=j*h1
 up2:∃i j,s=i*w2+j*s2/\h=j*h2
 A0:0<A
 cells:w*h*A=w1*h1*w2*h2
 d11:A∣w1*h1
 d12:A∣w1*h2
 d21:A∣w2*h1
 d22:A∣w2*h2
 ds:A∣s1*h2-h1*s2
 all:∀x y:Int,(∃i j,x=i*w1+j*s1/\y=j*h1)->(∃i j,x=i*w2+j*s2/\y=j*h2)->∃i j,x=i*w+j*s/\y=j*h
 comb:∀G:Int,G∣w1*h1->G∣w1*h2->G∣w2*h1->G∣w2*h2->G∣s1*h2-h1*s2->G∣A
def dW(h:0<x*y)(hy:0<y):0<x:=by
 rcases(KK:x<=0\/0<x)with e|e
 .have:=Jt e (show 0<=y by lia);lia
 .exact e
def kZ(ha:0<a)(h:a*b=a*c):b=c:=KN KK h
def r1(k j c:Int):k*(j*c)=j*(c*k):=Oi
def r2(j u c n d:Int):j*(u*c+n*d)=u*(j*c)+n*d*j:=Oi
def r3(u j d n j1:Int):u*(j*d)+n*d*j1=d*(u*j+n*j1):=Oi
def r4(j u c n d:Int):j*(u*c+n*d)=u*c*j+n*(j*d):=Oi
def r5(u c j n j1:Int):u*c*j+n*(j1*c)=c*(u*j+n*j1):=Oi
def r6(g e i1 a i2 b d T s1 c s2:Int)(q:i1*(a*(e*g))+d*T*s1=i2*(b*(e*g))+c*T*s2):g*(e*(i1*a-i2*b))=T*(c*s2-d*s1):=Oi
def r7(g T f:Int):g*(T*f)=T*(f*g):=Oi
def r8(T v e q f:Int):T*(v*e+q*f)=v*T*e+q*(T*f):=Oi
def r9(v T e q m:Int):v*T*e+q*(e*m)=e*(v*T+q*m):=Oi
def r10(e r f:Int):e*r*f=e*(r*f):=Oi
def r11(i u a n b:Int):i*(u*a+n*b)=u*(i*a)+n*b*i:=Oi
def r12(u r f i2 b n i1:Int):u*(r*f+i2*b)+n*b*i1=u*(r*f)+b*(u*i2+n*i1):=Oi
def r13(u r f b M a e g d s1 t:Int):(u*(r*f)+b*M)*(a*(e*g))+d*(e*r)*s1=(M+r*t)*(a*b*(e*g))+r*(e*(d*s1)+f*u*(a*(e*g))-a*b*(e*g)*t):=Oi
def r14(d e r c k:Int):d*(e*r)*(c*k)=r*(c*d*k*e):=Oi
variable{e f gg u' s1 s2:Int}
def Ck{k n n' t i1 j1 i2 j2:Int}(hk:0<k)(MI:0<gg)(he:0<e)
  (x8:u*a+n*b=1) (t9:u'*c+n'*d=1) (gap:c*s2-d*s1=f*gg) (x9:v*e+q*f=1)
  (hs:s=e*(d*s1)+f*u*(a*(e*gg))-a*b*(e*gg)*t) (x1:x=i1*(a*(e*gg))+j1*s1) (y1:y=j1*(c*k)) (x2:x=i2*(b*(e*gg))+j2*s2) (y2:y=j2*(d*k)):
  ∃i j,x=i*(a*b*(e*gg))+j*s/\y=j*(c*d*k*e):=by
 have h1:j1*c=j2*d:=kZ hk (by rw[r1 k j1 c,r1 k j2 d,<-y1,<-y2]);have PB:j1=d*(u'*j2+n'*j1):=by
  have p:=r2 j1 u' c n' d;rw[t9,h1,r3]at p;lia
 have SY:j2=c*(u'*j2+n'*j1):=by
  have p:=r4 j2 u' c n' d;rw[t9,<-h1,r5]at p;lia
 generalize u'*j2+n'*j1=T at PB SY;have q1:i1*(a*(e*gg))+d*T*s1=i2*(b*(e*gg))+c*T*s2:=by rw[<-PB,<-SY,<-x1,<-x2]
 have h2:e*(i1*a-i2*b)=T*f:=kZ MI (by rw[r6 gg e i1 a i2 b d T s1 c s2 q1,r7,gap]);have eT:T=e*(v*T+q*(i1*a-i2*b)):=by
  have p:=r8 T v e q f;rw[x9,<-h2,r9]at p;lia
 generalize hr:v*T+q*(i1*a-i2*b)=r at eT;have h3:i1*a-i2*b=r*f:=kZ he (by rw[h2,eT,r10]);have h4:i1=u*(r*f)+b*(u*i2+n*i1):=by
  have p:=r11 i1 u a n b;have q3:i1*a=r*f+i2*b:=KK
  rw[x8,q3,r12]at p;lia
 generalize u*i2+n*i1=M at h4;refine#[M+r*t,r,?_,?_]
 .rw[hs,x1,PB,eT,<-r13,<-h4]
 .rw[y1,PB,eT,r14]
def Cl{k n n' t:Int}(ha:0<a)(hb:0<b)(hc:0<c)(hd:0<d)(he:0<e)(hk:0<k)(MI:0<gg)
  (x8:u*a+n*b=1) (t9:u'*c+n'*d=1) (gap:c*s2-d*s1=f*gg) (x9:v*e+q*f=1)
  (hs:s=e*(d*s1)+f*u*(a*(e*gg))-a*b*(e*gg)*t) (m1:0<=s) (m2:s<a*b*(e*gg)):
  MetR (a*(e*gg)) (c*k) s1 (b*(e*gg)) (d*k) s2 (a*b*(e*gg)) (c*d*k*e) s (k*gg):=by
 have hg:0<e*gg:=IF he MI;have hW:0<a*b*(e*gg):=IF (IF ha hb) hg;have QW:d*s1=c*s2-f*gg:=KK
 have ua:u*a=1-n*b:=KK
 refine#[hW,IF (IF (IF hc hd) hk) he,m1,m2,#[b,?_],#[a,?_],#[f*u-t*b,d*e,?_,?_],#[-(f*n)-t*a,c*e,?_,?_],IF hk MI,?_,#[a*e*c,?_],#[a*e*d,?_],#[b*e*c,?_],#[b*e*d,?_],#[-f,?_],?_,?_]
 .grind
 .grind
 .grind
 .grind
 .rw[hs,QW];have x2:f*u*(a*(e*gg))=f*(u*a)*(e*gg):=by grind
  rw[x2,ua];grind
 .grind
 .grind
 .grind
 .grind
 .grind
 .grind
 .have:s1*(d*k)-c*k*s2=-(k*(c*s2-d*s1)):=by grind
  rw[this,gap];grind
 .rintro x y⟨i1,j1,x1,z1⟩ ⟨i2,j2,x2,z2⟩;exact Ck hk MI he x8 t9 gap x9 hs x1 z1 x2 z2
 .rintro G⟨y1,z1⟩ ⟨y2,z2⟩ ⟨y3,z3⟩ ⟨y4,z4⟩ ⟨y5,z5⟩;refine#[v*(u'*u*y1+n'*u*y2+u'*n*y3+n'*n*y4)-q*y5,?_];have k1:k*(e*gg)=G*(u'*u*y1+n'*u*y2+u'*n*y3+n'*n*y4):=by
   have p1:k*(e*gg)=(u'*c+n'*d)*(u*a+n*b)*(k*(e*gg)):=by rw[x8,t9];grind
   have p2:(u'*c+n'*d)*(u*a+n*b)*(k*(e*gg))=u'*u*(a*(e*gg)*(c*k))+n'*u*(a*(e*gg)*(d*k))+u'*n*(b*(e*gg)*(c*k))+n'*n*(b*(e*gg)*(d*k)):=Oi
   rw[p1,p2,z1,z2,z3,z4];grind
  have k2:k*(f*gg)=-(G*y5):=by
   rw[<-z5,<-gap];grind
  have k3:k*gg=(v*e+q*f)*(k*gg):=by rw[x9];grind
  have k4:(v*e+q*f)*(k*gg)=v*(k*(e*gg))+q*(k*(f*gg)):=Oi
  rw[k3,k4,k1,k2];grind
variable{w1 h1 w2 h2:Int}
def lf{k z8:Int}(PC:0<w1)(OR:0<w2)(S1:0<h1)(Mj:0<h2)
  (M1:Meas w1 w2 g u) (M2:Meas h1 h2 k u')
  (M3:Meas g (h1*h2/k/h2*s2-h1*h2/k/h1*s1) gg z8):
  MetR w1 h1 s1 w2 h2 s2 (w1*w2/g) (h1*h2/k*(g/gg)) ((g/gg*(h1*h2/k/h1*s1)+g/gg*(h1*h2/k/h2*s2-h1*h2/k/h1*s1)/g*u*w1)%(w1*w2/g)) (k*gg):=by
 have hg:=M1.pos PC;have hk:=M2.pos S1;have MI:=M3.pos hg;let#[_,#[a,ea],#[b,eb],n,en]:=M1;let#[_,#[c,ec],#[d,ed],n',Vx]:=M2;have ha:0<a:=dW (ea ▸ PC) hg;have hb:0<b:=dW (eb ▸ OR) hg;have hc:0<c:=dW (ec ▸ S1) hk;have hd:0<d:=dW (ed ▸ Mj) hk;have x8:u*a+n*b=1:=by
  have p:(u*a+n*b)*g=1*g:=by
   have:(u*a+n*b)*g=u*(a*g)+n*(b*g):=by grind
   rw[this,<-ea,<-eb];lia
  exact JV KK p
 have t9:u'*c+n'*d=1:=by
  have p:(u'*c+n'*d)*k=1*k:=by
   have:(u'*c+n'*d)*k=u'*(c*k)+n'*(d*k):=by grind
   rw[this,<-ec,<-ed];lia
  exact JV KK p
 have eW:w1*w2/g=a*b*g:=by
  have:w1*w2=(a*b*g)*g:=by rw[ea,eb];grind
  rw[this];exact IW _ KK
 have eR:h1*h2/k=c*d*k:=by
  have:h1*h2=(c*d*k)*k:=by rw[ec,ed];grind
  rw[this];exact IW _ KK
 have UA:h1*h2/k/h1=d:=by
  rw[eR];have:c*d*k=d*h1:=by rw[ec];grind
  rw[this];exact IW _ KK
 have UB:h1*h2/k/h2=c:=by
  rw[eR];have:c*d*k=c*h2:=by rw[ed];grind
  rw[this];exact IW _ KK
 rw[UA,UB]at M3 ⊢;let#[_,#[e,ee],#[f,ef],q,eq]:=M3;have he:0<e:=dW (ee ▸ hg) MI;have x9:z8*e+q*f=1:=by
  have p:(z8*e+q*f)*gg=1*gg:=by
   have:(z8*e+q*f)*gg=z8*(e*gg)+q*(f*gg):=by grind
   rw[this,<-ee,<-ef];lia
  exact JV KK p
 have eC:g/gg=e:=by rw[ee];exact IW _ KK
 have eS:e*(c*s2-d*s1)/g=f:=by
  have:e*(c*s2-d*s1)=f*g:=by rw[ef,ee];grind
  rw[this];exact IW _ KK
 rw[eC,eS,eW,eR];have hW:0<a*b*g:=IF (IF ha hb) hg;have em:=JE (e*(d*s1)+f*u*w1) (a*b*g);have m1:=Ji (e*(d*s1)+f*u*w1) (show a*b*g≠0 by lia);have m2:=Jj (e*(d*s1)+f*u*w1) hW;generalize (e*(d*s1)+f*u*w1)%(a*b*g)=s at em m1 m2 ⊢;generalize (e*(d*s1)+f*u*w1)/(a*b*g)=t at em;subst ea eb ec ed;subst ee;exact Cl ha hb hc hd he hk MI x8 t9 ef x9 em m1 m2
def lh(hx:0<x)(hy:0<y)(M:Meas x y g u):0<x*y/g/\x*y/g<=x*y/\x*y/g/x*1<=y/\0<=x*y/g/x/\x*y/g/y<=x/\0<=x*y/g/y:=by
 have hg:=M.pos hx;let#[_,#[a,ea],#[b,eb],_]:=M;have ha:0<a:=dW (ea ▸ hx) hg;have hb:0<b:=dW (eb ▸ hy) hg;have e1:x*y/g=a*b*g:=by
  have:x*y=(a*b*g)*g:=by rw[ea,eb];grind
  rw[this];exact IW _ KK
 have e2:a*b*g/x=b:=by
  have:a*b*g=b*x:=by rw[ea];grind
  rw[this];exact IW _ KK
 have e3:a*b*g/y=a:=by
  have:a*b*g=a*y:=by rw[eb];grind
  rw[this];exact IW _ KK
 have p1:0<a*b*g:=IF (IF ha hb) hg;have q1:=(dH (w:=b) (h:=g) hb hg).1;have q2:=(dH (w:=a) (h:=g) ha hg).1;have q3:x*y=a*b*g*g:=by rw[ea,eb];grind
 have q4:=(dH (w:=a*b*g) (h:=g) p1 hg).1;rw[e1,e2,e3];lia
def cell(ns:List Int)(k:Int):Int:=ns.getD k.toNat 0
variable{ns:List Int}
def lm{k:Int}(h0:0<=k)(h1:k<(ns.length:Int)):atI (ns.map D.int) k=be (.int (cell ns k)):=by
 let#[j,rfl]:∃j:Nat,k=(j:Int):=#[k.toNat,KK];have hk:j<ns.length:=KK
 refine bI ?_;rw[Iy,ID hk];simp[cell,Js,ID hk]
def Cm{k:Int}(h1:(ns.length:Int)<=k):cell ns k=0:=by
 have hk:ns.length<=k.toNat:=KK
 simp[cell,Js,IV hk]
def cV(h:0<b):0<=a%b:=Ji a KK
def cX(h:0<b):a%b<b:=Jj a h
def Cn:SpD:=λds R=>∃(ns:List Int) (k:Int),ds=[.rol (ns.map D.int),.int k]/\0<=k/\R (.int (cell ns k))
def Co:SpD:=λds R=>∃i:Int,ds=[.int i]/\R (.bl true)
def Cp:SpD:=λds R=>∃w h s x y:Int,ds=[.tup [.int w,.int h,.int s],.int x,.int y]/\0<w/\0<h/\h<1073741824/\0<=s/\s<1073741824/\
 R (.bl (decide (y%h=0/\(x-y/h*s)%w=0)))
def Cq:SpD:=λds R=>∃a b c d u v:Int,ds=[.tup [.int a,.int b],.tup [.int c,.int d],.int u,.int v]/\a.natAbs<1073741824/\b.natAbs<1073741824/\c.natAbs<1073741824/\d.natAbs<1073741824/\
 ¬a*d=b*c/\R (.bl (decide ((u*d-v*c).fmod (a*d-b*c)=0/\(a*v-b*u).fmod (a*d-b*c)=0)))
def Cr:SpD:=λds R=>∃x y:Int,ds=[.int x,.int y]/\∀g:Int,0<=g->g∣x->g∣y->(∀e,e∣x->e∣y->e∣g)->R (.int g)
def vb:e∣(if x<0 then -x else x)↔e∣x:=by
 split
 .exact Int.dvd_neg
 .exact Iff.rfl
def vc(hb:e∣b):e∣a%b↔e∣a:=by
 have e1:=JE a b;rw[e1];constructor
 .intro h;have:=KO h (LA (c:=a/b) hb);simpa using this
 .intro h;exact Int.dvd_sub h (LA hb)
def Cs:SpD:=λds R=>∃w h s x y:Int,ds=[.tup [.int w,.int h,.int s],.int x,.int y]/\0<w/\0<h/\h<1073741824/\0<=s/\s<1073741824/\
 R (.tup [.int ((x-y/h*s)%w),.int (y%h)])
def Ct:SpD:=λds R=>∃a b c d:Int,ds=[.tup [.int a,.int b],.tup [.int c,.int d]]/\b.natAbs<4611686018427387904/\d.natAbs<4611686018427387904/\
 ∀p0 p1 q0,Lev a b c d p0 p1 q0->R (.tup [.tup [.int p0,.int p1],.tup [.int q0,.int 0]])
def Cu:SpD:=λds R=>∃a b c d:Int,ds=[.tup [.int a,.int b],.tup [.int c,.int d]]/\a.natAbs<4611686018427387904/\b.natAbs<4611686018427387904/\c.natAbs<4611686018427387904/\d.natAbs<4611686018427387904/\
 (a*d=b*c->R .non)/\(¬a*d=b*c->∀w h s,FamOf a b c d w h s->R (.tup [.int w,.int h,.int s]))
def Cw:SpD:=λds R=>∃w h s:Int,ds=[.tup [.int w,.int h,.int s]]/\0<w/\R (.tup [.int w,.int h,.int (-s%w)])
def Cy:SpD:=λds R=>∃w h s:Int,ds=[.tup [.int w,.int h,.int s]]/\0<w/\0<h/\w<4611686018427387904/\h<4611686018427387904/\0<=s/\s<4611686018427387904/\
 ∀w' h' s',FamOf 0 w (-h) s w' h' s'->R (.tup [.int w',.int h',.int s'])
def Cz:SpD:=λds R=>∃x y:Int,ds=[.int x,.int y]/\x.natAbs<4611686018427387904/\y.natAbs<4611686018427387904/\∀g u,Meas x y g u->R (.tup [.int g,.int u])
def CA:SpD:=λds R=>∃w1 h1 s1 w2 h2 s2:Int,ds=[.tup [.int w1,.int h1,.int s1],.tup [.int w2,.int h2,.int s2]]/\0<w1/\w1<=33554432/\0<h1/\h1<=33554432/\0<=s1/\s1<w1/\0<w2/\w2<=33554432/\0<h2/\h2<=33554432/\0<=s2/\s2<w2/\
 ∀w h s A,MetR w1 h1 s1 w2 h2 s2 w h s A->R (.tup [.int w,.int h,.int s])
def Drawn(xs:List Int):Prop:=∀x∈xs,0<=x/\x<5040
variable{xs:List Int}
def cJ{k:Int}(h0:0<=k)(h:k.toNat<xs.length):atI (xs.map D.int) k=be (.int (cell xs k)):=lm h0 KK
def vd:xs.map D.int++[D.int v]=(xs++[v]).map D.int:=Nq
def ve(h:Drawn xs)(h1:0<=v)(h2:v<5040):Drawn (xs++[v]):=by
 intro x hx;rcases IK.mp hx with q|q
 .exact h x q
 .rw[Ih.mp q];exact#[h1,h2]
def CB:SpD:=λds R=>∃(ns:List Int) (k:Int) (n:Nat),ds=[.rol (ns.map D.int),.int k,.int n]/\0<=k/\n<=100/\∀xs:List Int,xs.length=n->Drawn xs->R (.lst (xs.map D.int))
def CC:SpD:=λds R=>∃xs:List Int,ds=[.lst (xs.map D.int)]/\8<=xs.length/\Drawn xs/\
 ∀a b c d:Int,(-12<=a/\a<=12)->(-12<=b/\b<=12)->(-12<=c/\c<=12)->(-12<=d/\d<=12)->¬a*d=b*c->R (.lst [.tup [.int a,.int b],.tup [.int c,.int d]])
abbrev cs(x:Mr):List Nat:=x.cps.toList
def aZ(x:Mr):(cs x).length=x.length:=by simp[Str.length]
def vf:cs ""=[]:=rfl
def bE(x y:Mr):cs (x++y)=cs x++cs y:=by
 show((x++y:Mr)).cps.toList=_;rw[show(x++y:Mr).cps=x.cps++y.cps from rfl,Array.toList_append]
def aJ(x y:Mr):(x++y).length=x.length+y.length:=by rw[<-aZ,bE,Ix,aZ,aZ]
def bc(c:Nat):Prop:=c=46\/(49<=c/\c<=54)
def lr:∀(L:List Mr),cU (L.map D.str)=be L
 |[]=>rfl
 |x::L=>by simp[cU,lr L]
def fB(x:Mr):Prop:=0<x.length/\x.length<=7/\∀c∈cs x,bc c
def CD{x:Mr}(h:fB x)(v:Int):∃c,(x.length<=1000000/\atI (cs x) (v%(x.length:Int))=be c)/\bc c:=by
 have h1:=cV (a:=v) (show 0<(x.length:Int)by have:=h.1;lia);have h2:=cX (a:=v) (show 0<(x.length:Int)by have:=h.1;lia);let#[j,ej]:∃j:Nat,v%(x.length:Int)=(j:Int):=#[(v%(x.length:Int)).toNat,KK];have hj:j<(cs x).length:=by rw[aZ];lia
 refine#[(cs x)[j],#[by have:=h.2.1;lia,?_],h.2.2 _ (IR hj)];rw[ej];exact bI (ID hj)
def CF:fB "1.23456":=#[Nn,Nn,by unfold bc;decide+kernel]
def CG:fB "12":=#[Nn,Nn,by unfold bc;decide+kernel]
def CH:fB "1.":=#[Nn,Nn,by unfold bc;decide+kernel]
def CI:fB "...2":=#[Nn,Nn,by unfold bc;decide+kernel]
def CJ(k:Int):∃x,atI [D.str "1.23456",D.str "12",D.str "1.",D.str "...2"] (k%4)=be (.str x)/\fB x:=by
 rcases(KK:k%4=0\/k%4=1\/k%4=2\/k%4=3)with e|e|e|e<;>rw[e]
 .exact#[_,rfl,CF]
 .exact#[_,rfl,CG]
 .exact#[_,rfl,CH]
 .exact#[_,rfl,CI]
def CK(k:Int):∃m,atI [D.int 1,D.int 70] (k%2)=be (.int m)/\(m=1\/m=70):=by
 rcases(KK:k%2=0\/k%2=1)with e|e<;>rw[e]
 .exact#[1,rfl,.inl rfl]
 .exact#[70,rfl,.inr rfl]
structure Rows(L:List Str):Prop where
 many:1<=L.length/\L.length<=8
 wide:∃w,(1<=w/\w<=8)/\∀l∈L,l.length=w/\∀c∈cs l,bc c
variable{L:List Mr}
def Rows.of{w t:Nat}(h1:1<=t)(h2:t<=8)(hl:L.length=t)(w1:1<=w)(w2:w<=8)(h:∀l∈L,l.length=w/\∀c∈cs l,bc c):Rows L:=#[KK,w,#[w1,w2],h]
def CL{x:Mr}{c:Nat}{i:Nat}(h1:x.length=i)(h2:∀c∈cs x,bc c)(hc:bc c):(x++#[[c].toArray]:Mr).length=i+1/\∀c'∈cs (x++#[[c].toArray]),bc c':=by
 refine#[by rw[aJ,h1];rfl,λc' q=>?_];rw[bE]at q;rcases IK.mp q with q|q
 .exact h2 _ q
 .have:c'=c:=by simpa[cs]using q
  rw[this];exact hc
def CM{x:Mr}:L.map D.str++[D.str x]=(L++[x]).map D.str:=Nq
def dI(L:List Mr)(a b c d:Int):Str:=("["++Txt.join "/" L)++((((((((";":Mr)++(toString a:String))++",")++(toString b:String))++";")++(toString c:String))++",")++(toString d:String))++"]"
def bP(h:-12<=a/\a<=12):((toString a:String):Mr).length<=3:=by
 have key:∀k:Fin 25,((toString (((k.val:Nat):Int)-12):String):Mr).length<=3:=Nn
 have:=key #[(a+12).toNat,KK];have e:(((a+12).toNat:Nat):Int)-12=a:=KK
 rw[e]at this;exact this
def B12(a:Int):Prop:=-12<=a/\a<=12
def B12.lt(h:B12 a):a.natAbs<1073741824:=by unfold B12 at h;lia
def vg{w:Nat}(h:∀l∈L,l.length=w):(L.map (·.length)).sum=L.length*w:=by
 induction L with
 |nil=>simp
 |cons x L ih=>
  rw[IH,List.sum_cons,ih (λl hl=>h l (Im _ hl)),h x Ip,Iu,Jz,J1]
def vh(h:Rows L):(L.map (·.length)).sum+L.length*("/":Mr).length<=72:=by
 let#[h1,w,hw,h2]:=h;rw[vg (λl hl=>(h2 l hl).1)];have e:("/":Mr).length=1:=rfl;rw[e];have:=JU h1.2 hw.2;lia
def CN:SpD:=λds R=>∃xs:List Int,ds=[.lst (xs.map D.int)]/\40<=xs.length/\Drawn xs/\∀L:List Mr,Rows L->R (.lst (L.map D.str))
def CO:SpD:=λds R=>∃(L:List Mr) (a b c d:Int),ds=[.lst (L.map D.str),.tup [.int a,.int b],.tup [.int c,.int d]]/\Rows L/\B12 a/\B12 b/\B12 c/\B12 d/\R (.str (dI L a b c d))
structure Leaf where
 rows:List Mr
 a:Int
 b:Int
 c:Int
 d:Int
 w0:Int
 w1:Int
 w2:Int
 w3:Int
 w4:Int
 w5:Int
 hues:List Int
def Leaf.D(l:Leaf):My.D:=.tup [.lst (l.rows.map D.str),.tup [.int l.a,.int l.b],.tup [.int l.c,.int l.d],.tup [.int l.w0,.int l.w1,.int l.w2,.int l.w3,.int l.w4,.int l.w5],.lst (l.hues.map D.int)]
structure Leaf.Ok(l:Leaf):Prop where
 rows:Rows l.rows
 a:B12 l.a
 b:B12 l.b
 c:B12 l.c
 d:B12 l.d
 ne:¬l.a*l.d=l.b*l.c
 w0:l.w0.natAbs<=1
 w1:l.w1.natAbs<=1
 w2:l.w2.natAbs<=1
 w3:l.w3.natAbs<=1
 w4:l.w4.natAbs<=1000
 w5:l.w5.natAbs<=1000
 many:l.hues.length=7
 hue:∀h∈l.hues,0<=h/\h<=6
def onB(a b c d u v:Int):Bool:=decide ((u*d-v*c).fmod (a*d-b*c)=0/\(a*v-b*u).fmod (a*d-b*c)=0)
def scanRow(f:Int->Bool):Nat->List Nat->Option Nat
 |_,[]=>z6
 |i,c::r=>if c≠46/\f i=true then be c else scanRow f (i+1) r
def ca(f:Int->Int->Bool):Nat->List Mr->Option Nat
 |_,[]=>z6
 |j,l::r=>match scanRow (λi=>f i j) 0 (cs l)with|some c=>be c|none=>ca f (j+1) r
def Leaf.hit(l:Leaf)(x y:Int):Option Nat:=ca (λi j=>onB l.a l.b l.c l.d (l.w0*x+l.w1*y+l.w4-i) (l.w2*x+l.w3*y+l.w5-j)) 0 l.rows
def Leaf.shows(l:Leaf)(x y:Int):Int:=match l.hit x y with|some c=>cell l.hues ((c:Int)-48)|none=>0
def one_sign{c:Nat}:(#[[c].toArray]:Mr)="."↔c=46:=by
 constructor
 .intro h;have:([c].toArray:Array Nat)=(".":Mr).cps:=congrArg Str.cps h;have e:([c].toArray:Array Nat).toList=(".":Mr).cps.toList:=by rw[this]
  have e2:(".":Mr).cps.toList=[46]:=rfl;rw[e2]at e;simpa using e
 .rintro rfl;rfl
def digit_of{c:Nat}(h:49<=c/\c<=54):PySem.intText? (#[[c].toArray]:Mr)=be ((c:Int)-48):=by
 rcases(KK:c=49\/c=50\/c=51\/c=52\/c=53\/c=54)with e|e|e|e|e|e<;>subst e<;>decide+kernel
def at_str{j:Nat}{x:Mr}(h:L[j]?=be x):atI (L.map D.str) (j:Int)=be (.str x):=bI (by rw[Iy,h];rfl)
def bQ{n:Int}{x:D}(h:((Il n.toNat).map λk=>D.int ((k:Nat):Int))[k]?=be x):k<n.toNat/\x=.int (k:Int):=by
 have hk:k<n.toNat:=by simpa using(IB.mp h).1
 refine#[hk,?_];simp[hk]at h;exact h.symm
def bF{n:Int}:((Il n.toNat).map λk=>D.int ((k:Nat):Int)).length=n.toNat:=Nq
def bb:List Leaf->Int->Int->Int
 |[],_,_=>0
 |l::r,x,y=>if l.shows x y≠0 then l.shows x y else bb r x y
variable{hs:List Int}
def CP(h:∀h∈hs,0<=h/\h<=6)(k:Int):0<=cell hs k/\cell hs k<=6:=by
 by_cases hk:k.toNat<hs.length
 .have:cell hs k=hs[k.toNat]:=by simp[cell,Js,ID hk]
  rw[this];exact h _ (IR hk)
 .have:cell hs k=0:=by simp[cell,Js,IV (Ky hk)]
  lia
variable{l:Leaf}
def Leaf.shows_le(h:l.Ok)(x y:Int):0<=l.shows x y/\l.shows x y<=6:=by
 unfold Leaf.shows;split
 .exact CP h.hue _
 .lia
def vi:∀{ls:List Leaf} (x y:Int),(∀l∈ls,l.Ok)->0<=bb ls x y/\bb ls x y<=6
 |[],_,_,_=>by simp[bb]
 |l::r,x,y,h=>by
  unfold bb;split
  .exact Leaf.shows_le (h l Ip) x y
  .exact vi x y λl' q=>h l' (Im _ q)
def bu(L:List Mr)(a b c d:Int):Leaf:=#[L,a,b,c,d,1,0,0,1,0,0,[0,1,2,3,4,5,6]]
def CQ:SpD:=λds R=>∃(ns:List Int) (k:Int),ds=[.rol (ns.map D.int),.int k]/\0<=k/\
 ∀(L:List Mr) (a b c d:Int),Rows L->B12 a->B12 b->B12 c->B12 d->¬a*d=b*c->R (.lst [.str (dI L a b c d),.int 0,.lst [(bu L a b c d).D]])
def CS:SpD:=λds R=>∃(l:Leaf) (x y:Int),ds=[l.D,.int x,.int y]/\l.Ok/\R (.int (l.shows x y))
def CT:SpD:=λds R=>∃(ls:List Leaf) (x y:Int),ds=[.lst (ls.map Leaf.D),.int x,.int y]/\(∀l∈ls,l.Ok)/\R (.int (bb ls x y))
inductive Pat where
 |mot (L:List Str) (a b c d:Int)
 |over (p q:Pat)
 |sh (a b:Int) (p:Pat)
 |mir (p:Pat)
 |tur (p:Pat)
 |hue (f g:Int) (p:Pat)
def Pat.text:Pat->Mr
 |.mot L a b c d=>dI L a b c d
 |.over p q=>(((("(":Mr)++p.text)++"|")++q.text)++")"
 |.sh a b p=>((((("s":Mr)++(toString a:String))++",")++(toString b:String))++":")++p.text
 |.mir p=>("m":Mr)++p.text
 |.tur p=>("t":Mr)++p.text
 |.hue f g p=>((("h":Mr)++(toString f:String))++(toString g:String))++p.text
def Pat.depth:Pat->Nat
 |.mot ..=>0
 |.over p q=>1+max p.depth q.depth
 |.sh _ _ p=>p.depth+1
 |.mir p=>p.depth+1
 |.tur p=>p.depth+1
 |.hue _ _ p=>p.depth+1
def Leaf.by(l:Leaf)(b0 b1 b2 b3 b4 b5:Int):Leaf:=
 {l with w0:=l.w0*b0+l.w1*b2,w1:=l.w0*b1+l.w1*b3,w2:=l.w2*b0+l.w3*b2,w3:=l.w2*b1+l.w3*b3,w4:=l.w4+l.w0*b4+l.w1*b5,w5:=l.w5+l.w2*b4+l.w3*b5}
def bR(f g h:Int):Int:=if h=f then g else h
def Leaf.dye(l:Leaf)(f g:Int):Leaf:={l with hues:=l.hues.map (bR f g)}
def Pat.leaves:Pat->List Leaf
 |.mot L a b c d=>[bu L a b c d]
 |.over p q=>p.leaves++q.leaves
 |.sh a b p=>p.leaves.map (λl=>l.by 1 0 0 1 (-a) (-b))
 |.mir p=>p.leaves.map (λl=>l.by (-1) 0 0 1 0 0)
 |.tur p=>p.leaves.map (λl=>l.by 0 1 (-1) 0 0 0)
 |.hue f g p=>p.leaves.map (λl=>(l.by 1 0 0 1 0 0).dye f g)
def Pat.show:Pat->Int->Int->Int
 |.mot L a b c d,x,y=>(bu L a b c d).shows x y
 |.over p q,x,y=>if p.show x y≠0 then p.show x y else q.show x y
 |.sh a b p,x,y=>p.show (x-a) (y-b)
 |.mir p,x,y=>p.show (-x) y
 |.tur p,x,y=>p.show y (-x)
 |.hue f g p,x,y=>bR f g (p.show x y)
def Pat.Wf:Pat->Prop
 |.mot L a b c d=>Rows L/\B12 a/\B12 b/\B12 c/\B12 d/\¬a*d=b*c
 |.over p q=>p.Wf/\q.Wf
 |.sh a b p=>B12 a/\B12 b/\p.Wf
 |.mir p=>p.Wf
 |.tur p=>p.Wf
 |.hue f g p=>(1<=f/\f<=6)/\(1<=g/\g<=6)/\p.Wf
def Leaf.by_shows(l:Leaf)(b0 b1 b2 b3 b4 b5 x y:Int):(l.by b0 b1 b2 b3 b4 b5).shows x y=l.shows (b0*x+b1*y+b4) (b2*x+b3*y+b5):=by
 have e1:(l.w0*b0+l.w1*b2)*x+(l.w0*b1+l.w1*b3)*y+(l.w4+l.w0*b4+l.w1*b5)=l.w0*(b0*x+b1*y+b4)+l.w1*(b2*x+b3*y+b5)+l.w4:=Oi
 have e2:(l.w2*b0+l.w3*b2)*x+(l.w2*b1+l.w3*b3)*y+(l.w5+l.w2*b4+l.w3*b5)=l.w2*(b0*x+b1*y+b4)+l.w3*(b2*x+b3*y+b5)+l.w5:=Oi
 simp only[Leaf.shows,Leaf.hit,Leaf.by,e1,e2]
def gm(b0 b1 b2 b3 b4 b5 x y:Int):∀ls:List Leaf,bb (ls.map (λl=>l.by b0 b1 b2 b3 b4 b5)) x y=bb ls (b0*x+b1*y+b4) (b2*x+b3*y+b5)
 |[]=>rfl
 |l::r=>by
  rw[IH,bb,bb,Leaf.by_shows,gm b0 b1 b2 b3 b4 b5 x y r]
def scanRow_sign{f:Int->Bool}:∀{cs:List Nat} {i c:Nat},(∀c∈cs,bc c)->scanRow f i cs=be c->49<=c/\c<=54
 |[],_,_,_,h=>by cases h
 |a::r,i,c,hs,h=>by
  rw[scanRow]at h;split at h
  .rename_i q;cases h;have:=hs a Ip;unfold bc at this;have:=q.1;lia
  .exact scanRow_sign (λc q=>hs c (Im _ q)) h
def lu{f:Int->Int->Bool}:∀{L:List Mr} {j c:Nat},(∀l∈L,∀c∈cs l,bc c)->ca f j L=be c->49<=c/\c<=54
 |[],_,_,_,h=>by cases h
 |a::r,j,c,hs,h=>by
  rw[ca]at h;split at h
  .rename_i q;cases h;exact scanRow_sign (hs a Ip) q
  .exact lu (λl q=>hs l (Im _ q)) h
def CU{k:Int}(h:k.toNat<hs.length):cell (hs.map (bR f g)) k=bR f g (cell hs k):=by
 simp[cell,Js,Iy,ID h]
def Leaf.dye_shows(ok:l.Ok)(hf:1<=f)(x y:Int):(l.dye f g).shows x y=bR f g (l.shows x y):=by
 have e:(l.dye f g).hit x y=l.hit x y:=rfl;unfold Leaf.shows;rw[e];cases h:l.hit x y with
 |none=>simp[bR];lia
 |some c=>
  have hc:49<=c/\c<=54:=lu (λl' q=>let ⟨_,_,_,h⟩:=ok.rows;(h l' q).2) h;exact CU (by rw[ok.many];lia)
def vj(hf:1<=f)(hg:1<=g):bR f g h=0↔h=0:=by
 unfold bR;split<;>lia
def vk{f g:Int}(hf:1<=f)(hg:1<=g)(x y:Int):∀ls:List Leaf,(∀l∈ls,l.Ok)->bb (ls.map (λl=>l.dye f g)) x y=bR f g (bb ls x y)
 |[],_=>by simp[bb,bR];lia
 |l::r,h=>by
  rw[IH,bb,bb,Leaf.dye_shows (h l Ip) hf,vk hf hg x y r λl q=>h l (Im _ q)];by_cases z:l.shows x y=0
  .rw[if_neg (λq=>q ((vj hf hg).mpr z)),if_neg (λq=>q z)]
  .rw[if_pos (λq=>z ((vj hf hg).mp q)),if_pos z]
def vm(x y:Int):∀(a b:List Leaf),bb (a++b) x y=if bb a x y≠0 then bb a x y else bb b x y
 |[],b=>by simp[bb]
 |l::r,b=>by
  rw[List.cons_append,bb,bb];by_cases z:l.shows x y≠0
  .rw[if_pos z,if_pos z,if_pos z]
  .rw[if_neg z,if_neg z,vm x y r b]
structure Leaf.Near(l:Leaf)(n:Nat):Prop where
 u0:(l.w0.natAbs=1/\l.w1=0/\l.w2=0/\l.w3.natAbs=1)\/(l.w0=0/\l.w1.natAbs=1/\l.w2.natAbs=1/\l.w3=0)
 w4:l.w4.natAbs<=24*n
 w5:l.w5.natAbs<=24*n
variable{n:Nat}
def Leaf.Near.mono{m:Nat}(h:l.Near n)(k:n<=m):l.Near m:=#[h.u0,by have:=h.w4;lia,by have:=h.w5;lia]
def Leaf.Near.unit(h:l.Near n):(l.w0=1\/l.w0=-1\/l.w0=0)/\(l.w1=1\/l.w1=-1\/l.w1=0)/\(l.w2=1\/l.w2=-1\/l.w2=0)/\(l.w3=1\/l.w3=-1\/l.w3=0):=by
 have k:∀{w:Int},w.natAbs=1->w=1\/w=-1\/w=0:=λ{w} e=>(Int.natAbs_eq w).imp (λz=>by rw[z,e];rfl) λz=>.inl (by rw[z,e];rfl);rcases h.u0 with⟨p,q,r,t⟩|⟨p,q,r,t⟩
 .exact#[k p,.inr (.inr q),.inr (.inr r),k t]
 .exact#[.inr (.inr p),k q,k r,.inr (.inr t)]
def vn(h:w=1\/w=-1\/w=0):w.natAbs<=1:=by rcases h with rfl|rfl|rfl<;>decide
def near_add(h:e.natAbs<=24*n)(hw:w=1\/w=-1\/w=0)(hv:v=1\/v=-1\/v=0)(ha:B12 a)(hb:B12 b):(e+w* -a+v* -b).natAbs<=24*(n+1):=by
 have m:∀{w a:Int},(w=1\/w=-1\/w=0)->B12 a->(w* -a).natAbs<=12:=λ{w a} hw ha=>by
  rw[Jh,KM];exact JU (vn hw) (show a.natAbs<=12 by unfold B12 at ha;clear hw;lia)
 rw[show 24*(n+1)=24*n+12+12 from rfl];exact Io (KF _ _) (J4 (Io (KF _ _) (J4 h (m hw ha))) (m hv hb))
def CV(h:l.Near n)(ha:B12 a)(hb:B12 b):(l.by 1 0 0 1 (-a) (-b)).Near (n+1):=by
 let#[h0,h1,h2,h3]:=h.unit;exact#[by simpa[Leaf.by]using h.u0,near_add h.w4 h0 h1 ha hb,near_add h.w5 h2 h3 ha hb]
def CW(h:l.Near n):(l.by (-1) 0 0 1 0 0).Near (n+1):=by
 have p:=h.w4;have q:=h.w5;exact#[by simpa[Leaf.by]using h.u0,by simp[Leaf.by];lia,by simp[Leaf.by];lia]
def CY(h:l.Near n):(l.by 0 1 (-1) 0 0 0).Near (n+1):=by
 have p:=h.w4;have q:=h.w5;refine#[?_,by simp[Leaf.by];lia,by simp[Leaf.by];lia];rcases h.u0 with⟨a,b,c,d⟩|⟨a,b,c,d⟩
 .exact .inr (by simp[Leaf.by,a,b,c,d])
 .exact .inl (by simp[Leaf.by,a,b,c,d])
def vo(h:l.Near n):((l.by 1 0 0 1 0 0).dye f g).Near (n+1):=by
 have p:=h.w4;have q:=h.w5;exact#[by simpa[Leaf.by,Leaf.dye]using h.u0,by simp[Leaf.by,Leaf.dye];lia,by simp[Leaf.by,Leaf.dye];lia]
structure Leaf.Good(l:Leaf):Prop where
 rows:Rows l.rows
 a:B12 l.a
 b:B12 l.b
 c:B12 l.c
 d:B12 l.d
 ne:¬l.a*l.d=l.b*l.c
 many:l.hues.length=7
 hue:∀h∈l.hues,0<=h/\h<=6
def Leaf.ok_of(g:l.Good)(h:l.Near n)(hn:n<=40):l.Ok:=by
 have:=h.u0;have:=h.w4;have:=h.w5;exact#[g.rows,g.a,g.b,g.c,g.d,g.ne,KK,KK,KK,KK,KK,KK,g.many,g.hue]
def Pat.leaf_good:∀{p:Pat},p.Wf->∀l∈p.leaves,l.Good/\l.Near p.depth
 |.mot L a b c d,h,l,q=>by
  have:l=bu L a b c d:=by simpa[Pat.leaves]using q
  subst this;let#[h1,h2,h3,h4,h5,h6]:=h;exact#[#[h1,h2,h3,h4,h5,h6,rfl,by intro h q;simp[bu]at q;lia],#[by simp[bu],by simp[bu],by simp[bu]]]
 |.over p r,h,l,q=>by
  rcases IK.mp q with q|q
  .let#[g,n]:=Pat.leaf_good h.1 l q;exact#[g,n.mono (by simp only[Pat.depth];lia)]
  .let#[g,n]:=Pat.leaf_good h.2 l q;exact#[g,n.mono (by simp only[Pat.depth];lia)]
 |.sh a b p,h,l,q=>by
  let#[l',q',rfl]:=IJ.mp q;let#[g,n]:=Pat.leaf_good h.2.2 l' q';exact#[#[g.rows,g.a,g.b,g.c,g.d,g.ne,g.many,g.hue],CV n h.1 h.2.1]
 |.mir p,h,l,q=>by
  let#[l',q',rfl]:=IJ.mp q;let#[g,n]:=Pat.leaf_good (p:=p) h l' q';exact#[#[g.rows,g.a,g.b,g.c,g.d,g.ne,g.many,g.hue],CW n]
 |.tur p,h,l,q=>by
  let#[l',q',rfl]:=IJ.mp q;let#[g,n]:=Pat.leaf_good (p:=p) h l' q';exact#[#[g.rows,g.a,g.b,g.c,g.d,g.ne,g.many,g.hue],CY n]
 |.hue f k p,h,l,q=>by
  let#[l',q',rfl]:=IJ.mp q;let#[g,n]:=Pat.leaf_good (p:=p) h.2.2 l' q';refine#[#[g.rows,g.a,g.b,g.c,g.d,g.ne,?_,λv hv=>?_],vo n]
  .show(l'.hues.map _).length=7;rw[Ij];exact g.many
  .let#[u,hu,rfl]:=IJ.mp hv;have:=g.hue u hu;have:=h.2.1;unfold bR;split<;>lia
variable{p:Pat}
def Pat.leaf_ok(h:p.Wf)(hd:p.depth<=40):∀l∈p.leaves,l.Ok:=λl q=>Leaf.ok_of (Pat.leaf_good h l q).1 (Pat.leaf_good h l q).2 hd
def Pat.show_leaves:∀{p:Pat},p.Wf->p.depth<=40->∀x y,bb p.leaves x y=p.show x y
 |.mot L a b c d,_,_,x,y=>by
  simp only[Pat.leaves,Pat.show,bb];split
  .rfl
  .lia
 |.over p q,h,hd,x,y=>by
  simp only[Pat.depth]at hd;rw[Pat.leaves,vm,Pat.show_leaves h.1 KK,Pat.show_leaves h.2 KK,Pat.show]
 |.sh a b p,h,hd,x,y=>by
  simp only[Pat.depth]at hd;rw[Pat.leaves,gm,Pat.show_leaves h.2.2 KK,Pat.show];congr 1<;>lia
 |.mir p,h,hd,x,y=>by
  simp only[Pat.depth]at hd;rw[Pat.leaves,gm,Pat.show_leaves (p:=p) h KK,Pat.show];congr 1<;>lia
 |.tur p,h,hd,x,y=>by
  simp only[Pat.depth]at hd;rw[Pat.leaves,gm,Pat.show_leaves (p:=p) h KK,Pat.show];congr 1<;>lia
 |.hue f g p,h,hd,x,y=>by
  simp only[Pat.depth]at hd;have e:p.leaves.map (λl=>(l.by 1 0 0 1 0 0).dye f g)=(p.leaves.map (λl=>l.by 1 0 0 1 0 0)).map (λl=>l.dye f g):=by rw[JW];rfl
  rw[Pat.leaves,e,vk h.1.1 h.2.1.1,gm,Pat.show_leaves h.2.2 KK,Pat.show]
  .congr 2<;>lia
  .intro l q;let#[l',q',rfl]:=IJ.mp q;let#[g',n]:=Pat.leaf_good h.2.2 l' q';have n':=vo (f:=f) (g:=g) n;have:(l'.by 1 0 0 1 0 0).Near (p.depth+1):=#[n'.u0,n'.w4,n'.w5];exact Leaf.ok_of #[g'.rows,g'.a,g'.b,g'.c,g'.d,g'.ne,g'.many,g'.hue] this KK
def Pat.D(p:Pat):My.D:=.lst [.str p.text,.int p.depth,.lst (p.leaves.map Leaf.D)]
def Leaf.T(dy:Bool)(d_ new b0 b1 b2 b3 b4 b5:Int)(l:Leaf):Leaf:=if dy then(l.by b0 b1 b2 b3 b4 b5).dye d_ new else l.by b0 b1 b2 b3 b4 b5
def fC(h:1<=a/\a<=6):((toString a:String):Mr).length<=3:=bP KK
def Wraps(p:Pat)(H:Prop)(R:My.D->Prop):Prop:=(5<=p.depth->R p.D)/\(p.depth<5->R (Pat.mir p).D/\R (Pat.tur p).D/\(∀a b,B12 a->B12 b->R (Pat.sh a b p).D)/\(H->∀f g:Int,(1<=f/\f<=6)->(1<=g/\g<=6)->R (Pat.hue f g p).D))
variable{A:Int}
def CZ{R:My.D->Prop}(h:Wraps p (j=3) R)(hd:p.depth<5){k B d_ new:Int}(hA:B12 A)(hB:B12 B)(ho:1<=d_/\d_<=6)(hn:1<=new/\new<=6)(hj:0<=j/\j<4):
  ∃(hs:Mr) (b0 b1 b2 b3 b4 b5:Int),atI [D.str "m",D.str "t",D.str ((((("s":Mr)++(toString A:String))++",")++(toString B:String))++":"),D.str ((("h":Mr)++(toString d_:String))++(toString new:String))] j=be (.str hs)/\
   atI ([D.tup [.int (-1),.int 0,.int 0,.int 1,.int 0,.int 0],D.tup [.int 0,.int 1,.int (-1),.int 0,.int 0,.int 0]]++[D.tup [.int 1,.int 0,.int 0,.int 1,.int (-A),.int (-B)],D.tup [.int 1,.int 0,.int 0,.int 1,.int 0,.int 0]]) j=be (.tup [.int b0,.int b1,.int b2,.int b3,.int b4,.int b5])/\
   (b0.natAbs<=1/\b1.natAbs<=1/\b2.natAbs<=1/\b3.natAbs<=1/\b4.natAbs<=12/\b5.natAbs<=12)/\hs.length<=20/\
   R (.lst [.str (hs++p.text),.int (p.depth+1),.lst ((p.leaves.map (Leaf.T (decide (j=3)) d_ new b0 b1 b2 b3 b4 b5)).map Leaf.D)]):=by
 let#[h1,h2,h3,h4]:=h.2 hd;have l1:("s":Mr).length=1:=rfl;have l2:(",":Mr).length=1:=rfl;have l3:(":":Mr).length=1:=rfl;have l4:("h":Mr).length=1:=rfl;have lA:=bP hA;have lB:=bP hB;have lo:=fC ho;have ln:=fC hn;have eD:∀n:Nat,D.int ((n+1:Nat):Int)=D.int ((n:Int)+1):=λn=>by congr 1
 unfold B12 at hA hB;rcases(KK:j=0\/j=1\/j=2\/j=3)with rfl|rfl|rfl|rfl
 .exact#[_,_,_,_,_,_,_,rfl,rfl,KK,Nk,h1]
 .exact#[_,_,_,_,_,_,_,rfl,rfl,KK,Nk,h2]
 .refine#[_,_,_,_,_,_,_,rfl,rfl,KK,?_,h3 A B hA hB]
  repeat rw[aJ]
  lia
 .refine#[_,_,_,_,_,_,_,rfl,rfl,KK,?_,h4 rfl d_ new ho hn]
  repeat rw[aJ]
  lia
def C0(h d_ new:Int):atI [D.int h,D.int new] (if decide (h=d_)=true then(1:Int)else 0)=be (.int (bR d_ new h)):=by
 unfold bR;by_cases e:h=d_
 .rw[if_pos e,if_pos (by simpa using e)];rfl
 .rw[if_neg e,if_neg (by simpa using e)];rfl
def take_snoc{α:Type}{xs:List α}{x:α}(h:xs[k]?=be x):xs.take (k+1)=xs.take k++[x]:=by
 have hk:k<xs.length:=(IB.mp h).1;rw[Ll,h];rfl
def Pat.leaves_len:∀(p:Pat),p.leaves.length<=2^p.depth
 |.mot ..=>Ii _
 |.over p q=>by
  have h1:=p.leaves_len;have h2:=q.leaves_len;have m1:2^p.depth<=2^(max p.depth q.depth):=JX Nk (LB _ _);have m2:2^q.depth<=2^(max p.depth q.depth):=JX Nk (LC _ _);rw[Pat.leaves,Ix,Pat.depth,LD];lia
 |.sh a b p=>by rw[Pat.leaves,Ij,Pat.depth,Ju];have:=p.leaves_len;lia
 |.mir p=>by rw[Pat.leaves,Ij,Pat.depth,Ju];have:=p.leaves_len;lia
 |.tur p=>by rw[Pat.leaves,Ij,Pat.depth,Ju];have:=p.leaves_len;lia
 |.hue f g p=>by rw[Pat.leaves,Ij,Pat.depth,Ju];have:=p.leaves_len;lia
def Pat.leaves_32(h:p.depth<=5):p.leaves.length<=32:=Io p.leaves_len (JX Nk h)
def vp:SpD:=λds R=>∃(p:Pat) (draw:Int),ds=[p.D,.int draw]/\p.Wf/\p.depth<=5/\p.text.length<=100000/\Wraps p (draw%4=3) R
def vq(hn:¬a*d=b*c)(h:(u*d-v*c).fmod (a*d-b*c)=0/\(a*v-b*u).fmod (a*d-b*c)=0):∃i j,u=i*a+j*c/\v=i*b+j*d:=by
 have hz:a*d-b*c≠0:=Ow
 let#[i,ei]:(a*d-b*c)∣(u*d-v*c):=#[_,(LF h.1).symm];let#[j,ej]:(a*d-b*c)∣(a*v-b*u):=#[_,(LF h.2).symm];refine#[i,j,?_,?_]
 .have:(a*d-b*c)*u=(a*d-b*c)*(i*a+j*c):=by
   have q1:(a*d-b*c)*u=a*(u*d-v*c)+c*(a*v-b*u):=Oi
   rw[q1,ei,ej];grind
  exact KN hz this
 .have:(a*d-b*c)*v=(a*d-b*c)*(i*b+j*d):=by
   have q1:(a*d-b*c)*v=b*(u*d-v*c)+d*(a*v-b*u):=Oi
   rw[q1,ei,ej];grind
  exact KN hz this
def Uni.trans{x0 x1 y0 y1:Int}(h:Uni a b c d p0 p1 q0 q1)(k:Uni p0 p1 q0 q1 x0 x1 y0 y1):Uni a b c d x0 x1 y0 y1:=by
 let#[m,n,k1,l,hd,rfl,rfl,rfl,rfl]:=h;let#[m',n',k',l',f9,rfl,rfl,rfl,rfl]:=k;have dt:(m'*m+n'*k1)*(k'*n+l'*l)-(m'*n+n'*l)*(k'*m+l'*k1)=(m'*l'-n'*k')*(m*l-n*k1):=Oi
 refine#[m'*m+n'*k1,m'*n+n'*l,k'*m+l'*k1,k'*n+l'*l,?_,Oi,Oi,Oi,Oi];rw[dt];rcases hd with e|e<;>rcases f9 with e'|e'<;>rw[e,e']<;>decide
def fD:∀(n:Nat) (a b c d:Int),d.natAbs<=n->∃p0 p1 q0,Lev a b c d p0 p1 q0
 |n,a,b,c,d,hn=>by
  by_cases hd:d=0
  .subst hd;by_cases hb:0<=b
   .exact#[a,b,c,hb,Uni.refl a b c 0]
   .exact#[-a,-b,c,KK,(Uni.refl a b c 0).neg]
  .match n,hn with
   |0,hn=>exact absurd (KK:d=0) hd
   |n+1,hn=>
    have lt:=(fdm b d hd).1;let#[p0,p1,q0,h0,hu]:=fD n c d (a-b.fdiv d*c) (b-b.fdiv d*d) KK;exact#[p0,p1,q0,h0,((Uni.refl a b c d).step (b.fdiv d)).trans hu]
def C1(hn:¬a*d=b*c)(g0:0<=g)(g1:g∣b)(g2:g∣d)(g3:∀e,e∣b->e∣d->e∣g):
  ∃w s,FamOf a b c d w g s:=by
 let#[p0,p1,q0,hL]:=fD d.natAbs a b c d (Ii _);have hF:=gl hn hL;have hp:=hF.2.1;let#[m,n,k,l,_,e1,e2,e3,e4]:=hL.2;let#[m',n',k',l',_,f1,f2,f3,f4]:=hL.2.inv;have d1:p1∣g:=g3 p1 #[m',by rw[f2];grind] #[k',by rw[f4];grind];have d2:g∣p1:=by
  rw[e2];exact KO (Ki g1) (Ki g2)
 have:p1=g:=LG KK g0 d1 d2;subst this;exact#[_,_,hF]
def FamOf.uniq_lean(f:FamOf a b c d w h s)(e1:x=i*a+j*c)(e2:h=i*b+j*d)(h0:0<=x)(h1:x<=s):x=s:=by
 let#[hw,hh,hs,Mv,hu]:=f;let#[m,n,k,l,_,f1,f2,f3,f4]:=hu.inv;have ex:x=(i*m+j*k)*w+(i*n+j*l)*s:=by rw[e1,f1,f3];grind
 have eh:h=(i*n+j*l)*h:=by
  have:i*b+j*d=(i*n+j*l)*h:=by rw[f2,f4];grind
  rw[<-this];exact e2
 have one:i*n+j*l=1:=by
  have:(i*n+j*l)*h=1*h:=by lia
  exact JV KK this
 rw[one]at ex;generalize i*m+j*k=t at ex;have:t*w=x-s:=KK
 rcases(KK:t<=-1\/t=0\/1<=t)with z|z|z
 .have:=IP z (show 0<=w by lia);lia
 .subst z;lia
 .have:=IP z (show 0<=w by lia);lia
def notT{c:Prop}[Decidable c](h:(!decide c)=true):¬c:=by
 intro q;rw[decide_eq_true q]at h;cases h
def notF{c:Prop}[Decidable c](h:¬(!decide c)=true):c:=by
 rcases Classical.em c with q|q
 .exact q
 .rw[decide_eq_false q]at h;exact absurd rfl h
def Leaf.o0(l:Leaf):Int:=l.w0*l.a+l.w2*l.b
def Leaf.o1(l:Leaf):Int:=l.w1*l.a+l.w3*l.b
def Leaf.t0(l:Leaf):Int:=l.w0*l.c+l.w2*l.d
def Leaf.t1(l:Leaf):Int:=l.w1*l.c+l.w3*l.d
def dJ(h:w=1\/w=-1\/w=0)(ha:B12 a):(w*a).natAbs<=12:=by
 rw[Jh];exact JU (vn h) (show a.natAbs<=12 by unfold B12 at ha;clear h;lia)
def vt(ha:B12 a)(hb:B12 b):(a*b).natAbs<=144:=by
 unfold B12 at ha hb;rw[Jh];exact Io (JU (show a.natAbs<=12 by lia) (show b.natAbs<=12 by lia)) Nk
def Leaf.sizes(g:l.Good)(h:l.Near n):l.o0.natAbs<=24/\l.o1.natAbs<=24/\l.t0.natAbs<=24/\l.t1.natAbs<=24/\¬l.o0*l.t1=l.o1*l.t0/\(l.o0*l.t1-l.o1*l.t0).natAbs<=288:=by
 let#[h0,h1,h2,h3]:=h.unit;have a0:=dJ h0 g.a;have a1:=dJ h1 g.a;have b2:=dJ h2 g.b;have b3:=dJ h3 g.b;have c0:=dJ h0 g.c;have c1:=dJ h1 g.c;have d2:=dJ h2 g.d;have d3:=dJ h3 g.d;have dt:l.o0*l.t1-l.o1*l.t0=(l.w0*l.w3-l.w1*l.w2)*(l.a*l.d-l.b*l.c):=by unfold Leaf.o0 Leaf.o1 Leaf.t0 Leaf.t1;grind
 have dw:(l.w0*l.w3-l.w1*l.w2).natAbs=1:=by
  rcases h.u0 with⟨p,q,r,t⟩|⟨p,q,r,t⟩
  .rw[q,LH,Int.sub_zero,Jh,p,t]
  .rw[p,LH,Int.zero_sub,KM,Jh,q,r]
 have da:(l.o0*l.t1-l.o1*l.t0).natAbs=(l.a*l.d-l.b*l.c).natAbs:=by rw[dt,Jh,dw,Nat.one_mul]
 refine#[ab24 a0 b2,ab24 a1 b3,ab24 c0 d2,ab24 c1 d3,λz=>g.ne ?_,?_]
 .rw[z,Int.sub_self]at da;exact Int.sub_eq_zero.mp (Lh.mp da.symm)
 .rw[da];exact Io (KH _ _) (J4 (vt g.a g.d) (vt g.b g.c))
def C3:SpD:=λds R=>∃(l:Leaf) (n:Nat),ds=[l.D]/\l.Good/\l.Near n/\∀w h s:Int,FamOf l.o0 l.o1 l.t0 l.t1 w h s->w*h<=288->R (.tup [.int w,.int h,.int s])
def C4(h1:y%h=0/\(x-y/h*s)%w=0):∃i j,x=i*w+j*s/\y=j*h:=by
 refine#[(x-y/h*s)/w,y/h,?_,?_]
 .have:=JY (x-y/h*s) w;rw[h1.2]at this;rw[IN w]at this;lia
 .have:=JY y h;rw[h1.1,IN h]at this;lia
def fE(x y:Int):∃g u,Meas x y g u:=by
 let#[p0,p1,q0,hL]:=fD y.natAbs 1 x 0 y (Ii _);exact#[p1,p0,va #[hL.1,hL.2]]
def Meas.gcd{G:Int}(h:Meas x y g u)(g0:0<=G)(g1:G∣x)(g2:G∣y)(g3:∀e,e∣x->e∣y->e∣G):G=g:=by
 let#[h0,#[i,ei],#[j,ej],n,en]:=h;refine LG g0 h0 ?_ (g3 g #[i,by rw[ei,IN]] #[j,by rw[ej,IN]]);rw[en];exact KO (Ki g1) (Ki g2)
structure Fm(w h s:Int):Prop where
 w0:0<w
 w1:w<=720
 h0:0<h
 h1:h<=720
 s0:0<=s
 sw:s<w
def C5(f:Fm w1 h1 s1)(k:Fm w2 h2 s2):∃g u w h s A,Meas w1 w2 g u/\w=w1*w2/g/\MetR w1 h1 s1 w2 h2 s2 w h s A:=by
 let#[g,u,M1]:=fE w1 w2;let#[k',u',M2]:=fE h1 h2;let#[gg,z8,M3]:=fE g (h1*h2/k'/h2*s2-h1*h2/k'/h1*s1);exact#[g,u,_,_,_,_,M1,rfl,lf f.w0 k.w0 f.h0 k.h0 M1 M2 M3]
def MetR.high(M:MetR w1 h1 s1 w2 h2 s2 w h s A)(hh:0<h1)(hj:1<=j)(e1:∃i,x=i*w1+j*s1)(e2:∃i k,x=i*w2+k*s2/\j*h1=k*h2):h<=j*h1/\(j*h1=h->0<=x->x<w->x=s):=by
 let#[i,e1]:=e1;let#[i',k,e3,e4]:=e2;let#[a,b,e5,e6]:=M.all x (j*h1) #[i,j,e1,rfl] #[i',k,e3,e4];have hp:0<j*h1:=IF KK hh;have hb:1<=b:=by
  rcases(KK:b<=0\/1<=b)with z|z
  .have:=Jt z (show 0<=h by have:=M.h0;lia);lia
  .exact z
 refine#[?_,λe x0 x1=>?_]
 .have:=IP hb (show 0<=h by have:=M.h0;lia);lia
 .have ob:b=1:=by
   have:b*h=1*h:=by lia
   exact JV (by have:=M.h0;lia) this
  rw[ob]at e5;have s0:=M.s0;have sw:=M.sw;have:a*w=x-s:=KK
  rcases(KK:a<=-1\/a=0\/1<=a)with z|z|z
  .have:=IP z (show 0<=w by lia);lia
  .subst z;lia
  .have:=IP z (show 0<=w by lia);lia
def C6:SpD:=λds R=>∃w1 h1 s1 w2 h2 s2:Int,ds=[.tup [.int w1,.int h1,.int s1],.tup [.int w2,.int h2,.int s2]]/\Fm w1 h1 s1/\Fm w2 h2 s2/\
 ∀w h s A,MetR w1 h1 s1 w2 h2 s2 w h s A->(w*h<=720->R (.tup [.int w,.int h,.int s]))/\(720<w*h->R .non)
def C7{S:Int}(hw:0<w1)(hx:x<w1)(x0:0<=x)(hS:0<=S)(e:S=i*w1+s)(e2:∃i',x=i'*w1+s):∃k,S=x+k*w1/\0<=k:=by
 let#[i',e2]:=e2;refine#[i-i',Oi,?_];rcases(KK:i-i'<=-1\/0<=i-i')with z|z
 .have:=IP z (show 0<=w1 by lia);have:(i-i')*w1=S-x:=by grind
  lia
 .exact z
def InF(w h s x y:Int):Prop:=∃i j,x=i*w+j*s/\y=j*h
def Leaf.Lat(l:Leaf)(x y:Int):Prop:=∃i j,x=i*l.o0+j*l.t0/\y=i*l.o1+j*l.t1
def FamOf.lat(f:FamOf a b c d w h s)(x y:Int):InF w h s x y↔∃i j,x=i*a+j*c/\y=i*b+j*d:=by
 let#[_,_,_,_,hu]:=f;let#[m,n,k,l,_,e1,e2,e3,e4]:=id hu;let#[m',n',k',l',_,f1,f2,f3,f4]:=hu.inv;constructor
 .rintro⟨i,j,rfl,rfl⟩;refine#[i*m+j*k,i*n+j*l,by rw[e1,e3];grind,?_];have z:i*0+j*h=(i*m+j*k)*b+(i*n+j*l)*d:=by rw[e2,e4];grind
  lia
 .rintro⟨i,j,rfl,rfl⟩;refine#[i*m'+j*k',i*n'+j*l',by rw[f1,f3];grind,by rw[f2,f4];grind]
def MetR.lat(M:MetR w1 h1 s1 w2 h2 s2 w h s A)(x y:Int):InF w h s x y↔InF w1 h1 s1 x y/\InF w2 h2 s2 x y:=by
 constructor
 .rintro⟨i,j,rfl,rfl⟩;let#[a1,e1]:=M.in1;let#[a2,e2]:=M.in2;let#[b1,c1,e3,e4]:=M.up1;let#[b2,c2,e5,e6]:=M.up2;refine#[#[i*a1+j*b1,j*c1,?_,?_],#[i*a2+j*b2,j*c2,?_,?_]]
  .rw[e1,e3];grind
  .rw[e4];grind
  .rw[e2,e5];grind
  .rw[e6];grind
 .rintro⟨h1,h2⟩;exact M.all x y h1 h2
variable{w' h' s':Int}
def InF.le(hw:0<w)(hh:0<h)(QX:0<w')(QY:0<h')(sub:∀x y,InF w' h' s' x y->InF w h s x y):w*h<=w'*h'/\w<=w'/\h<=h':=by
 let#[i,j,e1,e2]:=sub w' 0 #[1,0,KK,KK];have j0:j=0:=by
  rcases Kj.mp e2.symm with z|z
  .exact z
  .lia
 subst j0;have i1:1<=i:=by
  rcases(KK:i<=0\/1<=i)with z|z
  .have:=Jt z (show 0<=w by lia);lia
  .exact z
 let#[i',j',e3,e4]:=sub s' h' #[0,1,KK,KK];have j1:1<=j':=by
  rcases(KK:j'<=0\/1<=j')with z|z
  .have:=Jt z (show 0<=h by lia);lia
  .exact z
 have a1:=IP i1 (show 0<=w by lia);have a2:=IP j1 (show 0<=h by lia);have b1:w<=w':=KK
 have b2:h<=h':=KK
 exact#[LI b1 b2 KK KK,b1,b2]
def InF.uniq(hw:0<w)(hh:0<h)(hs:0<=s)(Mv:s<w)(QX:0<w')(QY:0<h')(MZ:0<=s')(UC:s'<w')(e:∀x y,InF w h s x y↔InF w' h' s' x y):w=w'/\h=h'/\s=s':=by
 let#[_,a1,a2]:=InF.le hw hh QX QY (λx y q=>(e x y).mpr q);let#[_,b1,b2]:=InF.le QX QY hw hh (λx y q=>(e x y).mp q);have ew:w=w':=KK
 have eh:h=h':=KK
 subst ew eh;refine#[rfl,rfl,?_];let#[i,j,e1,e2]:=(e s h).mp #[0,1,KK,KK];have j1:j=1:=by
  have:j*h=1*h:=by lia
  exact JV KK this
 subst j1;have:i*w=s-s':=KK
 rcases(KK:i<=-1\/i=0\/1<=i)with z|z|z
 .have:=IP z (show 0<=w by lia);lia
 .subst z;lia
 .have:=IP z (show 0<=w by lia);lia
structure Fam0(w h s:Int):Prop where
 w0:0<w
 h0:0<h
 s0:0<=s
 sw:s<w
def vw(f:Fam0 w1 h1 s1)(k:Fam0 w2 h2 s2):∃w h s,Fam0 w h s/\∀x y,InF w h s x y↔InF w1 h1 s1 x y/\InF w2 h2 s2 x y:=by
 let#[g,u,M1]:=fE w1 w2;let#[k',u',M2]:=fE h1 h2;let#[gg,z8,M3]:=fE g (h1*h2/k'/h2*s2-h1*h2/k'/h1*s1);have M:=lf f.w0 k.w0 f.h0 k.h0 M1 M2 M3;exact#[_,_,_,#[M.w0,M.h0,M.s0,M.sw],M.lat]
def Leaf.fam_ex(g:l.Good)(h:l.Near n):∃w k s,Fam0 w k s/\∀x y,InF w k s x y↔l.Lat x y:=by
 let#[_,_,_,_,ne,_]:=Leaf.sizes g h;let#[p0,p1,q0,hL]:=fD l.t1.natAbs l.o0 l.o1 l.t0 l.t1 (Ii _);have f:=gl ne hL;exact#[_,_,_,#[f.1,f.2.1,f.2.2.1,f.2.2.2.1],f.lat]
def cb(ls:List Leaf)(x y:Int):Prop:=∀l∈ls,l.Lat x y
def vx{n:Nat}:∀(ls:List Leaf) (w h s:Int),Fam0 w h s->(∀l∈ls,l.Good/\l.Near n)->∃w' h' s',Fam0 w' h' s'/\∀x y,InF w' h' s' x y↔InF w h s x y/\cb ls x y
 |[],w,h,s,f,_=>#[w,h,s,f,λx y=>#[λq=>#[q,λl z=>by cases z],λq=>q.1]]
 |l::r,w,h,s,f,g=>by
  let#[w1,h1,s1,f1,e1]:=Leaf.fam_ex (g l Ip).1 (g l Ip).2;let#[w2,h2,s2,f2,e2]:=vw f f1;let#[w3,h3,s3,f3,e3]:=vx r w2 h2 s2 f2 λl' q=>g l' (Im _ q);refine#[w3,h3,s3,f3,λx y=>?_];rw[e3,e2,e1];constructor
  .rintro⟨⟨a,b⟩,c⟩;exact#[a,λl' q=>(Ik.mp q).elim (λz=>z ▸ b) (c l')]
  .rintro⟨a,b⟩;exact#[#[a,b l Ip],λl' q=>b l' (Im _ q)]
def cut1(d:D)(ds:List D):cutD (d::ds) (be 1) z6=ds:=by
 unfold cutD;have e1:HT.sIx (d::ds).length 0 (be 1)=1:=by simp[HT.sIx]
 have e2:HT.sIx (d::ds).length (d::ds).length z6=(d::ds).length:=by simp[HT.sIx]
 rw[e1,e2,List.drop_one,List.tail_cons,Iu,LJ,J5]
def C8:SpD:=λds R=>∃(ls:List Leaf) (n:Nat),ds=[.lst (ls.map Leaf.D)]/\ls≠[]/\(∀l∈ls,l.Good/\l.Near n)/\
 ∀w h s:Int,Fam0 w h s->(∀x y,InF w h s x y↔cb ls x y)->(w*h<=720->R (.tup [.int w,.int h,.int s]))/\(720<w*h->R .non)
def Pat.Lat:Pat->Int->Int->Prop
 |.mot _ a b c d,x,y=>∃i j,x=i*a+j*c/\y=i*b+j*d
 |.over p q,x,y=>p.Lat x y/\q.Lat x y
 |.sh _ _ p,x,y=>p.Lat x y
 |.mir p,x,y=>p.Lat (-x) y
 |.tur p,x,y=>p.Lat y (-x)
 |.hue _ _ p,x,y=>p.Lat x y
def Leaf.by_lat(l:Leaf)(b0 b1 b2 b3 b4 b5 x y:Int):(l.by b0 b1 b2 b3 b4 b5).Lat x y↔∃u v,l.Lat u v/\x=b0*u+b2*v/\y=b1*u+b3*v:=by
 have e0:(l.by b0 b1 b2 b3 b4 b5).o0=b0*l.o0+b2*l.o1:=by simp only[Leaf.o0,Leaf.o1,Leaf.by];grind
 have e1:(l.by b0 b1 b2 b3 b4 b5).o1=b1*l.o0+b3*l.o1:=by simp only[Leaf.o0,Leaf.o1,Leaf.by];grind
 have e2:(l.by b0 b1 b2 b3 b4 b5).t0=b0*l.t0+b2*l.t1:=by simp only[Leaf.t0,Leaf.t1,Leaf.by];grind
 have e3:(l.by b0 b1 b2 b3 b4 b5).t1=b1*l.t0+b3*l.t1:=by simp only[Leaf.t0,Leaf.t1,Leaf.by];grind
 unfold Leaf.Lat;rw[e0,e1,e2,e3];generalize l.o0=o0;generalize l.o1=o1;generalize l.t0=t0;generalize l.t1=t1;constructor
 .rintro⟨i,j,rfl,rfl⟩;exact#[_,_,#[i,j,rfl,rfl],Oi,Oi]
 .rintro⟨_,_,⟨i,j,rfl,rfl⟩,rfl,rfl⟩;exact#[i,j,Oi,Oi]
def Leaf.dye_lat(l:Leaf)(f g x y:Int):(l.dye f g).Lat x y↔l.Lat x y:=Iff.rfl
def C9(a b:List Leaf)(x y:Int):cb (a++b) x y↔cb a x y/\cb b x y:=by
 constructor
 .intro h;exact#[λl q=>h l (Jk _ q),λl q=>h l (IE _ q)]
 .rintro⟨h1,h2⟩ l q;rcases IK.mp q with q|q
  .exact h1 l q
  .exact h2 l q
def latAll_map{f:Leaf->Leaf}(hf:∀l:Leaf,(f l).Lat x y↔l.Lat u v)(ls:List Leaf):cb (ls.map f) x y↔cb ls u v:=by
 constructor
 .intro h l q;exact(hf l).mp (h _ (IJ.mpr #[l,q,rfl]))
 .intro h l q;let#[l',q',rfl]:=IJ.mp q;exact(hf l').mpr (h l' q')
def vy(l:Leaf)(e f x y:Int):(l.by 1 0 0 1 e f).Lat x y↔l.Lat x y:=by
 rw[Leaf.by_lat];constructor
 .rintro⟨u,v,h,e1,e2⟩;have e1:x=u:=by lia
  have e2:y=v:=KK
  rw[e1,e2];exact h
 .intro h;exact#[x,y,h,KK,KK]
def Pat.lat_leaves:∀(p:Pat) (x y:Int),cb p.leaves x y↔p.Lat x y
 | .mot L a b c d,x,y=>by
  have e0:(bu L a b c d).o0=a:=by simp[Leaf.o0,bu]
  have e1:(bu L a b c d).o1=b:=by simp[Leaf.o1,bu]
  have e2:(bu L a b c d).t0=c:=by simp[Leaf.t0,bu]
  have e3:(bu L a b c d).t1=d:=by simp[Leaf.t1,bu]
  have e:(bu L a b c d).Lat x y↔(Pat.mot L a b c d).Lat x y:=by
   unfold Leaf.Lat;rw[e0,e1,e2,e3];exact Iff.rfl
  rw[<-e];constructor
  .intro h;exact h _ Ip
  .intro h l q;rw[Ih.mp q];exact h
 |.over p q,x,y=>by rw[Pat.leaves,C9,Pat.lat_leaves p,Pat.lat_leaves q,Pat.Lat]
 |.sh a b p,x,y=>by rw[Pat.leaves,latAll_map (λl=>vy l _ _ x y),Pat.lat_leaves p,Pat.Lat]
 | .mir p,x,y=>by
  have e:∀l:Leaf,(l.by (-1) 0 0 1 0 0).Lat x y↔l.Lat (-x) y:=λl=>by
   rw[Leaf.by_lat];constructor
   .rintro⟨u,v,h,e1,e2⟩;have e1:-x=u:=by lia
    have e2:y=v:=KK
    rw[e1,e2];exact h
   .intro h;exact#[-x,y,h,KK,KK]
  rw[Pat.leaves,latAll_map e,Pat.lat_leaves p,Pat.Lat]
 | .tur p,x,y=>by
  have e:∀l:Leaf,(l.by 0 1 (-1) 0 0 0).Lat x y↔l.Lat y (-x):=λl=>by
   rw[Leaf.by_lat];constructor
   .rintro⟨u,v,h,e1,e2⟩;have e1:-x=v:=by lia
    have e2:y=u:=KK
    rw[e1,e2];exact h
   .intro h;exact#[y,-x,h,KK,KK]
  rw[Pat.leaves,latAll_map e,Pat.lat_leaves p,Pat.Lat]
 |.hue f g p,x,y=>by
  rw[Pat.leaves,latAll_map (λl=>(Leaf.dye_lat _ f g x y).trans (vy l _ _ x y)),Pat.lat_leaves p,Pat.Lat]
structure Pat.Fam(p:Pat)(w h s:Int):Prop where
 f:Fam0 w h s
 lat:∀x y,InF w h s x y↔p.Lat x y
def Pat.Fam.uniq(a:p.Fam w h s)(b:p.Fam w' h' s'):w=w'/\h=h'/\s=s':=
 InF.uniq a.f.w0 a.f.h0 a.f.s0 a.f.sw b.f.w0 b.f.h0 b.f.s0 b.f.sw λx y=>(a.lat x y).trans (b.lat x y).symm
def Pat.Fam.mot(k:FamOf a b c d w h s):(Pat.mot L a b c d).Fam w h s:=#[#[k.1,k.2.1,k.2.2.1,k.2.2.2.1],k.lat]
def Pat.Fam.sh(a b:Int)(k:p.Fam w h s):(Pat.sh a b p).Fam w h s:=#[k.f,k.lat]
def Pat.Fam.hue(a b:Int)(k:p.Fam w h s):(Pat.hue a b p).Fam w h s:=#[k.f,k.lat]
def Pat.Fam.mir(k:p.Fam w h s):(Pat.mir p).Fam w h (-s%w):=by
 refine#[#[k.f.w0,k.f.h0,cV k.f.w0,cX k.f.w0],λx y=>?_];show _↔p.Lat (-x) y;rw[<-k.lat];have e:=JE (-s) w;generalize -s%w=r at e;generalize -s/w=t at e;constructor
 .rintro⟨i,j,rfl,rfl⟩;exact#[j*t-i,j,by rw[e];grind,rfl]
 .rintro⟨i,j,ex,rfl⟩;exact#[j*t-i,j,by rw[e];grind,rfl]
def Pat.Fam.tur(k:p.Fam w h s)(f:FamOf 0 w (-h) s w' h' s'):(Pat.tur p).Fam w' h' s':=by
 refine#[#[f.1,f.2.1,f.2.2.1,f.2.2.2.1],λx y=>?_];show _↔p.Lat y (-x);rw[<-k.lat,f.lat];constructor
 .rintro⟨i,j,rfl,rfl⟩;exact#[i,j,Oi,Oi]
 .rintro⟨i,j,ex,ey⟩;exact#[i,j,Oi,Oi]
def Pat.Fam.over{q:Pat}(k1:p.Fam w1 h1 s1)(k2:q.Fam w2 h2 s2)(M:MetR w1 h1 s1 w2 h2 s2 w h s A):(Pat.over p q).Fam w h s:=by
 refine#[#[M.w0,M.h0,M.s0,M.sw],λx y=>?_];rw[M.lat,k1.lat,k2.lat];exact Iff.rfl
def lv(hw:0<w)(hh:0<h):∃w' h' s',FamOf 0 w (-h) s w' h' s'/\w'*h'=w*h:=by
 have hp:0<w*h:=IF hw hh;have hn:¬0*s=w* -h:=by rw[Kk];lia
 let#[p0,p1,q0,hL]:=fD s.natAbs 0 w (-h) s (Ii _);have f:=gl hn hL;refine#[_,_,_,f,?_];have NR:=IF f.1 f.2.1;have c:=f.cells;rw[Kk]at c;lia
def vz(hn:¬a*d=b*c):∃w h s,FamOf a b c d w h s/\(Pat.mot L a b c d).Fam w h s:=by
 let#[p0,p1,q0,hL]:=fD d.natAbs a b c d (Ii _);have f:=gl hn hL;exact#[_,_,_,f,.mot f]
def Pat.fam_ex:∀{p:Pat},p.Wf->∃w h s,p.Fam w h s
 |.mot L a b c d,h=>by
  let#[w,k,s,_,f]:=vz (L:=L) h.2.2.2.2.2;exact#[w,k,s,f]
 |.over p q,h=>by
  let#[w1,h1,s1,f1]:=Pat.fam_ex h.1;let#[w2,h2,s2,f2]:=Pat.fam_ex h.2;let#[w,k,s,f,e]:=vw f1.f f2.f;refine#[w,k,s,f,λx y=>?_];rw[e,f1.lat,f2.lat];exact Iff.rfl
 |.sh a b p,h=>by
  let#[w,k,s,f]:=Pat.fam_ex h.2.2;exact#[w,k,s,f.sh a b]
 |.mir p,h=>by
  let#[w,k,s,f]:=Pat.fam_ex (p:=p) h;exact#[w,k,_,f.mir]
 |.tur p,h=>by
  let#[w,k,s,f]:=Pat.fam_ex (p:=p) h;let#[w',k',s',f',_]:=lv (s:=s) f.f.w0 f.f.h0;exact#[w',k',s',f.tur f']
 |.hue a b p,h=>by
  let#[w,k,s,f]:=Pat.fam_ex h.2.2;exact#[w,k,s,f.hue a b]
def Pat.Fits(p:Pat):Prop:=∃w h s,p.Fam w h s/\w*h<=720
def B12.abs(h:B12 a):a.natAbs<=12:=by unfold B12 at h;lia
def lx(ha:B12 a)(hb:B12 b)(hc:B12 c)(hd:B12 d):(a*d-b*c).natAbs<=288:=Io (KH _ _) (J4 (cD ha.abs hd.abs) (cD hb.abs hc.abs))
def Pat.fits_mot(ha:B12 a)(hb:B12 b)(hc:B12 c)(hd:B12 d)(hn:¬a*d=b*c):(Pat.mot L a b c d).Fits:=by
 let#[w,h,s,k,f]:=vz (L:=L) hn;refine#[w,h,s,f,?_];have kd:=lx ha hb hc hd;have kc:=k.cells;clear ha hb hc hd hn f k;lia
def Pat.Fits.sh(a b:Int)(k:p.Fits):(Pat.sh a b p).Fits:=by
 let#[w,h,s,f,q]:=k;exact#[w,h,s,f.sh a b,q]
def Pat.Fits.hue(a b:Int)(k:p.Fits):(Pat.hue a b p).Fits:=by
 let#[w,h,s,f,q]:=k;exact#[w,h,s,f.hue a b,q]
def Pat.Fits.mir(k:p.Fits):(Pat.mir p).Fits:=by
 let#[w,h,s,f,q]:=k;exact#[w,h,_,f.mir,q]
def Pat.Fits.tur(k:p.Fits):(Pat.tur p).Fits:=by
 let#[w,h,s,f,q]:=k;let#[w',k',s',f',e]:=lv (s:=s) f.f.w0 f.f.h0;exact#[w',k',s',f.tur f',KK]
def vA(hL:Rows L)(ha:B12 a)(hb:B12 b)(hc:B12 c)(hd:B12 d):(dI L a b c d).length<=100:=by
 have la:=bP ha;have lb:=bP hb;have lc:=bP hc;have ld:=bP hd;have l1:(";":Mr).length=1:=rfl;have l2:(",":Mr).length=1:=rfl;have l3:("[":Mr).length=1:=rfl;have l4:("]":Mr).length=1:=rfl;have ls:=vh hL;have lj:=StrLaws.join_length_le "/" L;have lg:(Txt.join "/" L).length<=72:=by
  have e:Txt.join "/" L=Str.join "/" L:=StrLaws.glued_eq_join _ _;rw[e];exact Io lj ls
 unfold dI
 repeat rw[aJ]
 lia
def Pat.text_len:∀{p:Pat},p.Wf->p.text.length+10<=110*2^p.depth
 |.mot L a b c d,h=>by
  have:=vA h.1 h.2.1 h.2.2.1 h.2.2.2.1 h.2.2.2.2.1;show(dI L a b c d).length+10<=110*2^0;lia
 |.over p q,h=>by
  have h1:=Pat.text_len h.1;have h2:=Pat.text_len h.2;have m1:2^p.depth<=2^(max p.depth q.depth):=JX Nk (LB _ _);have m2:2^q.depth<=2^(max p.depth q.depth):=JX Nk (LC _ _);have l1:("(":Mr).length=1:=rfl;have l2:("|":Mr).length=1:=rfl;have l3:(")":Mr).length=1:=rfl;rw[Pat.text,Pat.depth,LD]
  repeat rw[aJ]
  lia
 |.sh a b p,h=>by
  have h1:=Pat.text_len h.2.2;have la:=bP h.1;have lb:=bP h.2.1;have l1:("s":Mr).length=1:=rfl;have l2:(",":Mr).length=1:=rfl;have l3:(":":Mr).length=1:=rfl;have:0<2^p.depth:=Kl Nk;rw[Pat.text,Pat.depth,Ju]
  repeat rw[aJ]
  lia
 |.mir p,h=>by
  have h1:=Pat.text_len (p:=p) h;have l1:("m":Mr).length=1:=rfl;have:0<2^p.depth:=Kl Nk;rw[Pat.text,Pat.depth,Ju,aJ];lia
 |.tur p,h=>by
  have h1:=Pat.text_len (p:=p) h;have l1:("t":Mr).length=1:=rfl;have:0<2^p.depth:=Kl Nk;rw[Pat.text,Pat.depth,Ju,aJ];lia
 |.hue f g p,h=>by
  have h1:=Pat.text_len h.2.2;have la:=fC h.1;have lb:=fC h.2.1;have l1:("h":Mr).length=1:=rfl;have:0<2^p.depth:=Kl Nk;rw[Pat.text,Pat.depth,Ju]
  repeat rw[aJ]
  lia
def Pat.leaves_pos:∀p:Pat,0<p.leaves.length
 |.mot ..=>Nat.zero_lt_one
 |.over p q=>by rw[Pat.leaves,Ix];have:=p.leaves_pos;lia
 |.sh _ _ p=>by rw[Pat.leaves,Ij];exact p.leaves_pos
 |.mir p=>by rw[Pat.leaves,Ij];exact p.leaves_pos
 |.tur p=>by rw[Pat.leaves,Ij];exact p.leaves_pos
 |.hue _ _ p=>by rw[Pat.leaves,Ij];exact p.leaves_pos
def Pat.text_short(h:p.Wf)(hd:p.depth<=5):p.text.length<=3510:=by
 have h1:=Pat.text_len h;have h2:2^p.depth<=2^5:=JX Nk hd;lia
structure Pat.Ok(p:Pat):Prop where
 wf:p.Wf
 deep:p.depth<=5
 fits:p.Fits
def Wraps.of{H:Prop}{R:My.D->Prop}(h:p.Ok)(hR:∀q:Pat,q.Ok->R q.D):Wraps p H R:=by
 refine#[λ_=>hR p h,λhd=>#[hR _ #[h.wf,?_,h.fits.mir],hR _ #[h.wf,?_,h.fits.tur],λa b ha hb=>hR _ #[#[ha,hb,h.wf],?_,h.fits.sh a b],λ_ f g hf hg=>hR _ #[#[hf,hg,h.wf],?_,h.fits.hue f g]]]<;>(simp only[Pat.depth];lia)
def vB:SpD:=λds R=>∃p q:Pat,ds=[p.D,q.D]/\p.Wf/\q.Wf/\p.depth<=5/\q.depth<=5/\R p.D/\(p.depth<5->q.depth<5->(Pat.over p q).Fits->R (Pat.over p q).D)
def Da:SpD:=λds R=>∃(ns:List Int) (k:Int),ds=[.rol (ns.map D.int),.int k]/\0<=k/\∀p:Pat,p.Ok->R p.D
abbrev isSg(c:Nat):Bool:=c==46||(49<=c&&c<=54)
def numL(a:Int):List Nat:=cs (toString a:String)
def vC(h:B12 a){P:Int->Prop}(hP:∀k:Fin 25,P (((k.val:Nat):Int)-12)):P a:=by
 unfold B12 at h;have:=hP #[(a+12).toNat,KK];have e:(((a+12).toNat:Nat):Int)-12=a:=KK
 rw[e]at this;exact this
def isNumL(l:List Nat):Prop:=(∃c,(48<=c/\c<=57)/\l=[c])\/(∃c,(48<=c/\c<=50)/\l=[49,c])\/(∃c,(49<=c/\c<=57)/\l=[45,c])\/∃c,(48<=c/\c<=50)/\l=[45,49,c]
def numL_is(h:B12 a):isNumL (numL a):=by
 have key:∀k:Fin 25,(numL (((k.val:Nat):Int)-12))∈([[45,49,50],[45,49,49],[45,49,48],[45,57],[45,56],[45,55],[45,54],[45,53],[45,52],[45,51],[45,50],[45,49],[48],[49],[50],[51],[52],[53],[54],[55],[56],[57],[49,48],[49,49],[49,50]]:List (List Nat)):=Nn
 have h1:=vC (P:=λa=>numL a∈([[45,49,50],[45,49,49],[45,49,48],[45,57],[45,56],[45,55],[45,54],[45,53],[45,52],[45,51],[45,50],[45,49],[48],[49],[50],[51],[52],[53],[54],[55],[56],[57],[49,48],[49,49],[49,50]]:List (List Nat))) h key;revert h1;generalize numL a=l;intro h1;unfold isNumL;simp only[Ik,JF,or_false]at h1;rcases h1 with e|e|e|e|e|e|e|e|e|e|e|e|e|e|e|e|e|e|e|e|e|e|e|e|e<;>subst e
 all_goals first
  |exact .inl ⟨_,Nk,rfl⟩
  |exact .inr (.inl ⟨_,Nk,rfl⟩)
  |exact .inr (.inr (.inl ⟨_,Nk,rfl⟩))
  |exact .inr (.inr (.inr ⟨_,Nk,rfl⟩))
def endS(c:Nat):Prop:=c=44\/c=59\/c=58\/c=93
def rowsL:List (List Nat)->List Nat
 |[]=>[]
 |[x]=>x
 |x::y::r=>x++47::rowsL (y::r)
def Db{c:Nat}(h:bc c):isSg c=true:=by
 unfold bc at h;unfold isSg;rcases h with h|h
 .subst h;rfl
 .have:(decide (49<=c)&&decide (c<=54))=true:=by simp[h]
  rw[this,Kg]
def motL(L:List (List Nat))(a b c d:Int):List Nat:=91::(rowsL L++59::(numL a++44::(numL b++59::(numL c++44::(numL d++[93])))))
def Pat.tl:Pat->List Nat
 |.mot L a b c d=>motL (L.map cs) a b c d
 |.over p q=>40::(p.tl++124::(q.tl++[41]))
 |.sh a b p=>115::(numL a++44::(numL b++58::p.tl))
 |.mir p=>109::p.tl
 |.tur p=>116::p.tl
 |.hue f g p=>104::(numL f++(numL g++p.tl))
def join_rows:∀L:List Mr,cs (Str.join "/" L)=rowsL (L.map cs)
 |[]=>rfl
 |[x]=>rfl
 |x::y::L=>by
  show cs (x++"/"++Str.join "/" (y::L))=cs x++47::rowsL ((y::L).map cs);rw[bE,bE,join_rows (y::L),IU];rfl
def ce:∀p:Pat,cs p.text=p.tl
 |.mot L a b c d=>by
  show cs (dI L a b c d)=motL (L.map cs) a b c d;unfold dI motL;have e:Txt.join "/" L=Str.join "/" L:=StrLaws.glued_eq_join _ _;rw[e]
  repeat rw[bE]
  rw[join_rows];simp only[IU];rfl
 |.over p q=>by
  rw[Pat.text,Pat.tl]
  repeat rw[bE]
  rw[ce p,ce q];simp only[IU];rfl
 |.sh a b p=>by
  rw[Pat.text,Pat.tl]
  repeat rw[bE]
  rw[ce p];simp only[IU];rfl
 |.mir p=>by
  rw[Pat.text,Pat.tl,bE,ce p];rfl
 |.tur p=>by
  rw[Pat.text,Pat.tl,bE,ce p];rfl
 |.hue f g p=>by
  rw[Pat.text,Pat.tl]
  repeat rw[bE]
  rw[ce p];simp only[IU];rfl
def hueL(h:1<=f/\f<=6):numL f=[(48+f).toNat]:=by
 have key:∀k:Fin 6,numL (((k.val:Nat):Int)+1)=[49+k.val]:=Nn
 have:=key #[(f-1).toNat,KK];have e:(((f-1).toNat:Nat):Int)+1=f:=KK
 rw[e]at this;rw[this];congr 1;show 49+(f-1).toNat=(48+f).toNat;lia
def rowsT(L:List (List Nat)):List Nat:=L.flatMap λy=>47::y
def vD:∀(x:List Nat) (L:List (List Nat)),rowsL (x::L)=x++rowsT L
 |x,[]=>by simp[rowsL,rowsT]
 |x,y::L=>by
  rw[rowsL,vD y L];simp[rowsT]
def gp{x y:Mr}(h:cs x=cs y):x=y:=by
 let#[a]:=x;let#[b]:=y;have:a=b:=LK.mp h;rw[this]
def numS(h:B12 x):numL x=[48]\/∃pre c y,(pre=[]\/pre=[45])/\(49<=c/\c<=57)/\numL x=pre++c::y/\(y=[]\/(c=49/\∃d,(48<=d/\d<=50)/\y=[d])):=by
 rcases numL_is h with⟨c,hc,e⟩|⟨c,hc,e⟩|⟨c,hc,e⟩|⟨c,hc,e⟩
 .by_cases z:c=48
  .exact .inl (by rw[e,z])
  .exact .inr #[[],c,[],.inl rfl,KK,e,.inl rfl]
 .exact .inr #[[],49,[c],.inl rfl,Nk,e,.inr #[rfl,c,hc,rfl]]
 .exact .inr #[[45],c,[],.inr rfl,hc,e,.inl rfl]
 .exact .inr #[[45],49,[c],.inr rfl,Nk,e,.inr #[rfl,c,hc,rfl]]
def cutL(b:Bool)(x l:List Nat):List Nat:=match b with|false=>x++l|true=>x.dropLast
def two(b:Bool)(A B:Prop):Prop:=match b with|false=>A|true=>B
def cx{b:Bool}{x y l:List Nat}(h:y≠[]):cutL b (x++y) l=x++cutL b y l:=by
 cases b
 .exact IU _ _ _
 .exact List.dropLast_append_of_ne_nil h
def cutL_cons{b:Bool}{c:Nat}{y l:List Nat}(h:y≠[]):cutL b (c::y) l=c::cutL b y l:=cx (x:=[c]) h
def Pat.tl_ne(p:Pat):p.tl≠[]:=by cases p<;>simp[Pat.tl,motL]
def vE(p:Pat):p.text.length=p.tl.length:=by rw[<-aZ,ce]
variable{B:Prop}
def ifT{c A:Prop}[Decidable c](h:c)(a:A):if c then A else B:=by rw[if_pos h];exact a
def ifdT{p A:Prop}[Decidable p](h:p)(a:A):if decide p=true then A else B:=by rw[if_pos (decide_eq_true h)];exact a
def ifdF{p A:Prop}[Decidable p](h:¬p)(b:B):if decide p=true then A else B:=by rw[if_neg (by simpa using h)];exact b
def rdF(t:Mr)(k:Nat):List (Mr×D):=[("text",.str t),("place",.int k)]
def RdM(a:Pi)(t:Mr)(k:Nat):MS:=[(a,.ins "Reading" (rdF t k))]
variable{o:MO}
def cK{a:Pi}:mget [(a,o)] a=be o:=by unfold mget;rw[if_pos rfl]
def fF{a:Pi}{o':MO}:mput [(a,o)] a o'=[(a,o')]:=by unfold mput;rw[if_pos rfl]
variable{t:Mr}
def aU{a:Pi}:mget (RdM a t k) a=be (.ins "Reading" (rdF t k)):=cK
def ly:(rdF t k).lookup ("text":Mr)=be (.str t):=rfl
def cY:(rdF t k).lookup ("place":Mr)=be (.int k):=by
 unfold rdF;rw[IC,show(("place":Mr)==("text":Mr))=false by decide+kernel];rfl
def Dc:putD ("place":Mr) (.int ((k:Int)+1)) (rdF t k)=rdF t (k+1):=by
 unfold rdF putD;rw[if_neg Nn];unfold putD;rw[if_pos rfl];rfl
def cZ:(rdF t k).lookup ("may_take":Mr)=none:=by
 unfold rdF;rw[IC,show(("may_take":Mr)==("text":Mr))=false by decide+kernel,IC,show(("may_take":Mr)==("place":Mr))=false by decide+kernel];rfl
def cy:(rdF t k).lookup ("take":Mr)=none:=by
 unfold rdF;rw[IC,show(("take":Mr)==("text":Mr))=false by decide+kernel,IC,show(("take":Mr)==("place":Mr))=false by decide+kernel];rfl
structure At(t:Str)(k:Nat)(l:List Nat):Prop where
 eq:(cs t).drop k=l
 le:k<=t.length
 sz:t.length<=100000
def At.nil(h:At t k []):k=t.length:=by
 have h1:=congrArg J0 h.eq;rw[Jq,aZ]at h1;have:=h.le;simp at h1;lia
def At.lt{c:Nat}{l:List Nat}(h:At t k (c::l)):k<t.length:=by
 have h1:=congrArg J0 h.eq;rw[Jq,aZ]at h1;simp at h1;lia
def At.get{c:Nat}{l:List Nat}(h:At t k (c::l)):(cs t)[k]?=be c:=by
 have h1:=congrArg (·[0]?) h.eq;simpa using h1
def At.next{c:Nat}{l:List Nat}(h:At t k (c::l)):At t (k+1) l:=by
 refine#[?_,h.lt,h.sz];have h1:=congrArg (JC 1) h.eq;rw[List.drop_drop]at h1;simpa using h1
def At.app{t:Mr}:∀{x l:List Nat} {k:Nat},At t k (x++l)->At t (k+x.length) l
 |[],_,_,h=>h
 |c::x,l,k,h=>by
  have h1:At t (k+1+x.length) l:=At.app (At.next h);have e:k+1+x.length=k+(c::x).length:=by rw[Iu];lia
  rw[e]at h1;exact h1
variable{al:Mr}
def vF{c:Nat}:(!(!(Builtin.Str.occurrences al #[[c].toArray] 0 al.length 1).isEmpty))=!decide (c∈cs al):=by
 rw[StrLaws.found_one]
def mayS(al:Mr):List Nat->Mr|c::_=>if c∈cs al then#[[c].toArray]else ""|[]=>""
def mayN(al:Mr):List Nat->Nat|c::_=>if c∈cs al then 1 else 0|[]=>0
def fG{c:Nat}{l:List Nat}(h:c∈cs al):mayS al (c::l)=#[[c].toArray]:=if_pos h
def fH{c:Nat}{l:List Nat}(h:c∈cs al):mayN al (c::l)=1:=if_pos h
def dX{c:Nat}{l:List Nat}(h:c∉cs al):mayS al (c::l)="":=if_neg h
def dY{c:Nat}{l:List Nat}(h:c∉cs al):mayN al (c::l)=0:=if_neg h
def Dd:SiD:=λds R=>∃t:Mr,ds=[.str t]/\R (rdF t 0)
def De:SpM:=λds M R RX=>∃(a:Pi) (t:Mr) (k:Nat) (l:List Nat) (al:Mr),ds=[.ptr a,.str al]/\M=RdM a t k/\At t k l/\R (.str (mayS al l)) (RdM a t (k+mayN al l))
def Df:SiD:=λds R=>∃i:Int,ds=[.int i]/\R [("place",.int i)]
def Dg:SpM:=λds M R RX=>∃(a:Pi) (t:Mr) (k:Nat) (b:Bool) (c:Nat) (l:List Nat) (al:Mr),ds=[.ptr a,.str al]/\M=RdM a t k/\At t k (cutL b [c] l)/\c∈cs al/\two b (R (.str #[[c].toArray]) (RdM a t (k+1))) (∀M',RX "WrongSign" [("place",.int t.length)] M')
def Dh(h:B12 x):PySem.intText? #[(numL x).toArray]=be x:=
 vC (P:=λx=>PySem.intText? #[(numL x).toArray]=be x) h Nn
def str_of_list(x y:List Nat):((#[x.toArray]:Mr)++#[y.toArray]:Mr)=#[(x++y).toArray]:=by
 apply gp;rw[bE]
def digits19{c:Nat}:c∈cs "123456789"↔49<=c/\c<=57:=by
 refine#[λh=>?_,λ⟨h1,h2⟩=>?_]
 .exact(show ∀c∈cs "123456789",49<=c/\c<=57 by decide+kernel) c h
 .let#[k,rfl]:=Nat.le.dest h1;exact(show ∀k,k<9->49+k∈cs "123456789" by decide+kernel) k KK
def digits02{c:Nat}:c∈cs "012"↔48<=c/\c<=50:=by
 have e:cs "012"=[48,49,50]:=rfl;rw[e];simp;lia
def Di(w:List Nat)(c:Nat):Txt.endswith #[(w++[c]).toArray] "1"=decide (c=49):=by
 unfold Txt.endswith;have e1:("1":Mr).length=1:=rfl;have e2:(#[(w++[c]).toArray]:Mr).length=w.length+1:=by simp[Str.length]
 rw[e1,e2];have e3:decide (0+1<=w.length+1)=true:=Nq
 rw[e3,Bool.true_and,LJ];unfold Builtin.Str.subAt;have e4:(#[(w++[c]).toArray]:Mr).cps.extract w.length (w.length+("1":Mr).length)=[c].toArray:=by
  apply LK.mp;simp[Array.toList_extract,e1]
 rw[e4];have e5:("1":Mr).cps=[49].toArray:=rfl;rw[e5];by_cases h:c=49
 .subst h;rfl
 .simp[h]
def Dj:SpM:=λds M R _=>∃(a:Pi) (t:Mr) (k:Nat) (x:Int) (r:List Nat),ds=[.ptr a]/\M=RdM a t k/\B12 x/\(∀e l,r=e::l->endS e)/\At t k (numL x++r)/\R (.int x) (RdM a t (k+(numL x).length))
def Dk:SpM:=λds M R _=>∃(a:Pi) (t:Mr) (k:Nat) (x y:Int) (r:List Nat),ds=[.ptr a]/\M=RdM a t k/\B12 x/\B12 y/\(∀e l,r=e::l->endS e)/\At t k (numL x++44::(numL y++r))/\R (.tup [.int x,.int y]) (RdM a t (k+(numL x).length+1+(numL y).length))
def signs_is{c:Nat}:c∈cs ".123456"↔isSg c=true:=by
 have e:cs ".123456"=[46,49,50,51,52,53,54]:=rfl;rw[e];simp;lia
def len_of_list(x:List Nat):(#[x.toArray]:Mr).length=x.length:=by simp[Str.length]
def vG{c:Nat}(h:isSg c=false):c∉cs ".123456":=λz=>by rw[signs_is.mp z]at h;cases h
def S_line_from:SpM:=λds M R _=>∃(a:Pi) (t:Mr) (k n m:Nat) (x l:List Nat),ds=[.ptr a,.int n,.int m]/\M=RdM a t k/\At t k (x++l)/\(∀c∈x,bc c)/\n<=x.length/\x.length<=m/\m<=8/\(x.length=m\/∃c l',l=c::l'/\isSg c=false)/\R (.str #[x.toArray]) (RdM a t (k+x.length))
def Dl{p a:Pi}(h:p≠a):mget ((p,o)::RdM a t k) a=be (.ins "Reading" (rdF t k)):=by
 unfold mget;rw[if_neg h];exact cK
variable{M:MS}
def db{p:Pi}:mget ((p,o)::M) p=be o:=by unfold mget;rw[if_pos rfl]
def vH{p:Pi}{o':MO}:mput ((p,o)::M) p o'=(p,o')::M:=by unfold mput;rw[if_pos rfl]
def lz{p:Pi}:mdel ((p,o)::M) p=M:=by unfold mdel;rw[if_pos rfl]
structure RowsL(L:List (List Nat))(w:Nat):Prop where
 many:1<=L.length/\L.length<=8
 w1:1<=w
 w8:w<=8
 each:∀x∈L,x.length=w/\∀c∈x,bc c
def lstD(L:List (List Nat)):List D:=L.map λx=>D.str #[x.toArray]
def Dm:SpM:=λds M R _=>∃(a:Pi) (t:Mr) (k:Nat) (L:List (List Nat)) (w:Nat) (l:List Nat),ds=[.ptr a]/\M=RdM a t k/\RowsL L w/\At t k (rowsL L++59::l)/\R (.lst (lstD L)) (RdM a t (k+(rowsL L).length))
def hmX(w h s:Int)(i j:Int):Int:=(i-j/h*s)%w
def hRow(w h s:Int)(j:Nat):Nat->List Nat->List ((Int×Int)×Int)->List ((Int×Int)×Int)
 |_,[],kv=>kv
 |i,c::r,kv=>hRow w h s j (i+1) r (if c=46 then kv else sdD kv (hmX w h s i j) ((j:Int)%h) ((c:Int)-48))
def hAll(w h s:Int):Nat->List (List Nat)->List ((Int×Int)×Int)->List ((Int×Int)×Int)
 |_,[],kv=>kv
 |j,x::r,kv=>hAll w h s (j+1) r (hRow w h s j 0 x kv)
def vI(kv:List ((Int×Int)×Int))(x y v:Int):(sdD kv x y v).length<=kv.length+1:=by
 unfold sdD;split
 .lia
 .rw[Ix];simp
def Dn{c:Nat}(h:49<=c/\c<=54):∃i rest,Builtin.Str.occurrences ".123456" #[[c].toArray] 0 (".123456":Mr).length 1=i::rest/\((i:Nat):Int)=(c:Int)-48:=by
 rcases(KK:c=49\/c=50\/c=51\/c=52\/c=53\/c=54)with e|e|e|e|e|e<;>subst e
 .exact#[1,[],Nn,Nk]
 .exact#[2,[],Nn,Nk]
 .exact#[3,[],Nn,Nk]
 .exact#[4,[],Nn,Nk]
 .exact#[5,[],Nn,Nk]
 .exact#[6,[],Nn,Nk]
def Do{x:List Nat}(h:∀c∈x,bc c):(#[x.toArray]:Mr).cps.all (·<128)=true:=by
 rw[<-KE,Jg];intro c hc;have:=h c hc;unfold bc at this;simp;lia
def Dp{L:List (List Nat)}{j:Nat}{d:D}(h:(lstD L)[j]?=be d):∃x,L[j]?=be x/\d=.str #[x.toArray]:=by
 unfold lstD at h;rw[Iy]at h;cases e:L[j]? with
 |none=>rw[e]at h;cases h
 |some x=>rw[e]at h;cases h;exact#[x,rfl,rfl]
def Dq{x:List Nat}{i:Nat}{d:D}(h:(bW #[x.toArray])[i]?=be d):∃c,x[i]?=be c/\d=.str #[[c].toArray]:=by
 unfold bW at h;rw[Iy]at h;cases e:x[i]? with
 |none=>simp[e]at h
 |some c=>simp[e]at h;exact#[c,rfl,h.symm]
def vJ{α:Type}{l:List α}{i:Nat}{x:α}(h:l[i]?=be x):l.drop i=x::l.drop (i+1):=by
 have hi:i<l.length:=(IB.mp h).1;rw[JG hi];congr 1;rw[ID hi]at h;exact Option.some.inj h
def Dr:SpM:=λds M R RX=>∃(L:List (List Nat)) (wd:Nat) (w h s:Int),ds=[.lst (lstD L),.tup [.int w,.int h,.int s]]/\RowsL L wd/\0<w/\0<h/\h<1073741824/\0<=s/\s<1073741824/\R (.dti (hAll w h s 0 L [])) M
def moF(k:Nat)(sh:D)(hu:List ((Int×Int)×Int)):List (Mr×D):=[("place",.int k),("shifts",sh),("hues",.dti hu)]
def Ds:SiD:=λds R=>∃(k:Nat) (L:List (List Nat)) (wd:Nat) (a b c d:Int),ds=[.int k,.lst (lstD L),.tup [.int a,.int b],.tup [.int c,.int d]]/\RowsL L wd/\B12 a/\B12 b/\B12 c/\B12 d/\
 (a*d=b*c->R (moF k .non []))/\(¬a*d=b*c->∀w h s,FamOf a b c d w h s->R (moF k (.tup [.int w,.int h,.int s]) (hAll w h s 0 L [])))
def Dt{v:D}:putD ("place":Mr) v []=([("place",v)]:List (Mr×D)):=rfl
def vK{u v:D}:putD ("shifts":Mr) v [("place",u)]=([("place",u),("shifts",v)]:List (Mr×D)):=by
 unfold putD;rw[if_neg Nn];rfl
def vL{t u v:D}:putD ("hues":Mr) v [("place",t),("shifts",u)]=([("place",t),("shifts",u),("hues",v)]:List (Mr×D)):=by
 unfold putD;rw[if_neg Nn];unfold putD;rw[if_neg Nn];rfl
def lC{u v:D}:([("place",u),("shifts",v)]:List (Mr×D)).lookup ("shifts":Mr)=be v:=by
 rw[IC,show(("shifts":Mr)==("place":Mr))=false by decide+kernel];rfl
def Du:SiD:=λds R=>∃(x y:Mr) (fs gs:List (Mr×D)),ds=[.obj x fs,.obj y gs]/\R [("above",.obj x fs),("below",.obj y gs)]
def Dv:SiD:=λds R=>∃(x:Mr) (fs:List (Mr×D)) (a b:Int),ds=[.obj x fs,.int a,.int b]/\R [("form",.obj x fs),("x",.int a),("y",.int b)]
def Dw:SiD:=λds R=>∃(x:Mr) (fs:List (Mr×D)),ds=[.obj x fs]/\R [("form",.obj x fs)]
def Dx:SiD:=λds R=>∃(x:Mr) (fs:List (Mr×D)),ds=[.obj x fs]/\R [("form",.obj x fs)]
def Dy:SiD:=λds R=>∃(x:Mr) (fs:List (Mr×D)) (a b:Int),ds=[.obj x fs,.int a,.int b]/\R [("form",.obj x fs),("old",.int a),("new",.int b)]
def FormOf:Pat->D->Prop
 |.mot L a b c d,v=>∃(k:Nat) (w h s:Int),v=.obj "Motif" (moF k (.tup [.int w,.int h,.int s]) (hAll w h s 0 (L.map cs) []))/\FamOf a b c d w h s
 |.over p q,v=>∃u u',v=.obj "Over" [("above",u),("below",u')]/\FormOf p u/\FormOf q u'
 |.sh a b p,v=>∃u,v=.obj "Shifted" [("form",u),("x",.int a),("y",.int b)]/\FormOf p u
 |.mir p,v=>∃u,v=.obj "Mirror" [("form",u)]/\FormOf p u
 |.tur p,v=>∃u,v=.obj "Turn" [("form",u)]/\FormOf p u
 |.hue f g p,v=>∃u,v=.obj "Rehue" [("form",u),("old",.int f),("new",.int g)]/\FormOf p u
def Pat.cls:Pat->Mr
 |.mot ..=>"Motif"|.over ..=>"Over"|.sh ..=>"Shifted"|.mir ..=>"Mirror"|.tur ..=>"Turn"|.hue ..=>"Rehue"
variable{r:List (Mr×My.D)}
def bG{f g:Mr}{v:D}(h:(f==g)=false)(hr:r.lookup f=z6):(((g,v)::r:List (Mr×D))).lookup f=none:=by
 rw[IC,h];exact hr
structure ObjM(p:Pat)(fs:List (Str×D)):Prop where
 nl:noLF fs=true
 fam:fs.lookup ("family":Mr)=z6
 shw:fs.lookup ("shows":Mr)=z6
def FormOf.objm:∀{v:D},FormOf p v->∃fs,v=.obj p.cls fs/\ObjM p fs:=by
 have n1 {g:Mr} {u:D} {f:Mr} (h:(f==g)=false):([(g,u)]:List (Mr×D)).lookup f=none:=bG h rfl;have nn {fs:List (Mr×D)} {x:Mr} (h:noLF fs=true):noL (.obj x fs)=true:=by simp[noL,h]
 induction p with
 |mot L a b c d=>
  rintro _⟨k,w,h,s,rfl,_⟩;exact#[_,rfl,by simp[noL,noLF,noLs,moF],bG Nn (bG Nn (n1 Nn)),bG Nn (bG Nn (n1 Nn))]
 |over p q i j=>
  rintro _⟨u,u',rfl,h1,h2⟩;let#[fs,rfl,o1]:=i h1;let#[gs,rfl,o2]:=j h2;exact#[_,rfl,by simp[noLF,nn o1.nl,nn o2.nl],bG Nn (n1 Nn),bG Nn (n1 Nn)]
 |sh a b p i=>
  rintro _⟨u,rfl,h1⟩;let#[fs,rfl,o1]:=i h1;exact#[_,rfl,by simp[noL,noLF,o1.nl],bG Nn (bG Nn (n1 Nn)),bG Nn (bG Nn (n1 Nn))]
 |mir p i=>
  rintro _⟨u,rfl,h1⟩;let#[fs,rfl,o1]:=i h1;exact#[_,rfl,by simp[noLF,nn o1.nl],n1 Nn,n1 Nn]
 |tur p i=>
  rintro _⟨u,rfl,h1⟩;let#[fs,rfl,o1]:=i h1;exact#[_,rfl,by simp[noLF,nn o1.nl],n1 Nn,n1 Nn]
 |hue f g p i=>
  rintro _⟨u,rfl,h1⟩;let#[fs,rfl,o1]:=i h1;exact#[_,rfl,by simp[noL,noLF,o1.nl],bG Nn (bG Nn (n1 Nn)),bG Nn (bG Nn (n1 Nn))]
def Dz(h:Rows L):∃w,RowsL (L.map cs) w:=by
 let#[h1,w,h2,h3]:=h;refine#[w,by rw[Ij];exact h1,h2.1,h2.2,λx hx=>?_];let#[l,hl,rfl]:=IJ.mp hx;rw[aZ];exact h3 l hl
def vM(h:1<=f/\f<=6):(48+f).toNat∈cs "123456":=by
 have e:cs "123456"=[49,50,51,52,53,54]:=rfl;rw[e];simp;lia
def Pat.LineM:Pat->Prop
 |.mot L a b c d=>Rows L/\B12 a/\B12 b/\B12 c/\B12 d/\a*d=b*c
 |_=>False
def FormL(p:Pat)(k:Nat)(v:D):Prop:=(p.Wf/\FormOf p v)\/(p.LineM/\v=.obj "Motif" (moF k .non []))
def FormL.good{v:D}(hp:p.Wf)(h:FormL p k v):FormOf p v:=by
 rcases h with h|⟨h,_⟩
 .exact h.2
 .cases p with
  |mot L a b c d=>exact absurd h.2.2.2.2.2 hp.2.2.2.2.2
  |_=>exact h.elim
def DB:SpM:=λds M R RX=>∃(g:Pi) (t:Mr) (k:Nat) (L:List Mr) (a b c d:Int) (o:Bool) (l:List Nat),ds=[.ptr g]/\M=RdM g t k/\At t k (cutL o (motL (L.map cs) a b c d) l)/\((Pat.mot L a b c d).Wf\/(Pat.mot L a b c d).LineM)/\two o (∀v,FormL (.mot L a b c d) k v->R v (RdM g t (k+(motL (L.map cs) a b c d).length))) (∀M',RX "WrongSign" [("place",.int t.length)] M')
def dL(j:Nat):SpM:=λds M R RX=>∃(a:Pi) (t:Mr) (k:Nat) (p:Pat) (o:Bool) (l:List Nat) (d:Nat),ds=[.ptr a,.int d]/\M=RdM a t k/\At t k (cutL o p.tl l)/\d+j=6/\1<=j/\(p.Wf\/p.LineM)/\p.depth+d<=5/\two o (∀v,FormL p k v->R v (RdM a t (k+p.tl.length))) (∀M',RX "WrongSign" [("place",.int t.length)] M')
variable{R:My.D->MS->Prop}{ds:List My.D}{RX:XDM}
def DC:¬dL 0 ds M R RX:=by
 rintro⟨_,_,_,_,_,_,_,_,_,_,_,h,_⟩;exact absurd h Nk
def vN(j:Nat):SpM:=λds M R RX=>∃(a:Pi) (t:Mr) (k:Nat) (p q:Pat) (o:Bool) (l:List Nat) (d:Nat),ds=[.ptr a,.int d]/\M=RdM a t k/\At t k (p.tl++124::(q.tl++cutL o [41] l))/\d+j=6/\1<=j/\p.Wf/\q.Wf/\p.depth+d<=5/\q.depth+d<=5/\two o (∀u u',FormOf p u->FormOf q u'->R (.obj "Over" [("above",u),("below",u')]) (RdM a t (k+p.tl.length+1+q.tl.length+1))) (∀M',RX "WrongSign" [("place",.int t.length)] M')
def vO(j:Nat):SpM:=λds M R RX=>∃(a:Pi) (t:Mr) (k:Nat) (x y:Int) (p:Pat) (o:Bool) (l:List Nat) (d:Nat),ds=[.ptr a,.int d]/\M=RdM a t k/\At t k (numL x++44::(numL y++58::cutL o p.tl l))/\d+j=6/\1<=j/\B12 x/\B12 y/\p.Wf/\p.depth+d<=5/\two o (∀u,FormOf p u->R (.obj "Shifted" [("form",u),("x",.int x),("y",.int y)]) (RdM a t (k+(numL x).length+1+(numL y).length+1+p.tl.length))) (∀M',RX "WrongSign" [("place",.int t.length)] M')
def vP(j:Nat):SpM:=λds M R RX=>∃(a:Pi) (t:Mr) (k:Nat) (f g:Int) (p:Pat) (o:Bool) (l:List Nat) (d:Nat),ds=[.ptr a,.int d]/\M=RdM a t k/\At t k ((48+f).toNat::(48+g).toNat::cutL o p.tl l)/\d+j=6/\1<=j/\(1<=f/\f<=6)/\(1<=g/\g<=6)/\p.Wf/\p.depth+d<=5/\two o (∀u,FormOf p u->R (.obj "Rehue" [("form",u),("old",.int f),("new",.int g)]) (RdM a t (k+2+p.tl.length))) (∀M',RX "WrongSign" [("place",.int t.length)] M')
def vQ{b:Bool}{l:List Nat}:mayS "(smth" (cutL b p.tl l)=mayS "(smth" p.tl/\mayN "(smth" (cutL b p.tl l)=mayN "(smth" p.tl:=by
 let#[c,x,e,hx]:∃c x,p.tl=c::x/\x≠[]:=by cases p<;>exact#[_,_,rfl,by simp[Pat.tl_ne]]
 rw[e,cutL_cons hx];exact#[rfl,rfl]
def Pat.cls_mem(p:Pat):p.cls∈(["Motif","Over","Shifted","Mirror","Turn","Rehue"]:List Mr):=by
 cases p<;>simp[Pat.cls]
variable{hu:List ((Int×Int)×Int)}
def mo_shifts{sh:D}:(moF k sh hu).lookup ("shifts":Mr)=be sh:=by
 unfold moF;rw[IC,show(("shifts":Mr)==("place":Mr))=false by decide+kernel];rfl
def DD{sh:D}:(moF k sh hu).lookup ("hues":Mr)=be (.dti hu):=by
 unfold moF;rw[IC,show(("hues":Mr)==("place":Mr))=false by decide+kernel,IC,show(("hues":Mr)==("shifts":Mr))=false by decide+kernel];rfl
def fJ{f g:Mr}{u v:D}(h:(g==f)=false):(((f,u)::(g,v)::r:List (Mr×D))).lookup g=be v:=by
 rw[IC,h,IC,beq_self_eq_true]
def lD{e f g:Mr}{t u v:D}(h1:(g==e)=false)(h2:(g==f)=false):(((e,t)::(f,u)::(g,v)::r:List (Mr×D))).lookup g=be v:=by
 rw[IC,h1];exact fJ h2
def Pat.Fits.small(h:p.Fits){k:Int}(f:p.Fam w k s):0<w/\w<=720/\0<k/\k<=720/\0<=s/\s<w:=by
 let#[w',k',s',f',hb]:=h;let#[rfl,rfl,rfl]:=f.uniq f';let#[h1,h2]:=dH f.f.w0 f.f.h0;exact#[f.f.w0,KK,f.f.h0,KK,f.f.s0,f.f.sw]
def Pat.Fits.over_parts{q:Pat}(hp:p.Wf)(hq:q.Wf)(h:(Pat.over p q).Fits):p.Fits/\q.Fits:=by
 let#[w,k,s,f,hb]:=h;let#[w1,k1,s1,f1]:=Pat.fam_ex hp;let#[w2,k2,s2,f2]:=Pat.fam_ex hq;have l1:=(InF.le f1.f.w0 f1.f.h0 f.f.w0 f.f.h0 (λx y z=>(f1.lat x y).mpr ((f.lat x y).mp z).1)).1;have l2:=(InF.le f2.f.w0 f2.f.h0 f.f.w0 f.f.h0 (λx y z=>(f2.lat x y).mpr ((f.lat x y).mp z).2)).1;exact#[#[w1,k1,s1,f1,KK],#[w2,k2,s2,f2,KK]]
def Pat.Fits.of_sh(h:(Pat.sh a b p).Fits):p.Fits:=by
 let#[w,k,s,f,hb]:=h;exact#[w,k,s,#[f.f,f.lat],hb]
def Pat.Fits.of_hue(h:(Pat.hue a b p).Fits):p.Fits:=by
 let#[w,k,s,f,hb]:=h;exact#[w,k,s,#[f.f,f.lat],hb]
def Pat.Fits.of_mir(hp:p.Wf)(h:(Pat.mir p).Fits):p.Fits:=by
 let#[w,k,s,f,hb]:=h;let#[w1,k1,s1,f1]:=Pat.fam_ex hp;let#[rfl,rfl,_]:=f.uniq f1.mir;exact#[_,_,_,f1,hb]
def Pat.Fits.of_tur(hp:p.Wf)(h:(Pat.tur p).Fits):p.Fits:=by
 let#[w,k,s,f,hb]:=h;let#[w1,k1,s1,f1]:=Pat.fam_ex hp;let#[w',k',s',f',e]:=lv (s:=s1) f1.f.w0 f1.f.h0;let#[rfl,rfl,_]:=f.uniq (f1.tur f');exact#[_,_,_,f1,KK]
def Pat.Cal:Pat->Prop
 |.mot ..=>True
 |.over p q=>p.Cal/\q.Cal/\p.Fits/\q.Fits
 |.sh _ _ p=>p.Cal
 |.mir p=>p.Cal
 |.tur p=>p.Cal/\p.Fits
 |.hue _ _ p=>p.Cal
def Pat.cal_of:∀{p:Pat},p.Wf->p.Fits->p.Cal
 |.mot ..,_,_=>trivial
 |.over p q,h,f=>#[Pat.cal_of h.1 (Pat.Fits.over_parts h.1 h.2 f).1,Pat.cal_of h.2 (Pat.Fits.over_parts h.1 h.2 f).2,Pat.Fits.over_parts h.1 h.2 f]
 |.sh a b p,h,f=>Pat.cal_of (p:=p) h.2.2 f.of_sh
 |.mir p,h,f=>Pat.cal_of (p:=p) h (Pat.Fits.of_mir (p:=p) h f)
 |.tur p,h,f=>#[Pat.cal_of (p:=p) h (Pat.Fits.of_tur (p:=p) h f),Pat.Fits.of_tur (p:=p) h f]
 |.hue a b p,h,f=>Pat.cal_of (p:=p) h.2.2 f.of_hue
def DF{sh:D}:(moF k sh hu).lookup ("place":Mr)=be (.int k):=rfl
def ck(j:Nat)(x:Mr):SpX:=λds R RX=>(∃(p:Pat) (v:D),ds=[v]/\FormOf p v/\p.Wf/\p.depth<j/\p.cls=x/\p.Cal/\∀w h s,p.Fam w h s->R (.tup [.int w,.int h,.int s]))\/(∃k:Nat,ds=[.obj "Motif" (moF k .non [])]/\0<j/\"Motif"=x/\RX "OneLine" [("place",.int k)])
def fK{x:Mr}:¬ofX (ck 0 x) ds M R RX:=by
 rintro(⟨_,_,_,_,_,h,_⟩|⟨_,_,h,_⟩)
 .exact absurd h (JZ _)
 .exact absurd h (JZ _)
def DG:SiD:=λds R=>∃i:Int,ds=[.int i]/\R [("place",.int i)]
def lookD_app(x y v X Y:Int):∀kv:List ((Int×Int)×Int),lookD (kv++[((x,y),v)]) X Y=match lookD kv X Y with|some u=>be u|none=>if x=X/\y=Y then be v else z6
 |[]=>rfl
 |((a,b),h)::r=>by
  show lookD (((a,b),h)::(r++[((x,y),v)])) X Y=_;unfold lookD;by_cases e:a=X/\b=Y
  .rw[if_pos e,if_pos e]
  .rw[if_neg e,if_neg e];exact lookD_app x y v X Y r
def DJ(kv:List ((Int×Int)×Int))(x y v X Y:Int):lookD (sdD kv x y v) X Y=match lookD kv X Y with|some u=>be u|none=>if x=X/\y=Y then be v else none:=by
 unfold sdD;split
 .rename_i hs;cases e:lookD kv X Y with
  |some u=>rfl
  |none=>
   show z6=_;rw[if_neg];rintro⟨rfl,rfl⟩;rw[e]at hs;cases hs
 .exact lookD_app x y v X Y kv
def look_row(w h s:Int)(j:Nat)(X Y:Int):∀(x:List Nat) (i:Nat) (kv:List ((Int×Int)×Int)),lookD (hRow w h s j i x kv) X Y=match lookD kv X Y with|some u=>be u|none=>(scanRow (λi=>decide (hmX w h s i j=X/\(j:Int)%h=Y)) i x).map λc=>(c:Int)-48
 |[],i,kv=>by
  rw[hRow,scanRow];cases lookD kv X Y<;>rfl
 |c::r,i,kv=>by
  rw[hRow,look_row w h s j X Y r (i+1),scanRow];by_cases z9:c=46
  .rw[if_pos z9,if_neg (c:=c≠46/\_) (λz=>z.1 z9)]
  .rw[if_neg z9,DJ];cases lookD kv X Y with
   |some u=>rfl
   |none=>
    by_cases e:hmX w h s i j=X/\(j:Int)%h=Y
    .rw[if_pos (c:=c≠46/\_) #[z9,decide_eq_true e]];show(match (if hmX w h s i j=X/\(j:Int)%h=Y then be ((c:Int)-48)else z6)with|some u=>be u|none=>_)=_;rw[if_pos e];rfl
    .rw[if_neg (c:=c≠46/\_) (λz=>e (of_decide_eq_true z.2))];show(match (if hmX w h s i j=X/\(j:Int)%h=Y then be ((c:Int)-48)else z6)with|some u=>be u|none=>_)=_;rw[if_neg e]
def vR(w h s X Y:Int):∀(L:List Mr) (j:Nat) (kv:List ((Int×Int)×Int)),lookD (hAll w h s j (L.map cs) kv) X Y=match lookD kv X Y with|some u=>be u|none=>(ca (λi j=>decide (hmX w h s i j=X/\j%h=Y)) j L).map λc=>(c:Int)-48
 |[],j,kv=>by
  rw[JN,hAll,ca];cases lookD kv X Y<;>rfl
 |x::r,j,kv=>by
  rw[IH,hAll,vR w h s X Y r (j+1),look_row,ca];cases lookD kv X Y with
  |some u=>rfl
  |none=>
   show(match (scanRow (λi=>decide (hmX w h s i j=X/\(j:Int)%h=Y)) 0 (cs x)).map (λc=>(c:Int)-48)with|some u=>be u|none=>_)=_;cases scanRow (λi=>decide (hmX w h s i j=X/\(j:Int)%h=Y)) 0 (cs x)<;>rfl
def DK(F:FamOf a b c d w h s)(hn:¬a*d=b*c)(x y i j:Int):decide (hmX w h s i j=hmX w h s x y/\j%h=y%h)=onB a b c d (x-i) (y-j):=by
 have hw:=F.1;have hh:=F.2.1;have key:(hmX w h s i j=hmX w h s x y/\j%h=y%h)↔InF w h s (x-i) (y-j):=by
  unfold hmX;constructor
  .rintro⟨e1,e2⟩;have dy:=JY y h;have dj:=JY j h;have m1:=JY (x-y/h*s) w;have m2:=JY (i-j/h*s) w;refine#[(x-y/h*s)/w-(i-j/h*s)/w,y/h-j/h,?_,?_]
   .rw[KP,KP,IN ((x-y/h*s)/w) w,IN ((i-j/h*s)/w) w];lia
   .rw[KP,IN (y/h) h,IN (j/h) h];lia
  .rintro⟨m,q,ex,ey⟩;have UD:y=j+q*h:=by lia
   have Sj:x=i+(m*w+q*s):=KK
   subst Sj UD;rw[LL,LM _ _ KK];refine#[?_,rfl];have e:i+(m*w+q*s)-(j/h+q)*s=i-j/h*s+m*w:=by rw[KQ];lia
   rw[e,LL]
 unfold onB;congr 1;apply propext;rw[key,F.lat];constructor
 .rintro⟨m,q,eu,ev⟩;exact uz eu ev
 .exact λz=>vq hn z
def DL{c:Nat}(h:49<=c/\c<=54):cell [0,1,2,3,4,5,6] ((c:Int)-48)=(c:Int)-48:=by
 rcases(KK:c=49\/c=50\/c=51\/c=52\/c=53\/c=54)with e|e|e|e|e|e<;>subst e<;>rfl
def motif_shows(hL:Rows L)(F:FamOf a b c d w h s)(hn:¬a*d=b*c)(x y:Int):(lookD (hAll w h s 0 (L.map cs) []) (hmX w h s x y) (y%h)).getD 0=(bu L a b c d).shows x y:=by
 rw[vR];show((ca (λi j=>decide (hmX w h s i j=hmX w h s x y/\j%h=y%h)) 0 L).map λc=>(c:Int)-48).getD 0=_;have e:(λi j=>decide (hmX w h s i j=hmX w h s x y/\j%h=y%h))=λi j=>onB a b c d (1*x+0*y+0-i) (0*x+1*y+0-j):=by
  funext i j;rw[DK F hn];congr 1<;>lia
 rw[e];show _=match ca (λi j=>onB a b c d (1*x+0*y+0-i) (0*x+1*y+0-j)) 0 L with|some c=>cell [0,1,2,3,4,5,6] ((c:Int)-48)|none=>0
 cases q:ca (λi j=>onB a b c d (1*x+0*y+0-i) (0*x+1*y+0-j)) 0 L with
 |none=>rfl
 |some c=>
  have hc:49<=c/\c<=54:=lu (λl' q=>let ⟨_,_,_,h⟩:=hL;(h l' q).2) q;exact(DL hc).symm
def cm(j:Nat)(x:Mr):SpX:=λds R _=>∃(p:Pat) (v:D) (X Y:Int),ds=[v,.int X,.int Y]/\FormOf p v/\p.Wf/\p.depth<j/\p.cls=x/\R (.int (p.show X Y))
def fL{x:Mr}:¬ofX (cm 0 x) ds M R RX:=by
 rintro⟨_,_,_,_,_,_,_,h,_⟩;exact absurd h (JZ _)
structure PatOf(p:Pat)(w h s:Int)(fs:List (Str×D)):Prop extends Pat.Fam p w h s where
 form:∃v,fs.lookup ("form":Mr)=be v/\FormOf p v
 nl:noLF fs=true
def bg(p:Pat)(d:D):Prop:=∃w h s fs,d=.obj "Pattern" fs/\fs.lookup ("text":Mr)=be (.str p.text)/\fs.lookup ("shifts":Mr)=be (.tup [.int w,.int h,.int s])/\PatOf p w h s fs
def br(x:Int):Prop:=-1000000000000<=x/\x<=1000000000000
def Pat.show_le(h:p.Wf)(hd:p.depth<=40)(x y:Int):0<=p.show x y/\p.show x y<=6:=by
 rw[<-Pat.show_leaves h hd];exact vi x y (Pat.leaf_ok h hd)
def aV(h:Int):Nat:=if h=0 then 46 else(48+h).toNat
def aM(p:Pat)(x y:Int)(n:Nat):Str:=#[((Il n).map λ(k:Nat)=>aV (p.show (x+(k:Int)) y)).toArray]
def cE(p:Pat)(x y:Int)(n:Nat):(aM p x y n).length=n:=by simp[aM,Str.length]
def vS(h0:0<=h)(h6:h<=6):atI (cs ".123456") h=be (aV h):=by
 rcases(KK:h=0\/h=1\/h=2\/h=3\/h=4\/h=5\/h=6)with e|e|e|e|e|e|e<;>subst e<;>decide+kernel
def range2_int{x:D}(h:((Il (j-i).toNat).map λk=>D.int (i+((k:Nat):Int)))[k]?=be x):k<(j-i).toNat/\x=.int (i+(k:Int)):=by
 have hk:k<(j-i).toNat:=by simpa using(IB.mp h).1
 refine#[hk,?_];simp[hk]at h;exact h.symm
def vT:∀L:List Mr,cs (Str.join "" L)=L.flatMap cs
 |[]=>rfl
 |[x]=>by simp[Str.join]
 |x::y::r=>by
  show cs (x++""++Str.join "" (y::r))=_;rw[bE,bE,vT (y::r),vf];simp
def join_one(f:Nat->Nat)(n:Nat):Str.join "" ((Il n).map λi=>(#[[f i].toArray]:Mr))=#[((Il n).map f).toArray]:=by
 apply gp;rw[vT,List.flatMap_map];show(Il n).flatMap (λi=>[f i])=(Il n).map f;rw[List.map_eq_flatMap]
def DM{sh:D}:(moF k sh hu).lookup ("family":Mr)=none:=bG Nn (bG Nn (bG Nn rfl))
def DN:SiD:=λds R=>∃(t:Mr) (w h s:Int) (x:Mr) (fs:List (Mr×D)),ds=[.str t,.tup [.int w,.int h,.int s],.obj x fs]/\R [("text",.str t),("shifts",.tup [.int w,.int h,.int s]),("form",.obj x fs)]
def S_read:SpX:=λds R RX=>∃p:Pat,p.depth<=5/\((ds=[.str p.text]/\p.Wf/\p.Cal/\(∀w h s,p.Fam w h s->w<=1000000)/\(p.Fits->∀d,bg p d->R d)/\(¬p.Fits->RX "TooGreat" []))\/
 (p.Wf/\∃t:Mr,ds=[.str t]/\((cs t=p.tl.dropLast/\RX "WrongSign" [("place",.int t.length)])\/∃c,cs t=p.tl++[c]/\RX "WrongSign" [("place",.int p.tl.length)]))\/
 (ds=[.str p.text]/\p.LineM/\RX "OneLine" [("place",.int (0:Nat))]))
def DO{R:D->Prop}(ok:p.Ok)(h:∀d,bg p d->R d):tR S_read [.str p.text] R:=#[p,ok.deep,.inl #[rfl,ok.wf,Pat.cal_of ok.wf ok.fits,λw h s f=>by have:=ok.fits.small f;lia,λ_=>h,λz=>z ok.fits]]
def S_read.mono{R R':D->Prop}{RX S2:XD}(h:S_read ds R RX)(hR:∀d,R d->R' d)(hX:∀x fs,RX x fs->S2 x fs):S_read ds R' S2:=by
 rcases h with⟨p,hd,⟨e,h1,h2,h3,h4,h5⟩|⟨h1,t,e,h2⟩|⟨e,h1,h2⟩⟩
 .exact#[p,hd,.inl #[e,h1,h2,h3,λf d i=>hR d (h4 f d i),λz=>hX _ _ (h5 z)]]
 .exact#[p,hd,.inr (.inl #[h1,t,e,h2.imp (λz=>#[z.1,hX _ _ z.2]) λ⟨c,z1,z2⟩=>#[c,z1,hX _ _ z2]])]
 .exact#[p,hd,.inr (.inr #[e,h1,hX _ _ h2])]
def lF{R:D->Prop}{RX:XD}(ok:p.Ok)(h:∀d,bg p d->R d):S_read [.str p.text] R RX:=(DO ok h).mono (λ_ h=>h) λ_ _ z=>z.elim
def DP(h:p.LineM):p.text.length<=100:=by
 cases p with
 |mot L a b c d=>exact vA h.1 h.2.1 h.2.2.1 h.2.2.2.1 h.2.2.2.2.1
 |_=>exact h.elim
def DQ:SpX:=λds R RX=>∃x y:Int,ds=[.int x,.int y]/\(br x/\br y->R .non)/\(¬(br x/\br y)->RX "TooFar" [])
def DR:SpX:=λds R RX=>∃(p:Pat) (d:D) (x y:Int),ds=[d,.int x,.int y]/\bg p d/\p.Ok/\(br x/\br y->R (.int (p.show x y)))/\(¬(br x/\br y)->RX "TooFar" [])
def DU:SpD:=λds R=>∃(p:Pat) (d:D) (x y:Int) (n:Nat),ds=[d,.int x,.int y,.int n]/\bg p d/\p.Ok/\n<=1000/\br x/\br (x+n-1)/\br y/\R (.str (aM p x y n))
def rowD(p:Pat)(x y:Int)(n:Nat):List D:=(Il n).map λ(i:Nat)=>D.str #[[aV (p.show (x+(i:Int)) y)].toArray]
def vU(p:Pat)(x y:Int)(k:Nat):rowD p x y k++[D.str #[[aV (p.show (x+(k:Int)) y)].toArray]]=rowD p x y (k+1):=by
 unfold rowD;rw[JR,II];rfl
def vV(p:Pat)(x y:Int)(hn:n<=1000):∃ys,cU (rowD p x y n)=be ys/\(ys.map (·.length)).sum+ys.length*("":Mr).length<=1000000/\Txt.join "" ys=aM p x y n:=by
 have e1:rowD p x y n=((Il n).map λ(i:Nat)=>(#[[aV (p.show (x+(i:Int)) y)].toArray]:Mr)).map D.str:=by unfold rowD;rw[JW];rfl
 rw[e1];refine#[_,lr _,?_,(StrLaws.glued_eq_join _ _).trans (join_one (λi=>aV (p.show (x+(i:Int)) y)) n)];rw[vg (w:=1) (λl hl=>by let#[i,_,rfl]:=IJ.mp hl;rfl),Ij,Km,show("":Mr).length=0 from rfl];lia
def DV{n:Int}:x.fmod n=0↔n∣x:=#[Int.dvd_of_fmod_eq_zero,KI]
def DY(a b c d u v i j:Int):onB a b c d (u+(i*a+j*c)) (v+(i*b+j*d))=onB a b c d u v:=by
 unfold onB;have e1:(u+(i*a+j*c))*d-(v+(i*b+j*d))*c=(u*d-v*c)+(a*d-b*c)*i:=Oi
 have e2:a*(v+(i*b+j*d))-b*(u+(i*a+j*c))=(a*v-b*u)+(a*d-b*c)*j:=Oi
 rw[e1,e2];simp only[DV];have h1:(a*d-b*c∣u*d-v*c+(a*d-b*c)*i)↔a*d-b*c∣u*d-v*c:=LN (LO _ _);have h2:(a*d-b*c∣a*v-b*u+(a*d-b*c)*j)↔a*d-b*c∣a*v-b*u:=LN (LO _ _);simp only[h1,h2]
def Pat.Keeps(p:Pat)(X Y:Int):Prop:=∀x y,p.show (x+X) (y+Y)=p.show x y
def Pat.lat_keeps:∀{p:Pat} {X Y:Int},p.Lat X Y->p.Keeps X Y
 | .mot L a b c d,_,_,⟨i,j,rfl,rfl⟩,x,y=>by
  have e:∀u v:Int,onB a b c d (1*(x+(i*a+j*c))+0*(y+(i*b+j*d))+0-u) (0*(x+(i*a+j*c))+1*(y+(i*b+j*d))+0-v)=onB a b c d (1*x+0*y+0-u) (0*x+1*y+0-v):=λu v=>by
   rw[<-DY a b c d (1*x+0*y+0-u) (0*x+1*y+0-v) i j];congr 1<;>lia
  show Leaf.shows _ _ _=Leaf.shows _ _ _;unfold Leaf.shows Leaf.hit;simp only[bu,e]
 |.over p q,X,Y,h,x,y=>by
  simp only[Pat.show];rw[Pat.lat_keeps h.1 x y,Pat.lat_keeps h.2 x y]
 |.sh a b p,X,Y,h,x,y=>by
  have:=Pat.lat_keeps (p:=p) h (x-a) (y-b);simp only[Pat.show];rw[<-this];congr 1<;>lia
 |.mir p,X,Y,h,x,y=>by
  have:=Pat.lat_keeps (p:=p) h (-x) y;simp only[Pat.show];rw[<-this];congr 1;lia
 |.tur p,X,Y,h,x,y=>by
  have:=Pat.lat_keeps (p:=p) h y (-x);simp only[Pat.show];rw[<-this];congr 1;lia
 |.hue f g p,X,Y,h,x,y=>by
  simp only[Pat.show];rw[Pat.lat_keeps (p:=p) h x y]
def InF.one(w h s:Int):InF w h s w 0:=#[1,0,KK,KK]
def Pat.Fam.keeps(f:p.Fam w h s)(q:InF w h s x y):p.Keeps x y:=Pat.lat_keeps ((f.lat x y).mp q)
def DZ(hw:0<w)(hh:0<h)(x y:Int):InF w h s (x-hmX w h s x y) (y-y%h):=by
 have e1:=JE y h;have e2:=JE (x-y/h*s) w;refine#[(x-y/h*s)/w,y/h,?_,by rw[e1,IN];lia];unfold hmX;rw[e2,IN w];lia
def Pat.show_home(hw:0<w)(hh:0<h)(k:∀x y,InF w h s x y->p.Keeps x y)(x y:Int):p.show (hmX w h s x y) (y%h)=p.show x y:=by
 have:=k _ _ (DZ (s:=s) hw hh x y) (hmX w h s x y) (y%h);rw[<-this];congr 1<;>lia
def D0(f:Nat->Nat){w c:Nat}(h:c<w):((Il w).map f).drop c++((Il w).map f).take c=(Il w).map λk=>f ((c+k)%w):=by
 apply JB;intro i;by_cases h1:i<w-c
 .rw[Ja (by simp;exact h1),KR,Iy,Iy,IY KK,IY KK];simp[LP (show c+i<w by lia)]
 .rw[Jp Qh];simp only[Jq,Ij,Km];by_cases h2:i<w
  .rw[Ke KK,Iy,Iy,IY KK,IY KK];have e:(c+i)%w=i-(w-c):=by
    rw[show c+i=(i-(w-c))+w by lia,Nat.add_mod_right,LP KK]
   simp[e]
  .rw[IV Qh,IV Qh]
def gq(l:List Nat):cs (#[l.toArray]:Mr)=l:=Nq
def D1{l:List Nat}(ht:cs t=l)(c0:0<=c)(cl:c<l.length):Txt.slice t (be c) z6++Txt.slice t z6 (be c)=(#[(l.drop c.toNat++l.take c.toNat).toArray]:Mr):=by
 have hl:t.length=l.length:=by rw[<-ht,aZ]
 apply gp;rw[bE,slice_cps,slice_cps,gq,gq,gq,show t.cps.toList=l from ht,hl];have e1:HT.sIx l.length 0 (be c)=c.toNat:=by show(if c<0 then _ else min c.toNat l.length)=_;rw[if_neg KK];lia
 have e2:HT.sIx l.length l.length z6=l.length:=rfl;have e3:HT.sIx l.length 0 z6=0:=rfl;have e4:HT.sIx l.length l.length (be c)=c.toNat:=by show(if c<0 then _ else min c.toNat l.length)=_;rw[if_neg KK];lia
 rw[e1,e2,e3,e4,J6,JD Nq];rfl
def df(p:Pat)(x y:Int)(n:Nat):cs (aM p x y n)=(Il n).map λ(k:Nat)=>aV (p.show (x+(k:Int)) y):=gq _
def D2(hw:0<w)(hh:0<h)(k:∀x y,InF w h s x y->p.Keeps x y)(x y:Int):
  Txt.slice (aM p 0 (y%h) w.toNat) (be (hmX w h s x y)) z6++Txt.slice (aM p 0 (y%h) w.toNat) z6 (be (hmX w h s x y))=aM p x y w.toNat:=by
 have c0:0<=hmX w h s x y:=Ji _ KK;have c1:hmX w h s x y<w:=Jj _ hw;rw[D1 (df p 0 (y%h) w.toNat) c0 Qh,D0 _ KK];unfold aM;congr 2;apply JS;intro i _;have e:=Pat.show_home hw hh k (x+(i:Int)) y;rw[<-e];congr 2;have q:hmX w h s (x+(i:Int)) y=(hmX w h s x y+i)%w:=by
  unfold hmX;rw[Int.emod_add_emod];congr 1;lia
 rw[q,JH,LQ,JI,IM c0,IM KK]
def gu(p:Pat)(w h:Int):D:=.lst ((Il h.toNat).map λ(y:Nat)=>D.str (aM p 0 (y:Int) w.toNat))
def D3:SpD:=λds R=>∃(p:Pat) (d:D),ds=[d]/\bg p d/\p.Ok/\∀w h s,p.Fam w h s->w*h<=720->w<=720->h<=720->R (gu p w h)
def D4:SpD:=λds R=>∃(p:Pat) (w h s x y:Int),ds=[.tup [.int w,.int h,.int s],gu p w h,.int x,.int y]/\p.Fam w h s/\w<=720/\h<=720/\R (.str (aM p x y w.toNat))
def D5(a0:0<=a)(a6:a<=6)(b0:0<=b)(b6:b<=6)(e:aV a=aV b):a=b:=by
 unfold aV at e;split at e<;>split at e<;>lia
def sumN(g:Nat->Int):Nat->Int
 |0=>0
 |n+1=>sumN g n+g n
def dM{g f:Nat->Int}:∀{n:Nat},(∀k,k<n->g k=f k)->sumN g n=sumN f n
 |0,_=>rfl
 |n+1,h=>by rw[sumN,sumN,dM λk hk=>h k KK,h n KK]
def gv(g:Nat->Int)(n:Nat):∀m:Nat,sumN g (n+m)=sumN g n+sumN (λk=>g (n+k)) m
 |0=>by simp[sumN]
 |m+1=>by rw[<-Nat.add_assoc,sumN,sumN,gv g n m];lia
def vW(g f:Nat->Int):∀n:Nat,sumN (λk=>g k+f k) n=sumN g n+sumN f n
 |0=>rfl
 |n+1=>by simp only[sumN,vW g f n];lia
def D6{g:Nat->Int}(hN:0<N)(NU:∀k,g (k+N)=g k)(n:Nat):sumN (λj=>(((n:Int)-1-j)/N+1)*g j) (min n N)=sumN g n:=by
 induction n using Nat.strongRecOn with
 |ind n ih=>
  by_cases h:n<=N
  .rw[JJ h];refine dM λk hk=>?_;rw[LR KK KK];simp
  .have e1:n=N+(n-N):=by lia
   have i:=ih (n-N) KK;have QZ:sumN (λk=>g (N+k)) (n-N)=sumN g (n-N):=dM λk _=>by rw[J1];exact NU k
   rw[Ko KK];have e2:sumN g n=sumN g N+sumN g (n-N):=by
    conv=>lhs;rw[e1]
    rw[gv,QZ]
   rw[e2,<-i];have e3:min (n-N) N+(N-min (n-N) N)=N:=KK
   have split:∀f:Nat->Int,sumN f N=sumN f (min (n-N) N)+sumN (λk=>f (min (n-N) N+k)) (N-min (n-N) N):=λf=>by
    conv=>lhs;rw[<-e3]
    exact gv _ _ _
   rw[split,split g];have a:sumN (λj=>(((n:Int)-1-j)/N+1)*g j) (min (n-N) N)=sumN g (min (n-N) N)+sumN (λj=>((((n-N:Nat):Int)-1-j)/N+1)*g j) (min (n-N) N):=by
    rw[<-vW];refine dM λk hk=>?_;have q:((n:Int)-1-k)/N=(((n-N:Nat):Int)-1-k)/N+1:=by
     rw[show((n:Int)-1-k)=(((n-N:Nat):Int)-1-k)+1*N by lia,LM _ _ KK]
    rw[q,KQ];lia
   have b:sumN (λk=>(((n:Int)-1-((min (n-N) N+k:Nat):Int))/N+1)*g (min (n-N) N+k)) (N-min (n-N) N)=sumN (λk=>g (min (n-N) N+k)) (N-min (n-N) N):=by
    refine dM λk hk=>?_;rw[LR KK KK];simp
   rw[a,b];lia
def cntN(f:Nat->Int)(v:Int)(n:Nat):Int:=sumN (λk=>if f k=v then 1 else 0) n
def vX(f:Nat->Int)(v:Int):∀n,0<=cntN f v n/\cntN f v n<=n
 |0=>by simp[cntN,sumN]
 |n+1=>by
  have:=vX f v n;unfold cntN at this ⊢;rw[sumN];split<;>lia
def D7{f:Nat->Int}{w:Nat}(hw:0<w)(NU:∀k,f (k+w)=f k)(v:Int)(m:Nat):((m/w:Nat):Int)*cntN f v w+cntN f v (m%w)=cntN f v m:=by
 have key:∀q r:Nat,cntN f v (w*q+r)=(q:Int)*cntN f v w+cntN f v r:=λq=>by
  have sh:∀q k,f (w*q+k)=f k:=λq=>by
   induction q with
   |zero=>intro k;rw[Nat.mul_zero,KS]
   |succ q ih=>intro k;rw[LS,show w*q+w+k=w*q+k+w by lia,NU];exact ih k
  induction q with
  |zero=>intro r;simp
  |succ q ih=>
   intro r;rw[LS,show w*q+w+r=w*q+(w+r)by lia,ih,JI,KQ];have e:cntN f v (w+r)=cntN f v w+cntN f v r:=by
    unfold cntN;rw[gv];congr 1;refine dM λk _=>?_;rw[J1 w k,NU]
   rw[e];simp;lia
 have:=key (m/w) (m%w);rw[Nat.div_add_mod]at this;exact this.symm
def iz(y:Mr)(c:Nat):∀(m a:Nat) (st:Array Nat×Nat),a+m=y.length+1->st.2<=a->st.1.size<=a->(forIn (List.range' a m) st (StrLaws.occBody y #[[c].toArray] y.length (y.length+1))).run.fst.size=st.1.size+(((cs y).drop a).filter (·==c)).length
 |0,a,st,h,_,_=>by
  rw[KU (by rw[aZ];lia)];rfl
 |m+1,a,st,h,h1,h2=>by
  have l1:(#[[c].toArray]:Mr).length=1:=rfl;have q:=StrLaws.subAt_eq y #[[c].toArray] a;rw[List.range'_succ,KB];by_cases ha:a<y.length
  .have hd:(cs y).drop a=(cs y)[a]'(by rw[aZ];exact ha)::(cs y).drop (a+1):=JG (by rw[aZ];exact ha);rw[show y.cps.toList.drop a=_ from hd,l1]at q;rw[hd,List.filter_cons];by_cases e:(cs y)[a]'(by rw[aZ];exact ha)=c
   .have eb:StrLaws.occBody y #[[c].toArray] y.length (y.length+1) a st=pure (.yield (st.1.push a,a+1)):=by
     unfold StrLaws.occBody;rw[if_pos #[#[#[KK,h1],by rw[l1];lia],by rw[q];simp[e]],l1]
    rw[eb];have:=iz y c m (a+1) (st.1.push a,a+1) KK (Ii _) Qh;simp only[e,beq_self_eq_true,if_true,Iu];refine Eq.trans this ?_;simp only[Array.size_push];lia
   .have eb:StrLaws.occBody y #[[c].toArray] y.length (y.length+1) a st=pure (.yield (st.1,st.2)):=by
     unfold StrLaws.occBody;rw[if_neg];rintro⟨_,z⟩;rw[q]at z;simp at z;exact e z
    rw[eb];have:=iz y c m (a+1) st KK KK KK;rw[if_neg (by simpa using e)];exact this
  .have eb:StrLaws.occBody y #[[c].toArray] y.length (y.length+1) a st=pure (.yield (st.1,st.2)):=by
    unfold StrLaws.occBody;rw[if_neg];rintro⟨⟨_,z⟩,_⟩;rw[l1]at z;lia
   rw[eb];have:=iz y c m (a+1) st KK KK KK;rw[KU (by rw[aZ];lia)];rw[KU (by rw[aZ];lia)]at this;exact this
def D8(y:Mr)(c:Nat):(Builtin.Str.occurrences y #[[c].toArray] 0 y.length (y.length+1)).length=((cs y).filter (·==c)).length:=by
 rw[StrLaws.occ_eq,Kb,iz y c _ 0 _ KK (Ii _) (Ii _)];simp
def vY(f:Nat->Int)(b:∀k,0<=f k/\f k<=6){v:Int}(v0:0<=v)(v6:v<=6):∀n:Nat,(((((Il n).map λk=>aV (f k)).filter (·==aV v)).length:Nat):Int)=cntN f v n
 |0=>rfl
 |n+1=>by
  rw[JR,II,List.filter_append,Ix,JI,vY f b v0 v6 n];show _=cntN f v n+_;congr 1;by_cases e:f n=v
  .simp[e]
  .have:¬aV (f n)=aV v:=λz=>e (D5 (b n).1 (b n).2 v0 v6 z);simp[this,e]
def D9(ok:p.Ok)(x y:Int)(v0:0<=v)(v6:v<=6)(n:Nat):(((cs (aM p x y n)).filter (·==aV v)).length:Int)=cntN (λk=>p.show (x+k) y) v n:=by
 rw[df];exact vY _ (λk=>Pat.show_le ok.wf (by have:=ok.deep;lia) _ _) v0 v6 n
def Ea(p:Pat)(x y:Int){r:Nat}(h:r<=n):Txt.slice (aM p x y n) z6 (be (r:Int))=aM p x y r:=by
 apply gp;rw[slice_cps,gq,df,show(aM p x y n).cps.toList=_ from df p x y n,cE];have e1:HT.sIx n 0 z6=0:=rfl;have e2:HT.sIx n n (be (r:Int))=r:=by show(if(r:Int)<0 then((r:Int)+n).toNat else min (r:Int).toNat n)=r;rw[if_neg KK];lia
 rw[e1,e2,J6,Kp,<-LU,LV,JJ h]
def occC(t:Mr)(c:Nat):Int:=((Builtin.Str.occurrences t #[[c].toArray] 0 t.length (t.length+1)).length:Nat)
def vZ(ok:p.Ok)(x y:Int)(v0:0<=v)(v6:v<=6)(n:Nat):occC (aM p x y n) (aV v)=cntN (λk=>p.show (x+k) y) v n:=by
 unfold occC;rw[D8,D9 ok x y v0 v6]
def bH(p:Pat)(v left top:Int)(m n:Nat):Int:=sumN (λj=>cntN (λk=>p.show (left+k) (top+j)) v m) n
def bL(p:Pat)(left top:Int)(m n:Nat):List Int:=(Il 7).map λ(v:Nat)=>bH p v left top m n
def Eb:SpD:=λds R=>∃(p:Pat) (x y v m:Int) (w:Nat),ds=[.str (aM p x y w),.str #[[aV v].toArray],.int m]/\p.Ok/\0<=v/\v<=6/\0<w/\w<=720/\0<=m/\m<2^63/\p.Keeps w 0/\R (.int (cntN (λk=>p.show (x+k) y) v m.toNat))
def Pat.Fam.across(F:p.Fam w h s):p.Keeps w 0:=F.keeps (InF.one w h s)
def Pat.Fam.down(F:p.Fam w h s):p.Keeps 0 (w*h):=F.keeps #[-s,w,by rw[KL,IN w s];lia,rfl]
def Ec(hN:0<N)(k:p.Keeps 0 N)(v left top:Int)(m n:Nat):sumN (λj=>(((n:Int)-1-j)/N+1)*cntN (λk=>p.show (left+k) (top+j)) v m) (min n N)=bH p v left top m n:=by
 refine D6 (g:=λj=>cntN (λk=>p.show (left+k) (top+j)) v m) hN (λj=>?_) n;unfold cntN;refine dM λi _=>?_;have e:p.show (left+i) (top+((j+N:Nat):Int))=p.show (left+i) (top+j):=by
  have:=k (left+i) (top+j);rw[J7]at this;rw[<-this,JI,Kq]
 simp only[e]
def wa{α:Type}(f g:Nat->α){i:Nat}(h:∀v,v<n->v≠i->g v=f v):((Il n).map f).set i (g i)=(Il n).map g:=by
 apply JB;intro k;rw[JA];by_cases hk:i=k
 .subst hk;simp only[if_true,Ij,Km];by_cases hi:i<n
  .simp[hi]
  .simp[hi]
 .rw[if_neg hk];by_cases hi:k<n
  .simp[hi,h k hi (Ne.symm hk)]
  .simp[hi]
def Ed:bW ".123456"=(Il 7).map λ(v:Nat)=>D.str #[[aV (v:Int)].toArray]:=by
 unfold bW;rw[show(".123456":Mr).cps.toList=[46,49,50,51,52,53,54]by decide+kernel];rfl
def cq(p:Pat)(left top:Int)(m n N k:Nat)(v:Int):Int:=sumN (λj=>(((n:Int)-1-j)/N+1)*cntN (λi=>p.show (left+i) (top+j)) v m) k
variable{top b8:Int}
def Ee{W:Int}(hn:(b8-top+1).toNat=n)(wN:W=(N:Int)):((if top+W<b8+1 then top+W else b8+1)-top).toNat=min n N:=by split<;>lia
def Ef{W:Int}(a:-1000000000000<=top/\top<=1000000000000)(c:-1000000000000<=b8/\b8<=1000000000000)(w0:0<W)(w1:W<=720):-(2^62)<=top/\top<2^62/\-(2^62)<=(if top+W<b8+1 then top+W else b8+1)/\(if top+W<b8+1 then top+W else b8+1)<2^62:=by split<;>lia
def Eg(hn:(b8-top+1).toNat=n)(hk:k<min n N):b8-(top+k)=(n:Int)-1-k:=KK
def wc{l r:Int}{m:Nat}(a:-1000000000000<=l/\l<=1000000000000)(b:-1000000000000<=r/\r<=1000000000000)(h:(r-l+1).toNat=m):m<=2000000000001:=KK
def Eh(x:Int):(if 0>x then 0 else x)=(x.toNat:Int):=by split<;>lia
def Ei:SpX:=λds R RX=>∃(p:Pat) (d:D) (left top right b8:Int),ds=[d,.int left,.int top,.int right,.int b8]/\bg p d/\p.Ok/\(br left/\br top/\br right/\br b8->R (.lst ((bL p left top (right-left+1).toNat (b8-top+1).toNat).map D.int)))/\(¬(br left/\br top/\br right/\br b8)->RX "TooFar" [])
end My
end
section
open PySem PySem.Spec PyProof.Rows L2
namespace My
open Exc
section
variable {X:Cx}[J:Jm]{a b c e:VV}{ta tb te:TME}{pos:V4}
def mTru(te:TME):TMT:=λz M R=>te z M λd M1=>match d with|.bl k=>R k M1|_=>False
abbrev TMO:=SD->MS->(Option Int->MS->Prop)->Prop
def Ej:TMO:=λ_ M R=>R z6 M
def El(te:TME):TMO:=λz M R=>te z M λx M1=>match x with|.int i=>R (be i) M1|_=>False
def mO(K:Ex)[J:Jm](t:TMO):TO:=λs H Q=>∃F z M,Kept J.B J.F0 F H/\RepZ K J.B F H z s M/\∃R:Option Int->MS->Prop,t z M R/\∀o M' F' H',GrowM M M' F H F' H'->R o M'->RepM K F' H' M'->Q o H'
structure MPO(X:Cx)[Jm](e:Option VV)(t:TMO):Prop where
 out:PO X e (mO X.K t)
def we:MPO X z6 Ej:=⟨PO.anti jI λs H Q q=>by
 let#[F,z,M,k,rs,R,h1,h2]:=q;exact h2 z6 M F H (GrowM.refl k.fh) h1 rs.rm⟩
def wg(he:ME X e te):MPO X (be e) (El te):=⟨PO.anti (jJ he.out) λs H Q q=>by
 let#[F,z,M,k,rs,R,h1,h2]:=q;refine#[F,z,M,k,rs,_,h1,λx u M1 F1 H1 g1 hx rx m1=>?_];split at hx
 .exact#[_,rep_int.mp rx,h2 _ M1 F1 H1 g1 hx m1]
 .exact hx.elim⟩
def mSl(ta:TME)(tl th:TMO):TME:=λz M R=>ta z M λx M1=>tl z M1 λlo M2=>th z M2 λhi M3=>rdSl x lo hi λd=>R d M3
def Em{lo hi:Option VV}{tl th:TMO}{p2:V4}(ha:ME X a ta)(hl:MPO X lo tl)(hu:MPO X hi th):ME X (.Subscript a (.Slice lo hi z6 p2) pos) (mSl ta tl th):=⟨(gR (SlR.or tV (SlR.or gS rH)) ha.out hl.out hu.out).anti λs H Q q=>by
 let#[F,z,M,k,rs,R,h1,h2]:=q;refine#[F,z,M,k,rs,_,h1,λx u M1 F1 H1 g1 hx rx m1=>?_];have k1:=k.growM rs.mb g1;have r1:=rs.growM k.bh g1 m1;refine#[F1,z,M1,k1,r1,_,hx,λlo M2 F2 H2 g2 hy m2=>?_];refine#[F2,z,M2,k1.growM r1.mb g2,r1.growM k1.bh g2 m2,_,hy,λhi M3 F3 H3 g3 hw m3=>?_];have g:=g1.trans (g2.trans g3);have MH:=(rx.mono g2.ff).mono g3.ff;unfold rdSl at hw;split at hw
 .exact .inl #[_,rep_str.mp MH,Io hw.1 Nk,h2 _ _ M3 F3 H3 g hw.2 (rep_str.mpr rfl) m3]
 .let#[l,vs,rfl,hq,rr]:=rep_lst.mp MH;refine .inr (.inl #[l,vs,rfl,SqL.of (g3.fh _ _ hq),λp hp=>?_]);exact h2 _ _ M3 _ _ (g.trans (Grow.new g3.fh hp _).toM) hw (rep_lst.mpr #[p,_,rfl,aC,(rr.cut _ _).mono (aN (g3.fh.free hp) _)]) (m3.grow (Grow.new g3.fh hp _))
 .let#[l,vs,rfl,hq,rr]:=rep_rol.mp MH;refine .inr (.inl #[l,vs,rfl,g3.fh.seq hq,λp hp=>?_]);exact h2 _ _ M3 _ _ (g.trans (Grow.new g3.fh hp _).toM) hw (rep_lst.mpr #[p,_,rfl,aC,(rr.cut _ _).mono (aN (g3.fh.free hp) _)]) (m3.grow (Grow.new g3.fh hp _))
 .let#[l,vs,rfl,hq,rr]:=rep_tup_mp MH;refine .inr (.inr #[l,vs,rfl,g3.fh.tup hq,by rw[rr.length];exact hw.1,λp hp=>?_]);exact h2 _ _ M3 _ _ (g.trans (Grow.new g3.fh hp _).toM) hw.2 (rep_tupS.mpr #[p,_,rfl,aC,(rr.cut _ _).mono (aN (g3.fh.free hp) _)]) (m3.grow (Grow.new g3.fh hp _))
 .exact hw.elim⟩
end
end My
namespace Exc
open PySem PySem.Spec PyProof.Rows PySem.W L2
section
variable {prog:VU}{w:VX}{A:VY}{E:Os->SB->Prop}{s:SB}{K:Ex}{x C dx:Pi}{ox:Wa}{cd:Xh}{name:Mr}{v:Os}{vs:Array Os}{mA:Mr->Option Os}{ns:List Mr}
def En{Q:Unit->SB->Prop}(X:K.In s.heap)(hx:s.heap.get? x=be ox)(i_:ox.cls=.ref C)(G_:ox.data=.fields vs)(hd:ox.dict=be dx)(S3:s.heap.Ns1 dx mA)(hw:PySem.Within mA ns)(hz:ns.length<=1000)(hc:clsIn K C=be cd)(hm:aO cd.mro=true)(hh:cd.hasDict=true)
  (hs:findIn K (.ref C) "__setattr__"=be (be (.builtin "object.__setattr__"))) (hf:findIn K (.ref C) name=be z6)
  (h:∀h',h'.Ns1 dx (λy=>if y=name then be v else mA y)->Heap.SameBut dx s.heap h'->∀tk,Q () {s with heap:=h',toks:=tk}):
  VW (VT prog w) A (XM (.ref x) name v) Q E s:=by
 have hn:notCls ox=true:=by unfold notCls;rw[G_]
 let#[od,es,ep,Q0,M4]:=id S3;have I:InstAt s.heap x ox C (be od):=#[hx,i_,hn,by rw[hd];exact Q0];refine set_plain X I hs ?_;have SF:=PySem.F.store_object;have ne:cd.mro.isEmpty=false:=OE
 have sub:Looks (VT prog w) s.heap (WW (.ref x) (.type "object")) true:=I.type.andThen (looks_mroIn X Ri);refine Wx SF.slot.plain SF.entry (@check_slot (VT prog w) _ _ _ "object.__setattr__" "object" "__setattr__" (.ref x) [.str name s.toks,v] [] _ SF.kind SF.split sub (SF.args (.ref x) (.str name s.toks) v) ?_);have No:Looks (VT prog w) s.heap (mroOf (.ref C)) cd.mro:=(looks_clsIn X hc).andThen .now;rw[osa_eq,refuse_eq];refine P3 (P3 (I.type.here (s:={s with toks:=s.toks+1}) (P3 (No.here (s:={s with toks:=s.toks+1}) ?_))));rw[jO _ hm];refine SZ (P3 (I.type.here (s:={s with toks:=s.toks+1}) (P3 ((looks_findIn X hf).here (s:={s with toks:=s.toks+1}) (P3 (Looks.now.here (s:={s with toks:=s.toks+1}) ?_))))));let#[oc,SG,SH,osl]:=ox;dsimp only at i_ hd G_;subst i_ hd G_;refine P3 (SZ (P3 (P3 (W8 hx (P3 ((looks_clsIn X hc).here (s:={s with toks:=s.toks+1}) ?_))))));rw[hh];rw[if_neg Nk];refine SZ ?_;show VW _ _ (Builtin.ObjectAttr.storeInDict dx (.str name s.toks) name v) _ _ _;unfold Builtin.ObjectAttr.storeInDict Builtin.ObjectAttr.newKeyGuard;refine P3 (SZ (P3 (Xi S3 λh' i9 hs=>?_)));let#[oD,Sr,Ss,Oj,Ol,Om]:=i9.count (PySem.Within.cons name v hw);refine P3 (W1 Oj (by rw[Ol];exact W3 (Io Om (by rw[Iu,WH];lia))) ?_);exact SZ (h h' i9 hs _)
end
end Exc
namespace My
open Exc
section
variable {X:Cx}[J:Jx]{x f:Mr}{e:VV}{te:TD}{pos d5 p:V4}{rest:List VS}{tr:TID}
def wj{β:Type}{y:Mr}{z:β}:∀{ws:List (Mr×β)},ws.lookup y=be z->y∈ws.map (·.1)
 |[],h=>nomatch h
 |(g,d)::ws,h=>by
  rw[IC]at h;split at h
  .rename_i hg;rw[IH,show y=g by simpa using hg];exact Ip
  .exact Im _ (wj h)
def Eo(f:Mr)(te:TD)(tr:TID):TID:=λz fs R=>(fs≠[]/\fs.length<=100)/\te z λd=>tr z ((f,d)::fs) R
def Ep{sx:Mr}{ps:V4}(hA:∃C cd,ErrA X.K x C cd)(hf:∀C,nsIn X.K SL x=be (be (.ref C))->Iq X.K (.ref C) f=be z6)(he:WDE X e te)(hr:WDX X x rest tr)(hN:(X.N[0]?=be sx)\zA0)(hv:Vis X.env.scope sx\zA5)(hd:zND sx\zA1)
  (g7:zNC sx\zA1) (hs:(V' e (be (.Attribute (.Name sx ps) f d5)) pos.line X.env=pure false)\zA0):WDX X x (.Assign [.Attribute (.Name sx ps) f d5] e pos::rest) (Eo f te tr):=⟨by
 have he:=he.out;have hr:=hr.out;let#[C,cd,er]:=hA;have Ny:=hf C er.ns;have step:PS X (.Assign [.Attribute (.Name sx ps) f d5] e pos) (λE σ H=>∃e b ws,σ[0]?=be (be (.ref e))/\
   lE X.K te σ H (λv H1=>H1 e=be (XN e C (be b))/\H1 b=be (.xd ws)/\ws.length<=100/\E.nx σ (upd H1 b (.xd ((f,v)::ws))))):=by
  intro pins s σ H D I h;let#[ea,b,ws,h0,h]:=h;refine Ws (thn (he pins s σ H _ I h) λu s1 ⟨y,H1,I1,ry,w6,hb,hl,Nw⟩=>thn (cN (i:=0) hN hv hd g7 pins s1 σ H1 (λv H'=>v=.ref ea/\H'=H1) I1 #[.ref ea,h0,rfl,rfl]) λov s2 hh=>?_) hs;let#[v0,H2,I2,r0,e1,e2]:=hh;subst e1 e2;obtain rfl:ov=Value.ref ea:=r0;let#[t0,sl,j_]:=XN.get I2.hok w6;let#[mA,hns,z7]:=(show ObjOk X.prog X.w H2 s2.heap b (.xd ws)from I2.hok b _ hb);have hw:PySem.Within mA (ws.map (·.1)):=λy' hy=>by
   have:=z7 y';cases hq:ws.lookup y' with
   |none=>
    rw[hq]at this;cases hm:mA y' with
    |none=>exact absurd hm hy
    |some z=>rw[hm]at this;exact this.elim
   |some z=>exact wj hq
  refine En (K:=X.K) (C:=C) (cd:=cd) I2.kIn j_ rfl rfl rfl hns hw (by rw[Ij];lia) er.cl er.mro er.hd er.sa Ny λh' g1 g2 tk=>?_;let#[od,es,ep,Q0,Vy]:=id g1;have Q1:∀c,H2 c=z6->c≠b:=λc q z=>by rw[z,hb]at q;cases q
  have H_:∀c o,H2 c=be o->(∀fs,o≠.xd fs)->upd H2 b (.xd ((f,y)::ws)) c=be o:=λc o q n=>by
   have n1:c≠b:=λz=>by rw[z,hb]at q;cases q;exact n _ rfl
   rw[ar n1];exact q
  refine#[σ,_,?_,Nw];refine I2.un (h':=h') (t':=tk) #[λc o q n _ _=>(g2.2 c (Q1 c n)).trans q,λc o q n _ _=>#[o.slots,(g2.2 c (Q1 c n)).trans q],λc o q n _=>?_,λc o q _=>?_,λc xs q=>H_ c _ q (λφ z=>nomatch z),λc o u q=>H_ c _ q (λφ z=>nomatch z),λc ps q=>#[[].toArray,by rw[H_ c _ q (λφ z=>nomatch z)];simp]] λa o q=>?_
  .rw[ar (Q1 c n)];exact n
  .by_cases hc:c=b
   .rw[hc];exact#[od,Q0]
   .exact#[o,(g2.2 c hc).trans q]
  .by_cases hc:a=b
   .subst hc;rw[aC]at q;cases q;refine#[_,g1,λg=>?_];rw[IC];by_cases hg:g=f
    .subst hg;simp;exact ry
    .have:(g==f)=false:=by simpa using hg
     rw[this,if_neg hg];exact z7 g
   .rw[ar hc]at q;refine(I2.hok a o q).stay (λc u g9 r=>?_) (λc r=>H_ c _ r (λφ z=>nomatch z)) λc xs r=>H_ c _ r (λφ z=>nomatch z);refine(g2.2 c λz=>?_).trans r;rcases g9 with e1|e1
    .exact hc (e1 ▸ z)
    .rw[z,hb]at e1;cases e1
 refine(eK step hr).anti λE s H q=>?_;let#[C',a,od,ws,F,z,fs,hn,h0,f_,hB,j7,k,rs,rf,f9,R,#[#[k_,hl],hR],kk]:=q;rw[er.ns]at hn;cases hn;rcases f9 with⟨_,rfl⟩|⟨b,rfl,h1,h2,h3,h4,h5⟩
 .cases fs with
  |nil=>exact absurd rfl k_
  |cons c fs=>let#[g,d]:=c;let#[v,r,h,_]:=repf_cons.mp rf;cases h
 refine#[a,b,ws,h0,_,F,z,k,rs,_,hR,λd v F1 H1 g hx rv=>#[g.hh a _ f_,g.hh b _ h1,?_,?_]]
 .have:∀{fs:List (Mr×D)} {ws:List (Mr×V)},RepF X.K F fs ws->ws.length=fs.length:=λ{fs}=>by
   induction fs with
   |nil=>intro ws r;rw[repf_nil.mp r];rfl
   |cons c fs ih=>let#[g,d]:=c;intro ws r;let#[v,r',rfl,_,h]:=repf_cons.mp r;rw[Iu,Iu,ih h]
  rw[this rf];exact hl
 .have UE:=g.hh b _ h1;have Nv:F1 b=none:=g.out b h3 (by rw[h1];exact λz=>nomatch z);have MD:F1 a=none:=g.out a j7 (by rw[f_];exact λz=>nomatch z);have k1:=k.grow g;have o_:=rs.grow g;have same:∀{G:Hp},G b=z6->Same G H1->Same G (upd H1 b (.xd ((f,v)::ws))):=λ{G} gb gs c o q=>by
   have n2:c≠b:=λz=>by rw[z,gb]at q;cases q
   rw[ar n2];exact gs c o q
  refine#[C,a,be b,(f,v)::ws,F1,z,(f,d)::fs,er.ns,h0,by rw[ar (Ne.symm h4)];exact g.hh a _ f_,hB,MD,#[same h2 k1.bh,same Nv k1.fh,k1.f0,k1.out,k1.eb,k1.jf,k1.jo],?_,repf_cons.mpr #[v,ws,rfl,rv,RepF.mono g.ff fs ws rf],.inr #[b,rfl,aC,h2,Nv,h4,λz=>nomatch z],R,hx,kk];refine#[o_.len,o_.val,λi ds e'=>?_,o_.apart];let#[c,vs,q1,q2,q]:=o_.own i ds e';have n2:c≠b:=λz=>by rw[z,UE]at q2;cases q2
  exact#[c,vs,q1,by rw[ar n2];exact q2,q]⟩
end
def subM(N M:MS):Prop:=(∀e,e∈N->e∈M)/\(aw N).Nodup
variable{M:MS}
def subM.keys{N:MS}(s:subM N M){a:Pi}(h:a∈aw N):a∈aw M:=by
 let#[#[b,o],h1,rfl]:=IJ.mp h;exact bX (s.1 _ h1)
variable{H:Hp}
def RepM.sub{K:Ex}{F:Hp}{N:MS}(r:RepM K F H M)(s:subM N M):RepM K F H N:=#[s.2,λa o h=>r.ok a o (s.1 _ h),λa h=>r.fr a (s.keys h)]
def GrowM.sub{F F' H':Hp}{N M':MS}(g:GrowM M M' F H F' H')(s:subM N M'):GrowM M N F H F' H':=#[g.ff,g.fh,g.hh,g.out,λb h=>g.ks b (s.keys h)]
def gw(S:SpM):SpM:=λds M R RX=>∃(R0:D->MS->Prop) (w_:XDM),S ds M R0 w_/\R=(λd M'=>∃N,subM N M'/\R0 d N)/\RX=λx fs M'=>∃N,subM N M'/\w_ x fs N
def wk{K:Ex}{S:SpM}{vs:List V}{Q:VK}{E:XK}(h:lSpM K S vs H Q E):lSpM K (gw S) vs H Q E:=by
 let#[F,ds,M,fh,rs,rm,R,RX,hS,q,qx]:=h;refine#[F,ds,M,fh,rs,rm,_,_,#[R,RX,hS,rfl,rfl],λd v M' F' H' g hd rd m'=>?_,λx fs C od M' F' H' g hR er m'=>?_]
 .let#[N,s,hd]:=hd;exact q d v N F' H' (g.sub s) hd rd (m'.sub s)
 .let#[N,s,hR]:=hR;exact qx x fs C od N F' H' (g.sub s) hR er (m'.sub s)
section
variable {P:VU}{w:VX}{K:Ex}{mg:Mr->Option Os}{base:Heap}{n:Nat}{x m:Mr}{ps:List Mr}{S:SpM}
def CalMth.drop(C:CalMth P w K mg base n x m ps (lSpM K (gw S))):CalMth P w K mg base n x m ps (lSpM K S):=C.imp λ_ _ _ _ h=>wk h
def CalMth.lendD{S:SpD}(C:CalMth P w K mg base n x m ps (lSp K S)):CalMth P w K mg base n x m ps (lSpM K (My.lend λds R _=>S ds R)):=C.imp λ_ _ _ _ h=>by
 let#[F,ds,fh,rs,R,RX,hS,q,_]:=B1 h;exact#[F,ds,fh,rs,R,hS,q]
def Txm.okDW{qual:Mr}{st:VS}{N:List Mr}{k:Nat}{S:SpD}(T:Txm K x m qual st ps)(F:FnScope N ps (ah st))(len:∀ds R,S ds R->ds.length=ps.length)
  (a9:∀(f:Pi) (cdv:Os) (A:VY) (outer:List WD) (s:SB) (H:Hp) (E:XK) (J:Jx),Room k (A.deeper (V7 qual (ah st) s.heap.objs.size f cdv))->
   ∃t,WDSs (cxOf (CX1 P w) P w K mg base N qual (ah st) f cdv A outer s H E).nox (aL st) t/\∀ds R,S ds R->t {nx:=λ_=>R .non,rt:=R} (startD N ds)):CalMth P w K mg base (k+1) x m ps (lSp K S):=by
 let#[C,f,fd,h1,h2,h3,T,hb]:=T;exact#[C,f,fd,h1,h2,h3,L2.Fun.okDW T F len (a9 f),hb]
end
def iA(P:VU)(w:VX)(K:Ex)(mg:Mr->Option Os)(base:Heap)(n:Nat)(x m:Mr)(ps:List Mr)(dd:List D)(sp:Sp):Prop:=
 ∃C f fd g5 t_,nsIn K SL x=be (be (.ref C))/\Cls K C/\Meth K C m f/\FnOk P w K mg base (CX1 P w) n f fd ps sp/\Binds K fd ps t_/\Vals g5 t_/\∀F,Reps K F dd g5
section
variable {X:Cx}{k:Nat}{f:Pi}{fd:V2}{ps:List Mr}{sp:Sp}{E:XK}
def Er{pins:List (Pi×Wa)}{σ:L2.St}{H:Hp}{s:SB}{Q:VK}{us t_:List Os}{vs g5:List V}(F:FnOk X.prog X.w X.K X.mg X.base (CX1 X.prog X.w) k f fd ps sp)(hr:Room k X.A)(hb:Binds X.K fd ps t_)(hd:Vals g5 t_)
  (hx:∀e s',CX1 X.prog X.w X.stack H s E e s'->X.xe e s') (I:Inv X pins σ H s) (r:Vals vs us) (h:sp (vs++g5) H Q E):VW (VT X.prog X.w) X.A (call (.ref f) us) (EP X pins σ Q) X.xe s:=by
 have r2:=r.append hd;have hl:(us++t_).length=ps.length:=by rw[<-L2.Vals.length r2];exact F.len _ _ _ _ h
 have g9:=hb s us I.kIn hl;refine Wt (Wr (F.run X.A X.stack s H #[us,[]] (us++t_) (vs++g5) Q E hr I.env0 g9 r2 h) λr s' hq=>?_);cases r with
 |error e=>exact hx e s' hq
 |ok fl=>
  cases fl with
  |ret u=>exact I.after hq
  |next=>exact False.elim hq
  |brk=>exact False.elim hq
  |cont=>exact False.elim hq
end
section
variable {X:Cx}[J:Jm]{a b c e o:VV}{ta tb te:TME}{pos p b7 a8:V4}{n m:Nat}{ps:List Mr}{S:SpM}{x:Mr}{es:List VV}{t:TMA}
def Es(x m:Mr)(dd:List D)(S:SpM)(to:TME):TME:=λz M R=>to z M λd M1=>∃fs,dF M1 d x fs/\fs.lookup m=z6/\S (d::dd) M1 R λx fs M'=>J.RM z M' x fs
def Et{nm:Mr}{dd:List D}{pl:Xq Bool}(C:iA X.prog X.w X.K X.mg X.base n x nm ps dd (lSpM X.K S))(hx:XOkM X)(hr:Room m X.A)(ho:ME X o te)(f7:(X.ex=[])\zA0)(hn:(n<=m)\zA1)
  (ht:V3 (.Call (.Attribute o nm b7) [] [] pos) X.env=(do
   let ov <-V3 o X.env
   WC b7.atName
   let (f,first) <-Wk [ov] (WU ov nm pl)
   Xw pos f first (WK pos (VZ [] X.env)) (W0 pos (WI [] X.env))):=by rfl):
  ME X (.Call (.Attribute o nm b7) [] [] pos) (Es x nm dd S te):=by
 refine#[λpins s σ H Q I h=>?_];let#[Fr,z,M,k,rs,R,h1,h2]:=h;refine methodCall_KW (pl:=pl) (thn (ho.out pins s σ H (λv H1=>∃d M1 F1,GrowM M M1 Fr H F1 H1/\Rep X.K F1 d v/\RepM X.K F1 H1 M1/\∃fs,dF M1 d x fs/\fs.lookup nm=z6/\S (d::dd) M1 R λx fs M'=>J.RM z M' x fs) I #[Fr,z,M,k,rs,_,h1,λd v M1 F1 H1 g1 hd rd m1=>#[d,M1,F1,g1,rd,m1,hd]]) λu s1 hh=>?_) ht;let#[v,H1,I1,rv,d,M1,F1,g1,rd,m1,fs,hi,hl,hq]:=hh;let#[C',f,fd,g5,t_,hns,i_,M0,F,hb,hd,UF]:=C;let#[a,C2,dx,ws,rfl,p6,hH,rf]:=io g1.fh m1 rd hi;rw[hns]at p6;cases p6;obtain rfl:u=Value.ref a:=rv;refine jF I1 hH i_ M0 (rf.none hl) ?_;refine callWith_K0 (first:=[.ref a]) I1.kIn M0.kp (Er (E:=EX X z σ) (us:=[.ref a]) (vs:=[.ref a]) F (hr.mono hn) hb hd (λe s' hq=>hx.out f7 I1 hq) I1 (.cons rfl .nil) ?_);exact ip k rs g1 m1 (reps_cons.mpr #[_,_,rfl,rd,UF F1]) hq h2
def Eu(ta tb:TME):TME:=λz M R=>ta z M λx M1=>tb z M1 λy M2=>kdP x λa=>kdP y λb=>∃ds es,mget M2 a=be (.lst ds)/\mget M2 b=be (.lst es)/\ds.length+es.length<=100000/\∀p,p∉aw M2->R (.ptr p) ((p,.lst (ds++es))::M2)
def Ev(ha:ME X a ta)(hb:ME X b tb):ME X (.BinOp a .Add b pos) (Eu ta tb):=⟨(jA rQ ha.out hb.out).anti λs H Q h=>by
 let#[F,z,M,k,rs,R,h1,h2]:=h;refine#[F,z,M,k,rs,_,h1,λx u M1 F1 H1 g1 hx rx m1=>?_];refine#[F1,z,M1,k.growM rs.mb g1,rs.growM k.bh g1 m1,_,hx,λy v M2 F2 H2 g2 hy ry m2=>?_];let#[p,rfl,ON]:=kdP.of hy;let#[q,rfl,ds,es,hm,No,hl,hR]:=kdP.of ON
 focus
  let#[us,hH,ru]:=m2.ok _ _ (bt hm);let#[vs,UG,rv]:=m2.ok _ _ (bt No);refine#[p,q,us,vs,rep_ptr.mp rx,rep_ptr.mp ry,hH,UG,by rw[ru.length,rv.length];exact Io hl Nk,λr hr=>?_];exact h2 _ _ _ F2 _ ((g1.trans g2).trans (GrowM.new g2.fh hr)) (hR r λz=>m2.here z hr) (rep_ptr.mpr rfl) (m2.new g2.fh hr #[_,aC,ru.append rv])⟩
def mSlP(ta:TME)(tl th:TMO):TME:=λz M R=>ta z M λx M1=>tl z M1 λlo M2=>th z M2 λhi M3=>match x with|.ptr a=>∃ds,mget M3 a=be (.lst ds)/\∀p,p∉aw M3->R (.ptr p) ((p,.lst (cutD ds lo hi))::M3)|_=>False
def Ew{lo hi:Option VV}{tl th:TMO}{p2:V4}(ha:ME X a ta)(hl:MPO X lo tl)(hu:MPO X hi th):ME X (.Subscript a (.Slice lo hi z6 p2) pos) (mSlP ta tl th):=⟨(gR gS ha.out hl.out hu.out).anti λs H Q q=>by
 let#[F,z,M,k,rs,R,h1,h2]:=q;refine#[F,z,M,k,rs,_,h1,λx u M1 F1 H1 g1 hx rx m1=>?_];have k1:=k.growM rs.mb g1;have r1:=rs.growM k.bh g1 m1;refine#[F1,z,M1,k1,r1,_,hx,λlo M2 F2 H2 g2 hy m2=>?_];refine#[F2,z,M2,k1.growM r1.mb g2,r1.growM k1.bh g2 m2,_,hy,λhi M3 F3 H3 g3 hw m3=>?_];have g:=g1.trans (g2.trans g3);split at hw
 .rename_i l;let#[ds,hm,hR]:=hw;let#[us,hH,ru]:=m3.ok _ _ (bt hm);refine#[l,us,rep_ptr.mp rx,SqL.of hH,λr hr=>?_];exact h2 _ _ _ F3 _ (g.trans (GrowM.new g3.fh hr)) (hR r λz=>m3.here z hr) (rep_ptr.mpr rfl) (m3.new g3.fh hr #[_,aC,ru.cut _ _])
 .exact hw.elim⟩
def Ey(to:TME):TME:=λz M R=>to z M λo M1=>match o with|.ptr a=>∃ds d,mget M1 a=be (.lst ds)/\ds[ds.length-1]?=be d/\R d (mput M1 a (.lst ds.dropLast))|_=>False
def Ez(ho:ME X o ta)(b_:(V1 o "pop" X.env (V3 o X.env)=V3 o X.env)\zA0)(c9:((b7.endLine==a8.line)=true)\zA0):ME X (.Call (.Attribute o "pop" b7) [] [] a8) (Ey ta):=⟨(zq PySem.F.plainAttrs_list PySem.F.slot_list_pop PySem.F.type_list_pop zv ho.out b_ c9).anti λs H Q q=>by
 let#[F,z,M,k,rs,R,h1,h2]:=q;refine#[F,z,M,k,rs,_,h1,λx u M1 F1 H1 g1 hx rx m1=>?_];split at hx
 .rename_i l;let#[ds,d,hm,hl,hR]:=hx;let#[us,hH,ru]:=m1.ok _ _ (bt hm);let#[v,hv,rv]:=ru.get hl;rw[rep_ptr.mp rx];exact#[.inl #[rfl,us,SqL.of hH],l,us,v,rfl,rfl,hH,by rw[ru.length];exact hv,h2 _ _ _ F1 _ (g1.trans (GrowM.put g1.fh (m1.fr l (bX (bt hm))) hm)) hR rv (m1.put hm #[_,aC,ru.init])]
 .exact hx.elim⟩
end
abbrev SiM:=Pi->List D->(MS->Prop)->Prop
def lSiM(K:Ex)(C:Pi)(S:SiM):Sp:=λvs H Q _=>∃a dx us H1 F ds,vs=.ref a::us/\H=upd (upd H1 dx (.own a)) a (.ins C dx [])/\H1 a=z6/\H1 dx=z6/\dx≠a/\Same F H1/\Reps K F ds us/\
 ∃R:MS->Prop,S a ds R/\∀M' F' H',GrowM [] M' F H1 F' H'->R M'->RepM K F' H' M'->Q .non H'
def CalN(P:VU)(w:VX)(K:Ex)(mg:Mr->Option Os)(base:Heap)(n:Nat)(x:Mr)(ps:List Mr)(S:SiM):Prop:=
 ∃C f fd,nsIn K SL x=be (be (.ref C))/\mg x=be (.ref C)/\Mk K C f/\FnOk P w K mg base (Exc.CX1 P w) n f fd ps (lSiM K C S)/\Binds K fd ps []
section
variable {P:VU}{w:VX}{K:Ex}{mg:Mr->Option Os}{base:Heap}
open Classical in
def Txi.okIN{x qual:Mr}{st:VS}{N:List Mr}{p0:Mr}{ps:List Mr}{k:Nat}{S:SiM}(T:Txi K mg x qual st (p0::ps))(F:FnScope N (p0::ps) (ah st))(len:∀a ds R,S a ds R->ds.length=ps.length)
  (a9:∀(f:Pi) (cdv:Os) (A:VY) (outer:List WD) (s:SB) (H:Hp) (E:XK) (J:Jm),Room k (A.deeper (V7 qual (ah st) s.heap.objs.size f cdv))->XOkM (cxOf (CX1 P w) P w K mg base N qual (ah st) f cdv A outer s H E).nox->
   ∃t,MSs (cxOf (CX1 P w) P w K mg base N qual (ah st) f cdv A outer s H E).nox (aL st) t/\∀a ds R,(∀z M x fs,¬J.RM z M x fs)->S a ds R->t {nx:=λ_ M'=>R M',rt:=λ_ _=>False} (startD N (.ptr a::ds)) [(a,.ins x [])]):CalN P w K mg base (k+1) x (p0::ps) S:=by
 let#[C,f,fd,hns,l6,mk,T,hb]:=T;refine#[C,f,fd,hns,l6,mk,Fun.okC T F (λvs H Q E h=>?_) (λcdv A outer s H vs Q E hr h=>?_),hb]
 .let#[a,dx,us,H1,F,ds,rfl,_,_,_,_,_,rs,R,h,_]:=h;rw[Iu,Iu,rs.length,len a ds R h]
 .let#[a,dx,us,H1,F1,ds,rfl,rfl,ha,t6,k_,fh,rs,R,h,q]:=h
  let H:Hp:=upd (upd H1 dx (.own a)) a (.ins C dx [])
  let B:Hp:=λb=>if b=a then z6 else H b
  have OQ:B a=none:=if_pos rfl;have hB:∀{b:Pi},b≠a->B b=H b:=λ{b} h=>if_neg h;have n9:∀{b:Pi} {o:HO},H1 b=be o->b≠a/\H b=be o:=λ{b o} e=>by
   have n1:b≠a:=bM e ha;exact#[n1,by show upd _ _ _ b=_;rw[ar n1,ar (bM e t6)];exact e]
  letI:Jm:={B:=B,F0:=F1,RX:=λ_ _ _=>False,RM:=λ_ _ _ _=>False}
  have hx:XOkM (cxOf (CX1 P w) P w K mg base N qual (ah st) f cdv A outer s H E).nox:=λσ z M' F' H' s' e C od y fs I kk rr hR er _=>hR.elim;let#[t,ht,hq]:=a9 f cdv A outer s H E inferInstance hr hx;have Fa:F1 a=none:=fh.free ha;have k0:Kept B F1 F1 H:=⟨λb o e=>by
   by_cases n:b=a
   .rw[n,OQ]at e;cases e
   .rw[hB n]at e;exact e,λb o e=>(n9 (fh b o e)).2,Same.refl F1,λ_ h _=>h,rfl,Same.refl F1,λ_ h _=>h⟩
  have K_:Reps K F1 (.ptr a::ds) (.ref a::us):=reps_cons.mpr #[_,_,rfl,rep_ptr.mpr rfl,rs];have QT:RepM K F1 H [(a,.ins x [])]:=⟨by simp[aw],λb o hb=>by
   have e:=Ih.mp hb;cases e;exact#[C,dx,[],hns,aC,repf_nil.mpr rfl],λb hb=>by
   have e:b=a:=by simpa[aw]using hb
   rw[e];exact Fa⟩
  have r0:RepZ K B F1 H (startD N (.ptr a::ds)) (L2.start N (.ref a::us)) [(a,.ins x [])]:=⟨dQ K_,kS K_,QT,λb hb=>by
   have e:b=a:=by simpa[aw]using hb
   rw[e];exact OQ⟩
  refine#[_,ht.out.nox,F1,F1,_,_,k0,r0,_,hq a ds R (λ_ _ _ _ z=>z) h,#[λz' s' M' F' H' kk hn r=>?_,λd v M' F' H' kk hd rd QN mb=>hd.elim,λ_ _ _ _ _ _ h _=>h.elim,λ_ _ _ _ _ _ h _=>h.elim]];refine q M' F' H' ⟨kk.f0,kk.fh,λb o _ e=>kk.bh b o (by show B b=be o;rw[hB (n9 e).1];exact(n9 e).2),λb _ h1 h2=>kk.out b h1 (by
   show B b≠z6;cases e:H1 b with
   |none=>exact absurd e h2
   |some o=>rw[hB (n9 e).1,(n9 e).2];exact λz=>nomatch z),λb hb=>?_⟩ hn r.rm
  cases e:H1 b with
  |none=>exact .inr rfl
  |some o=>
   have h0:B b=none:=r.mb b hb;rw[hB (n9 e).1,(n9 e).2]at h0;cases h0
end
section
variable {X:Cx}[J:Jm]{e:VV}{es:List VV}{pos p:V4}{n m:Nat}{ps:List Mr}{S:SiM}{x:Mr}{t:TMA}
def EA(S:SiM)(t:TMA):TME:=λz M R=>t z M λds M1=>∀a,a∉aw M1->S a ds λM'=>R (.ptr a) (M'++M1)
def EB(M:CalN X.prog X.w X.K X.mg X.base n x ps S)(hr:Room m X.A)(ha:MA X (e::es) t)(hg:Gl X x\zA0)(hn:(n+1<=m)\zA1)(d9:zND x\zA1)
  (he:zSE X e es\zA0) (c8:zPL X pos es\zA0):
  ME X (.Call (.Name x p) (e::es) [] pos) (EA S t):=by
 let#[C,f,fd,hns,l6,mk,F,hb]:=M;refine#[(gQ mk F (hr.mono hn) hg l6 hb .nil eU ha.out d9 he c8).anti λs H Q q=>?_];let#[F,z,M,k,rs,R,h1,h2]:=q;refine#[F,z,M,k,rs,_,h1,λds vs M1 F1 H1 g1 hx rx m1=>?_];intro a dx ha t6 k_;have na:a∉aw M1:=λz=>m1.here z ha;refine#[a,dx,vs,H1,F1,ds,by rw[IQ],rfl,ha,t6,k_,g1.fh,rx,_,hx a na,λM' F' H' g hR m'=>#[rfl,?_]];have hh:∀b o,H1 b=be o->H' b=be o:=λb o e=>g.hh b o (λz=>nomatch z) e;have nk:∀b,b∈aw M'->H1 b=none:=λb hb=>(g.ks b hb).elim (λz=>nomatch z) id;refine h2 (.ptr a) (.ref a) _ F' H' (g1.trans #[g.ff,g.fh,λb o _ e=>hh b o e,λb _=>g.out b (λz=>nomatch z),λb hb=>?_]) hR (rep_ptr.mpr rfl) #[?_,λb o hb=>?_,λb hb=>?_]
 .rcases keys_app.mp hb with z|z
  .exact .inr (nk b z)
  .exact .inl z
 .unfold aw;rw[II];exact JT.mpr #[m'.nd,m1.nd,λb h1 c h2 e=>m1.here (e ▸ h2) (nk b h1)]
 .rcases IK.mp hb with z|z
  .exact m'.ok b o z
  .exact(m1.ok b o z).mono g.ff λo e=>hh b o e
 .rcases keys_app.mp hb with z|z
  .exact m'.fr b z
  .exact g.out b (λz=>nomatch z) (m1.fr b z) (m1.here z)
end
section
variable {K:Ex}{x m q:Mr}{st:VS}{ps:List Mr}
def MdIn(K:Ex)(x m q:Mr)(st:VS)(i:Int):Prop:=∃C f fd T,NsC K x C/\Meth K C m f/\FunG K (.ref T) m q st f fd/\∃tc td n ts t,K.lookup T=be #[tc,td,.seq [.int i t].toArray n,ts]
def mdIn_mk{C f T:Pi}{i:Int}{oc tc:Os}{od an td:Option Pi}{sl ts:Array (Option Os)}{n:Nat}{t:XU}{kV dc pm cd ct:Os}(a:nsIn K SL x=be (be (.ref C)))(b:Iq K (.ref C) m=be (be (.ref f)))(j:isFn K (.ref f)=true)(l:K.lookup f=be #[oc,od,.func (fnOf m q (bw st) (aL st) (ah st) (.ref T) kV dc pm an cd ct),sl])(c:codeIn K cd q=true)(k:keepIn K (.ref f)=true)
  (d:K.lookup T=be #[tc,td,.seq [.int i t].toArray n,ts]):MdIn K x m q st i:=#[C,f,_,T,a,#[b,j,k],#[#[_,_,_,_,_,_,_,_,_,rfl,l,c],k],_,_,_,_,_,d]
def EC(m q:Mr)(st:VS)(x0 x1:Mr):Prop:=∀(s:SB) (T:Pi) (o:Wa) (its:Array Os) (n:Nat) (v:Os) (kV doc pm:Os) (an:Option Pi) (cdv ct u0 u1:Os),s.heap.get? T=be o->o.data=.seq [v].toArray n->
 WO s (fnOf m q (bw st) (aL st) (ah st) (.ref T) kV doc pm an cdv ct) #[[u0,u1],[]] [(x0,u0),(x1,u1)]/\WO s (fnOf m q (bw st) (aL st) (ah st) (.ref T) kV doc pm an cdv ct) #[[u0],[]] [(x0,u0),(x1,v)]
def Txd(K:Ex)(x m qual:Mr)(st:VS)(ps:List Mr)(dd:List D):Prop:=
 ∃C f fd dV g5 t_,nsIn K SL x=be (be (.ref C))/\Cls K C/\Meth K C m f/\FunG K dV m qual st f fd/\Binds K fd ps []/\Binds K fd ps t_/\Vals g5 t_/\∀F,Reps K F dd g5
def MdIn.txd{i:Int}{x0 x1:Mr}(T:MdIn K x m q st i)(c:ClIn K x)(b:EC m q st x0 x1):Txd K x m q st [x0,x1] [.int i]:=by
 let#[C,k]:=c;let#[D,f,fd,T,a,mt,F,tc,td,n,ts,t,hT]:=T;cases NsC.uniq k.ns a;have F':=F;let#[oc,od,kV,doc,pm,an,cdv,ct,osl,rfl,lk,g7]:=F'.ex;refine#[C,f,_,_,[.int i],[.int i t],a,k.cl,mt,F,λs us hK hl=>?_,λs us hK hl=>?_,.cons #[t,rfl] .nil,λF=>reps_cons.mpr #[_,_,rfl,rep_int.mpr rfl,reps_nil.mpr rfl]]
 .rw[IQ]at hl ⊢;let#[u0,t0,rfl,h0]:=bq hl;let#[u1,t1,rfl,h1]:=bq h0;cases len_0 h1;exact(b s T _ [].toArray n (.int i t) kV doc pm an cdv ct u0 u1 (hK _ _ hT) rfl).1
 .rw[Ix]at hl;have Qc:us.length=[x0].length:=Nat.succ.inj hl;let#[u0,t0,rfl,h0]:=bq Qc;cases len_0 h0;exact(b s T _ [].toArray n (.int i t) kV doc pm an cdv ct u0 u0 (hK _ _ hT) rfl).2
end
section
variable {P:VU}{w:VX}{K:Ex}{mg:Mr->Option Os}{base:Heap}
variable{N ps:List Mr}{dd:List My.D}
def Txd.okM{x m qual:Mr}{st:VS}{k:Nat}{S:SpM}(T:Txd K x m qual st ps dd)(F:FnScope N ps (ah st))(len:∀ds M R RX,S ds M R RX->ds.length=ps.length)
  (a9:∀(f:Pi) (cdv:Os) (A:VY) (outer:List WD) (s:SB) (H:Hp) (E:XK) (J:Jm),Room k (A.deeper (V7 qual (ah st) s.heap.objs.size f cdv))->XOkM (cxOf (CX1 P w) P w K mg base N qual (ah st) f cdv A outer s H E)->
   ∃t,MSs (cxOf (CX1 P w) P w K mg base N qual (ah st) f cdv A outer s H E) (aL st) t/\∀ds M R RX,(∀z,J.RM z=λM' x fs=>RX x fs M')->S ds M R RX->t {nx:=λ_ M'=>R .non M',rt:=R} (startD N ds) M):CalMth P w K mg base (k+1) x m ps (lSpM K S)/\iA P w K mg base (k+1) x m ps dd (lSpM K S):=by
 let#[C,f,fd,dV,g5,t_,h1,h2,h3,T,hb,g9,hv,hd]:=T;have ok:=Fun.okM (P:=P) (w:=w) (mg:=mg) (base:=base) T F len λcdv A outer s H E J hr hx=>a9 f cdv A outer s H E J hr hx;exact#[#[C,f,fd,h1,h2,h3,ok,hb],C,f,fd,g5,t_,h1,h2,h3,ok,g9,hv,hd]
def Txd.okMd{x m qual:Mr}{st:VS}{k:Nat}{S:SpM}(T:Txd K x m qual st ps dd)(F:FnScope N ps (ah st))(len:∀ds M R RX,gw S ds M R RX->ds.length=ps.length)
  (a9:∀(f:Pi) (cdv:Os) (A:VY) (outer:List WD) (s:SB) (H:Hp) (E:XK) (J:Jm),Room k (A.deeper (V7 qual (ah st) s.heap.objs.size f cdv))->XOkM (cxOf (CX1 P w) P w K mg base N qual (ah st) f cdv A outer s H E)->
   ∃t,MSs (cxOf (CX1 P w) P w K mg base N qual (ah st) f cdv A outer s H E) (aL st) t/\∀ds M R RX,(∀z,J.RM z=λM' x fs=>RX x fs M')->gw S ds M R RX->t {nx:=λ_ M'=>R .non M',rt:=R} (startD N ds) M):CalMth P w K mg base (k+1) x m ps (lSpM K S)/\iA P w K mg base (k+1) x m ps dd (lSpM K S):=by
 let#[a,C,f,fd,g5,t_,h1,h2,h3,ok,hb,hv,hd]:=Txd.okM (S:=gw S) T F len a9;exact#[a.drop,C,f,fd,g5,t_,h1,h2,h3,ok.imp λ_ _ _ _ h=>wk h,hb,hv,hd]
def nilD(S:SpD):SpM:=λds M R _=>M=[]/\∃R0:D->Prop,S ds R0/\R=λd _=>R0 d
def EE{n:Nat}{f:Pi}{fd:V2}{S:SpD}(F:FnOk P w K mg base (CX1 P w) n f fd ps (lSpM K (nilD S))):FnOk P w K mg base (CX1 P w) n f fd ps (lSp K S):=F.imp λvs H Q E q=>by
 let#[F,ds,fh,rs,R,hS,q1]:=q;exact#[F,ds,[],fh,rs,RepM.nil,_,λ_ _ _=>False,#[rfl,R,hS,rfl],λd v M' F' H' g hd rd _=>q1 d v F' H' (growM_nil g) hd rd,λ_ _ _ _ _ _ _ _ z=>z.elim]
end
section
variable {X:Cx}[J:Jm]{a:VV}{ta:TME}{tA:TMT}{pos:V4}
def dZ(ha:ME X a ta)(he:(∀gt,isTrue a X.env gt=(do let v <-gt;WC a.pos;Wk [v] (truthy v)))\zA3):MT X a (mTru ta):=⟨(rb ha.out he).anti λs H Q q=>by
 let#[F,z,M,k,rs,R,h1,h2]:=q;refine#[F,z,M,k,rs,_,h1,λx u M1 F1 H1 g1 hx rx m1=>?_];split at hx
 .rw[rep_bl.mp rx];exact#[_,rfl,h2 _ M1 F1 H1 g1 hx m1]
 .exact hx.elim⟩
def mNot(tA:TMT):TMT:=λz M R=>tA z M λk M1=>R (!k) M1
def eg(ha:MT X a tA):MT X (.UnaryOp .Not a pos) (mNot tA):=⟨(qJ ha.out).anti λs H Q q=>by
 let#[F,z,M,k,rs,R,h1,h2]:=q;exact#[F,z,M,k,rs,_,h1,λk M1 F1 H1 g1 hx m1=>h2 _ M1 F1 H1 g1 hx m1]⟩
end
abbrev Bx.N(V:Bx)(n:Nat)(x:Mr)(ps:List Mr)(S:SiM):Prop:=CalN V.P V.w V.K V.mg V.base n x ps S
abbrev Bx.QD(V:Bx)(n:Nat)(x m:Mr)(ps:List Mr)(S:SpD):Prop:=CalMth V.P V.w V.K V.mg V.base n x m ps (lSp V.K S)
abbrev Bx.Qd(V:Bx)(n:Nat)(x m:Mr)(ps:List Mr)(dd:List My.D)(S:SpM):Prop:=iA V.P V.w V.K V.mg V.base n x m ps dd (lSpM V.K S)
abbrev Bx.Td(V:Bx)(x m q:Mr)(st:VS)(ps:List Mr)(dd:List My.D):Prop:=Txd V.K x m q st ps dd
section
variable {X:Cx}[J:Jm]{a b c e o:VV}{ta tb te:TME}{pos:V4}
variable{p:V4}
def EF{p2:V4}{y:Mr}{t:String}(hm:X.mg "isinstance"=z6)(Qf:X.mg y=z6)(ha:ME X a ta)(hv:V_ y=be (.type t))
  (hk:∀x:D,cR x=true->kitOne X.K (.type (tyD x)) (.type t)=be (cQ t x)) (hg:Gl X "isinstance"\zA0) (Qg:Gl X y\zA0) (hn:(y≠"__name__")\zA1) (d9:zND y\zA1)
  (n4:(VZ [a,.Name y p2] X.env=(false,V3 a X.env)::VZ [.Name y p2] X.env)\zA0) (m9:(VZ [.Name y p2] X.env=(false,V3 (.Name y p2) X.env)::VZ [] X.env)\zA0) (c8:((WK pos (VZ [.Name y p2] X.env)).any (·.1)=false)\zA0):ME X (.Call (.Name "isinstance" p) [a,.Name y p2] [] pos) (mUn (kg t) ta):=⟨(fP sL hg hm PyProof.Rows.boot_isinstance (bv ha.out (bv (qE (v:=.ty t) Qg Qf hv rfl hn d9) pa_nil m9) n4) Nk Nk n4 c8).anti λs H Q q=>by
 let#[F,z,M,k,rs,R,h1,h2]:=q;refine#[F,z,M,k,rs,_,h1,λx u M1 F1 H1 g1 hx rx m1=>?_];have no:cR x=true/\R (.bl (cQ t x)) M1:=by
  cases x with
  |obj C b=>exact False.elim hx
  |exc C b=>exact False.elim hx
  |ptr b=>exact False.elim hx
  |dti b=>exact False.elim hx
  |_=>exact#[rfl,hx]
 exact#[u,tyD x,t,_,rfl,sM g1.fh rx no.1,hk x no.1,h2 _ _ M1 F1 H1 g1 no.2 (rep_bl.mpr rfl) m1]⟩
def mItL(t:TME):TMI:=λz M R=>t z M λx M1=>match x with|.lst ds=>R ds M1|_=>False
def EG(i:Nat){x:Mr}{body:List VS}{tb:TMS}(hp:Wd (VT X.prog X.w) X.A X.env X.xe)(hc:X.calm=true)(hN:X.N.Nodup)(he:ME X e te)(hb:MSs X body tb)(hi:(X.N[i]?=be x)\zA0)(hx:Loc X.env.scope x\zA4)
  (hf:zFN X x\zA2) (hs:(∀y,zFS X e y)\zA3):MSt X (.For (.Name x p) e body [] pos) (mFor i (mItL te) tb):=⟨(cO hp hc (gN he.out) (dO hN hi hx hf) hb.out hs).anti λE s H q=>by
 let#[F0,F,z,M,kp,rs,ED,h,e]:=q;refine#[F,z,M,kp.kf,rs,_,h,λd v M1 F1 H1 g1 hd rd m1=>?_];split at hd
 .let#[p,vs,rfl,hq,rr]:=rep_lst.mp rd;let#[W,w0,d6,out]:=hd;refine#[p,rfl,#[vs,g1.fh.seq (SqL.of hq)],jy (K:=X.K) (a:=p) (xs:=vs) (λk s' H'=>∃F' z' M',Kept J.B F0 F' H'/\Same F1 F'/\RepZ X.K J.B F' H' z' s' M'/\W k z' M') #[F1,z,M1,kp.growM rs.mb g1,Same.refl F1,rs.growM kp.bh g1 m1,w0] (λk s' H' _ hh=>?_) ?_ ?_]
  .let#[F',z',M',k',g',r',w']:=hh;exact k'.fh.seq (g'.seq (SqL.of hq))
  .rintro k y s' H' hk⟨F',z',M',k',g',r',w'⟩;let#[d,hd,ry]:=rr.get' hk;refine#[F',F',_,M',#[k'.bh,k'.fh,Same.refl F',λb h1 _=>h1,k'.eb,k'.jf.trans k'.f0,λb h1 h2=>k'.out b (k'.jo b h1 h2) h2],r'.set (ry.mono g'),_,d6 k d z' M' hd w',?_];have up:∀{F2 H2:Hp},Kept J.B F' F2 H2->Kept J.B F0 F2 H2:=λk2=>#[k2.bh,k2.fh,k'.f0.trans k2.f0,λb h1 h2=>k2.out b (k'.out b h1 h2) h2,k'.eb,k'.jf,k'.jo];exact#[λz3 s3 M3 F3 H3 k3 h3 r3=>#[F3,z3,M3,up k3,g'.trans k3.f0,r3,h3],λd v M3 F3 H3 k3=>e.rt d v M3 F3 H3 (up k3),λz3 s3 M3 F3 H3 k3=>e.nx z3 s3 M3 F3 H3 (up k3),λz3 s3 M3 F3 H3 k3 h3 r3=>#[F3,z3,M3,up k3,g'.trans k3.f0,r3,h3]]
  .rintro s' H'⟨F',z',M',k',g',r',w'⟩;exact e.nx z' s' M' F' H' k' (out z' M' (by rw[<-rr.length];exact w')) r'
 .exact hd.elim⟩
def EH(is:List Nat)(te:TME):TMS:=λE z M=>te z M λx M1=>match x with|.lst ds=>ds.length=is.length/\E.nx (cn is ds z) M1|_=>False
def EI{es:List VV}{k:Nat}{is:List Nat}(hc:X.calm=true)(he:ME X e te)(hg:DGs X es is)(hn:((V0 es X.env).length=is.length)\zA0)(m4:((V0 es X.env).findIdx? (·.1)=none)\zA0)
  (hs:(Wn [.Tuple es k p] e pos.line X.env=pure false)\zA0) (hw:(Wo [.Tuple es k p] e X.env=pure none)\zA0) (h1:((V0 [.Tuple es k p] X.env).map (·.2)=[Wu (.Tuple es k p) X.env])\zA0):MSt X (.Assign [.Tuple es k p] e pos) (EH is te):=⟨by
 let#[u,hu,kk]:=hg;refine(gL he.out (sZ hc hu hn m4) hs hw h1).anti λE s H q=>?_;let#[F0,F,z,M,k,rs,ED,h,e]:=q;refine#[F,z,M,k.kf,rs,_,h,λd v M1 F1 H1 g hd rd m1=>?_];have r1:=rs.growM k.bh g m1;split at hd
 .let#[p,vs,rfl,hq,rr]:=rep_lst.mp rd;exact#[p,vs,rfl,SqL.of (g.fh _ _ hq),by rw[rr.length];exact hd.1,kk _ vs z s J.B F1 H1 _ hd.1 rr r1.rs λs' r'=>e.nx _ _ M1 F1 H1 (k.growM rs.mb g) hd.2 #[r',kT is _ _ z rr r1.no,m1,r1.mb]]
 .exact hd.elim⟩
end
end My
namespace My
section
variable {X:Cx}
def rNeT(K:Ex):R2:=λx y H Q=>∃a b xs ys,x=.ref a/\y=.ref b/\SqT K H a xs/\SqT K H b ys/\xs.all bJ=true/\ys.all bJ=true/\Q (.bl (!eqVs xs ys)) H
def EJ(hu:X.A.units+1<WN):OpR X (V6 .NotEq) (rNeT X.K):=by
 intro pins s σ H x y v u Q I rx ry h;let#[a,b,xs,ys,rfl,rfl,ha,hb,fx,fy,q]:=h;cases rx;cases ry;let#[its,r1,p1,_]:=I.tuple ha;let#[r_,r2,p2,_]:=I.tuple hb;refine SeqAt.RcNeAt.tuples (e:=λj=>eqV (xs.getD j .non) (ys.getD j .non)) p1 p2 KK (λj h1 h2=>?_) _ _ _ _ #[.bl (!eqVs xs ys),H,I,?_,q]
 .rw[Ir]at h1 h2;simp only[Li];exact eqAt_V (Vals.getD r1 h1) (Vals.getD r2 h2) (flat_getD fx) (flat_getD fy)
 .rw[<-kh,Ir,Ir,<-L2.Vals.length r1,<-L2.Vals.length r2];rfl
def wl:RD2:=λx y R=>kdT x λxs=>kdT y λys=>(xs.all bD=true/\ys.all bD=true)/\R (.bl (!eqFs xs ys))
def EK{K:Ex}:aY K (rNeT K) wl:=by
 intro x y u v F H R Q fh h rx ry q;let#[xs,rfl,h2]:=kdT.of h;let#[ys,rfl,#[f1,f2],h3]:=kdT.of h2;let#[a,us,rfl,hq,rr]:=rep_tup_mp rx;let#[b,vs,rfl,p8,u_]:=rep_tup_mp ry;exact#[a,b,us,vs,rfl,rfl,fh.tup hq,fh.tup p8,dB rr f1,dB u_ f2,q _ _ F H (Grow.refl fh) h3 (rep_bl.mpr (by rw[ki rr u_ f1 f2]))]
variable {a b c e:VV}{ta tb:TD}{pos:V4}
def EL[Jx](hu:X.A.units+1<WN)(ha:WDE X a ta)(hb:WDE X b tb):WDT X (.Compare a [.NotEq] [b] pos) (dTst (dOp wl ta tb)):=#[cB (EJ hu) EK ha.out hb.out (nomark _)]
end
section
variable {X:Cx}{a b:VV}{ta tb:TD}{pos p2:V4}
def wn(K:Ex):R2:=λx y H Q=>∃a b xs,x=.ref a/\y=.ref b/\SqL K H a xs/\SqL K H b []/\Q (.bl xs.isEmpty) H
def EM(hu:X.A.units<WN):OpR X (V6 .Eq) (wn X.K):=by
 intro pins s σ H x y v u Q I rx ry h;let#[a,b,xs,rfl,rfl,ha,hb,q]:=h;cases rx;cases ry;let#[its,r1,p1,_]:=I.list ha;let#[r_,r2,p2,_]:=I.list hb;have e2:r_=[]:=J3 (L2.Vals.length r2).symm;have e1:=L2.Vals.length r1;subst e2;cases xs with
 |nil=>
  have e3:its=[]:=J3 e1.symm;subst e3;exact SeqAt.RcAt.lists (e:=λ_=>true) p1.isList p2.isList rfl hu (λj h1 _=>absurd h1 (JZ j)) _ _ _ _ #[.bl true,H,I,rfl,q]
 |cons x xs=>
  refine SeqAt.RcAt.lists_lengths p1.isList p2.isList ?_ hu _ _ _ _ #[.bl false,H,I,rfl,q];rw[Ir,Ir,<-e1];rfl
def wo:RD2:=λx y R=>kdL x λxs=>kdL y λys=>ys=[]/\R (.bl xs.isEmpty)
def EN{K:Ex}:aY K (wn K) wo:=by
 intro x y u v F H R Q fh h rx ry q;let#[xs,rfl,h2]:=kdL.of h;let#[ys,rfl,rfl,h3]:=kdL.of h2;let#[a,us,rfl,hq,rr]:=rep_lst.mp rx;let#[b,vs,rfl,p8,u_]:=rep_lst.mp ry;rw[reps_nil.mp u_]at p8;have e:us.isEmpty=xs.isEmpty:=by have:=rr.length;cases us<;>cases xs<;>simp at this ⊢
 exact#[a,b,us,rfl,rfl,SqL.of (fh _ _ hq),SqL.of (fh _ _ p8),q _ _ F H (Grow.refl fh) h3 (rep_bl.mpr (by rw[e]))]
def EO[J:Jx](hu:X.A.units+1<WN)(ha:WDE X a ta)(hb:WDE X (.List [] p2) tb):WDT X (.Compare a [.Eq] [.List [] p2] pos) (dTst (dOp wo ta tb)):=#[cB (EM KK) EN ha.out hb.out (nomark _)]
end
end My
end
section
namespace My
local macro_rules | `(tactic| k_memK) => `(tactic| exact⟨rfl, rfl, rfl, by decide +kernel, rfl, by decide +kernel, by decide +kernel⟩)
local macro_rules | `(tactic| k_places) => `(tactic| try simp only[Kr, KW, My.cn])
open PySem PySem.Spec PyProof.Rows L2
def top(i:Nat):Stmt:=PySem.Challenge.pw_motiffield_k44_whole_floor.main.body.getD i (.Pass #[0,0,0,0])
abbrev lG:VS:=top 58
abbrev lH:List Str:=["_law_script","_law_k"]
def EQ:FnScope ["_law_script","_law_k"] lH (ah lG):=Nr
abbrev lJ:VS:=top 60
abbrev lK:List Str:=["_law_script","_law_k","_law_many"]
def sc__law_draws:FnScope ["_law_script","_law_k","_law_many","_law_left","_law_drawn","_law_turn","_law_seed"] lK (ah lJ):=Nr
abbrev lL:VS:=top 63
abbrev lM:List Str:=["_law_draws_here"]
def sc__law_lines:FnScope ["_law_draws_here","_law_wide","_law_tall","_law_signs","_law_lines_here","_law_j","_law_line","_law_i","_law_place","_law_value"] lM (ah lL):=Nr
abbrev lN:VS:=top 61
abbrev lP:List Str:=["_law_draws_here"]
def sc__law_shift_pair:FnScope ["_law_draws_here","_law_a","_law_b","_law_c","_law_d"] lP (ah lN):=Nr
abbrev lQ:VS:=top 62
abbrev lR:List Str:=["_law_lines_here","_law_one","_law_two"]
def sc__law_motif_text:FnScope ["_law_lines_here","_law_one","_law_two","_law_tail"] lR (ah lQ):=Nr
abbrev lU:VS:=top 64
abbrev lV:List Str:=["_law_script","_law_k"]
def sc__law_motif:FnScope ["_law_script","_law_k","_law_draws_here","_law_lines_here","_law_one","_law_two","_law_leaf"] lV (ah lU):=Nr
abbrev iB:VS:=top 65
abbrev lW:List Str:=["_law_part","_law_draw"]
def sc__law_wrapped:FnScope ["_law_part","_law_draw","_law_across","_law_down","_law_old","_law_new","_law_shift","_law_head","_law_ways","_law_by","_law_leaves","_law_leaf","_law_a","_law_b","_law_c","_law_d","_law_e","_law_f","_law_way","_law_hues"] lW (ah iB):=Nr
abbrev lY:VS:=top 69
abbrev lZ:List Str:=["_law_a","_law_b"]
def sc__law_gcd:FnScope ["_law_a","_law_b"] lZ (ah lY):=Nr
abbrev md:VS:=top 66
abbrev me:List Str:=["_law_one","_law_two","_law_u","_law_v"]
def sc__law_on:FnScope ["_law_one","_law_two","_law_u","_law_v","_law_size"] me (ah md):=Nr
abbrev mf:VS:=top 71
abbrev mi:List Str:=["_law_leaf"]
def sc__law_leaf_family:FnScope ["_law_leaf","_law_a","_law_b","_law_c","_law_d","_law_e","_law_f","_law_one","_law_two","_law_high","_law_wide","_law_lean"] mi (ah mf):=Nr
abbrev mj:VS:=top 70
abbrev ml:List Str:=["_law_three","_law_x","_law_y"]
def ER:FnScope ["_law_three","_law_x","_law_y"] ml (ah mj):=Nr
abbrev mm:VS:=top 72
abbrev mn:List Str:=["_law_one","_law_two"]
def sc__law_both:FnScope ["_law_one","_law_two","_law_wide","_law_high","_law_x"] mn (ah mm):=Nr
abbrev mo:VS:=top 73
abbrev mv:List Str:=["_law_leaves"]
def sc__law_family:FnScope ["_law_leaves","_law_both_here","_law_leaf"] mv (ah mo):=Nr
abbrev mx:VS:=top 74
abbrev my:List Str:=["_law_upper","_law_lower"]
def sc__law_over:FnScope ["_law_upper","_law_lower","_law_leaves"] my (ah mx):=Nr
abbrev mz:VS:=top 75
abbrev mB:List Str:=["_law_script","_law_k"]
def sc__law_pattern:FnScope ["_law_script","_law_k","_law_plan","_law_part","_law_turn","_law_step","_law_other"] mB (ah mz):=Nr
abbrev mC:VS:=top 76
abbrev mD:List Str:=["_law_part","_law_place","_law_sign"]
def sc__law_respelled:FnScope ["_law_part","_law_place","_law_sign","_law_first","_law_wide","_law_j","_law_i","_law_lines_here","_law_spot","_law_text"] mD (ah mC):=Nr
abbrev mF:VS:=top 67
abbrev mG:List Str:=["_law_leaf","_law_x","_law_y"]
def sc__law_leaf_shows:FnScope ["_law_leaf","_law_x","_law_y","_law_way","_law_u","_law_v","_law_j","_law_i"] mG (ah mF):=Nr
abbrev mH:VS:=top 68
abbrev mI:List Str:=["_law_leaves","_law_x","_law_y"]
def sc__law_shows:FnScope ["_law_leaves","_law_x","_law_y","_law_leaf","_law_hue"] mI (ah mH):=Nr
abbrev iC:VS:=top 79
abbrev mJ:List Str:=["_law_leaves","_law_wide","_law_high"]
def sc__law_floor_rows:FnScope ["_law_leaves","_law_wide","_law_high","_law_lines_here","_law_y"] mJ (ah iC):=Nr
abbrev iD:VS:=top 88
abbrev mK:List Str:=["_law_script","_law_size"]
def sc__law_four:FnScope ["_law_script","_law_size","_law_part","_law_draws_here","_law_four_here"] mK (ah iD):=Nr
abbrev mL:VS:=aP (top 56) 1
abbrev mM:List Str:=["self","word"]
def ES:FnScope ["self","word"] mM (ah mL):=Nr
abbrev mN:VS:=top 31
abbrev mQ:List Str:=["x","y"]
def ET:FnScope ["x","y"] mQ (ah mN):=Nr
abbrev mR:VS:=top 13
abbrev mU:List Str:=["family","x","y"]
def sc_home:FnScope ["family","x","y","width","height","slant"] mU (ah mR):=Nr
abbrev iE:VS:=aP (top 20) 2
abbrev cF:List Str:=["self","x","y"]
def EU:FnScope ["self","x","y"] cF (ah iE):=Nr
abbrev iF:VS:=aP (top 21) 2
abbrev iG:List Str:=["self","x","y"]
def sc_Over_shows:FnScope ["self","x","y","hue"] iG (ah iF):=Nr
abbrev iH:VS:=aP (top 22) 2
abbrev iI:List Str:=["self","x","y"]
def EV:FnScope ["self","x","y"] iI (ah iH):=Nr
abbrev iJ:VS:=aP (top 23) 2
abbrev iK:List Str:=["self","x","y"]
def EW:FnScope ["self","x","y"] iK (ah iJ):=Nr
abbrev iL:VS:=aP (top 24) 2
abbrev iM:List Str:=["self","x","y"]
def EY:FnScope ["self","x","y"] iM (ah iL):=Nr
abbrev iN:VS:=aP (top 25) 2
abbrev iO:List Str:=["self","x","y"]
def sc_Rehue_shows:FnScope ["self","x","y","hue"] iO (ah iN):=Nr
abbrev mV:VS:=top 32
abbrev mW:List Str:=["pattern","x","y"]
def EZ:FnScope ["pattern","x","y"] mW (ah mV):=Nr
abbrev iP:VS:=top 33
abbrev mY:List Str:=["pattern","x","y","many"]
def E1:FnScope ["pattern","x","y","many"] mY (ah iP):=Nr
abbrev iQ:VS:=aP (top 56) 7
abbrev mZ:List Str:=["self"]
def E2:FnScope ["self"] mZ (ah iQ):=Nr
abbrev ng:VS:=aP (top 56) 3
abbrev iR:List Str:=["self","many"]
def sc_Floor_lay:FnScope ["self","many","ahead"] iR (ah ng):=Nr
abbrev nh:VS:=top 82
abbrev nj:List Str:=["_law_floor","_law_many","_law_bare"]
def sc__law_lay:FnScope ["_law_floor","_law_many","_law_bare","_law_found","_law_refused"] nj (ah nh):=Nr
abbrev nq:VS:=top 78
abbrev nt:List Str:=["_law_found","_law_due"]
def sc__law_texts:FnScope ["_law_found","_law_due","_law_k"] nt (ah nq):=Nr
abbrev nu:VS:=aP (top 2) 0
abbrev nv:List Str:=["self","place"]
def E3:FnScope ["self","place"] nv (ah nu):=Nr
abbrev nw:VS:=aP (top 44) 1
abbrev ny:List Str:=["self","allowed"]
def E4:FnScope ["self","allowed"] ny (ah nw):=Nr
abbrev nz:VS:=aP (top 44) 2
abbrev nA:List Str:=["self","allowed"]
def sc_Reading_take:FnScope ["self","allowed","sign"] nA (ah nz):=Nr
abbrev nB:VS:=top 47
abbrev nC:List Str:=["reading","least","most"]
def sc_line_from:FnScope ["reading","least","most","line","column"] nC (ah nB):=Nr
abbrev nD:VS:=top 48
abbrev nE:List Str:=["reading"]
def sc_lines_from:FnScope ["reading","lines","width"] nE (ah nD):=Nr
abbrev nF:VS:=top 45
abbrev nG:List Str:=["reading"]
def sc_number_from:FnScope ["reading","written"] nG (ah nF):=Nr
abbrev nH:VS:=top 46
abbrev nI:List Str:=["reading"]
def sc_shift_from:FnScope ["reading","x"] nI (ah nH):=Nr
abbrev nJ:VS:=top 10
abbrev nK:List Str:=["first","second"]
def sc_levelled:FnScope ["first","second","times","rest"] nK (ah nJ):=Nr
abbrev nM:VS:=top 12
abbrev nN:List Str:=["first","second"]
def sc_spread:FnScope ["first","second","pair","width"] nN (ah nM):=Nr
abbrev nO:VS:=top 19
abbrev nP:List Str:=["lines","family"]
def sc_hues_by_home:FnScope ["lines","family","hues","row","line","column","sign"] nP (ah nO):=Nr
abbrev nQ:VS:=aP (top 20) 0
abbrev nR:List Str:=["self","place","lines","first","second"]
def E5:FnScope ["self","place","lines","first","second"] nR (ah nQ):=Nr
abbrev nS:VS:=top 49
abbrev nU:List Str:=["reading"]
def sc_motif_from:FnScope ["reading","place","lines","first","second"] nU (ah nS):=Nr
abbrev nV:VS:=aP (top 23) 0
abbrev nW:List Str:=["self","form"]
def E6:FnScope ["self","form"] nW (ah nV):=Nr
abbrev nX:VS:=aP (top 24) 0
abbrev nY:List Str:=["self","form"]
def E7:FnScope ["self","form"] nY (ah nX):=Nr
abbrev nZ:VS:=aP (top 21) 0
abbrev oa:List Str:=["self","above","below"]
def E8:FnScope ["self","above","below"] oa (ah nZ):=Nr
abbrev og:VS:=aP (top 22) 0
abbrev oh:List Str:=["self","form","x","y"]
def E9:FnScope ["self","form","x","y"] oh (ah og):=Nr
abbrev oi:VS:=aP (top 25) 0
abbrev oj:List Str:=["self","form","old","new"]
def Fb:FnScope ["self","form","old","new"] oj (ah oi):=Nr
abbrev iS:VS:=top 50
abbrev gx:List Str:=["reading","around"]
def sc_over_from:FnScope ["reading","around","above","below"] gx (ah iS):=Nr
abbrev iT:VS:=top 51
abbrev gy:List Str:=["reading","around"]
def sc_shifted_from:FnScope ["reading","around","shift"] gy (ah iT):=Nr
abbrev iU:VS:=top 52
abbrev gz:List Str:=["reading","around"]
def sc_rehue_from:FnScope ["reading","around","old","new"] gz (ah iU):=Nr
abbrev iV:VS:=top 53
abbrev cL:List Str:=["reading","around"]
def sc_form_from:FnScope ["reading","around","sign"] cL (ah iV):=Nr
abbrev ol:VS:=aP (top 44) 0
abbrev om:List Str:=["self","text"]
def Fc:FnScope ["self","text"] om (ah ol):=Nr
abbrev oq:VS:=aP (top 43) 0
abbrev ot:List Str:=["self","text","shifts","form"]
def Fd:FnScope ["self","text","shifts","form"] ot (ah oq):=Nr
abbrev ou:VS:=aP (top 3) 0
abbrev ow:List Str:=["self","place"]
def Fe:FnScope ["self","place"] ow (ah ou):=Nr
abbrev oy:VS:=top 11
abbrev oz:List Str:=["one","two"]
def sc_measure:FnScope ["one","two","last"] oz (ah oy):=Nr
abbrev oA:VS:=top 14
abbrev oB:List Str:=["one","two"]
def sc_met:FnScope ["one","two","common","width","rise","start","gap","climbs","steps"] oB (ah oA):=Nr
abbrev oC:VS:=top 15
abbrev oE:List Str:=["family"]
def Ff:FnScope ["family"] oE (ah oC):=Nr
abbrev oF:VS:=top 16
abbrev oG:List Str:=["family"]
def Fg:FnScope ["family"] oG (ah oF):=Nr
abbrev iW:VS:=aP (top 20) 1
abbrev cG:List Str:=["self"]
def Fh:FnScope ["self"] cG (ah iW):=Nr
abbrev iX:VS:=aP (top 21) 1
abbrev iY:List Str:=["self"]
def sc_Over_family:FnScope ["self","first"] iY (ah iX):=Nr
abbrev iZ:VS:=aP (top 22) 1
abbrev ja:List Str:=["self"]
def Fi:FnScope ["self"] ja (ah iZ):=Nr
abbrev jb:VS:=aP (top 23) 1
abbrev jc:List Str:=["self"]
def Fj:FnScope ["self"] jc (ah jb):=Nr
abbrev jd:VS:=aP (top 24) 1
abbrev je:List Str:=["self"]
def Fk:FnScope ["self"] je (ah jd):=Nr
abbrev jg:VS:=aP (top 25) 1
abbrev jh:List Str:=["self"]
def Fo:FnScope ["self"] jh (ah jg):=Nr
abbrev oH:VS:=top 54
abbrev oI:List Str:=["text"]
def sc_read:FnScope ["text","reading","form","family"] oI (ah oH):=Nr
abbrev oJ:VS:=top 37
abbrev oK:List Str:=["one","two","width","height"]
def sc_first_unlike:FnScope ["one","two","width","height","y","x"] oK (ah oJ):=Nr
abbrev oM:VS:=aP (top 7) 0
abbrev oN:List Str:=["self","x","y"]
def Fp:FnScope ["self","x","y"] oN (ah oM):=Nr
abbrev oO:VS:=aP (top 56) 2
abbrev oP:List Str:=["self","pattern"]
def Fq:FnScope ["self","pattern"] oP (ah oO):=Nr
abbrev oQ:VS:=aP (top 56) 4
abbrev oR:List Str:=["self","text"]
def sc_Floor_change:FnScope ["self","text","pattern","cell"] oR (ah oQ):=Nr
abbrev oS:VS:=top 83
abbrev oU:List Str:=["_law_floor","_law_text"]
def sc__law_change:FnScope ["_law_floor","_law_text","_law_found","_law_e"] oU (ah oS):=Nr
abbrev oV:VS:=top 85
abbrev oW:List Str:=["_law_laid","_law_lines_here"]
def sc__law_parted:FnScope ["_law_laid","_law_lines_here","_law_y","_law_x"] oW (ah oV):=Nr
abbrev oX:VS:=top 59
abbrev oY:List Str:=["_law_found"]
def Fs:FnScope ["_law_found"] oY (ah oX):=Nr
abbrev oZ:VS:=top 86
abbrev pd:List Str:=["_law_floor","_law_text","_law_draw"]
def sc__law_bad:FnScope ["_law_floor","_law_text","_law_draw","_law_bad_here","_law_told","_law_e","_law_due"] pd (ah oZ):=Nr
abbrev pe:VS:=aP (top 56) 5
abbrev pf:List Str:=["self"]
def sc_Floor_undo:FnScope ["self","deed"] pf (ah pe):=Nr
abbrev ph:VS:=top 84
abbrev pi:List Str:=["_law_floor"]
def sc__law_undo:FnScope ["_law_floor","_law_found"] pi (ah ph):=Nr
abbrev pj:VS:=top 87
abbrev pk:List Str:=["_law_floor","_law_draw","_law_state","_law_texts_here","_law_high"]
def sc__law_next:FnScope ["_law_floor","_law_draw","_law_state","_law_texts_here","_law_high","_law_stands","_law_laid","_law_past","_law_kind","_law_many","_law_refused","_law_found","_law_new","_law_due"] pk (ah pj):=Nr
abbrev pp:VS:=top 77
abbrev pq:List Str:=["_law_found","_law_due"]
def sc__law_seven:FnScope ["_law_found","_law_due","_law_k"] pq (ah pp):=Nr
abbrev pr:VS:=top 80
abbrev pv:List Str:=["_law_lines_here"]
def sc__law_counts:FnScope ["_law_lines_here","_law_found","_law_line","_law_sign"] pv (ah pr):=Nr
abbrev ji:VS:=top 34
abbrev pw:List Str:=["pattern"]
def Ft:FnScope ["pattern"] pw (ah ji):=Nr
abbrev pz:VS:=top 35
abbrev pA:List Str:=["family","rows","x","y"]
def sc_round_row:FnScope ["family","rows","x","y","cell","row"] pA (ah pz):=Nr
abbrev pB:VS:=top 39
abbrev pC:List Str:=["row","sign","many"]
def Fu:FnScope ["row","sign","many"] pC (ah pB):=Nr
abbrev jj:VS:=top 40
abbrev pD:List Str:=["pattern","left","top","right","bottom"]
def sc_count_all:FnScope ["pattern","left","top","right","bottom","family","rows","many","again","counts","y","times","row","hue","sign"] pD (ah jj):=Nr
abbrev pE:VS:=aP (top 56) 8
abbrev pF:List Str:=["self"]
def Fv:FnScope ["self"] pF (ah pE):=Nr
abbrev pG:VS:=aP (top 56) 9
abbrev pH:List Str:=["self"]
def Fw:FnScope ["self"] pH (ah pG):=Nr
abbrev pI:VS:=aP (top 56) 6
abbrev pJ:List Str:=["self"]
def Fx:FnScope ["self"] pJ (ah pI):=Nr
abbrev pK:VS:=top 81
abbrev pL:List Str:=["_law_floor","_law_text","_law_size","_law_laid","_law_rest","_law_many"]
def sc__law_view:FnScope ["_law_floor","_law_text","_law_size","_law_laid","_law_rest","_law_many","_law_found"] pL (ah pK):=Nr
abbrev pM:VS:=aP (top 56) 0
abbrev pN:List Str:=["self","text","width","height"]
def Fy:FnScope ["self","text","width","height"] pN (ah pM):=Nr
abbrev gC:VS:=top 89
abbrev pO:List Str:=["_law_script"]
def sc_law:FnScope ["_law_script","_law_size","_law_texts_here","_law_floor","_law_state","_law_deeds","_law_draw","_law_text","_law_lines_here","_law_laid","_law_lies","_law_still","_law_told"] pO (ah gC):=Nr
def nown(z:SD):Bool:=z.all λo=>match o with|some (.own _)=>false|_=>true
def NoOwn.of{z:SD}(h:nown z=true):NoOwn z:=λi ds e=>by
 have:=Jg.mp h _ (Jf e);cases this
structure Deed where
 w:Mr
 p:Pat
 d:D
 l:Int
def Deed.D(e:Deed):My.D:=.tup [.str e.w,e.d,.int e.l]
structure Fl where
 p:Pat
 d:D
 w:Int
 h:Int
 l:Int
 ds:List Deed
def Fl.fs(f:Fl)(q:Pi):List (Mr×D):=[("pattern",f.d),("text",.str f.p.text),("width",.int f.w),("height",.int f.h),("laid",.int f.l),("deeds",.ptr q)]
def Fl.M(f:Fl)(a q:Pi):MS:=[(q,.lst (f.ds.map Deed.D)),(a,.ins "Floor" (f.fs q))]
variable{a:Pi}{o:MO}
def eA{p:Pi}{M:MS}(h:p≠a):mget ((p,o)::M) a=mget M a:=if_neg h
def cH{M:MS}:mget ((a,o)::M) a=be o:=if_pos rfl
def eB{p:Pi}{o':MO}{M:MS}(h:p≠a):mput ((p,o)::M) a o'=(p,o)::mput M a o':=if_neg h
def cM{o':MO}{M:MS}:mput ((a,o)::M) a o'=(a,o')::M:=if_pos rfl
variable{f:Fl}{q:Pi}
def Fl.ma(h:a≠q):mget (f.M a q) a=be (.ins "Floor" (f.fs q)):=(eA (Ne.symm h)).trans cH
def Fl.mq:mget (f.M a q) q=be (.lst (f.ds.map Deed.D)):=cH
def Fl.put(h:a≠q):mput (f.M a q) a o=[(q,.lst (f.ds.map Deed.D)),(a,o)]:=(eB (Ne.symm h)).trans (congrArg _ cM)
def gD:(f.fs q).lookup ("pattern":Mr)=be f.d:=rfl
def pP:(f.fs q).lookup ("text":Mr)=be (.str f.p.text):=rfl
def fM:(f.fs q).lookup ("width":Mr)=be (.int f.w):=rfl
def jk:(f.fs q).lookup ("height":Mr)=be (.int f.h):=rfl
def eE:(f.fs q).lookup ("laid":Mr)=be (.int f.l):=rfl
def jl:(f.fs q).lookup ("deeds":Mr)=be (.ptr q):=rfl
structure Fl.Ok(f:Fl):Prop where
 is:bg f.p f.d
 ok:f.p.Ok
 w1:1<=f.w
 w2:f.w<=30
 h1:1<=f.h
 h2:f.h<=30
 l0:0<=f.l
 l1:f.l<=f.h
 de:f.ds.length<=20
 dd:∀e∈f.ds,bg e.p e.d/\e.p.Ok/\0<=e.l/\e.l<=f.h
def Fl.keep(f:Fl)(w:Mr):Fl:={f with ds:=(f.ds++[Deed.mk w f.p f.d f.l]).drop (f.ds.length+1-20)}
def Fl.lay(f:Fl)(n:Int):Fl:={f.keep "lay" with l:=f.l+n}
def Fl.stand(f:Fl)(p:Pat)(d:D):Fl:={f with p:=p,d:=d}
def subM.refl{M:MS}(h:(aw M).Nodup):subM M M:=#[λ_ h=>h,h]
def Fl.nd(h:a≠q):(aw (f.M a q)).Nodup:=by
 show[q,a].Nodup;simp[Ne.symm h]
def Fl.sub(h:a≠q):subM (f.M a q) (f.M a q):=subM.refl (Fl.nd h)
def wr(xs:List D):cutD xs (be (-20)) z6=xs.drop (xs.length-20):=by
 have e:HT.sIx xs.length 0 (be (-20))=xs.length-20:=by
  unfold HT.sIx;simp;lia
 unfold cutD;rw[e,show HT.sIx xs.length xs.length z6=xs.length from rfl];exact JD Nq
def aB(p:Pat)(w lo:Int)(n:Nat):List D:=(Il n).map λ(j:Nat)=>D.str (aM p 0 (lo+(j:Int)) w.toNat)
def pQ(p:Pat)(w lo:Int)(n:Nat):aB p w lo n++[D.str (aM p 0 (lo+(n:Int)) w.toNat)]=aB p w lo (n+1):=by
 unfold aB;rw[JR,II];rfl
def Fz(p:Pat)(w lo:Int)(n:Nat):cw (.lst (aB p w lo n))=true:=by
 unfold cw;induction n with
 |zero=>rfl
 |succ n ih=>
  rw[<-pQ];have:∀xs:List D,flats xs=true->flats (xs++[D.str (aM p 0 (lo+(n:Int)) w.toNat)])=true:=λxs=>by
   induction xs with
   |nil=>intro _;rfl
   |cons x xs ih=>intro h;unfold flats at h;rw[IS]at h;show flats (x::(xs++_))=true;unfold flats;rw[h.1,ih h.2];rfl
  exact this _ ih
def wt(p:Pat)(w:Int){l:Int}(n:Nat)(l0:0<=l):cutD (aB p w 0 (l.toNat+n)) (be l) z6=aB p w l n:=by
 have hl:(aB p w 0 (l.toNat+n)).length=l.toNat+n:=by unfold aB;simp
 have e:HT.sIx (l.toNat+n) 0 (be l)=l.toNat:=by
  unfold HT.sIx;simp only;rw[if_neg KK];lia
 unfold cutD;rw[hl,e,show HT.sIx (l.toNat+n) (l.toNat+n) z6=l.toNat+n from rfl];unfold aB;apply JB;intro i;by_cases h:i<n
 .rw[Ke KK,KR,Iy,Iy,IY KK,IY h];simp;congr 1;lia
 .rw[IV Qh,IV Qh]
def Same2(p q:Pat)(w h:Int):Prop:=∀x y:Int,0<=x->x<w->0<=y->y<h->p.show x y=q.show x y
def First2(p q:Pat)(w h x y:Int):Prop:=(0<=x/\x<w/\0<=y/\y<h)/\p.show x y≠q.show x y/\∀x' y':Int,0<=x'->x'<w->0<=y'->(y'<y\/(y'=y/\x'<x))->p.show x' y'=q.show x' y'
def due7(p:Pat)(left top:Int)(m:Nat)(n k:Nat):List Int:=(Il 7).map λ(v:Nat)=>bH p v left top m n+cntN (λi=>p.show (left+i) (top+n)) v k
variable{p:Pat}
def FA(ok:p.Ok)(left top:Int)(m n k:Nat):∃u:Nat,u<7/\p.show (left+k) (top+n)=(u:Int)/\(due7 p left top m n k)[u]?=be (bH p u left top m n+cntN (λi=>p.show (left+i) (top+n)) u k)/\((due7 p left top m n k).map D.int).set u (D.int (bH p u left top m n+cntN (λi=>p.show (left+i) (top+n)) u k+1))=(due7 p left top m n (k+1)).map D.int:=by
 have b:=Pat.show_le ok.wf (by have:=ok.deep;lia) (left+k) (top+n);let#[u,hu]:∃u:Nat,p.show (left+k) (top+n)=(u:Int):=#[(p.show (left+k) (top+n)).toNat,KK];have u7:u<7:=KK
 have cs:∀v:Int,cntN (λi=>p.show (left+i) (top+n)) v (k+1)=cntN (λi=>p.show (left+i) (top+n)) v k+if p.show (left+k) (top+n)=v then 1 else 0:=λv=>rfl
 refine#[u,u7,hu,by unfold due7;simp[u7],?_];unfold due7;rw[JW,JW];have:=wa (n:=7) (i:=u) (λ(v:Nat)=>D.int (bH p v left top m n+cntN (λi=>p.show (left+i) (top+n)) v k)) (λ(v:Nat)=>D.int (bH p v left top m n+cntN (λi=>p.show (left+i) (top+n)) v (k+1))) (λv hv ne=>by
  show D.int _=D.int _;rw[cs,hu,if_neg KK,J7])
 refine Eq.trans ?_ this;show List.set _ u _=List.set _ u _;rw[cs,hu,if_pos rfl,Kq];rfl
def FC(p:Pat)(left top:Int)(m n:Nat):due7 p left top m n m=due7 p left top m (n+1) 0:=by
 unfold due7;apply JS;intro v _;show _=(bH p v left top m n+_)+0;rw[J7]
def FD(p:Pat)(left top:Int)(m n:Nat):due7 p left top m n 0=bL p left top m n:=by
 unfold due7 bL;apply JS;intro v _;show _+0=_;rw[J7]
variable{n i:Nat}
def wu{f:Nat->Int}(h:i<n):atI (((Il n).map f).map D.int) (i:Int)=be (.int (f i)):=bI (by simp[h])
variable{w lo:Int}{k:Nat}
def FE{v:D}(h:(aB p w lo n)[k]?=be v):k<n/\v=.str (aM p 0 (lo+(k:Int)) w.toNat):=by
 have hk:k<n:=by have:=(IB.mp h).1;unfold aB at this;simpa using this
 unfold aB at h;simp[hk]at h;exact#[hk,h.symm]
def FF(p:Pat)(v left top:Int)(m a b:Nat):bH p v left top m a+bH p v left (top+a) m b=bH p v left top m (a+b):=by
 unfold bH;rw[gv];congr 1;refine dM λj _=>?_;rw[JI,Kq]
variable{h:Int}
def FG(h0:0<=h)(h6:h<=6):aV h<128:=by unfold aV;split<;>lia
def FH(ok:p.Ok)(x y:Int)(n:Nat):(aM p x y n).cps.all (·<128)=true:=by
 rw[<-KE,Jg];intro c hc;have hc:c∈cs (aM p x y n):=hc;rw[df]at hc;let#[k,_,rfl]:=IJ.mp hc;have b:=Pat.show_le ok.wf (by have:=ok.deep;lia) (x+(k:Int)) y;exact decide_eq_true (FG b.1 b.2)
variable{y:Int}
def FI{v:D}(h:(bW (aM p 0 y n))[k]?=be v):k<n/\v=.str #[[aV (p.show (0+(k:Int)) y)].toArray]:=by
 unfold bW at h;have hk:k<n:=by have:=(IB.mp h).1;rwa [Ij,show(aM p 0 y n).cps.toList.length=n by show(cs (aM p 0 y n)).length=n;rw[df];simp]at this
 rw[Iy,show(aM p 0 y n).cps.toList=(Il n).map λ(k:Nat)=>aV (p.show (0+(k:Int)) y)from df p 0 y n]at h;simp[hk]at h;exact#[hk,by rw[<-h,JH]]
def FJ{u:Nat}(h:u<7):∃rest,Builtin.Str.occurrences ".123456" #[[aV (u:Int)].toArray] 0 (".123456":Mr).length 1=u::rest:=by
 rcases(KK:u=0\/u=1\/u=2\/u=3\/u=4\/u=5\/u=6)with e|e|e|e|e|e|e<;>subst e<;>exact#[[],Nn]
def pR(h:k<n):atI (aB p w lo n) (k:Int)=be (.str (aM p 0 (lo+(k:Int)) w.toNat)):=bI (by unfold aB;simp[h])
def wv(h:k<n):atI (cs (aM p 0 y n)) (k:Int)=be (aV (p.show k y)):=bI (by rw[df];simp[h])
def ww(h:k<=n):cutD (aB p w lo n) z6 (be (k:Int))=aB p w lo k:=by
 have hl:(aB p w lo n).length=n:=by unfold aB;simp
 have e:HT.sIx n n (be (k:Int))=k:=by
  unfold HT.sIx;simp only;rw[if_neg KK];lia
 unfold cutD;rw[hl,e,show HT.sIx n 0 z6=0 from rfl,J6];unfold aB;rw[<-LU,LV,Kp,JJ h]
def FK{a b:Int}(a0:0<=a)(b0:0<=b)(h:aV a=aV b):a=b:=by
 unfold aV at h;split at h<;>split at h<;>lia
def one_inj{a b:Nat}(h:(#[[a].toArray]:Mr)=#[[b].toArray]):a=b:=by cases h;rfl
variable{c:Nat}
def atC{t:Mr}:StrLaws.At t #[[c].toArray] t.length i↔(cs t)[i]?=be c:=by
 have e:Builtin.Str.subAt t #[[c].toArray] i=(((cs t).drop i).take 1==[c]):=StrLaws.subAt_eq t #[[c].toArray] i;have e2:((cs t).drop i).take 1=[c]↔(cs t)[i]?=be c:=by
  rw[List.take_one,List.head?_drop];cases(cs t)[i]?<;>simp
 unfold StrLaws.At;rw[e,beq_iff_eq,e2];refine#[λh=>h.2,λh=>#[?_,h]];have:=(IB.mp h).1;rw[aZ]at this;exact this
variable{A B:List Nat}
def FL{t:Mr}(ht:cs t=A++c::B)(no:c∉A):∃i rest,Builtin.Str.occurrences t #[[c].toArray] 0 t.length 1=i::rest/\i=A.length:=by
 have a0:StrLaws.At t #[[c].toArray] t.length A.length:=atC.mpr (by rw[ht,Jp (Ii _),Nat.sub_self];rfl);rcases StrLaws.occ_head t #[[c].toArray] 1 (Ii _)with⟨_,h⟩|⟨i,r,e,h1,h2⟩
 .exact absurd a0 (h _)
 .refine#[i,r,e,?_];rcases Nat.lt_trichotomy i A.length with q|q|q
  .have:=atC.mp h1;rw[ht,Ja q]at this;exact absurd (Jf this) no
  .exact q
  .exact absurd a0 (h2 _ q)
def gE(x:List Nat){l:List (List Nat)}(h:l≠[]):rowsL (x::l)=x++47::rowsL l:=by
 cases l with
 |nil=>exact absurd rfl h
 |cons y r=>rfl
def FM{w:Nat}(hi:i<w):∀(L:List (List Nat)) (j:Nat) (h:j<L.length),(∀x∈L,x.length=w)->rowsL (L.set j (L[j].set i c))=(rowsL L).set (j*(w+1)+i) c:=by
 intro L;induction L with
 |nil=>intro j h;exact absurd h (JZ j)
 |cons x L ih=>
  intro j h hw;have xw:=hw x Ip;by_cases e:L=[]
  .subst e;have:j=0:=by simp at h;lia
   subst this;simp[rowsL]
  .cases j with
   |zero=>
    show rowsL (x.set i c::L)=_;rw[gE _ e,gE _ e,Nat.zero_mul,KS,LW _ _ KK]
   |succ j=>
    have h':j<L.length:=Nat.lt_of_succ_lt_succ h;show rowsL (x::L.set j (L[j].set i c))=_;rw[gE _ (λz=>e (by have:=congrArg J0 z;simpa using this)),gE _ e,ih j h' (λy hy=>hw y (Im _ hy))];rw[LX _ _ (by rw[xw,Jz];lia),xw,show(j+1)*(w+1)+i-w=(j*(w+1)+i)+1 by rw[Jz];lia];rfl
def jn{a:Int}(h:B12 a):91∉numL a:=by
 have hs:=numL_is h;intro hy;unfold isNumL at hs;rcases hs with⟨c,h1,h2⟩|⟨c,h1,h2⟩|⟨c,h1,h2⟩|⟨c,h1,h2⟩<;>rw[h2]at hy<;>simp at hy<;>lia
structure Pat.Re(p:Pat)(A B:List Nat)(l:Leaf)(ls:List Leaf):Prop where
 leaves:p.leaves=l::ls
 no:91∉A
 tl:p.tl=A++91::(rowsL (l.rows.map cs)++B)
 rows:Rows l.rows
 re:∀L':List Mr,Rows L'->∃q:Pat,q.leaves={l with rows:=L'}::ls/\q.tl=A++91::(rowsL (L'.map cs)++B)/\q.depth=p.depth/\(∀x y,q.Lat x y↔p.Lat x y)/\q.Wf
def Pat.re_ex:∀{p:Pat},p.Wf->∃A B l ls,p.Re A B l ls:=by
 intro p;induction p with
 |mot L a b c d=>
  intro h;exact#[[],_,_,[],rfl,JF,rfl,h.1,λL' h'=>#[.mot L' a b c d,rfl,rfl,rfl,λx y=>Iff.rfl,h',h.2]]
 |over p q UH Vz=>
  intro h;let#[A,B,l,ls,r]:=UH h.1;refine#[40::A,B++124::(q.tl++[41]),l,ls++q.leaves,by rw[Pat.leaves,r.leaves];rfl,λz=>?_,by rw[Pat.tl,r.tl];simp,r.rows,λL' h'=>?_]
  .rcases Ik.mp z with z|z
   .exact absurd z Nk
   .exact r.no z
  .let#[p',e1,e2,e3,e4,e5]:=r.re L' h';exact#[.over p' q,by rw[Pat.leaves,e1];rfl,by rw[Pat.tl,e2];simp,by rw[Pat.depth,Pat.depth,e3],λx y=>by simp only[Pat.Lat,e4],e5,h.2]
 |sh a b p ih=>
  intro h;let#[A,B,l,ls,r]:=ih h.2.2;refine#[115::(numL a++44::(numL b++58::A)),B,l.by 1 0 0 1 (-a) (-b),ls.map λl=>l.by 1 0 0 1 (-a) (-b),by rw[Pat.leaves,r.leaves];rfl,λz=>?_,by rw[Pat.tl,r.tl];simp[Leaf.by],r.rows,λL' h'=>?_]
  .have n1:=jn h.1;have n2:=jn h.2.1;have n3:=r.no;simp[n1,n2,n3]at z
  .let#[p',e1,e2,e3,e4,e5]:=r.re L' h';exact#[.sh a b p',by rw[Pat.leaves,e1];rfl,by rw[Pat.tl,e2];simp,by rw[Pat.depth,Pat.depth,e3],λx y=>by simp only[Pat.Lat,e4],h.1,h.2.1,e5]
 |mir p ih=>
  intro h;let#[A,B,l,ls,r]:=ih h;refine#[109::A,B,l.by (-1) 0 0 1 0 0,ls.map λl=>l.by (-1) 0 0 1 0 0,by rw[Pat.leaves,r.leaves];rfl,λz=>?_,by rw[Pat.tl,r.tl];rfl,r.rows,λL' h'=>?_]
  .rcases Ik.mp z with z|z
   .exact absurd z Nk
   .exact r.no z
  .let#[p',e1,e2,e3,e4,e5]:=r.re L' h';exact#[.mir p',by rw[Pat.leaves,e1];rfl,by rw[Pat.tl,e2];rfl,by rw[Pat.depth,Pat.depth,e3],λx y=>by simp only[Pat.Lat,e4],e5]
 |tur p ih=>
  intro h;let#[A,B,l,ls,r]:=ih h;refine#[116::A,B,l.by 0 1 (-1) 0 0 0,ls.map λl=>l.by 0 1 (-1) 0 0 0,by rw[Pat.leaves,r.leaves];rfl,λz=>?_,by rw[Pat.tl,r.tl];rfl,r.rows,λL' h'=>?_]
  .rcases Ik.mp z with z|z
   .exact absurd z Nk
   .exact r.no z
  .let#[p',e1,e2,e3,e4,e5]:=r.re L' h';exact#[.tur p',by rw[Pat.leaves,e1];rfl,by rw[Pat.tl,e2];rfl,by rw[Pat.depth,Pat.depth,e3],λx y=>by simp only[Pat.Lat,e4],e5]
 |hue f g p ih=>
  intro h;let#[A,B,l,ls,r]:=ih h.2.2;refine#[104::(numL f++(numL g++A)),B,(l.by 1 0 0 1 0 0).dye f g,ls.map λl=>(l.by 1 0 0 1 0 0).dye f g,by rw[Pat.leaves,r.leaves];rfl,λz=>?_,by rw[Pat.tl,r.tl];simp[Leaf.by,Leaf.dye],r.rows,λL' h'=>?_]
  .have h1:1<=f/\f<=6:=h.1;have h2:1<=g/\g<=6:=h.2.1;have n1:=jn (a:=f) #[KK,KK];have n2:=jn (a:=g) #[KK,KK];have n3:=r.no;simp[n1,n2,n3]at z
  .let#[p',e1,e2,e3,e4,e5]:=r.re L' h';exact#[.hue f g p',by rw[Pat.leaves,e1];rfl,by rw[Pat.tl,e2];simp,by rw[Pat.depth,Pat.depth,e3],λx y=>by simp only[Pat.Lat,e4],h.1,h.2.1,e5]
def FN{w:Nat}:∀(L:List (List Nat)),L≠[]->(∀x∈L,x.length=w)->(rowsL L).length+1=L.length*(w+1):=by
 intro L;induction L with
 |nil=>intro h;exact absurd rfl h
 |cons x L ih=>
  intro _ hw;have xw:=hw x Ip;by_cases e:L=[]
  .subst e;show x.length+1=1*(w+1);lia
  .have:=ih e λy hy=>hw y (Im _ hy);rw[gE _ e,Ix,Iu,Iu,Jz];lia
def wx{y:Mr}(h:k<y.length):cs ((Txt.slice y z6 (be (k:Int))++#[[c].toArray])++Txt.slice y (be ((k:Int)+1)) z6)=(cs y).set k c:=by
 have e1:HT.sIx y.length y.length (be (k:Int))=k:=by rw[HT.sIx_nat];lia
 have e2:HT.sIx y.length 0 (be ((k:Int)+1))=k+1:=by
  have:=HT.sIx_nat y.length 0 (k+1);rw[show((k:Int)+1)=(((k+1:Nat)):Int)by lia,this];lia
 rw[bE,bE,slice_cps,slice_cps,e1,e2,HT.sIx_none,HT.sIx_none,Kp,J6,List.set_eq_take_append_cons_drop,if_pos (by rw[aZ];exact h)];show((cs y).take k++[c])++(JC (k+1) (cs y)).take (y.length-(k+1))=_;rw[JD (l:=JC (k+1) (cs y)) (by rw[Jq,aZ];lia),IU];rfl
def Pat.Re.put{l:Leaf}{ls:List Leaf}(r:p.Re A B l ls)(ok:p.Ok){w j:Nat}(hw:∀s∈l.rows,s.length=w)(hj:j<l.rows.length)(hi:i<w)(hc:bc c){s':Mr}(hs:cs s'=(cs l.rows[j]).set i c):∃q:Pat,q.Ok/\q.depth=p.depth/\q.leaves={l with rows:=l.rows.set j s'}::ls/\A.length+1+j*(w+1)+i<p.text.length/\∀t':Mr,cs t'=(cs p.text).set (A.length+1+j*(w+1)+i) c->t'=q.text:=by
 let#[m,w',w8,hr]:=r.rows;have lj:=hr l.rows[j] (IR hj);have hL:Rows (l.rows.set j s'):=by
  refine#[by rw[Jc];exact m,w',w8,λs MZ=>?_];rcases LY MZ with q|q
  .exact hr s q
  .subst q;refine#[by rw[<-aZ,hs,Jc,aZ];exact lj.1,λd hd=>?_];rw[hs]at hd;rcases LY hd with q|q
   .exact lj.2 d q
   .rw[q];exact hc
 let#[q,e1,e2,e3,e4,e5]:=r.re _ hL;let#[fw,fh,fs,F,fb]:=ok.fits;refine#[q,#[e5,by rw[e3];exact ok.deep,fw,fh,fs,#[F.f,λx y=>(F.lat x y).trans (e4 x y).symm],fb],e3,e1,?_];have lw:∀x∈l.rows.map cs,x.length=w:=λx hx=>by
  let#[s,q1,q2]:=IJ.mp hx;rw[<-q2,aZ];exact hw s q1
 have jm:j<(l.rows.map cs).length:=by rw[Ij];exact hj
 have key:=FM (c:=c) hi (l.rows.map cs) j jm lw;have e6:(l.rows.set j s').map cs=(l.rows.map cs).set j ((l.rows.map cs)[j].set i c):=by rw[LZ,hs,List.getElem_map]
 have ll:j*(w+1)+i<(rowsL (l.rows.map cs)).length:=by
  have h1:=FN (l.rows.map cs) (λz=>by rw[z]at jm;exact absurd jm (JZ j)) lw;have h2:=Lv (w+1) (show j+1<=(l.rows.map cs).length from jm);rw[Jz]at h2;lia
 refine#[?_,λt' ht=>?_]
 .rw[<-aZ,ce,r.tl,Ix,Iu,Ix];lia
 apply gp;rw[ht,ce,ce,e2,e6,key,r.tl];rw[LX _ _ KK,show A.length+1+j*(w+1)+i-A.length=(j*(w+1)+i)+1 by lia,Kr,LW _ _ ll]
def First2.uniq{q:Pat}{x x' y':Int}(a:First2 p q w h x y)(b:First2 p q w h x' y'):x=x'/\y=y':=by
 let#[#[a1,a2,a3,a4],a5,a6]:=a;let#[#[b1,b2,b3,b4],b5,b6]:=b;have h1:¬(y'<y\/(y'=y/\x'<x)):=λz=>b5 (a6 x' y' b1 b2 b3 z);have h2:¬(y<y'\/(y=y'/\x<x')):=λz=>a5 (b6 x y a1 a2 a3 z);lia
def First2.not{q:Pat}{x:Int}(a:First2 p q w h x y)(s:Same2 p q w h):False:=a.2.1 (s x y a.1.1 a.1.2.1 a.1.2.2.1 a.1.2.2.2)
def jp{α:Type}{ps:List α}{s:Nat}{r:α}(f:α->D)(h:ps[s]?=be r):atI (ps.map f) (s:Int)=be (f r):=bI (by rw[Iy,h];rfl)
def NoOwn.set{z:SD}(h:NoOwn z)(i:Nat){d:D}(hd:nown [be d]=true):NoOwn (z.set i (be d)):=λj ds e=>by
 by_cases hj:i=j
 .subst hj;rw[List.getElem?_set_self']at e;cases q:z[i]? with
  |none=>rw[q]at e;cases e
  |some x=>rw[q]at e;cases e;cases hd
 .rw[Iz hj]at e;exact h j ds e
def sIx_nat2(h:k<=n)(d:Nat):HT.sIx n d (be (k:Int))=k:=by
 unfold HT.sIx;dsimp only;rw[if_neg (Int.not_lt.mpr (Int.natCast_nonneg k)),Jb];exact JJ h
def FO{l m:Nat}(h:l+m<=n):cutD (aB p w 0 n) (be (l:Int)) (be ((l:Int)+m))=aB p w l m:=by
 have hl:(aB p w 0 n).length=n:=by unfold aB;rw[Ij,Km]
 unfold cutD;rw[hl,sIx_nat2 (Io (L4 l m) h),<-JI,sIx_nat2 h,Nat.add_sub_cancel_left];unfold aB;apply JB;intro i;by_cases hi:i<m
 .have h2:l+i<n:=IG (Nat.add_lt_add_left hi l) h;rw[Ke hi,KR,Iy,Iy,IY h2,IY hi];simp
 .rw[IV Qh,IV Qh]
def PatD:D->Prop:=λx=>∃p:Pat,x=p.D/\p.Ok
variable{R:My.D->Prop}
def wy{d:Int}(ok:p.Ok)(h:∀q:Pat,q.Ok->R q.D):vp [p.D,.int d] R:=#[p,d,rfl,ok.wf,ok.deep,by have:=Pat.text_short ok.wf ok.deep;lia,Wraps.of ok h]
def FP{q:Pat}(k1:p.Ok)(k2:q.Ok)(h:∀q:Pat,q.Ok->R q.D):vB [p.D,q.D] R:=#[p,q,rfl,k1.wf,k2.wf,k1.deep,k2.deep,h _ k1,λa b Q2=>h _ #[#[k1.wf,k2.wf],by simp only[Pat.depth];lia,Q2]]
def FQ(x:Int):∃c,atI (cs ".123456") (x%7)=be c/\bc c:=by
 rcases(KK:x%7=0\/x%7=1\/x%7=2\/x%7=3\/x%7=4\/x%7=5\/x%7=6)with e|e|e|e|e|e|e<;>rw[e]
 .exact#[46,Nn,.inl rfl]
 .exact#[49,Nn,.inr KK]
 .exact#[50,Nn,.inr KK]
 .exact#[51,Nn,.inr KK]
 .exact#[52,Nn,.inr KK]
 .exact#[53,Nn,.inr KK]
 .exact#[54,Nn,.inr KK]
def EntD(w h:Int)(r:Pat):D:=.tup [.str r.text,.lst (aB r w 0 h.toNat)]
def ErrW(w:Mr)(k:Int):XD:=λx fs=>(x="WrongSign"/\w="wrong"/\fs=[(("place":Mr),D.int k)])\/(x="OneLine"/\w="line"/\fs=[(("place":Mr),D.int k)])\/(x="TooGreat"/\w="great"/\k=0/\fs=[])
def Bad(t:Mr)(w:Mr)(k:Int):Prop:=S_read [.str t] (λ_=>False) (ErrW w k)
def pS(c:Mr)(h:c="1"\/c="2"):Rows [c]:=#[Nq,1,Nk,λl hl=>by rw[Ih.mp hl];rcases h with rfl|rfl<;>exact#[rfl,λc hc=>by rw[Ih.mp hc];exact .inr #[Nk,Nk]]]
def b12(k:Int)(h:-12<=k/\k<=12):B12 k:=h
def lin4:Pat:=.mot ["1"] 2 4 1 2
def gA:Pat:=.mot ["1"] 12 0 0 12
def gB:Pat:=.mot ["2"] 7 0 0 1
def FR:gA.Wf:=#[pS _ (.inl rfl),b12 12 Nk,b12 0 Nk,b12 0 Nk,b12 12 Nk,Nk]
def FS:gB.Wf:=#[pS _ (.inr rfl),b12 7 Nk,b12 0 Nk,b12 0 Nk,b12 1 Nk,Nk]
def FT:(Pat.over gA gB).Wf:=#[FR,FS]
def FU:(Pat.over gA gB).Cal:=#[trivial,trivial,Pat.fits_mot (b12 12 Nk) (b12 0 Nk) (b12 0 Nk) (b12 12 Nk) Nk,Pat.fits_mot (b12 7 Nk) (b12 0 Nk) (b12 0 Nk) (b12 1 Nk) Nk]
def FV(w h s:Int)(f:(Pat.over gA gB).Fam w h s):w<=1000000:=by
 let#[i,j,e1,e2]:=(f.lat 84 0).mpr #[#[7,0,KK,KK],12,0,KK,KK];have w0:=f.f.w0;have h0:=f.f.h0;have hj:j=0:=by
  rcases Kj.mp e2.symm with z|z
  .exact z
  .lia
 subst hj;have hi:0<i:=by
  rcases(KK:i<=0\/0<i)with z|z
  .have:=Jt z (show 0<=w by lia);lia
  .exact z
 have:=IP (show 1<=i by lia) (show 0<=w by lia);lia
def FW:¬(Pat.over gA gB).Fits:=by
 rintro⟨w,h,s,f,hb⟩;have w0:=f.f.w0;have h0:=f.f.h0;let#[#[i1,j1,a1,a2],i3,j3,c1,c2]:=(f.lat w 0).mp #[1,0,KK,KK];let#[#[i2,j2,b1,b2],_]:=(f.lat s h).mp #[0,1,KK,KK];have:=LI (show 84<=w by lia) (show 12<=h by lia) Nk KK;lia
def FX(y:Mr):cs (Txt.slice y z6 (be (-1)))=(cs y).take (y.length-1):=by
 have e:HT.sIx y.length y.length (be (-1))=y.length-1:=by
  unfold HT.sIx;simp only;rw[if_pos Nk];lia
 rw[slice_cps,HT.sIx_none,e,Kp,J6]
def FY{w:Mr}{k:Int}:eqFs [.str w,.int k] [.str w,.int k]=true:=by
 show(decide (w=w)&&(decide (k=k)&&true))=true;rw[decide_eq_true rfl,decide_eq_true rfl];rfl
def FZ{w:Mr}{k l:Int}:eqFs [.str w,.int k,.int l] [.str w,.int k,.int l]=true:=by
 show(decide (w=w)&&(decide (k=k)&&(decide (l=l)&&true)))=true;rw[decide_eq_true rfl,decide_eq_true rfl,decide_eq_true rfl];rfl
def bad4(ok:p.Ok)(v:Int):∃t w k,Bad t w k/\atI [D.str (Txt.slice p.text z6 (be (-1))),.str (p.text++"]"),.str "[1;2,4;1,2]",.str "([1;12,0;0,12]|[2;7,0;0,1])"] (v%4)=be (.str t)/\atI [D.tup [.str "wrong",.int ((p.text.length:Int)-1)],.tup [.str "wrong",.int p.text.length],.tup [.str "line",.int 0],.tup [.str "great",.int 0]] (v%4)=be (.tup [.str w,.int k]):=by
 have l8:=Pat.text_short ok.wf ok.deep;have e8:=vE p;have pos:1<=p.text.length:=by
  rw[e8];cases p<;>simp[Pat.tl,motL]
 rcases(KK:v%4=0\/v%4=1\/v%4=2\/v%4=3)with e|e|e|e<;>rw[e]
 .have hs:cs (Txt.slice p.text z6 (be (-1)))=p.tl.dropLast:=by rw[FX,ce,e8,List.dropLast_eq_take]
  refine#[_,_,_,#[p,ok.deep,.inr (.inl #[ok.wf,_,rfl,.inl #[hs,.inl #[rfl,rfl,rfl]]])],rfl,?_];rw[show((Txt.slice p.text z6 (be (-1))).length:Int)=(p.text.length:Int)-1 by rw[<-aZ,hs,Kw];lia];rfl
 .refine#[_,_,_,#[p,ok.deep,.inr (.inl #[ok.wf,_,rfl,.inr #[93,by rw[bE,ce];rfl,.inl #[rfl,rfl,rfl]]])],rfl,?_];rw[e8];rfl
 .exact#[_,_,_,#[lin4,Nk,.inr (.inr #[by rw[show lin4.text="[1;2,4;1,2]" by decide+kernel],#[pS _ (.inl rfl),b12 2 Nk,b12 4 Nk,b12 1 Nk,b12 2 Nk,Nk],.inr (.inl #[rfl,rfl,rfl])])],rfl,rfl]
 .exact#[_,_,_,#[.over gA gB,Nk,.inl #[by rw[show(Pat.over gA gB).text="([1;12,0;0,12]|[2;7,0;0,1])" by decide+kernel],FT,FU,FV,λz=>absurd z FW,λ_=>.inr (.inr #[rfl,rfl,rfl,rfl])]],rfl,rfl]
section
variable {V:Bx}
abbrev pT(V:Bx):Prop:=V.D 1 "_law_at" lH Cn
def F4(T:V.T "_law_at" lG lH)(uA:V.m "len"):pT V:=by
 refine Tx.okDW T EQ (λds R h=>?_) (λ_ _ _ _ _ _ _ J hr=>⟨_,((ai (bA (dm (aa 1) (bB uA (ac (aa 0) ae))) (aq (aH (af (aa 0) (aa 1)))) bo)
   (aq (aH ad)))),λds R h=>?_⟩)
 .let#[ns,k,rfl,_]:=h;rfl
 .let#[ns,k,rfl,hk,hR]:=h;refine ite2 (λc=>?_) (λc=>?_)
  .have c':=of_decide_eq_true c;rw[Ij]at c';exact#[_,lm hk c',hR]
  .have c':=of_decide_eq_false (IT.mpr c);rw[Ij]at c';rw[Cm KK]at hR;exact hR
abbrev gG(V:Bx):Prop:=V.D 2 "_law_draws" lK CB
def F5(T:V.T "_law_draws" lJ lK)(uB:V.m "range")(Ml:pT V):gG V:=by
 refine Tx.okDW T sc__law_draws (λds R h=>?_) (λ_ _ _ _ _ _ _ J hr=>⟨_,((ai (ao 3 sc__law_draws.nd (ay Ml hr (ac (aa 0) (ac (aa 1) ae))))
   (ai (eZ 4 sc__law_draws.nd ae)
   (ai (bA (bC (aF (ay Ml hr (ac (aa 0) (ac (am (aa 1) ad) ae))) ad) ad) (ai (cf 5 PassesOwn.never rfl sc__law_draws.nd uB (aa 2) (ai (fj 4 (aF (aa 3) ad))
     (aq (ao 3 sc__law_draws.nd (bf (aa 3) ad)))))
    (cS 4 (aq (aH (aa 4))))) bo)
   (ai (ao 6 sc__law_draws.nd (aF (am (aa 3) ad) ad))
   (ai (cf 5 PassesOwn.never rfl sc__law_draws.nd uB (aa 2) (ai (ao 6 sc__law_draws.nd (aF (am (am (az (aa 6) ad) (ay Ml hr (ac (aa 0) (ac (am (am (aa 1) ad) (aF (aa 5) ad)) ae)))) (aa 5)) ad))
    (aq (fj 4 (aF (aF (az (aa 6) ad) ad) ad)))))
   (cS 4 (aq (aH (aa 4)))))))))),λds R h=>?_⟩)
 .let#[_,_,_,rfl,_]:=h;rfl
 .let#[ns,k,n,rfl,hk,hn,hR]:=h;refine#[λd=>∃v:Int,d=.int v,#[ns,k,rfl,hk,_,rfl],?_];rintro _⟨left,rfl⟩;k_places;refine#[Nq,?_];refine#[ns,k+1,rfl,KK,Nk,ite2 (λ_=>?_) (λ_=>?_)]
  .refine#[#[KK,KK],λi z=>∃(xs:List Int) (l:Int) (o p:Option D),z=[be (.rol (ns.map D.int)),be (.int k),be (.int n),be (.int l),be (.own (xs.map D.int)),o,p]/\xs.length=i/\Drawn xs,#[[],left,_,_,rfl,rfl,(λx hx=>by cases hx)],?_,?_]
   .rintro i x z hi⟨xs,l,o,p,rfl,hl,hd⟩;k_places;have j9:i<n:=by simpa using(IB.mp hi).1
    refine#[Nk,Qh,?_];refine#[λd=>∃v:Int,d=.int v,#[#[Nk,Nk],_,rfl],?_];rintro _⟨l',rfl⟩;k_places;rw[vd];exact#[_,l',_,_,rfl,by simp[hl],ve hd (cV Nk) (cX Nk)]
   .rintro z⟨xs,l,o,p,rfl,hl,hd⟩;k_places;exact hR xs (by simpa using hl) hd
  .refine#[λd=>∃v:Int,d=.int v/\0<=v/\v<2147483647,#[Nk,_,rfl,cV Nk,cX Nk],?_];rintro _⟨Q3,rfl,s1,s2⟩;k_places;refine#[#[KK,KK],λi z=>∃(xs:List Int) (sd:Int) (o:Option D),z=[be (.rol (ns.map D.int)),be (.int k),be (.int n),be (.int left),be (.own (xs.map D.int)),o,be (.int sd)]/\xs.length=i/\Drawn xs/\0<=sd/\sd<2147483647,#[[],Q3,_,rfl,rfl,(λx hx=>by cases hx),s1,s2],?_,?_]
   .rintro i x z hi⟨xs,sd,o,rfl,hl,hd,s1,s2⟩;k_places;have j9:i<n:=by simpa using(IB.mp hi).1
    have ex:x=.int (i:Int):=by simp[j9]at hi;exact hi.symm
    subst ex;refine#[λd=>∃v:Int,d=.int v/\0<=v/\v<2147483647,#[.inr #[Nk,Nk],Nk,ns,_,rfl,KK,Nk,_,rfl,cV Nk,cX Nk],?_];rintro _⟨UI,rfl,t1,t2⟩;k_places;refine#[.inr #[Nk,Nk],Nk,Nk,Qh,?_];rw[vd];exact#[_,UI,_,rfl,by simp[hl],ve hd (cV Nk) (cX Nk),t1,t2]
   .rintro z⟨xs,sd,o,rfl,hl,hd,_⟩;k_places;exact hR xs (by simpa using hl) hd
abbrev wz(V:Bx):Prop:=V.D 1 "_law_lines" lM CN
def F6(T:V.T "_law_lines" lL lM)(uB:V.m "range")(uA:V.m "len"):wz V:=by
 refine Tx.okDW T sc__law_lines (λds R h=>?_) (λ_ _ _ _ _ _ _ J hr=>⟨_,((ai (ao 1 sc__law_lines.nd (am ad (aF (af (aa 0) ad) ad)))
   (ai (ao 2 sc__law_lines.nd (am ad (aF (af (aa 0) ad) ad)))
   (ai (eY (bC (aF (af (aa 0) ad) ad) ad) (ai (ao 1 sc__law_lines.nd (am ad (aF (af (aa 0) ad) ad)))
    (aq (ao 2 sc__law_lines.nd (am ad (aF (af (aa 0) ad) ad))))) bo)
   (ai (ao 3 sc__law_lines.nd (af (aQ (ac av (ac av (ac av (ac av ae))))) (aF (af (aa 0) ad) ad)))
   (ai (eZ 4 sc__law_lines.nd ae)
   (ai (cf 5 PassesOwn.never rfl sc__law_lines.nd uB (aa 2) (ai (ao 6 sc__law_lines.nd av)
    (ai (cf 7 PassesOwn.never rfl sc__law_lines.nd uB (aa 1) (ai (ao 8 sc__law_lines.nd (am (az (aa 5) (aa 1)) (aa 7)))
     (ai (ao 9 sc__law_lines.nd (aF (bf (af (aa 0) (am ad (bf (aa 8) ad))) (af (aQ (ac ad (ac ad ae))) (aF (aa 8) ad))) ad))
     (aq (ao 6 sc__law_lines.nd (am (aa 6) (af (aa 3) (aF (aa 9) (bB uA (ac (aa 3) ae))))))))))
    (aq (fj 4 (aa 6))))))
   (cS 4 (aq (aH (aa 4))))))))))),λds R h=>?_⟩)
 .let#[_,rfl,_]:=h;rfl
 .let#[xs,rfl,hl,hd,hR]:=h;have L8:∀k:Nat,k<40->atI (xs.map D.int) (k:Int)=be (.int (cell xs k)):=λk hk=>cJ KK (by simpa using(KK:k<xs.length));have a0:atI (xs.map D.int) 0=be (.int (cell xs 0)):=L8 0 Nk;have a1:atI (xs.map D.int) 1=be (.int (cell xs 1)):=L8 1 Nk;have a2:atI (xs.map D.int) 2=be (.int (cell xs 2)):=L8 2 Nk;have a3:atI (xs.map D.int) 3=be (.int (cell xs 3)):=L8 3 Nk;clear hl;refine#[λd=>∃v:Int,d=.int v/\1<=v/\v<=8,#[_,a0,Nk,_,rfl,KK],?_];rintro _⟨w0,rfl,UJ⟩;k_places;refine#[λd=>∃v:Int,d=.int v/\1<=v/\v<=8,#[_,a1,Nk,_,rfl,KK],?_];rintro _⟨t0,rfl,VA⟩;k_places;refine#[λz=>∃w t:Nat,z=[be (.lst (xs.map D.int)),be (.int w),be (.int t),z6,z6,z6,z6,z6,z6,z6]/\(1<=w/\w<=8)/\(1<=t/\t<=8),#[_,a2,Nk,ite2 (λ_=>?_) (λ_=>?_)],?_]
  .refine#[λd=>∃v:Nat,d=.int v/\1<=v/\v<=8,#[_,a0,Nk,(1+cell xs 0%8).toNat,by rw[IM KK],KK],?_];rintro _⟨w,rfl,hw⟩;k_places;refine#[λd=>∃v:Nat,d=.int v/\1<=v/\v<=8,#[_,a1,Nk,(1+cell xs 1%8).toNat,by rw[IM KK],KK],?_];rintro _⟨t,rfl,ht⟩;k_places;exact#[w,t,rfl,hw,ht]
  .let#[w,rfl]:∃w:Nat,w0=(w:Int):=#[w0.toNat,KK];let#[t,rfl]:∃t:Nat,t0=(t:Int):=#[t0.toNat,KK];exact#[w,t,rfl,KK,KK]
  rintro _⟨w,t,rfl,hw,ht⟩;k_places;let#[sg,es,hs]:=CJ (cell xs 3);refine#[λd=>d=.str sg,#[Nq,_,a3,Nk,_,es,rfl],?_];rintro _ rfl;k_places;refine#[Nq,?_];refine#[#[KK,KK],λk z=>∃(L:List Mr) (o1 o2 o3 o4 o5:Option D),z=[be (.lst (xs.map D.int)),be (.int w),be (.int t),be (.str sg),be (.own (L.map D.str)),o1,o2,o3,o4,o5]/\L.length=k/\∀l∈L,l.length=w/\∀c∈cs l,bc c,#[[],_,_,_,_,_,rfl,rfl,(λx hx=>by cases hx)],?_,?_]
  .rintro j x z hj⟨L,o1,o2,o3,o4,o5,rfl,hL,OS⟩;k_places;have NV:j<t:=by simpa using(IB.mp hj).1
   have ex:x=.int (j:Int):=by simp[NV]at hj;exact hj.symm
   subst ex;refine#[λd=>d=.str "",rfl,?_];rintro _ rfl;k_places;refine#[#[KK,KK],λi z=>∃(ln:Mr) (o3 o4 o5:Option D),z=[be (.lst (xs.map D.int)),be (.int w),be (.int t),be (.str sg),be (.own (L.map D.str)),be (.int j),be (.str ln),o3,o4,o5]/\ln.length=i/\∀c∈cs ln,bc c,#[_,_,_,_,rfl,rfl,(λc hc=>by rw[vf]at hc;cases hc)],?_,?_]
   .rintro i y z hi⟨ln,o3,o4,o5,rfl,PD,Q4⟩;k_places;have j9:i<w:=by simpa using(IB.mp hi).1
    have ey:y=.int (i:Int):=by simp[j9]at hi;exact hi.symm
    subst ey;have pb:=cD (a:=(j:Int)) (d:=(w:Int)) (A:=7) (B:=8) KK KK;have pn:0<=(j:Int)*(w:Int):=KG KK KK;refine#[λd=>∃p:Nat,d=.int p/\p<=63,#[.inl #[KK,KK],((j:Int)*w+i).toNat,by rw[IM KK],KK],?_];rintro _⟨p,rfl,hp⟩;k_places;let#[m,em,hm]:=CK (p:Int);have ap:=L8 (8+p/2) KK;have ec:((8+p/2:Nat):Int)=8+(p:Int)/2:=KK
    rw[ec]at ap;refine#[λd=>∃v:Int,d=.int v,#[#[Nk,Nk],_,ap,Nq,Nk,_,em,#[KK,KK],Nk,_,rfl],?_];rintro _⟨v,rfl⟩;k_places;let#[c,#[h1,h2],h3]:=CD hs v;refine#[λd=>∃x:Mr,d=.str x/\x.length=i+1/\∀c∈cs x,bc c,#[h1,by have:=hs.1;lia,c,#[h1,h2],?_,_,rfl,CL PD Q4 h3],?_]
    .rw[PD];show i+1<=1000000;lia
    rintro _⟨x,rfl,g1,g2⟩;k_places;exact#[x,_,_,_,rfl,g1,g2]
   .rintro z⟨ln,o3,o4,o5,rfl,PD,Q4⟩;k_places;have Q5:ln.length=w:=by simpa using PD
    refine#[by simp[hL];lia,?_];rw[CM];refine#[_,_,_,_,_,_,rfl,by simp[hL],λl hl=>?_];rcases IK.mp hl with q|q
    .exact OS l q
    .rw[Ih.mp q];exact#[Q5,Q4]
  .rintro z⟨L,o1,o2,o3,o4,o5,rfl,hL,OS⟩;k_places;exact hR L (Rows.of ht.1 ht.2 (by simpa using hL) hw.1 hw.2 OS)
abbrev wA(V:Bx):Prop:=V.D 1 "_law_shift_pair" lP CC
def F7(T:V.T "_law_shift_pair" lN lP)(uD:V.m "int"):wA V:=by
 refine Tx.okDW T sc__law_shift_pair (λds R h=>?_) (λ_ _ _ _ _ _ _ J hr=>⟨_,((ai (bA (bC (aF (bf (af (aa 0) ad) ad) ad) ad) (aq (aH (aQ (ac (aI (ac (am ad (aF (af (aa 0) ad) ad)) (ac ad ae))) (ac (aI (ac ad (ac (am ad (aF (af (aa 0) ad) ad)) ae))) ae))))) bo)
   (ai (bA (bC (aF (bf (af (aa 0) ad) ad) ad) ad) (aq (aH (aQ (ac (aI (ac (am ad (aF (af (aa 0) ad) ad)) (ac ad ae))) (ac (aI (ac (bj (aF (af (aa 0) ad) ad) ad) (ac (am ad (aF (af (aa 0) ad) ad)) ae))) ae))))) bo)
   (ai (ao 1 sc__law_shift_pair.nd (bj (aF (af (aa 0) ad) ad) ad))
   (ai (ao 2 sc__law_shift_pair.nd (bj (aF (af (aa 0) ad) ad) ad))
   (ai (ao 3 sc__law_shift_pair.nd (bj (aF (af (aa 0) ad) ad) ad))
   (ai (ao 4 sc__law_shift_pair.nd (bj (aF (af (aa 0) ad) ad) ad))
   (ai (ao 1 sc__law_shift_pair.nd (am (aa 1) (dS uD (ac (dA (cP (aa 1) ad) (dz (cP (aa 2) ad))) ae))))
   (ai (bA (bC (az (aa 1) (aa 4)) (az (aa 2) (aa 3))) (aq (aH (aQ (ac (aI (ac (aa 1) (ac (aa 2) ae))) (ac (aI (ac (bx (aa 2)) (ac (aa 1) ae))) ae))))) bo)
   (aq (aH (aQ (ac (aI (ac (aa 1) (ac (aa 2) ae))) (ac (aI (ac (aa 3) (ac (aa 4) ae))) ae)))))))))))))),λds R h=>?_⟩)
 .let#[_,rfl,_]:=h;rfl
 .let#[xs,rfl,hl,hd,hR]:=h;have a3:=cJ (xs:=xs) (k:=3) Nk (show 3<xs.length by lia);have a4:=cJ (xs:=xs) (k:=4) Nk (show 4<xs.length by lia);have a5:=cJ (xs:=xs) (k:=5) Nk (show 5<xs.length by lia);have a6:=cJ (xs:=xs) (k:=6) Nk (show 6<xs.length by lia);have a7:=cJ (xs:=xs) (k:=7) Nk (show 7<xs.length by lia);generalize cell xs 3=x3 at*;generalize cell xs 4=x4 at*;generalize cell xs 5=x5 at*;generalize cell xs 6=x6 at*;generalize cell xs 7=x7 at*;clear hl hd;refine#[_,a3,#[Nk,Nk],Nk,ite2 (λ_=>?_) (λ_=>?_)]
  .refine#[_,a4,Nk,Nq,_,a5,Nk,Nq,Nq,hR _ _ _ _ KK KK KK KK ?_];have p:0<(1+x4%6)*(1+x5%6):=IF KK KK;lia
  refine#[_,a3,#[Nk,Nk],Nk,ite2 (λ_=>?_) (λ_=>?_)]
  .refine#[_,a4,Nk,Nq,_,a6,Nk,_,a5,Nk,Nq,Nq,hR _ _ _ _ KK KK KK KK ?_];have p:0<(1+x4%6)*(1+x5%4):=IF KK KK;lia
  refine#[λd=>∃v:Int,d=.int v/\-12<=v/\v<=12,#[_,a4,Nk,_,rfl,KK],?_];rintro _⟨a,rfl,ha⟩;k_places;refine#[λd=>∃v:Int,d=.int v/\-12<=v/\v<=12,#[_,a5,Nk,_,rfl,KK],?_];rintro _⟨b,rfl,hb⟩;k_places;refine#[λd=>∃v:Int,d=.int v/\-12<=v/\v<=12,#[_,a6,Nk,_,rfl,KK],?_];rintro _⟨c,rfl,hc⟩;k_places;refine#[λd=>∃v:Int,d=.int v/\-12<=v/\v<=12,#[_,a7,Nk,_,rfl,KK],?_];rintro _⟨d,rfl,f9⟩;k_places;refine#[λx=>∃v:Int,x=.int v/\(-12<=v/\v<=12)/\¬(v=0/\b=0),ite2 (λe=>?_) (λe=>?_),?_]
  .have e':=of_decide_eq_true e;by_cases S4:b=0
   .refine#[_,rfl,?_];subst e' S4;simp
   .refine#[_,rfl,?_];subst e';simp[S4]
  .have e':=of_decide_eq_false (IT.mpr e);refine#[_,rfl,?_];simp;lia
  rintro _⟨a,rfl,ha,OT⟩;k_places;refine#[.inl (i64 ha.1 ha.2),.inl (i64 hb.1 hb.2),ite2 (λe=>?_) (λe=>?_)]
  .refine#[Nq,Nq,Nq,hR a b (-b) a ha hb KK ha ?_];rw[Kk];intro z;have s1:0<=a*a:=sq0 a;have s2:0<=b*b:=sq0 b;have z1:a*a=0:=by omega
   have z2:b*b=0:=Ow
   exact OT #[(Kj.mp z1).elim id id,(Kj.mp z2).elim id id]
  .have e':=of_decide_eq_false (IT.mpr e);exact#[Nq,Nq,Nq,hR a b c d ha hb hc f9 e']
abbrev wB(V:Bx):Prop:=V.D 1 "_law_motif_text" lR CO
def F8(T:V.T "_law_motif_text" lQ lR)(uG:V.m "str"):wB V:=by
 refine Tx.okDW T sc__law_motif_text (λds R h=>?_) (λ_ _ _ _ _ _ _ J hr=>⟨_,((ai (ao 3 sc__law_motif_text.nd (am (am (am (am (am (am (am av (dD uG (ac (af (aa 1) ad) ae))) av) (dD uG (ac (af (aa 1) ad) ae))) av) (dD uG (ac (af (aa 2) ad) ae))) av) (dD uG (ac (af (aa 2) ad) ae))))
   (aq (aH (am (am (am av (kr (aa 0))) (aa 3)) av))))),λds R h=>?_⟩)
 .let#[_,_,_,_,_,rfl,_]:=h;rfl
 .let#[L,a,b,c,d,rfl,hL,ha,hb,hc,hd,hR]:=h;have la:=bP ha;have lb:=bP hb;have lc:=bP hc;have ld:=bP hd;have l1:(";":Mr).length=1:=rfl;have l2:(",":Mr).length=1:=rfl;have l3:("[":Mr).length=1:=rfl;have l4:("]":Mr).length=1:=rfl;have ls:=vh hL;have lj:=StrLaws.join_length_le "/" L;unfold B12 at ha hb hc hd;refine#[λx=>x=.str ((((((((";":Mr)++(toString a:String))++",")++(toString b:String))++";")++(toString c:String))++",")++(toString d:String)),#[_,rfl,KK,?_,?_,_,rfl,KK,?_,?_,_,rfl,KK,?_,?_,_,rfl,KK,?_,rfl],?_]
  .lia
  .rw[aJ];lia
  .rw[aJ,aJ];lia
  .rw[aJ,aJ,aJ];lia
  .rw[aJ,aJ,aJ,aJ];lia
  .rw[aJ,aJ,aJ,aJ,aJ];lia
  .rw[aJ,aJ,aJ,aJ,aJ,aJ];lia
  rintro _ rfl;k_places;have lg:(Txt.join "/" L).length<=72:=by
   have e:Txt.join "/" L=Str.join "/" L:=StrLaws.glued_eq_join _ _;rw[e];exact Io lj ls
  refine#[L,lr L,KK,?_,?_,?_,hR]
  .lia
  .repeat rw[aJ]
   lia
  .repeat rw[aJ]
   lia
abbrev pU(V:Bx):Prop:=V.D 3 "_law_motif" lV CQ
def F9(T:V.T "_law_motif" lU lV)(z_:gG V)(Q6:wz V)(Q7:wA V)(Q8:wB V):pU V:=by
 refine Tx.okDW T sc__law_motif (λds R h=>?_) (λ_ _ _ _ _ _ _ J hr=>⟨_,((ai (ao 2 sc__law_motif.nd (ay z_ hr (ac (aa 0) (ac (aa 1) (ac ad ae)))))
   (ai (ao 3 sc__law_motif.nd (ay Q6 hr (ac (aa 2) ae)))
   (ai (tf rfl (ay Q7 hr (ac (aa 2) ae)) (dg_cons 4 sc__law_motif.nd (dg_cons 5 sc__law_motif.nd cT)))
   (ai (ao 6 sc__law_motif.nd (aI (ac (aa 3) (ac (aa 4) (ac (aa 5) (ac (aI (ac ad (ac ad (ac ad (ac ad (ac ad (ac ad ae))))))) (ac (aQ (ac ad (ac ad (ac ad (ac ad (ac ad (ac ad (ac ad ae)))))))) ae)))))))
   (aq (aH (aQ (ac (ay Q8 hr (ac (aa 3) (ac (aa 4) (ac (aa 5) ae)))) (ac ad (ac (aQ (ac (aa 6) ae)) ae))))))))))),λds R h=>?_⟩)
 .let#[_,_,rfl,_]:=h;rfl
 .let#[ns,k,rfl,hk,hR]:=h;refine#[λx=>∃xs:List Int,x=.lst (xs.map D.int)/\xs.length=40/\Drawn xs,#[ns,k,40,rfl,hk,Nk,λxs h1 h2=>#[xs,rfl,h1,h2]],?_];rintro _⟨xs,rfl,hl,hd⟩;k_places;refine#[λx=>∃L:List Mr,x=.lst (L.map D.str)/\Rows L,#[xs,rfl,KK,hd,λL h=>#[L,rfl,h]],?_];rintro _⟨L,rfl,hL⟩;k_places;refine#[xs,rfl,KK,hd,λa b c d ha hb hc f9 hn=>#[rfl,?_]];refine#[λx=>x=(bu L a b c d).D,#[Nq,Nq,Nq,rfl],?_];rintro _ rfl;k_places;exact#[L,a,b,c,d,rfl,hL,ha,hb,hc,f9,Nq,Nq,hR L a b c d hL ha hb hc f9 hn]
abbrev pV(V:Bx):Prop:=V.D 1 "_law_wrapped" lW vp
def Ga(T:V.T "_law_wrapped" iB lW)(uG:V.m "str")(A':V.m "list")(uD:V.m "int"):pV V:=by
 refine Tx.okDW T sc__law_wrapped (λds R h=>?_) (λ_ _ _ _ _ _ _ J hr=>⟨_,((ai (bA (sK (af (aa 0) ad) ad) (aq (aH (aa 0))) bo)
   (ai (ao 2 sc__law_wrapped.nd (bj (aF (bf (aa 1) ad) ad) ad))
   (ai (ao 3 sc__law_wrapped.nd (bj (aF (bf (aa 1) ad) ad) ad))
   (ai (ao 4 sc__law_wrapped.nd (am ad (aF (bf (aa 1) ad) ad)))
   (ai (ao 5 sc__law_wrapped.nd (am ad (aF (bf (aa 1) ad) ad)))
   (ai (ao 6 sc__law_wrapped.nd (am (am (am (am av (dD uG (ac (aa 2) ae))) av) (dD uG (ac (aa 3) ae))) av))
   (ai (ao 7 sc__law_wrapped.nd (af (aQ (ac av (ac av (ac (aa 6) (ac (am (am av (dD uG (ac (aa 4) ae))) (dD uG (ac (aa 5) ae))) ae))))) (aF (aa 1) ad)))
   (ai (ao 8 sc__law_wrapped.nd (aQ (ac (aI (ac (bx ad) (ac ad (ac ad (ac ad (ac ad (ac ad ae))))))) (ac (aI (ac ad (ac ad (ac (bx ad) (ac ad (ac ad (ac ad ae))))))) ae))))
   (ai (ao 8 sc__law_wrapped.nd (am (aa 8) (aQ (ac (aI (ac ad (ac ad (ac ad (ac ad (ac (bx (aa 2)) (ac (bx (aa 3)) ae))))))) (ac (aI (ac ad (ac ad (ac ad (ac ad (ac ad (ac ad ae))))))) ae)))))
   (ai (ao 9 sc__law_wrapped.nd (af (aa 8) (aF (aa 1) ad)))
   (ai (eZ 10 sc__law_wrapped.nd ae)
   (ai (gZ 11 PassesOwn.never rfl sc__law_wrapped.nd (af (aa 0) ad) (ai (km rfl (af (aa 11) ad) (dg_cons 12 sc__law_wrapped.nd (dg_cons 13 sc__law_wrapped.nd (dg_cons 14 sc__law_wrapped.nd (dg_cons 15 sc__law_wrapped.nd (dg_cons 16 sc__law_wrapped.nd (dg_cons 17 sc__law_wrapped.nd cT)))))))
    (ai (ao 18 sc__law_wrapped.nd (aI (ac (am (az (aa 12) (af (aa 9) ad)) (az (aa 13) (af (aa 9) ad))) (ac (am (az (aa 12) (af (aa 9) ad)) (az (aa 13) (af (aa 9) ad))) ae))))
    (ai (ao 18 sc__law_wrapped.nd (am (aa 18) (aI (ac (am (az (aa 14) (af (aa 9) ad)) (az (aa 15) (af (aa 9) ad))) (ac (am (az (aa 14) (af (aa 9) ad)) (az (aa 15) (af (aa 9) ad))) ae)))))
    (ai (ao 16 sc__law_wrapped.nd (am (am (aa 16) (az (aa 12) (af (aa 9) ad))) (az (aa 13) (af (aa 9) ad))))
    (ai (ao 17 sc__law_wrapped.nd (am (am (aa 17) (az (aa 14) (af (aa 9) ad))) (az (aa 15) (af (aa 9) ad))))
    (ai (ao 19 sc__law_wrapped.nd (Av A' (ac (af (aa 11) ad) ae)))
    (ai (eY (bC (aF (aa 1) ad) ad) (aq (AJ 19 rfl (compScope (by change cI _ (ah iB) ["_law_part","_law_draw","_law_across","_law_down","_law_old","_law_new","_law_shift","_law_head","_law_ways","_law_by","_law_leaves","_law_leaf","_law_a","_law_b","_law_c","_law_d","_law_e","_law_f","_law_way","_law_hues"] _=true;decide+kernel)) sc__law_wrapped.nd (af (aa 11) ad) (λcl s0 H0 fp=>(af (aQ (ac (aa 20) (ac (aa 5) ae))) (dS uD (ac (cP (aa 20) (aa 4)) ae)))))) bo)
    (aq (fj 10 (aI (ac (af (aa 11) ad) (ac (af (aa 11) ad) (ac (af (aa 11) ad) (ac (am (aa 18) (aI (ac (aa 16) (ac (aa 17) ae)))) (ac (aa 19) ae))))))))))))))))
   (cS 10 (aq (aH (aQ (ac (am (aa 7) (af (aa 0) ad)) (ac (am (af (aa 0) ad) ad) (ac (aa 10) ae)))))))))))))))))))),λds R h=>?_⟩)
 .let#[_,_,rfl,_]:=h;rfl
 .let#[p,draw,rfl,wf,hd,ht,hW]:=h;refine#[_,rfl,ite2 (λc=>?_) (λc=>?_)]
  .have c':=of_decide_eq_true c;exact hW.1 KK
  have c':=of_decide_eq_false (IT.mpr c);have f9:p.depth<5:=KK
  refine#[λd=>∃v:Int,d=.int v/\B12 v,#[#[Nk,Nk],Nk,_,rfl,by unfold B12;lia],?_];rintro _⟨A,rfl,hA⟩;k_places;refine#[λd=>∃v:Int,d=.int v/\B12 v,#[#[Nk,Nk],Nk,_,rfl,by unfold B12;lia],?_];rintro _⟨B,rfl,hB⟩;k_places;refine#[λd=>∃v:Int,d=.int v/\1<=v/\v<=6,#[#[Nk,Nk],Nk,_,rfl,KK],?_];rintro _⟨d_,rfl,ho⟩;k_places;refine#[λd=>∃v:Int,d=.int v/\1<=v/\v<=6,#[#[Nk,Nk],Nk,_,rfl,KK],?_];rintro _⟨new,rfl,hn⟩;k_places;have l1:("s":Mr).length=1:=rfl;have l2:(",":Mr).length=1:=rfl;have l3:(":":Mr).length=1:=rfl;have l4:("h":Mr).length=1:=rfl;have lA:=bP hA;have lB:=bP hB;have lo:=fC ho;have ln:=fC hn;let#[hs,b0,b1,b2,b3,b4,b5,e1,e2,hb,hl,hR]:=CZ hW f9 (k:=0) hA hB ho hn KK;unfold B12 at hA hB;refine#[λx=>x=.str ((((("s":Mr)++(toString A:String))++",")++(toString B:String))++":"),#[KK,?_,?_,KK,?_,?_,rfl],?_]
  .lia
  .rw[aJ];lia
  .rw[aJ,aJ];lia
  .rw[aJ,aJ,aJ];lia
  rintro _ rfl;k_places;refine#[λx=>x=.str hs,#[KK,?_,KK,?_,Nq,Nk,_,e1,rfl],?_]
  .lia
  .rw[aJ];lia
  rintro _ rfl;k_places;refine#[λx=>x=.lst [D.tup [.int (-1),.int 0,.int 0,.int 1,.int 0,.int 0],D.tup [.int 0,.int 1,.int (-1),.int 0,.int 0,.int 0]],#[Nq,Nq,Nq,rfl],?_];rintro _ rfl;k_places;refine#[λx=>x=.lst ([D.tup [.int (-1),.int 0,.int 0,.int 1,.int 0,.int 0],D.tup [.int 0,.int 1,.int (-1),.int 0,.int 0,.int 0]]++[D.tup [.int 1,.int 0,.int 0,.int 1,.int (-A),.int (-B)],D.tup [.int 1,.int 0,.int 0,.int 1,.int 0,.int 0]]),#[Nq,Nq,Nq,Nq,rfl],?_];rintro _ rfl;k_places;refine#[λx=>x=.tup [.int b0,.int b1,.int b2,.int b3,.int b4,.int b5],#[Nk,_,e2,rfl],?_];rintro _ rfl;k_places;refine#[Nq,?_];generalize D.str ((((("s":Mr)++(toString A:String))++",")++(toString B:String))++":")=sD;generalize D.lst ([D.tup [.int (-1),.int 0,.int 0,.int 1,.int 0,.int 0],D.tup [.int 0,.int 1,.int (-1),.int 0,.int 0,.int 0]]++[D.tup [.int 1,.int 0,.int 0,.int 1,.int (-A),.int (-B)],D.tup [.int 1,.int 0,.int 0,.int 1,.int 0,.int 0]])=wD;clear e1 e2 hW lA lB lo ln l1 l2 l3 l4 hA hB c';refine#[_,rfl,λk z=>∃ND NE A_ B_ Q9 Q_ Ra Rb NW:Option D,z=[be p.D,be (.int draw),be (.int A),be (.int B),be (.int d_),be (.int new),be sD,be (.str hs),be wD,be (.tup [.int b0,.int b1,.int b2,.int b3,.int b4,.int b5]),be (.own (((p.leaves.take k).map (Leaf.T (decide (draw%4=3)) d_ new b0 b1 b2 b3 b4 b5)).map Leaf.D)),ND,NE,A_,B_,Q9,Q_,Ra,Rb,NW],#[_,_,_,_,_,_,_,_,_,rfl],?_,?_]
  .rintro k v z hk⟨ND,NE,A_,B_,Q9,Q_,Ra,Rb,NW,rfl⟩;k_places;rw[Iy]at hk;have s_:k<p.leaves.length:=by
    rcases JQ k p.leaves.length with q|q
    .exact q
    .rw[IV q]at hk;cases hk
   have NX:p.leaves[k]?=be p.leaves[k]:=ID s_;rw[NX]at hk;cases hk;let#[gd,nr]:=Pat.leaf_good wf p.leaves[k] (IR s_);have b9:(p.leaves.take k).length<=1000:=by rw[JK];have:=Pat.leaves_32 hd;lia
   generalize p.leaves[k]=l at NX gd nr;let#[r0,r1,r2,r3]:=nr.unit;let#[q0,q1,q2,q3,q4,q5]:=hb;refine#[_,rfl,rfl,?_];refine#[λx=>x=.tup [.int (l.w0*b0+l.w1*b2),.int (l.w0*b1+l.w1*b3)],#[_,rfl,.inr (n64 q0),_,rfl,.inr (n64 q2),_,rfl,.inr (n64 q1),_,rfl,.inr (n64 q3),Nq,rfl],?_];rintro _ rfl;k_places;refine#[λx=>x=.tup [.int (l.w0*b0+l.w1*b2),.int (l.w0*b1+l.w1*b3),.int (l.w2*b0+l.w3*b2),.int (l.w2*b1+l.w3*b3)],#[_,rfl,.inr (n64 q0),_,rfl,.inr (n64 q2),_,rfl,.inr (n64 q1),_,rfl,.inr (n64 q3),Nq,Nq,rfl],?_];rintro _ rfl;k_places;refine#[λx=>x=.int (l.w4+l.w0*b4+l.w1*b5),#[_,rfl,.inr (n64 q4),_,rfl,.inr (n64 q5),rfl],?_];rintro _ rfl;k_places;refine#[λx=>x=.int (l.w5+l.w2*b4+l.w3*b5),#[_,rfl,.inr (n64 q4),_,rfl,.inr (n64 q5),rfl],?_];rintro _ rfl;k_places;refine#[λx=>x=.lst (l.hues.map D.int),#[_,rfl,rfl],?_];rintro _ rfl;k_places;refine#[λz=>∃NW:List Int,NW=(Leaf.T (decide (draw%4=3)) d_ new b0 b1 b2 b3 b4 b5 l).hues/\z=[be p.D,be (.int draw),be (.int A),be (.int B),be (.int d_),be (.int new),be sD,be (.str hs),be wD,be (.tup [.int b0,.int b1,.int b2,.int b3,.int b4,.int b5]),be (.own (((p.leaves.take k).map (Leaf.T (decide (draw%4=3)) d_ new b0 b1 b2 b3 b4 b5)).map Leaf.D)),be l.D,be (.int l.w0),be (.int l.w1),be (.int l.w2),be (.int l.w3),be (.int (l.w4+l.w0*b4+l.w1*b5)),be (.int (l.w5+l.w2*b4+l.w3*b5)),be (.tup [.int (l.w0*b0+l.w1*b2),.int (l.w0*b1+l.w1*b3),.int (l.w2*b0+l.w3*b2),.int (l.w2*b1+l.w3*b3)]),be (.lst (NW.map D.int))],#[Nk,ite2 (λc=>?_) (λc=>?_)],?_]
   .have c3:=of_decide_eq_true c;refine#[λx=>x=.lst ((l.hues.map (bR d_ new)).map D.int),#[_,rfl,by rw[Ij,gd.many];decide,λk ys=>ys=((l.hues.take k).map (bR d_ new)).map D.int,rfl,?_,?_],?_]
    .rintro k' x ys hx hl rfl;rw[Iy]at hx;cases e:l.hues[k']? with
     |none=>rw[e]at hx;cases hx
     |some hu=>
      rw[e]at hx;cases hx;refine#[Nq,_,C0 hu d_ new,?_];dsimp only;rw[take_snoc e];simp
    .rintro ys hl rfl;rw[Ij,J5]
    .rintro _ rfl;k_places;exact#[_,by simp[Leaf.T,c3,Leaf.dye,Leaf.by],rfl]
   .have c3:=of_decide_eq_false (IT.mpr c);exact#[_,by simp[Leaf.T,c3,Leaf.by],rfl]
   rintro _⟨hu,UK,rfl⟩;k_places;refine#[_,rfl,_,rfl,_,rfl,Nq,Nq,Nq,by rw[Ij,Ij];lia,?_];have eT:(D.tup [.lst (l.rows.map D.str),.tup [.int l.a,.int l.b],.tup [.int l.c,.int l.d],.tup ([.int (l.w0*b0+l.w1*b2),.int (l.w0*b1+l.w1*b3),.int (l.w2*b0+l.w3*b2),.int (l.w2*b1+l.w3*b3)]++[.int (l.w4+l.w0*b4+l.w1*b5),.int (l.w5+l.w2*b4+l.w3*b5)]),.lst (hu.map D.int)])=(Leaf.T (decide (draw%4=3)) d_ new b0 b1 b2 b3 b4 b5 l).D:=by
    rw[UK];by_cases c3:draw%4=3
    .simp[Leaf.T,c3,Leaf.D,Leaf.dye,Leaf.by]
    .simp[Leaf.T,c3,Leaf.D,Leaf.by]
   have e9:((p.leaves.take (k+1)).map (Leaf.T (decide (draw%4=3)) d_ new b0 b1 b2 b3 b4 b5)).map Leaf.D=((p.leaves.take k).map (Leaf.T (decide (draw%4=3)) d_ new b0 b1 b2 b3 b4 b5)).map Leaf.D++[(Leaf.T (decide (draw%4=3)) d_ new b0 b1 b2 b3 b4 b5 l).D]:=by
    rw[take_snoc NX,II,II,IH,IH,JN,JN]
   rw[e9,<-eT];exact#[_,_,_,_,_,_,_,_,_,rfl]
  .rintro z⟨ND,NE,A_,B_,Q9,Q_,Ra,Rb,NW,rfl⟩;k_places;rw[Ij,J5];refine#[_,rfl,KK,_,rfl,Nq,hR]
abbrev pW(V:Bx):Prop:=V.D 1 "_law_gcd" lZ Cr
def Gb(T:V.T "_law_gcd" lY lZ)(uT:V.m "abs"):pW V:=by
 refine Tx.okDW T sc__law_gcd (λds R h=>?_) (λ_ _ _ _ _ _ _ J hr=>⟨_,((ai (ao 0 sc__law_gcd.nd (eV uT (ac (aa 0) ae)))
   (ai (ao 1 sc__law_gcd.nd (eV uT (ac (aa 1) ae)))
   (ai (fV PassesOwn.never (cr (aa 1) ad) (aq (Ap 0 1 rfl sc__law_gcd.nd (ac (aa 1) (ac (aF (aa 0) (aa 1)) ae)))))
   (aq (aH (aa 0))))))),λds R h=>?_⟩)
 .let#[x,y,rfl,_]:=h;rfl
 .let#[x,y,rfl,hR]:=h;refine#[λd=>d=.int (if x<0 then -x else x),rfl,?_];rintro _ rfl;k_places;refine#[λd=>d=.int (if y<0 then -y else y),rfl,?_];rintro _ rfl;k_places;have hx:0<=(if x<0 then -x else x):=by split<;>lia
  have hy:0<=(if y<0 then -y else y):=by split<;>lia
  have Rc:∀e,(e∣(if x<0 then -x else x)/\e∣(if y<0 then -y else y))↔(e∣x/\e∣y):=λe=>by rw[vb,vb]
  generalize (if x<0 then -x else x)=a at hx Rc ⊢;generalize (if y<0 then -y else y)=b at hy Rc ⊢;refine#[λm z=>∃a b:Int,z=[be (.int a),be (.int b)]/\0<=a/\0<=b/\(∀e,(e∣a/\e∣b)↔(e∣x/\e∣y))/\m=b.toNat,#[_,a,b,rfl,hx,hy,Rc,rfl],?_];rintro m z⟨a,b,rfl,ha,hb,OT,rfl⟩;k_places;refine ite2 (λc=>?_) (λc=>?_)
  .have c':¬b=0:=by simpa using c
   have q1:=cV (a:=a) (show 0<b by lia);have q2:=cX (a:=a) (show 0<b by lia);refine#[KK,_,?_,b,a%b,rfl,hb,q1,λe=>?_,rfl]
   .lia
   .rw[<-OT e];constructor
    .rintro⟨h1,h2⟩;exact#[(vc h1).mp h2,h1]
    .rintro⟨h1,h2⟩;exact#[h2,(vc h2).mpr h1]
  .have c':b=0:=by simpa using c
   subst c';have g:=(OT a).mp #[Int.dvd_refl a,Int.dvd_zero a];exact hR a ha g.1 g.2 λe h1 h2=>((OT e).mpr #[h1,h2]).1
abbrev pX(V:Bx):Prop:=V.D 1 "_law_on" me Cq
def Gc(T:V.T "_law_on" md me):pX V:=by
 refine Tx.okDW T sc__law_on (λds R h=>?_) (λ_ _ _ _ _ _ _ J hr=>⟨_,((ai (ao 4 sc__law_on.nd (bj (az (af (aa 0) ad) (af (aa 1) ad)) (az (af (aa 0) ad) (af (aa 1) ad))))
   (aq (aH (dA (cP (sA (bj (az (aa 2) (af (aa 1) ad)) (az (aa 3) (af (aa 1) ad))) (aa 4)) ad) (dz (cP (sA (bj (az (af (aa 0) ad) (aa 3)) (az (af (aa 0) ad) (aa 2))) (aa 4)) ad))))))),λds R h=>?_⟩)
 .let#[a,b,c,d,u,v,rfl,_]:=h;rfl
 .let#[a,b,c,d,u,v,rfl,ha,hb,hc,hd,hn,hR]:=h;have NY:∀{x:Int},x.natAbs<1073741824->-(2^64)<x/\x<2^64:=λh=>n64 (Nat.le_of_lt_succ h);refine#[λx=>x=.int (a*d-b*c),#[_,rfl,_,rfl,.inl (NY ha),_,rfl,_,rfl,.inl (NY hb),rfl],?_];rintro _ rfl;k_places;refine#[_,rfl,.inr (NY hd),_,rfl,.inr (NY hc),Ow,ite2 (λe=>?_) (λe=>?_)]
  .have e':=of_decide_eq_true e;refine#[_,rfl,.inl (NY ha),_,rfl,.inl (NY hb),Ow,?_];have q:decide ((a*v-b*u).fmod (a*d-b*c)=0)=decide ((u*d-v*c).fmod (a*d-b*c)=0/\(a*v-b*u).fmod (a*d-b*c)=0):=by simp[e']
   have g:R (.bl (decide ((a*v-b*u).fmod (a*d-b*c)=0))):=by rw[q];exact hR
   exact g
  .have e':=of_decide_eq_false (IT.mpr e);have q:decide ((u*d-v*c).fmod (a*d-b*c)=0/\(a*v-b*u).fmod (a*d-b*c)=0)=false:=by simp[e']
   rw[q]at hR;exact hR
abbrev wC(V:Bx):Prop:=V.D 2 "_law_leaf_family" mi C3
def Gd(T:V.T "_law_leaf_family" mf mi)(uT:V.m "abs")(NZ:pW V)(N1:pX V):wC V:=by
 refine Tx.okDW T sc__law_leaf_family (λds R h=>?_) (λ_ _ _ _ _ _ _ J hr=>⟨_,((ai (km rfl (af (aa 0) ad) (dg_cons 1 sc__law_leaf_family.nd (dg_cons 2 sc__law_leaf_family.nd (dg_cons 3 sc__law_leaf_family.nd (dg_cons 4 sc__law_leaf_family.nd (dg_cons 5 sc__law_leaf_family.nd (dg_cons 6 sc__law_leaf_family.nd cT)))))))
   (ai (ao 7 sc__law_leaf_family.nd (aI (ac (am (az (aa 1) (af (af (aa 0) ad) ad)) (az (aa 3) (af (af (aa 0) ad) ad))) (ac (am (az (aa 2) (af (af (aa 0) ad) ad)) (az (aa 4) (af (af (aa 0) ad) ad))) ae))))
   (ai (ao 8 sc__law_leaf_family.nd (aI (ac (am (az (aa 1) (af (af (aa 0) ad) ad)) (az (aa 3) (af (af (aa 0) ad) ad))) (ac (am (az (aa 2) (af (af (aa 0) ad) ad)) (az (aa 4) (af (af (aa 0) ad) ad))) ae))))
   (ai (ao 9 sc__law_leaf_family.nd (ay NZ hr (ac (af (aa 7) ad) (ac (af (aa 8) ad) ae))))
   (ai (ao 10 sc__law_leaf_family.nd (bf (eV uT (ac (bj (az (af (aa 7) ad) (af (aa 8) ad)) (az (af (aa 7) ad) (af (aa 8) ad))) ae)) (aa 9)))
   (ai (ao 11 sc__law_leaf_family.nd ad)
   (ai (fV PassesOwn.never (dR (cu (ay N1 hr (ac (aa 7) (ac (aa 8) (ac (aa 11) (ac (aa 9) ae))))))) (aq (ao 11 sc__law_leaf_family.nd (am (aa 11) ad))))
   (aq (aH (aI (ac (aa 10) (ac (aa 9) (ac (aa 11) ae)))))))))))))),λds R h=>?_⟩)
 .let#[_,_,rfl,_]:=h;rfl
 .let#[l,n,rfl,gd,nr,hR]:=h;let#[h0,h1,h2,h3]:=nr.unit;let#[z0,z1,z2,z3,ne,z5]:=Leaf.sizes gd nr;have ha:=gd.a;have hb:=gd.b;have hc:=gd.c;have hd:=gd.d;unfold B12 at ha hb hc hd;refine#[_,rfl,rfl,?_];refine#[λx=>x=.tup [.int l.o0,.int l.o1],#[_,rfl,_,rfl,.inl (u64 h0),_,rfl,_,rfl,.inl (u64 h2),_,rfl,_,rfl,.inl (u64 h1),_,rfl,_,rfl,.inl (u64 h3),Nq,rfl],?_];rintro _ rfl;k_places;refine#[λx=>x=.tup [.int l.t0,.int l.t1],#[_,rfl,_,rfl,.inl (u64 h0),_,rfl,_,rfl,.inl (u64 h2),_,rfl,_,rfl,.inl (u64 h1),_,rfl,_,rfl,.inl (u64 h3),Nq,rfl],?_];rintro _ rfl;k_places;generalize l.o0=o0 at*;generalize l.o1=o1 at*;generalize l.t0=t0 at*;generalize l.t1=t1 at*;refine#[λx=>∃g:Int,x=.int g/\0<=g/\g∣o1/\g∣t1/\∀e,e∣o1->e∣t1->e∣g,#[_,rfl,_,rfl,o1,t1,rfl,λg q0 q1 q2 q3=>#[g,rfl,q0,q1,q2,q3]],?_];rintro _⟨g,rfl,q0,q1,q2,q3⟩;k_places;let#[w,s,f]:=C1 ne q0 q1 q2 q3;have hg:=f.2.1;have k1:=cD (a:=o0) (d:=t1) (A:=24) (B:=24) z0 z3;have k2:=cD (a:=o1) (d:=t0) (A:=24) (B:=24) z1 z2;have VB:=f.bd (N:=288) z5;have i_:=f.cells;have ew:(if o0*t1-o1*t0<0 then -(o0*t1-o1*t0)else o0*t1-o1*t0)/g=w:=by
   have hp:=IF f.1 hg;have:(if o0*t1-o1*t0<0 then -(o0*t1-o1*t0)else o0*t1-o1*t0)=w*g:=by split<;>lia
   rw[this];exact IW _ KK
  refine#[λx=>x=.int w,#[_,rfl,_,rfl,.inl (n64 z0),_,rfl,_,rfl,.inl (n64 z1),#[KK,KK],?_],?_]
  .exact congrArg D.int ew
  rintro _ rfl;k_places;refine#[λx=>x=.int 0,rfl,?_];rintro _ rfl;k_places;have hp:=IF f.1 hg;refine#[λm z=>∃x:Int,z=[be l.D,be (.int l.w0),be (.int l.w1),be (.int l.w2),be (.int l.w3),be (.int l.w4),be (.int l.w5),be (.tup [.int o0,.int o1]),be (.tup [.int t0,.int t1]),be (.int g),be (.int w),be (.int x)]/\0<=x/\x<=s/\m=(s-x).toNat,#[_,0,rfl,KK,f.2.2.1,rfl],?_];rintro m z⟨x,rfl,x0,x1,rfl⟩;k_places;refine#[o0,o1,t0,t1,x,g,rfl,KK,KK,KK,KK,ne,?_];refine ite2 (λc=>?_) (λc=>?_)
  .have c':¬((x*t1-g*t0).fmod (o0*t1-o1*t0)=0/\(o0*g-o1*x).fmod (o0*t1-o1*t0)=0):=notT c;have xs:x≠s:=by
    rintro rfl;let#[_,_,_,_,m',n',k',l',_,e1,e2,e3,e4]:=id f;exact c' (uz e3 e4)
   refine#[λd=>d=.int (x+1),rfl,?_];rintro _ rfl;k_places;exact#[_,KK,x+1,rfl,KK,KK,rfl]
  .have c':(x*t1-g*t0).fmod (o0*t1-o1*t0)=0/\(o0*g-o1*x).fmod (o0*t1-o1*t0)=0:=by
    exact notF c
   let#[i,j,e1,e2]:=vq ne c';have:x=s:=f.uniq_lean e1 e2 x0 x1;subst this;exact#[Nq,hR w g x f KK]
abbrev wE(V:Bx):Prop:=V.D 1 "_law_in_family" ml Cp
def Ge(T:V.T "_law_in_family" mj ml):wE V:=by
 refine Tx.okDW T ER (λds R h=>?_) (λ_ _ _ _ _ _ _ J hr=>#[_,((aq (aH (dA (cP (aF (aa 2) (af (aa 0) ad)) ad) (dz (cP (aF (bj (aa 1) (az (bf (aa 2) (af (aa 0) ad)) (af (aa 0) ad))) (af (aa 0) ad)) ad)))))),λds R h=>?_])
 .let#[w,h,s,x,y,rfl,_]:=h;rfl
 .let#[w,h,s,x,y,rfl,hw,hh,Mj,hs,m9,hR]:=h;refine#[_,rfl,hh,ite2 (λc=>?_) (λc=>?_)]
  .have c':=of_decide_eq_true c;refine#[_,rfl,#[hh,Mj],_,rfl,.inr #[KK,KK],_,rfl,hw,?_];have e:decide ((x-y/h*s)%w=0)=decide (y%h=0/\(x-y/h*s)%w=0):=by simp[c']
   have g:R (.bl (decide ((x-y/h*s)%w=0))):=by rw[e];exact hR
   exact g
  .have c':=of_decide_eq_false (IT.mpr c);have e:decide (y%h=0/\(x-y/h*s)%w=0)=false:=by simp[c']
   rw[e]at hR;exact hR
abbrev wF(V:Bx):Prop:=V.D 2 "_law_both" mn C6
def Gf(T:V.T "_law_both" mm mn)(NZ:pW V)(Rf:wE V):wF V:=by
  refine Tx.okDW T sc__law_both (λds R h=>?_) (λ_ _ _ _ _ _ _ J hr=>⟨_,((ai (ao 2 sc__law_both.nd (bf (az (af (aa 0) ad) (af (aa 1) ad)) (ay NZ hr (ac (af (aa 0) ad) (ac (af (aa 1) ad) ae)))))
      (ai (ao 3 sc__law_both.nd (af (aa 0) ad))
      (ai (fV PassesOwn.never (Af (az (aa 2) (aa 3)) ad) (ai (ao 4 sc__law_both.nd (aF (az (af (aa 0) ad) (bf (aa 3) (af (aa 0) ad))) (af (aa 0) ad)))
        (ai (fV PassesOwn.never (dm (aa 4) (aa 2)) (ai (bA (cu (ay Rf hr (ac (aa 1) (ac (aa 4) (ac (aa 3) ae))))) (aq (aH (aI (ac (aa 2) (ac (aa 3) (ac (aa 4) ae)))))) bo)
          (aq (ao 4 sc__law_both.nd (am (aa 4) (af (aa 0) ad))))))
        (aq (ao 3 sc__law_both.nd (am (aa 3) (af (aa 0) ad)))))))
      (aq (aH bn)))))),λds R h=>?_⟩)
  . let#[_,_,_,_,_,_,rfl,_]:=h;rfl
  . let#[w1,h1,s1,w2,h2,s2,rfl,f1,f2,hR]:=h;let#[a1,a2,a3,a4,a5,a6]:=f1;let#[b1,b2,b3,b4,b5,b6]:=f2;let#[g,u,W,Hh,S,A,M1,eW,M]:=C5 #[a1,a2,a3,a4,a5,a6] #[b1,b2,b3,b4,b5,b6];have S5:=hR W Hh S A M;have wb:W<=518400:=by
      have:=(lh a1 b1 M1).2.1;have:=cD (a:=w1) (d:=w2) (A:=720) (B:=720) KK KK;lia
    have mw:=M.w0;have mh:=M.h0;have ms:=M.s0;have VC:=M.sw;refine#[λx=>x=.int W,#[_,rfl,_,rfl,.inl #[KK,KK],_,rfl,_,rfl,w1,w2,rfl,λG q0 q1 q2 q3=>?_],?_]
    . have eG:=M1.gcd q0 q1 q2 q3;subst eG;have hg:=M1.pos a1;have Rg:=M1.le a1;exact#[#[hg,KK],by rw[<-eW]]
    rintro _ rfl;k_places;refine#[λx=>x=.int h1,#[_,rfl,rfl],?_];rintro _ rfl;k_places;let#[i0,j0,eS,eH]:=M.up1;have UL:1<=j0:=by
      rcases(KK:j0<=0\/1<=j0)with z|z
      . have:=Jt z (show 0<=h1 by lia);lia
      . exact z
    refine#[λm z=>∃(j:Int) (o:Option D),z=[be (.tup [.int w1,.int h1,.int s1]),be (.tup [.int w2,.int h2,.int s2]),be (.int W),be (.int (j*h1)),o]/\1<=j/\j<=j0/\m=(j0-j).toNat,#[_,1,_,by rw[Int.one_mul];rfl,KK,UL,rfl],?_];rintro m z⟨j,o,rfl,MJ,UM,rfl⟩;k_places;have UN:0<j*h1:=IF KK a3;have UO:j*h1<=Hh:=by
      rw[eH];exact IP UM KK
    have VD:=Lx UO (show 0<=W by lia);refine#[.inl #[KK,KK],ite2 (λc=>?_) (λc=>?_)]
    . have c':=of_decide_eq_true c;have VE:j*h1<=720:=by
        have:=(dH (w:=W) (h:=j*h1) mw UN).2;lia
      have UP:j*h1/h1=j:=IW _ KK;refine#[λx=>∃v:Int,x=.int v/\0<=v/\v<w1/\∃i,v=i*w1+j*s1,#[_,rfl,_,rfl,#[KK,KK],.inl #[KK,KK],_,rfl,a1,_,rfl,cV a1,cX a1,?_],?_]
      . rw[UP];refine#[-(s1*j/w1),?_];have:=JE (s1*j) w1;rw[this];have e1:s1*j=j*s1:=IN _ _;have e2:w1*(s1*j/w1)=s1*j/w1*w1:=IN _ _;rw[e2,KL];lia
      rintro _⟨x0,rfl,x1,x2,i1,S6⟩;k_places;refine#[λm z=>∃(x:Int),z=[be (.tup [.int w1,.int h1,.int s1]),be (.tup [.int w2,.int h2,.int s2]),be (.int W),be (.int (j*h1)),be (.int x)]/\0<=x/\(∃i,x=i*w1+j*s1)/\(j=j0->x<=S)/\m=(W-x).toNat,#[_,x0,rfl,x1,#[i1,S6],λej=>?_,rfl],?_]
      . subst ej;let#[k,ek,k0]:=C7 a1 x2 x1 ms eS #[i1,S6];have:=KG k0 (show 0<=w1 by lia);lia
      rintro m z⟨x,rfl,y0,⟨i2,ex⟩,yS,rfl⟩;k_places;refine ite2 (λc=>?_) (λc=>?_)
      . have cW:=of_decide_eq_true c;refine#[w2,h2,s2,x,j*h1,rfl,b1,b3,KK,b5,KK,?_];refine ite2 (λq=>?_) (λq=>?_)
        . have q':=of_decide_eq_true q;let#[i3,k3,e3,e4]:=C4 q';let#[z1,z2]:=M.high a3 MJ #[i2,ex] #[i3,k3,e3,e4];have Rh:j*h1=Hh:=by lia
          have:=z2 Rh y0 cW;subst this;have:=S5.1 (by rw[<-Rh];lia);rw[<-Rh]at this;exact#[Nq,this]
        . have q':=of_decide_eq_false (IT.mpr q);refine#[λd=>d=.int (x+w1),#[_,rfl,rfl],?_];rintro _ rfl;k_places;refine#[_,KK,x+w1,rfl,KK,#[i2+1,Oi],λej=>?_,rfl];subst ej;have hx:=yS rfl;have ne:x≠S:=by
            rintro rfl;let#[i4,j4,e5,e6]:=M.up2;exact q' (in_fam (i:=i4) (j:=j4) b3 e5 (by rw[<-eH];exact e6))
          have:∃t:Int,S=x+t*w1:=#[i0-i2,by rw[ex];grind];let#[t,et]:=this;have t1:1<=t:=by
            rcases(KK:t<=0\/1<=t)with z|z
            . have:=Jt z (show 0<=w1 by lia);lia
            . exact z
          have:=IP t1 (show 0<=w1 by lia);lia
      . have cW:=of_decide_eq_false (IT.mpr c);have VF:j<j0:=by
          rcases(KK:j<j0\/j=j0)with z|z
          . exact z
          . have:=yS z;lia
        refine#[λd=>d=.int ((j+1)*h1),#[_,rfl,by congr 1;grind],?_];rintro _ rfl;k_places;exact#[_,KK,j+1,_,rfl,KK,KK,rfl]
    . have c':=of_decide_eq_false (IT.mpr c);exact S5.2 KK
abbrev wG(V:Bx):Prop:=V.D 3 "_law_family" mv C8
def Gg(T:V.T "_law_family" mo mv)(PF:wC V)(Rj:wF V):wG V:=by
  refine Tx.okDW T sc__law_family (λds R h=>?_) (λ_ _ _ _ _ _ _ J hr=>⟨_,((ai (ao 1 sc__law_family.nd (ay PF hr (ac (af (aa 0) ad) ae)))
      (ai (gZ 2 PassesOwn.never rfl sc__law_family.nd (AD (aa 0) ad) (ai (ao 1 sc__law_family.nd (ay Rj hr (ac (aa 1) (ac (ay PF hr (ac (aa 2) ae)) ae))))
        (aq (bA (fU (aa 1) bn) (aq (aH bn)) bo))))
      (aq (aH (aa 1)))))),λds R h=>?_⟩)
  . let#[_,_,rfl,_]:=h;rfl
  . let#[ls,n,rfl,k_,hg,hR]:=h;cases ls with
    |nil=>exact absurd rfl k_
    |cons l0 ls=>
    refine#[λx=>∃w h s:Int,x=.tup [.int w,.int h,.int s]/\FamOf l0.o0 l0.o1 l0.t0 l0.t1 w h s/\w*h<=288,#[_,bI (j:=0) rfl,l0,n,rfl,(hg l0 Ip).1,(hg l0 Ip).2,λw h s f q=>#[w,h,s,rfl,f,q]],?_];rintro _⟨w0,h0,s0,rfl,f0,q0⟩;k_places;have ec:cutD (JP Leaf.D (l0::ls)) (be 1) z6=ls.map Leaf.D:=by rw[IH,cut1]
    refine#[λk z=>∃(w h s:Int) (o:Option D),z=[be (.lst ((l0::ls).map Leaf.D)),be (.tup [.int w,.int h,.int s]),o]/\Fam0 w h s/\w*h<=720/\∀x y,InF w h s x y↔cb (l0::ls.take k) x y,#[w0,h0,s0,_,rfl,#[f0.1,f0.2.1,f0.2.2.1,f0.2.2.2.1],KK,λx y=>?_],?_,?_]
    . rw[f0.lat];constructor
      . intro q l z;rcases Ik.mp z with e|e
        . rw[e];exact q
        . cases e
      . intro q;exact q l0 Ip
    . rintro k v z hk⟨w,h,s,o,rfl,fm,S7,lat⟩;k_places;rw[ec,Iy]at hk;have s_:k<ls.length:=by
        rcases JQ k ls.length with q|q
        . exact q
        . rw[IV q]at hk;cases hk
      have NX:ls[k]?=be ls[k]:=ID s_;rw[NX]at hk;cases hk;let#[gd,nr]:=hg ls[k] (Im _ (IR s_));have M4:∀l∈ls.drop (k+1),l.Good/\l.Near n:=λl q=>hg l (Im _ (J8 q));have v8:∀x y,cb (l0::ls) x y↔(cb (l0::ls.take k) x y/\ls[k].Lat x y)/\cb (ls.drop (k+1)) x y:=λx y=>by
        have ed:ls=ls.take k++ls[k]::ls.drop (k+1):=by rw[<-JG s_,L5]
        constructor
        . intro q;refine#[#[λl z=>?_,q _ (Im _ (IR s_))],λl z=>q l (Im _ (J8 z))];rcases Ik.mp z with e|e
          . exact q l (e ▸ Ip)
          . exact q l (Im _ (L6 e))
        . rintro⟨⟨q1,q2⟩,q3⟩ l z;rcases Ik.mp z with e|e
          . exact q1 l (e ▸ Ip)
          . rw[ed]at e;rcases IK.mp e with e|e
            . exact q1 l (Im _ e)
            . rcases Ik.mp e with e|e
              . rw[e];exact q2
              . exact q3 l e
      have j8:∀x y,cb (l0::ls.take (k+1)) x y↔cb (l0::ls.take k) x y/\ls[k].Lat x y:=λx y=>by
        rw[take_snoc NX];constructor
        . intro q;refine#[λl z=>q l ?_,q _ (Im _ (IE _ Ip))];rcases Ik.mp z with e|e
          . rw[e];exact Ip
          . exact Im _ (Jk _ e)
        . rintro⟨q1,q2⟩ l z;rcases Ik.mp z with e|e
          . exact q1 l (e ▸ Ip)
          . rcases IK.mp e with e|e
            . exact q1 l (Im _ e)
            . rw[Ih.mp e];exact q2
      generalize ls[k]=l at gd nr v8 j8;let#[p1,p2]:=dH fm.w0 fm.h0;refine#[λx=>(∃w h s:Int,x=.tup [.int w,.int h,.int s]/\Fam0 w h s/\w*h<=720/\∀x y,InF w h s x y↔cb (l0::ls.take (k+1)) x y)\/(x=.non/\R .non),#[l,n,rfl,gd,nr,λw2 h2 s2 f2 b2=>?_],?_]
      . let#[r1,r2]:=dH f2.1 f2.2.1;refine#[w,h,s,w2,h2,s2,rfl,#[fm.w0,KK,fm.h0,KK,fm.s0,fm.sw],#[f2.1,KK,f2.2.1,KK,f2.2.2.1,f2.2.2.2.1],λW Hh S A M=>#[λq=>?_,λq=>?_]]
        . refine .inl #[W,Hh,S,rfl,#[M.w0,M.h0,M.s0,M.sw],q,λx y=>?_];rw[M.lat,lat,f2.lat,j8];exact Iff.rfl
        . refine .inr #[rfl,?_];let#[w3,h3,s3,f3,e3]:=vx (ls.drop (k+1)) W Hh S #[M.w0,M.h0,M.s0,M.sw] M4;refine(hR w3 h3 s3 f3 λx y=>?_).2 ?_
          . rw[e3,M.lat,lat,f2.lat,v8];exact Iff.rfl
          . have:=(InF.le M.w0 M.h0 f3.w0 f3.h0 (λx y z=>((e3 x y).mp z).1)).1;lia
      . rintro _ (⟨W,Hh,S,rfl,UQ,q,e'⟩|⟨rfl,hn⟩);k_places
        . try simp only[Kr,KW]
          exact#[W,Hh,S,_,rfl,UQ,q,e']
        . try simp only[Kr,KW]
          exact hn
    . rintro z⟨w,h,s,o,rfl,fm,S7,lat⟩;k_places;rw[ec,Ij,J5]at lat;exact(hR w h s fm lat).1 S7
abbrev pY(V:Bx):Prop:=V.D 4 "_law_over" my vB
def Gh(T:V.T "_law_over" mx my)(uU:V.m "max")(Rk:wG V):pY V:=by
 refine Tx.okDW T sc__law_over (λds R h=>?_) (λ_ _ _ _ _ _ _ J hr=>⟨_,((ai (ao 2 sc__law_over.nd (am (af (aa 0) ad) (af (aa 1) ad)))
   (ai (bA (cC (dv (sK (fW rfl uU (ac (af (aa 0) ad) (ac (af (aa 1) ad) ae))) ad) (du (fU (ay Rk hr (ac (aa 2) ae)) bn)))) (aq (aH (aa 0))) bo)
   (aq (aH (aQ (ac (am (am (am (am av (af (aa 0) ad)) av) (af (aa 1) ad)) av) (ac (am ad (fW rfl uU (ac (af (aa 0) ad) (ac (af (aa 1) ad) ae)))) (ac (aa 2) ae))))))))),λds R h=>?_⟩)
 .let#[_,_,rfl,_]:=h;rfl
 .let#[p,q,rfl,wp,wq,dp,dq,S8,UR]:=h;have n1:=Pat.leaves_32 dp;have n2:=Pat.leaves_32 dq;refine#[λx=>x=.lst ((Pat.over p q).leaves.map Leaf.D),#[_,rfl,_,rfl,?_,?_],?_]
  .rw[Ij,Ij];lia
  .rw[Pat.leaves,II]
  rintro _ rfl;k_places;refine#[_,rfl,_,rfl,ite2 (λc=>S8) (λc=>?_)];have c':=of_decide_eq_false (IT.mpr c);have ep:p.depth<5/\q.depth<5:=by
   split at c'<;>lia
  refine#[(Pat.over p q).leaves,(Pat.over p q).depth,rfl,?_,λl hl=>Pat.leaf_good (p:=.over p q) #[wp,wq] l hl,λw h s f lat=>#[λsm=>?_,λ_=>S8]]
  .intro z;have:(Pat.over p q).leaves.length=0:=by rw[z];rfl
   rw[Pat.leaves,Ix]at this;have:=Pat.leaves_pos p;lia
  have t1:=Pat.text_short wp dp;have t2:=Pat.text_short wq dq;have l1:("(":Mr).length=1:=rfl;have l2:("|":Mr).length=1:=rfl;have l3:(")":Mr).length=1:=rfl;have Q2:(Pat.over p q).Fits:=#[w,h,s,#[f,λx y=>(lat x y).trans (Pat.lat_leaves (.over p q) x y)],sm];refine#[_,rfl,?_,?_,_,rfl,?_,?_,_,rfl,_,rfl,Nq,?_]
  .lia
  .rw[aJ];lia
  .rw[aJ,aJ];lia
  .rw[aJ,aJ,aJ];lia
  have g:=UR ep.1 ep.2 Q2;have e:(1+(if(q.depth:Int)>(p.depth:Int)then(q.depth:Int)else(p.depth:Int)))=(((Pat.over p q).depth:Nat):Int):=by
   rw[Pat.depth];split<;>lia
  unfold Pat.D at g;rw[<-e]at g;exact g
abbrev wH(V:Bx):Prop:=V.D 5 "_law_pattern" mB Da
def Gi(T:V.T "_law_pattern" mz mB)(uB:V.m "range")(z_:gG V)(NF:pU V)(M5:pV V)(NG:pY V):wH V:=by
  refine Tx.okDW T sc__law_pattern (λds R h=>?_) (λ_ _ _ _ _ _ _ J hr=>⟨_,((ai (ao 2 sc__law_pattern.nd (ay z_ hr (ac (aa 0) (ac (aa 1) (ac ad ae)))))
      (ai (ao 3 sc__law_pattern.nd (ay NF hr (ac (aa 0) (ac (am (aa 1) ad) ae))))
      (ai (cf 4 PassesOwn.never rfl sc__law_pattern.nd uB (aF (af (aa 2) ad) ad) (ai (ao 5 sc__law_pattern.nd (af (aa 2) (am ad (az ad (aa 4)))))
        (aq (eY (bC (aF (aa 5) ad) ad) (aq (ao 3 sc__law_pattern.nd (ay M5 hr (ac (aa 3) (ac (bf (aa 5) ad) ae))))) (ai (ao 6 sc__law_pattern.nd (ay NF hr (ac (aa 0) (ac (am (am (aa 1) ad) (az ad (aa 4))) ae))))
         (ai (eY (bC (aF (bf (aa 5) ad) ad) ad) (aq (ao 6 sc__law_pattern.nd (ay M5 hr (ac (aa 6) (ac (af (aa 2) (am ad (az ad (aa 4)))) ae))))) bo)
         (aq (ao 3 sc__law_pattern.nd (af (aQ (ac (ay NG hr (ac (aa 3) (ac (aa 6) ae))) (ac (ay NG hr (ac (aa 6) (ac (aa 3) ae))) ae))) (aF (bf (aa 5) ad) ad))))))))))
      (aq (aH (aa 3))))))),λds R h=>?_⟩)
  . let#[_,_,rfl,_]:=h;rfl
  . let#[ns,k,rfl,hk,hR]:=h;refine#[λx=>∃xs:List Int,x=.lst (xs.map D.int)/\xs.length=13/\Drawn xs,#[ns,k,13,rfl,hk,Nk,λxs h1 h2=>#[xs,rfl,h1,h2]],?_];rintro _⟨xs,rfl,hl,hd⟩;k_places;refine#[λx=>∃p:Pat,x=p.D/\p.Ok,#[ns,k+2,rfl,KK,λL a b c d h1 h2 h3 h4 h5 h6=>#[.mot L a b c d,rfl,#[h1,h2,h3,h4,h5,h6],by simp[Pat.depth],Pat.fits_mot h2 h3 h4 h5 h6]],?_];rintro _⟨p0,rfl,PH⟩;k_places;have a0:=cJ (xs:=xs) (k:=0) Nk (show 0<xs.length by lia);have h7:=cV (a:=cell xs 0) (show(0:Int)<7 by decide);have h8:=cX (a:=cell xs 0) (show(0:Int)<7 by decide);refine#[_,a0,Nk,#[KK,KK],λi z=>∃(p:Pat) (o1 o2 o3:Option D),z=[be (.rol (ns.map D.int)),be (.int k),be (.lst (xs.map D.int)),be p.D,o1,o2,o3]/\p.Ok,#[p0,_,_,_,rfl,PH],?_,?_]
    . rintro i v z hi⟨p,o1,o2,o3,rfl,ok⟩;k_places;let#[j9,rfl]:=bQ hi;have a1:=cJ (xs:=xs) (k:=1+2*(i:Int)) KK KK;have a2:=cJ (xs:=xs) (k:=2+2*(i:Int)) KK KK;generalize cell xs (1+2*(i:Int))=st at a1;generalize cell xs (2+2*(i:Int))=sv at a2;refine#[λx=>x=.int st,#[.inr #[KK,KK],_,a1,rfl],?_];rintro _ rfl;k_places;refine#[λz=>∃(p:Pat) (o3:Option D),z=[be (.rol (ns.map D.int)),be (.int k),be (.lst (xs.map D.int)),be p.D,be (.int i),be (.int st),o3]/\p.Ok,#[Nk,ite2 (λc=>?_) (λc=>?_)],?_]
      . refine#[λx=>∃p:Pat,x=p.D/\p.Ok,#[#[Nk,Nk],p,_,rfl,ok.wf,ok.deep,by have:=Pat.text_short ok.wf ok.deep;lia,Wraps.of ok λq hq=>#[q,rfl,hq]],?_];rintro _⟨q,rfl,h_⟩;k_places;exact#[q,_,rfl,h_]
      . refine#[λx=>∃p:Pat,x=p.D/\p.Ok,#[.inr #[KK,KK],ns,k+4+2*(i:Int),rfl,KK,λL a b c d h1 h2 h3 h4 h5 h6=>#[.mot L a b c d,rfl,#[h1,h2,h3,h4,h5,h6],by simp[Pat.depth],Pat.fits_mot h2 h3 h4 h5 h6]],?_];rintro _⟨q,rfl,h_⟩;k_places;refine#[λz=>∃(q:Pat),z=[be (.rol (ns.map D.int)),be (.int k),be (.lst (xs.map D.int)),be p.D,be (.int i),be (.int st),be q.D]/\q.Ok,#[#[Nk,Nk],Nk,ite2 (λc=>?_) (λc=>?_)],?_]
        . refine#[λx=>∃p:Pat,x=p.D/\p.Ok,#[.inr #[KK,KK],_,a2,q,_,rfl,h_.wf,h_.deep,by have:=Pat.text_short h_.wf h_.deep;lia,Wraps.of h_ λq hq=>#[q,rfl,hq]],?_];rintro _⟨q,rfl,h_⟩;k_places;exact#[q,rfl,h_]
        . exact#[q,rfl,h_]
        rintro _⟨q,rfl,h_⟩;k_places;refine#[λx=>∃p:Pat,x=p.D/\p.Ok,?_,?_]
        . have e_:∀r r':Pat,r.Ok->r'.Ok->∃x,atI [r.D,r'.D] (st/4%2)=be x/\∃p:Pat,x=p.D/\p.Ok:=λr r' hr US=>by
            rcases(KK:st/4%2=0\/st/4%2=1)with e|e<;>rw[e]
            . exact#[_,rfl,r,rfl,hr]
            . exact#[_,rfl,r',rfl,US]
          have S9:p.depth<5->q.depth<5->(Pat.over p q).Fits->(Pat.over p q).Ok:=λd1 d2 ft=>#[#[ok.wf,h_.wf],by simp only[Pat.depth];lia,ft];have S':q.depth<5->p.depth<5->(Pat.over q p).Fits->(Pat.over q p).Ok:=λd1 d2 ft=>#[#[h_.wf,ok.wf],by simp only[Pat.depth];lia,ft];refine#[p,q,rfl,ok.wf,h_.wf,ok.deep,h_.deep,?_,λd1 d2 ft=>?_]<;>refine#[q,p,rfl,h_.wf,ok.wf,h_.deep,ok.deep,?_,λd3 d4 S_=>?_]<;>refine#[Nq,#[Nk,Nk],Nk,?_]
          . exact e_ _ _ ok h_
          . exact e_ _ _ ok (S' d3 d4 S_)
          . exact e_ _ _ (S9 d1 d2 ft) h_
          . exact e_ _ _ (S9 d1 d2 ft) (S' d3 d4 S_)
        rintro _⟨q',rfl,Rl⟩;k_places;exact#[q',_,rfl,Rl]
      rintro _⟨q,o3,rfl,h_⟩;k_places;exact#[q,_,_,_,rfl,h_]
    . rintro z⟨p,o1,o2,o3,rfl,ok⟩;k_places;exact hR p ok
def Gj:SpD:=λds R=>∃(p:Pat) (n:Int) (c:Nat),ds=[p.D,.int n,.str #[[c].toArray]]/\p.Ok/\bc c/\∀q:Pat,q.Ok->R q.D
abbrev wI(V:Bx):Prop:=V.D 1 "_law_respelled" mD Gj
def Gk(T:V.T "_law_respelled" mC mD)(uA:V.m "len")(A':V.m "list"):wI V:=by
 refine Tx.okDW T sc__law_respelled (λds R h=>?_) (λ_ _ _ _ _ _ _ J hr=>⟨_,((ai (ao 3 sc__law_respelled.nd (af (af (aa 0) ad) ad))
   (ai (ao 4 sc__law_respelled.nd (bB uA (ac (af (af (aa 3) ad) ad) ae)))
   (ai (ao 5 sc__law_respelled.nd (bf (aF (aa 1) (az (aa 4) (bB uA (ac (af (aa 3) ad) ae)))) (aa 4)))
   (ai (ao 6 sc__law_respelled.nd (aF (aa 1) (aa 4)))
   (ai (Cf 7 A' sc__law_respelled.nd (ac (af (aa 3) ad) ae))
   (ai (kB 7 (am (am (bK (ku 7 (aa 5)) bV (bz (aa 6))) (aa 2)) (bK (ku 7 (aa 5)) (bz (am (aa 6) ad)) bV)) (aa 5))
   (ai (ao 8 sc__law_respelled.nd (am (am (am (kJ (af (aa 0) ad) (ac av ae)) ad) (az (aa 5) (am (aa 4) ad))) (aa 6)))
   (ai (ao 9 sc__law_respelled.nd (am (am (bK (af (aa 0) ad) bV (bz (aa 8))) (aa 2)) (bK (af (aa 0) ad) (bz (am (aa 8) ad)) bV)))
   (cS 7 (aq (aH (aQ (ac (aa 9) (ac (af (aa 0) ad) (ac (am (aQ (ac (aI (ac (aa 7) (ac (af (aa 3) ad) (ac (af (aa 3) ad) (ac (af (aa 3) ad) (ac (af (aa 3) ad) ae)))))) ae)) (bK (af (aa 0) ad) (bz ad) bV)) ae)))))))))))))))),λds R h=>?_⟩)
 .let#[_,_,_,rfl,_]:=h;rfl
 .let#[p,n,c,rfl,ok,hc,hR]:=h;let#[A,B,l,ls,r]:=Pat.re_ex ok.wf;let#[m,w,w8,hr]:=r.rows;have hw:∀s∈l.rows,s.length=w:=λs hs=>(hr s hs).1;have UT:=Pat.text_short ok.wf ok.deep;have Ta:=ce p;rw[r.tl]at Ta;let#[i0,rest,eo,ei]:=FL Ta r.no;have wm:0<w*l.rows.length:=Nat.mul_pos KK KK;let#[j,hj,jm]:∃j:Nat,n%((w:Int)*l.rows.length)/w=j/\j<l.rows.length:=by
   have h0:=Ji n (show((w*l.rows.length:Nat):Int)≠0 by lia);have h1:=Jj n (show 0<((w*l.rows.length:Nat):Int)by lia);rw[KJ]at h0 h1;have q0:=Ks h0 (show 0<=(w:Int)by lia);have q1:=Int.ediv_lt_of_lt_mul (show 0<(w:Int)by lia) (show n%((w:Int)*l.rows.length)<(l.rows.length:Int)*w by rw[IN (l.rows.length:Int)];exact h1);exact#[(n%((w:Int)*l.rows.length)/w).toNat,KK,KK]
  let#[i,hi,iw]:∃i:Nat,n%(w:Int)=i/\i<w:=by
   have h0:=Ji n (show(w:Int)≠0 by lia);have h1:=Jj n (show 0<(w:Int)by lia);exact#[(n%(w:Int)).toNat,KK,KK]
  have UU:atI (p.leaves.map Leaf.D) 0=be l.D:=bI (j:=0) (by rw[r.leaves];rfl);have Rm:atI (l.rows.map D.str) 0=be (.str (l.rows[0]' KK)):=bI (j:=0) (by rw[Iy,ID (show 0<l.rows.length by lia)];rfl);have OU:atI (l.rows.map D.str) (j:Int)=be (.str l.rows[j]):=bI (by rw[Iy,ID jm];rfl);have Rn:=hw (l.rows[0]' KK) (IR _);have UV:=hw l.rows[j] (IR jm);refine#[λd=>d=l.D,#[_,rfl,_,UU,rfl],?_];rintro _ rfl;k_places;refine#[λd=>d=.int (w:Int),#[_,rfl,_,Rm,KK,by rw[Rn]],?_];rintro _ rfl;k_places;refine#[λd=>d=.int (j:Int),#[_,rfl,.inl #[KK,KK],?_,#[KK,KK],?_],?_]
  .rw[Ij,<-KJ];lia
  .rw[Ij,hj]
  rintro _ rfl;k_places;refine#[λd=>d=.int (i:Int),#[KK,by rw[hi]],?_];rintro _ rfl;k_places;show dSeq _ _ _ [_,_,_,_,_,_,_,_,_,_];refine#[_,rfl,?_];have s1:=Txt.slice_le l.rows[j] z6 (be (i:Int));have s2:=Txt.slice_le l.rows[j] (be ((i:Int)+1)) z6;have c1:(#[[c].toArray]:Mr).length=1:=rfl;have hs:=wx (c:=c) (show i<l.rows[j].length by lia);generalize MZ:((Txt.slice l.rows[j] z6 (be (i:Int))++#[[c].toArray])++Txt.slice l.rows[j] (be ((i:Int)+1)) z6:Mr)=s' at hs;let#[q,h_,dq,lq,sp,tq]:=r.put ok hw jm iw hc hs;refine#[_,OU,KK,KK,_,OU,KK,by rw[aJ];lia,j,?_,?_]
  .rw[Ij];unfold ixN;rw[if_pos KK,if_pos KK,Jb]
  rw[MZ,<-LZ];have UW:(i0:Int)=A.length:=KK
  refine#[λd=>d=.int ((A.length+1+j*(w+1)+i:Nat):Int),#[_,rfl,i0,rest,eo,.inl #[KK,KK],?_],?_]
  .show D.int _=D.int _;rw[UW];simp
  rintro _ rfl;k_places;have t1:=Txt.slice_le p.text z6 (be ((A.length+1+j*(w+1)+i:Nat):Int));have t2:=Txt.slice_le p.text (be (((A.length+1+j*(w+1)+i:Nat):Int)+1)) z6;refine#[λd=>d=.str q.text,#[_,rfl,KK,KK,_,rfl,KK,by rw[aJ];lia,?_],?_]
  .show D.str _=D.str _;rw[tq _ (wx sp)]
  rintro _ rfl;k_places;have VG:=Pat.leaves_32 ok.deep;have ec:cutD (p.leaves.map Leaf.D) (be 1) z6=ls.map Leaf.D:=by rw[r.leaves,IH,cut1]
  refine#[_,rfl,_,rfl,_,rfl,_,rfl,_,rfl,le_b rfl,le_b rfl,_,rfl,?_,le_b rfl,?_]
  .have:=congrArg J0 r.leaves;rw[Iu]at this;show 1+(cutD (p.leaves.map Leaf.D) (be 1) z6).length<=1000000;rw[ec,Ij];lia
  have e:=hR q h_;unfold Pat.D at e;rw[dq,lq,IH,<-ec]at e;exact e
abbrev wJ(V:Bx):Prop:=V.D 2 "_law_leaf_shows" mG CS
def Gm(T:V.T "_law_leaf_shows" mF mG)(uB:V.m "range")(uA:V.m "len")(uD:V.m "int")(N1:pX V):wJ V:=by
 refine Tx.okDW T sc__law_leaf_shows (λds R h=>?_) (λ_ _ _ _ _ _ _ J hr=>⟨_,((ai (ao 3 sc__law_leaf_shows.nd (af (aa 0) ad))
   (ai (ao 4 sc__law_leaf_shows.nd (am (am (az (af (aa 3) ad) (aa 1)) (az (af (aa 3) ad) (aa 2))) (af (aa 3) ad)))
   (ai (ao 5 sc__law_leaf_shows.nd (am (am (az (af (aa 3) ad) (aa 1)) (az (af (aa 3) ad) (aa 2))) (af (aa 3) ad)))
   (ai (cf 6 PassesOwn.never rfl sc__law_leaf_shows.nd uB (bB uA (ac (af (aa 0) ad) ae)) (aq (cf 7 PassesOwn.never rfl sc__law_leaf_shows.nd uB (bB uA (ac (af (af (aa 0) ad) (aa 6)) ae)) (aq (bA (cC (ke (cr (af (af (af (aa 0) ad) (aa 6)) (aa 7)) av) (jZ (cu (ay N1 hr (ac (af (aa 0) ad) (ac (af (aa 0) ad) (ac (bj (aa 4) (aa 7)) (ac (bj (aa 5) (aa 6)) ae))))))))) (aq (aH (af (af (aa 0) ad) (dS uD (ac (af (af (af (aa 0) ad) (aa 6)) (aa 7)) ae))))) bo)))))
   (aq (aH ad))))))),λds R h=>?_⟩)
 .let#[_,_,_,rfl,_]:=h;rfl
 .let#[l,x,y,rfl,ok,hR]:=h;let#[hm,wd,UX,OS]:=id ok.rows;refine#[λd=>d=.tup [.int l.w0,.int l.w1,.int l.w2,.int l.w3,.int l.w4,.int l.w5],#[_,rfl,rfl],?_];rintro _ rfl;k_places;refine#[λd=>d=.int (l.w0*x+l.w1*y+l.w4),#[_,rfl,.inl (n64 ok.w0),_,rfl,.inl (n64 ok.w1),_,rfl,rfl],?_];rintro _ rfl;k_places;refine#[λd=>d=.int (l.w2*x+l.w3*y+l.w5),#[_,rfl,.inl (n64 ok.w2),_,rfl,.inl (n64 ok.w3),_,rfl,rfl],?_];rintro _ rfl;k_places;have M6:R (.int (match l.hit x y with|some c=>cell l.hues ((c:Int)-48)|none=>0)):=hR;unfold Leaf.hit at M6;generalize l.w0*x+l.w1*y+l.w4=U at M6 ⊢;generalize l.w2*x+l.w3*y+l.w5=V at M6 ⊢;generalize ef:(λi j=>onB l.a l.b l.c l.d (U-i) (V-j))=f at M6;have e0:∀i j,f i j=onB l.a l.b l.c l.d (U-i) (V-j):=λi j=>by rw[<-ef]
  have b9:((l.rows.map D.str).length:Int).toNat=l.rows.length:=Nq
  refine#[_,rfl,#[KK,Qh],λk z=>∃o1 o2:Option D,z=[be l.D,be (.int x),be (.int y),be (.tup [.int l.w0,.int l.w1,.int l.w2,.int l.w3,.int l.w4,.int l.w5]),be (.int U),be (.int V),o1,o2]/\ca f 0 l.rows=ca f k (l.rows.drop k),#[_,_,rfl,rfl],?_,?_]
  .rintro j v z hj⟨o1,o2,rfl,hs⟩;k_places;let#[NV,rfl]:=bQ hj;rw[b9]at NV;have OV:l.rows[j]?=be l.rows[j]:=ID NV;have L9:l.rows.drop j=l.rows[j]::l.rows.drop (j+1):=JG NV;let#[PC,OR]:=OS l.rows[j] (IR NV);generalize l.rows[j]=row at OV L9 PC OR;have NH:=at_str OV;have i_:=aZ row;refine#[_,rfl,_,NH,KK,#[KK,KK],λi z=>∃o2:Option D,z=[be l.D,be (.int x),be (.int y),be (.tup [.int l.w0,.int l.w1,.int l.w2,.int l.w3,.int l.w4,.int l.w5]),be (.int U),be (.int V),be (.int j),o2]/\scanRow (λi=>f i j) 0 (cs row)=scanRow (λi=>f i j) i ((cs row).drop i),#[_,rfl,rfl],?_,?_]
   .rintro i v z hi⟨o2,rfl,N2⟩;k_places;let#[j9,rfl]:=bQ hi;have Ro:i<(cs row).length:=by lia
    have MK:(cs row).drop i=(cs row)[i]::(cs row).drop (i+1):=JG Ro;have OW:=OR (cs row)[i] (IR Ro);have Rp:atI (cs row) (i:Int)=be (cs row)[i]:=bI (ID Ro);generalize (cs row)[i]=c at MK OW Rp;refine#[_,rfl,_,NH,c,#[KK,Rp],ite2 (λq=>?_) (λq=>?_)]
    .have z9:¬c=46:=by
      intro z;have:(#[[c].toArray]:Mr)=".":=one_sign.mpr z;simp[this]at q
     refine#[_,rfl,_,rfl,l.a,l.b,l.c,l.d,U-i,V-j,rfl,ok.a.lt,ok.b.lt,ok.c.lt,ok.d.lt,ok.ne,?_];refine ite2 (λq2=>?_) (λq2=>?_)
     .have e_:f i j=true:=by rw[e0];exact q2
      have UY:49<=c/\c<=54:=by unfold bc at OW;lia
      refine#[_,rfl,_,rfl,_,NH,c,#[KK,Rp],_,#[digit_of UY,by show 1<=640;decide],_,cJ KK (by rw[ok.many];lia),?_];rw[hs,L9,ca,N2,MK,scanRow,if_pos #[z9,e_]]at M6;exact M6
     .have e_:¬f i j=true:=by rw[e0];exact q2
      refine#[_,rfl,?_];rw[N2,MK,scanRow,if_neg (λz=>e_ z.2)]
    .have z9:c=46:=by
      rcases Classical.em (c=46)with z|z
      .exact z
      .exact absurd (by
        have:¬(#[[c].toArray]:Mr)=".":=λw=>z (one_sign.mp w);simp[this]) q
     refine#[_,rfl,?_];rw[N2,MK,scanRow,if_neg (λz=>z.1 z9)]
   .rintro z⟨o2,rfl,N2⟩;k_places;refine#[_,_,rfl,?_];have hn:((row.length:Int).toNat)=(cs row).length:=by lia
    rw[bF,hn,KY (Ii _),scanRow]at N2;rw[hs,L9,ca,N2]
  .rintro z⟨o1,o2,rfl,hs⟩;k_places;rw[bF,b9,KY (Ii _),ca]at hs;rw[hs]at M6;exact M6
abbrev wK(V:Bx):Prop:=V.D 3 "_law_shows" mI CT
def Gn(T:V.T "_law_shows" mH mI)(Rq:wJ V):wK V:=by
 refine Tx.okDW T sc__law_shows (λds R h=>?_) (λ_ _ _ _ _ _ _ J hr=>⟨_,((ai (gZ 3 PassesOwn.never rfl sc__law_shows.nd (aa 0) (ai (ao 4 sc__law_shows.nd (ay Rq hr (ac (aa 3) (ac (aa 1) (ac (aa 2) ae)))))
    (aq (bA (cr (aa 4) ad) (aq (aH (aa 4))) bo))))
   (aq (aH ad)))),λds R h=>?_⟩)
 .let#[_,_,_,rfl,_]:=h;rfl
 .let#[ls,x,y,rfl,ok,hR]:=h;refine#[λk z=>∃o1 o2:Option D,z=[be (.lst (ls.map Leaf.D)),be (.int x),be (.int y),o1,o2]/\bb ls x y=bb (ls.drop k) x y,#[_,_,rfl,rfl],?_,?_]
  .rintro k v z hk⟨o1,o2,rfl,hs⟩;k_places;rw[Iy]at hk;have s_:k<ls.length:=by
    rcases JQ k ls.length with q|q
    .exact q
    .rw[IV q]at hk;cases hk
   rw[ID s_]at hk;cases hk;have ed:ls.drop k=ls[k]::ls.drop (k+1):=JG s_;have Tb:=ok ls[k] (IR s_);generalize ls[k]=l at ed Tb;refine#[λd=>d=.int (l.shows x y),#[l,x,y,rfl,Tb,rfl],?_];rintro _ rfl;k_places;refine ite2 (λq=>?_) (λq=>?_)
   .have q':¬l.shows x y=0:=by simpa using q
    rw[hs,ed,bb,if_pos q']at hR;exact hR
   .have q':l.shows x y=0:=by simpa using q
    refine#[_,_,rfl,?_];rw[hs,ed,bb,if_neg (λz=>z q')]
  .rintro z⟨o1,o2,rfl,hs⟩;k_places;rw[Ij,KY (Ii _),bb]at hs;rw[hs]at hR;exact hR
def Go:SpD:=λds R=>∃(p:Pat) (w h:Int),ds=[.lst (p.leaves.map Leaf.D),.int w,.int h]/\p.Ok/\0<=w/\w<=30/\0<=h/\h<=30/\R (.lst (aB p w 0 h.toNat))
abbrev wL(V:Bx):Prop:=V.D 4 "_law_floor_rows" mJ Go
def Gp(T:V.T "_law_floor_rows" iC mJ)(uB:V.m "range")(Rr:wK V):wL V:=by
 refine Tx.okDW T sc__law_floor_rows (λds R h=>?_) (λ_ _ _ _ _ _ _ J hr=>⟨_,((ai (eZ 3 sc__law_floor_rows.nd ae)
   (ai (cf 4 PassesOwn.never rfl sc__law_floor_rows.nd uB (aa 2) (aq (fj 3 (kr (fY rfl (compScope (by change cI _ (ah iC) ["_law_leaves","_law_wide","_law_high","_law_lines_here","_law_y"] _=true;decide+kernel)) uB (aa 1) (λcl s0 H0 fp=>(af av (ay Rr hr (ac (aa 0) (ac (aa 5) (ac (aa 4) ae)))))))))))
   (cS 3 (aq (aH (aa 3))))))),λds R h=>?_⟩)
 .let#[_,_,_,rfl,_]:=h;rfl
 .let#[p,w,h,rfl,ok,w0,w7,h0,h7,hR]:=h;have dp:=ok.deep;refine#[Nq,?_];refine#[#[KK,KK],λk z=>∃o,z=[be (.lst (p.leaves.map Leaf.D)),be (.int w),be (.int h),be (.own (aB p w 0 k)),o],#[_,rfl],?_,?_]
  .rintro k v z hk⟨o,rfl⟩;k_places;let#[p_,rfl]:=bQ hk;refine#[#[KK,KK],by rw[bF];lia,λi ys=>ys=rowD p 0 k i,rfl,?_,?_]
   .rintro i v ys hi hl rfl;let#[C_,rfl]:=bQ hi;refine#[p.leaves,i,k,rfl,Pat.leaf_ok ok.wf KK,?_];rw[Pat.show_leaves ok.wf KK];let#[b0,b6]:=Pat.show_le ok.wf KK (i:Int) k;refine#[_,#[Nk,vS b0 b6],?_];show rowD p 0 k i++_=rowD p 0 k (i+1);rw[<-vU,JH]
   .rintro ys hl rfl;rw[bF];let#[ys,e1,e2,e3]:=vV p 0 (k:Int) (n:=w.toNat) KK;refine#[ys,e1,e2,?_];rw[e3];refine#[by unfold aB;simp;lia,be (.int k),?_];rw[<-pQ,JH];rfl
  .rintro z⟨o,rfl⟩;k_places;rw[bF];exact hR
def Gq:SpD:=λds R=>∃(ns:List Int) (w h:Int),ds=[.rol (ns.map D.int),.tup [.int w,.int h]]/\(1<=w/\w<=30)/\(1<=h/\h<=30)/\∀ps:List Pat,ps.length=4->(∀p∈ps,p.Ok)->R (.lst (ps.map (EntD w h)))
abbrev wM(V:Bx):Prop:=V.D 6 "_law_four" mK Gq
def Gr(T:V.T "_law_four" iD mK)(Rs:wH V)(z_:gG V)(Rt:wI V)(M5:pV V)(NG:pY V)(NF:pU V)(Ru:wL V):wM V:=by
 refine Tx.okDW T sc__law_four (λds R h=>?_) (λ_ _ _ _ _ _ _ J hr=>⟨_,((ai (ao 2 sc__law_four.nd (ay Rs hr (ac (aa 0) (ac ad ae))))
   (ai (ao 3 sc__law_four.nd (ay z_ hr (ac (aa 0) (ac ad (ac ad ae)))))
   (ai (eZ 4 sc__law_four.nd (ac (aa 2) (ac (aa 2) (ac (ay Rt hr (ac (aa 2) (ac (af (aa 3) ad) (ac (af av (aF (af (aa 3) ad) ad)) ae)))) ae))))
   (ai (eY (dm (af (aa 2) ad) ad) (aq (kB 4 (ay M5 hr (ac (ay M5 hr (ac (aa 2) (ac ad ae))) (ac ad ae))) ad)) bo)
   (ai (fj 4 (ay NG hr (ac (aa 2) (ac (ay NF hr (ac (aa 0) (ac ad ae))) ae))))
   (cS 4 (aq (aH (AH rfl (compScope (by change cI _ (ah iD) ["_law_script","_law_size","_law_part","_law_draws_here","_law_four_here"] _=true;decide+kernel)) (aa 4) (λcl s0 H0 fp=>(aI (ac (af (aa 5) ad) (ac (ay Ru hr (ac (af (aa 5) ad) (ac (af (aa 1) ad) (ac (af (aa 1) ad) ae)))) ae)))))))))))))),λds R h=>?_⟩)
 .let#[_,_,_,rfl,_]:=h;rfl
 .let#[ns,w,h,rfl,hw,hh,hR]:=h;refine#[PatD,#[ns,4,rfl,Nk,λp ok=>#[p,rfl,ok]],?_];rintro _⟨p,rfl,q8⟩;k_places;refine#[λd=>∃xs:List Int,d=.lst (xs.map D.int)/\xs.length=2,#[ns,24,2,rfl,Nk,Nk,λxs hl _=>#[xs,rfl,hl]],?_];rintro _⟨xs,rfl,x2⟩;k_places;have ix:∀{k:Int},0<=k->k<2->atI (xs.map D.int) k=be (.int (cell xs k)):=λa b=>lm a KK;let#[c1,UZ,s1]:=FQ (cell xs 1);refine#[_,ix Nk Nk,_,ix Nk Nk,Nk,c1,#[Nk,UZ],p,_,c1,rfl,q8,s1,λq1 VH=>#[le_b rfl,?_]];refine#[λz=>∃p1:Pat,p1.Ok/\z=[be (.rol (ns.map D.int)),be (.tup [.int w,.int h]),be p.D,be (.lst (xs.map D.int)),be (.own [p.D,p1.D,q1.D])],#[_,rfl,ite2 (λc=>?_) (λ_=>#[p,q8,rfl])],?_]
  .refine wy q8 λq ok=>wy ok λq ok=>#[1,rfl,q,ok,rfl]
  rintro _⟨p1,U0,rfl⟩;k_places;refine#[ns,27,rfl,Nk,λL a b c d h1 h2 h3 h4 h5 h6=>?_];dsimp only[dNil];refine FP (q:=.mot L a b c d) q8 #[#[h1,h2,h3,h4,h5,h6],by simp[Pat.depth],Pat.fits_mot h2 h3 h4 h5 h6] λq2 VI=>#[le_b rfl,?_];let#[ps,Rv]:∃ps,ps=[p,p1,q1,q2]:=#[_,rfl];have u6:∀r∈ps,r.Ok:=λr hr=>by
   subst Rv;simp only[Ik,JF,or_false]at hr;rcases hr with rfl|rfl|rfl|rfl<;>assumption
  have p4:ps.length=4:=by rw[Rv];rfl
  rw[show([p.D,p1.D,q1.D]++[q2.D]:List D)=ps.map Pat.D by rw[Rv];rfl];refine#[by show(ps.map Pat.D).length<=100000;rw[Ij];lia,λk ys=>ys=(ps.take k).map (EntD w h),rfl,?_,?_]
  .rintro k v ys hk hl rfl;rw[Iy]at hk;let#[r,hr,rfl]:=Option.map_eq_some_iff.mp hk;refine#[_,rfl,_,rfl,_,rfl,_,rfl,r,w,h,rfl,u6 r (Jf hr),KK,KK,KK,KK,le_b rfl,?_];show _=JP _ (List.take (k+1) ps);rw[List.take_add_one,hr,II];rfl
  .rintro ys hl rfl;rw[Ij,J5];exact hR ps p4 u6
def Gs:SpM:=λds M R _=>∃a q f w,ds=[.ptr a,.str w]/\a≠q/\M=Fl.M f a q/\f.ds.length<=20/\∀q',a≠q'->R .non ((f.keep w).M a q')
abbrev pZ(V:Bx):Prop:=V.Q 1 "Floor" "keep" mM Gs
def Gu(T:V.Tm "Floor" "keep" "Floor.keep" mL mM)(Rw:V.gi "KEPT" 20)(uS:V.a "Floor" "deeds")(uE:V.a "Floor" "laid")(uF:V.a "Floor" "pattern"):pZ V:=by
 refine CalMth.drop (Txm.okM T ES (λds M R RX h=>?_) (λ_ _ _ _ _ _ _ J hr hx=>#[_,((au (bZ uS (ag (aa 0)) (Ew (Ev (aD uS (ag (aa 0))) (kO (aA (ub (aA (ag (aa 1)) (aA (aD uF (ag (aa 0))) (aA (aD uE (ag (aa 0))) aS)))) aS))) (wg (ag (bx (fu Rw)))) we)))),λds M R RX c_ h=>?_]))
 .let#[_,_,#[_,_,_,_,rfl,_],_]:=h;rfl
 .let#[R,RX,#[a,q,f,w,rfl,ne,rfl,hl,hR],rfl,rfl]:=h;have nk:∀{p:Pi},p∉aw (f.M a q)->p≠a/\p≠q:=λ{p} h=>#[λe=>h (e ▸ Im _ Ip),λe=>h (e ▸ Ip)];refine#[_,Fl.ma ne,_,jl,_,Fl.ma ne,_,gD,_,Fl.ma ne,_,eE,le_b rfl,le_b rfl,λp1 h1=>?_];let#[n1,m1]:=nk h1;refine#[_,_,(eA m1).trans Fl.mq,cH,by rw[Ij];show _+1<=_;lia,λp2 h2=>?_];have t7:p2≠p1/\p2∉aw (f.M a q):=#[λe=>h2 (e ▸ Ip),λz=>h2 (Im _ z)];let#[n2,m2]:=nk t7.2;refine#[_,cH,λp3 h3=>?_];have U1:p3≠p2/\p3∉aw ((p1,.lst [])::f.M a q):=#[λe=>h3 (e ▸ Ip),λz=>h3 (Im _ z)];let#[n3,m3]:=nk λz=>U1.2 (Im _ z);refine#[_,(eA n3).trans ((eA n2).trans ((eA n1).trans (Fl.ma ne))),le_b rfl,_,#[?_,?_],hR p3 (Ne.symm n3)]
  .rw[eB n3,eB n2,eB n1,show f.M a q=[(q,.lst (f.ds.map Deed.D)),(a,.ins "Floor" (f.fs q))]from rfl,eB (Ne.symm ne),cM];have e1:cutD (f.ds.map Deed.D++[D.tup [.str w,f.d,.int f.l]]) (be (-20)) z6=(f.keep w).ds.map Deed.D:=by
    rw[wr];show _=JP Deed.D (JC _ _);rw[KZ,II,Ix,Ij];rfl
   have e2:putD ("deeds":Mr) (.ptr p3) (f.fs q)=(f.keep w).fs p3:=rfl;rw[e1,e2];intro e he;rcases Ik.mp he with rfl|he
   .exact Ip
   .rw[Ih.mp he];simp
  .exact Fl.nd (Ne.symm n3)
abbrev qc(V:Bx):Prop:=V.X 1 "refuse_far" mQ DQ
def Gv(T:V.T "refuse_far" mN mQ)(uU:V.m "max")(uT:V.m "abs")(Rx:V.gi "FAR" 1000000000000)(Ry:V.n "TooFar"):qc V:=by
 refine Tx.okXW T ET (λds R RX h=>?_) (λ_ _ _ _ _ _ _ J hr hx=>#[_,((aq (bA (jY (fW rfl uU (ac (eV uT (ac (aa 0) ae)) (ac (eV uT (ac (aa 1) ae)) ae))) (fu Rx)) (aq (AR Ry hx rfl (ac av ae))) bo))),λds R RX c_ h=>?_])
 .let#[_,_,rfl,_]:=h;rfl
 .let#[x,y,rfl,h1,h2]:=h;refine ite2 (λc=>?_) (λc=>?_)
  .have c':=of_decide_eq_true c;refine#[le_b rfl,?_];rw[c_];refine h2 λ⟨⟨a1,a2⟩,a3,a4⟩=>?_;split at c'<;>split at c'<;>split at c'<;>lia
  .have c':¬_:=λz=>c (decide_eq_true z);refine h1 ?_;unfold br;split at c'<;>split at c'<;>split at c'<;>lia
abbrev gH(V:Bx):Prop:=V.D 1 "home" mU Cs
def Gw(T:V.T "home" mR mU):gH V:=by
 refine Tx.okDW T sc_home (λds R h=>?_) (λ_ _ _ _ _ _ _ J hr=>⟨_,((ai (ao 3 sc_home.nd (af (aa 0) ad))
   (ai (ao 4 sc_home.nd (af (aa 0) ad))
   (ai (ao 5 sc_home.nd (af (aa 0) ad))
   (aq (aH (aI (ac (aF (bj (aa 1) (az (bf (aa 2) (aa 4)) (aa 5))) (aa 3)) (ac (aF (aa 2) (aa 4)) ae))))))))),λds R h=>?_⟩)
 .let#[w,h,s,x,y,rfl,_]:=h;rfl
 .let#[w,h,s,x,y,rfl,hw,hh,Mj,hs,m9,hR]:=h;refine#[λd=>d=.int w,#[_,rfl,rfl],?_];rintro _ rfl;k_places;refine#[λd=>d=.int h,#[_,rfl,rfl],?_];rintro _ rfl;k_places;refine#[λd=>d=.int s,#[_,rfl,rfl],?_];rintro _ rfl;k_places;exact#[#[hh,Mj],.inr #[KK,KK],hw,hh,Nq,hR]
variable{n j:Nat}
def ok_Motif_shows(hL:1<=n)(T:V.Tm "Motif" "shows" "Motif.shows" iE cF)(L_:gH V)(M7:V.a "Motif" "hues")(uO:V.a "Motif" "shifts"):V.Q (n+1) "Motif" "shows" cF (ofX (cm (j+1) "Motif")):=by
 refine Txm.okM T EU (λds M R RX h=>?_) (λ_ _ _ _ _ _ _ J hr hx=>#[_,((au (aE (BX (dP hr) (aD M7 (ag (aa 0))) (aA (aK (hn:=Ow) (CalD.toM L_) hx hr (aA (aD uO (ag (aa 0))) (aA (ag (aa 1)) (aA (ag (aa 2)) aS)))) (aA (ag ad) aS)))))),λds M R RX c_ h=>?_])
 .let#[_,_,_,_,rfl,_]:=h;rfl
 .let#[p,v,X,Y,rfl,hv,p7,hd,hc,hR]:=h;cases p<;>simp only[Pat.cls]at hc<;>try exact absurd hc Nn
  rename_i L a b c d;let#[k,w,h,s,rfl,F]:=hv;let#[hL,ha,hb,Mn,f9,hn]:=p7;unfold B12 at ha hb Mn f9;let#[b1,b2,b3]:=F.bd (N:=288) (lx ha hb Mn f9);rw[Pat.show,<-motif_shows hL F hn X Y]at hR;exact#[_,#[rfl,rfl],_,DD,_,#[rfl,rfl],_,mo_shifts,w,h,s,X,Y,rfl,F.1,F.2.1,KK,F.2.2.1,KK,hR]
def Gx(hL:1<=n)(T:V.Tm "Over" "shows" "Over.shows" iF iG)(uZ:V.a "Over" "above")(x_:V.a "Over" "below")(uI:∀x,x∈(["Motif","Over","Shifted","Mirror","Turn","Rehue"]:List Mr)->V.Q n x "shows" cF (ofX (cm j x))):V.Q (n+1) "Over" "shows" iG (ofX (cm (j+1) "Over")):=by
 refine Txm.okM T sc_Over_shows (λds M R RX h=>?_) (λ_ _ _ _ _ _ _ J hr hx=>⟨_,((aj (aG 3 sc_Over_shows.nd (aT (hn:=Ow) uI hx hr (aD uZ (ag (aa 0))) (ax (ac (aa 1) (ac (aa 2) ae)))))
   (au (aE (gh (bp (bC (aa 3) ad)) (aT (hn:=Ow) uI hx hr (aD x_ (ag (aa 0))) (ax (ac (aa 1) (ac (aa 2) ae)))) (ag (aa 3))))))),λds M R RX c_ h=>?_⟩)
 .let#[_,_,_,_,rfl,_]:=h;rfl
 .let#[p,v,X,Y,rfl,hv,p7,hd,hc,hR]:=h;cases p<;>simp only[Pat.cls]at hc<;>try exact absurd hc Nn
  rename_i p q;let#[u,u',rfl,hu,OX]:=hv;let#[fs,rfl,o1]:=hu.objm;let#[gs,rfl,o2]:=OX.objm;rw[Pat.depth]at hd;refine#[λd M'=>d=.int (p.show X Y)/\M'=M,#[_,#[rfl,rfl],_,rfl,p.cls,p.cls_mem,fs,#[rfl,rfl],o1.shw,p,_,X,Y,rfl,hu,p7.1,KK,rfl,rfl,rfl],?_];rintro _ _⟨rfl,rfl⟩;k_places;rw[Pat.show]at hR;show if decide (p.show X Y=0)=true then _ else _
  refine ite2 (λe=>?_) (λe=>?_)
  .have e':=of_decide_eq_true e;rw[if_neg (λz=>z e')]at hR;exact#[_,#[rfl,rfl],_,fJ Nn,q.cls,q.cls_mem,gs,#[rfl,rfl],o2.shw,q,_,X,Y,rfl,OX,p7.2,KK,rfl,hR]
  .have e':p.show X Y≠0:=λz=>e (decide_eq_true z);rw[if_pos e']at hR;exact hR
def Gy(hL:1<=n)(T:V.Tm "Shifted" "shows" "Shifted.shows" iH iI)(uW:V.a "Shifted" "form")(M8:V.a "Shifted" "y")(M9:V.a "Shifted" "x")(uI:∀x,x∈(["Motif","Over","Shifted","Mirror","Turn","Rehue"]:List Mr)->V.Q n x "shows" cF (ofX (cm j x))):V.Q (n+1) "Shifted" "shows" iI (ofX (cm (j+1) "Shifted")):=by
 refine Txm.okM T EV (λds M R RX h=>?_) (λ_ _ _ _ _ _ _ J hr hx=>#[_,((au (aE (aT (hn:=Ow) uI hx hr (aD uW (ag (aa 0))) (aA (dE (ag (aa 1)) (aD M9 (ag (aa 0)))) (aA (dE (ag (aa 2)) (aD M8 (ag (aa 0)))) aS)))))),λds M R RX c_ h=>?_])
 .let#[_,_,_,_,rfl,_]:=h;rfl
 .let#[p,v,X,Y,rfl,hv,p7,hd,hc,hR]:=h;cases p<;>simp only[Pat.cls]at hc<;>try exact absurd hc Nn
  rename_i a b p;let#[u,rfl,hu]:=hv;let#[fs,rfl,o1]:=hu.objm;rw[Pat.depth]at hd;exact#[_,#[rfl,rfl],_,rfl,p.cls,p.cls_mem,fs,#[rfl,rfl],o1.shw,_,#[rfl,rfl],_,fJ Nn,_,#[rfl,rfl],_,lD Nn Nn,p,_,X-a,Y-b,rfl,hu,p7.2.2,KK,rfl,hR]
def Gz(hL:1<=n)(T:V.Tm "Mirror" "shows" "Mirror.shows" iJ iK)(uY:V.a "Mirror" "form")(uI:∀x,x∈(["Motif","Over","Shifted","Mirror","Turn","Rehue"]:List Mr)->V.Q n x "shows" cF (ofX (cm j x))):V.Q (n+1) "Mirror" "shows" iK (ofX (cm (j+1) "Mirror")):=by
 refine Txm.okM T EW (λds M R RX h=>?_) (λ_ _ _ _ _ _ _ J hr hx=>#[_,((au (aE (aT (hn:=Ow) uI hx hr (aD uY (ag (aa 0))) (ax (ac (bx (aa 1)) (ac (aa 2) ae))))))),λds M R RX c_ h=>?_])
 .let#[_,_,_,_,rfl,_]:=h;rfl
 .let#[p,v,X,Y,rfl,hv,p7,hd,hc,hR]:=h;cases p<;>simp only[Pat.cls]at hc<;>try exact absurd hc Nn
  rename_i p;let#[u,rfl,hu]:=hv;let#[fs,rfl,o1]:=hu.objm;rw[Pat.depth]at hd;exact#[_,#[rfl,rfl],_,rfl,p.cls,p.cls_mem,fs,#[rfl,rfl],o1.shw,p,_,-X,Y,rfl,hu,p7,KK,rfl,hR]
def GA(hL:1<=n)(T:V.Tm "Turn" "shows" "Turn.shows" iL iM)(y7:V.a "Turn" "form")(uI:∀x,x∈(["Motif","Over","Shifted","Mirror","Turn","Rehue"]:List Mr)->V.Q n x "shows" cF (ofX (cm j x))):V.Q (n+1) "Turn" "shows" iM (ofX (cm (j+1) "Turn")):=by
 refine Txm.okM T EY (λds M R RX h=>?_) (λ_ _ _ _ _ _ _ J hr hx=>#[_,((au (aE (aT (hn:=Ow) uI hx hr (aD y7 (ag (aa 0))) (ax (ac (aa 2) (ac (bx (aa 1)) ae))))))),λds M R RX c_ h=>?_])
 .let#[_,_,_,_,rfl,_]:=h;rfl
 .let#[p,v,X,Y,rfl,hv,p7,hd,hc,hR]:=h;cases p<;>simp only[Pat.cls]at hc<;>try exact absurd hc Nn
  rename_i p;let#[u,rfl,hu]:=hv;let#[fs,rfl,o1]:=hu.objm;rw[Pat.depth]at hd;exact#[_,#[rfl,rfl],_,rfl,p.cls,p.cls_mem,fs,#[rfl,rfl],o1.shw,p,_,Y,-X,rfl,hu,p7,KK,rfl,hR]
def GB(hL:1<=n)(T:V.Tm "Rehue" "shows" "Rehue.shows" iN iO)(y8:V.a "Rehue" "form")(M_:V.a "Rehue" "old")(Na:V.a "Rehue" "new")(uI:∀x,x∈(["Motif","Over","Shifted","Mirror","Turn","Rehue"]:List Mr)->V.Q n x "shows" cF (ofX (cm j x))):V.Q (n+1) "Rehue" "shows" iO (ofX (cm (j+1) "Rehue")):=by
 refine Txm.okM T sc_Rehue_shows (λds M R RX h=>?_) (λ_ _ _ _ _ _ _ J hr hx=>⟨_,((aj (aG 3 sc_Rehue_shows.nd (aT (hn:=Ow) uI hx hr (aD y8 (ag (aa 0))) (ax (ac (aa 1) (ac (aa 2) ae)))))
   (au (aE (gh (gf (ag (aa 3)) (aD M_ (ag (aa 0)))) (aD Na (ag (aa 0))) (ag (aa 3))))))),λds M R RX c_ h=>?_⟩)
 .let#[_,_,_,_,rfl,_]:=h;rfl
 .let#[p,v,X,Y,rfl,hv,p7,hd,hc,hR]:=h;cases p<;>simp only[Pat.cls]at hc<;>try exact absurd hc Nn
  rename_i f g p;let#[u,rfl,hu]:=hv;let#[fs,rfl,o1]:=hu.objm;rw[Pat.depth]at hd;refine#[λd M'=>d=.int (p.show X Y)/\M'=M,#[_,#[rfl,rfl],_,rfl,p.cls,p.cls_mem,fs,#[rfl,rfl],o1.shw,p,_,X,Y,rfl,hu,p7.2.2,KK,rfl,rfl,rfl],?_];rintro _ _⟨rfl,rfl⟩;k_places;rw[Pat.show]at hR;unfold bR at hR;refine#[_,#[rfl,rfl],_,fJ Nn,ite2 (λe=>?_) (λe=>?_)]
  .rw[if_pos (of_decide_eq_true e)]at hR;exact#[_,#[rfl,rfl],_,lD Nn Nn,hR]
  .rw[if_neg (λz=>e (decide_eq_true z))]at hR;exact hR
def GC(Tc:V.Tm "Motif" "shows" "Motif.shows" iE cF)(Tf:V.Tm "Over" "shows" "Over.shows" iF iG)(Tg:V.Tm "Shifted" "shows" "Shifted.shows" iH iI)(Th:V.Tm "Mirror" "shows" "Mirror.shows" iJ iK)(Tj:V.Tm "Turn" "shows" "Turn.shows" iL iM)(Tk:V.Tm "Rehue" "shows" "Rehue.shows" iN iO)(L_:gH V)(M7:V.a "Motif" "hues")(uO:V.a "Motif" "shifts")(uZ:V.a "Over" "above")(x_:V.a "Over" "below")(uW:V.a "Shifted" "form")(M8:V.a "Shifted" "y")(M9:V.a "Shifted" "x")(uY:V.a "Mirror" "form")(y7:V.a "Turn" "form")(y8:V.a "Rehue" "form")(M_:V.a "Rehue" "old")(Na:V.a "Rehue" "new"):∀j x,x∈(["Motif","Over","Shifted","Mirror","Turn","Rehue"]:List Mr)->V.Q (1+j) x "shows" cF (ofX (cm j x)):=by
 intro j;induction j with
 |zero=>
  intro x hx;simp only[Ik,JF,or_false]at hx;rcases hx with rfl|rfl|rfl|rfl|rfl|rfl
  .exact CalMth.never Tc (λds M R RX=>fL)
  .exact CalMth.never Tf (λds M R RX=>fL)
  .exact CalMth.never Tg (λds M R RX=>fL)
  .exact CalMth.never Th (λds M R RX=>fL)
  .exact CalMth.never Tj (λds M R RX=>fL)
  .exact CalMth.never Tk (λds M R RX=>fL)
 |succ j OY=>
  intro x hx;simp only[Ik,JF,or_false]at hx;rcases hx with rfl|rfl|rfl|rfl|rfl|rfl
  .exact ok_Motif_shows (n:=1+j) (j:=j) Ow Tc L_ M7 uO
  .exact Gx (n:=1+j) (j:=j) Ow Tf uZ x_ OY
  .exact Gy (n:=1+j) (j:=j) Ow Tg uW M8 M9 OY
  .exact Gz (n:=1+j) (j:=j) Ow Th uY OY
  .exact GA (n:=1+j) (j:=j) Ow Tj y7 OY
  .exact GB (n:=1+j) (j:=j) Ow Tk y8 M_ Na OY
abbrev wO(V:Bx):Prop:=∀x,x∈(["Motif","Over","Shifted","Mirror","Turn","Rehue"]:List Mr)->V.Q 7 x "shows" cF (ofX (cm 6 x))
abbrev qd(V:Bx):Prop:=V.X 8 "cell_at" mW DR
def GD(T:V.T "cell_at" mV mW)(NI:qc V)(N3:V.a "Pattern" "form")(uI:wO V):qd V:=by
 refine CalMM.nilX (Tx.okM T EZ (λds M R RX h=>?_) (λ_ _ _ _ _ _ _ J hr hx=>⟨_,((aj (bO (aK (CalX.toM NI) hx hr (ax (ac (aa 1) (ac (aa 2) ae)))))
   (au (aE (aT uI hx hr (aD N3 (ag (aa 0))) (ax (ac (aa 1) (ac (aa 2) ae)))))))),λds M R RX c_ h=>?_⟩))
 .let#[_,R0,w_,#[_,_,_,_,rfl,_],_]:=h;rfl
 .let#[rfl,R0,w_,#[p,d,x,y,rfl,#[w,h,s,fs,rfl,e1,e2,hp],ok,h1,h2],hR,hX]:=h;let#[v,e3,hv]:=hp.form;let#[gs,rfl,o1]:=hv.objm;have Rz:=ok.deep;refine#[x,y,rfl,λhn=>?_,λhn=>?_]
  .exact#[_,#[rfl,rfl],_,e3,p.cls,p.cls_mem,gs,#[rfl,rfl],o1.shw,p,_,x,y,rfl,hv,ok.wf,KK,rfl,hR _ _ (h1 hn)]
  .rw[c_];exact hX _ _ _ (h2 hn)
abbrev qe(V:Bx):Prop:=V.D 9 "row_from" mY DU
def GE(T:V.T "row_from" iP mY)(uB:V.m "range")(NJ:qd V)(uR:V.gs "SIGNS" ".123456"):qe V:=by
 refine Tx.okDW T E1 (λds R h=>?_) (λ_ _ _ _ _ _ _ J hr=>#[_,((aq (aH (kr (fY rfl (compScope (by change cI _ (ah iP) ["pattern","x","y","many"] _=true;decide+kernel)) uB (aa 3) (λcl s0 H0 fp=>(af (fv uR) (ay (CalX.no NJ) hr (ac (aa 0) (ac (am (aa 1) (aa 4)) (ac (aa 2) ae))))))))))),λds R h=>?_])
 .let#[_,_,_,_,_,rfl,_]:=h;rfl
 .let#[p,d,x,y,n,rfl,hd,ok,hn,MY,p9,hy,hR]:=h;let#[w,h,s,fs,rfl,_]:=id hd;refine#[#[KK,KK],by rw[bF];lia,λk ys=>ys=rowD p x y k,rfl,?_,?_]
  .rintro k v ys hk hl rfl;let#[p_,rfl]:=bQ hk;let#[b0,b6]:=Pat.show_le ok.wf (by have:=ok.deep;lia) (x+(k:Int)) y;unfold br at MY p9;exact#[p,.obj "Pattern" fs,x+(k:Int),y,rfl,hd,ok,λ_=>#[_,#[Nk,vS b0 b6],vU p x y k],λz=>z #[#[KK,KK],hy]]
  .rintro ys hl rfl;rw[bF,Jb];let#[ys,e1,e2,e3]:=vV p x y hn;refine#[ys,e1,e2,?_];rw[e3];exact hR
def wP:SpD:=λds R=>∃f q,ds=[.obj "Floor" (Fl.fs f q)]/\f.Ok/\R (.lst (aB f.p f.w 0 f.l.toNat))
variable{f:Fl}
def wQ{a q:Pi}(ne:a≠q)(ok:f.Ok){R:D->MS->Prop}{RX:XDM}(h:R (.lst (aB f.p f.w 0 f.l.toNat)) (f.M a q)):lend (λds R _=>wP ds R) [.ptr a] (f.M a q) R RX:=by
 refine#[a,_,_,Fl.ma ne,f,q,?_,ok,Fz _ _ _ _,h];show[lendD a _ (.ptr a)]=_;unfold lendD;simp
abbrev qf(V:Bx):Prop:=V.QD 10 "Floor" "rows" mZ wP
def GF(T:V.Tm "Floor" "rows" "Floor.rows" iQ mZ)(uB:V.m "range")(N4:qe V)(uE:V.a "Floor" "laid")(uL:V.a "Floor" "width")(uF:V.a "Floor" "pattern"):qf V:=by
 refine Txm.okDW T E2 (λds R h=>?_) (λ_ _ _ _ _ _ _ J hr=>#[_,((aq (aH (fY rfl (compScope (by change cI _ (ah iQ) ["self"] _=true;decide+kernel)) uB (fq uE (aa 0)) (λcl s0 H0 fp=>(ay N4 hr (ac (fq uF (aa 0)) (ac ad (ac (aa 1) (ac (fq uL (aa 0)) ae)))))))))),λds R h=>?_])
 .let#[_,_,rfl,_]:=h;rfl
 .let#[f,q,rfl,ok,hR]:=h;have l0:=ok.l0;have l1:=ok.l1;have h2:=ok.h2;have w1:=ok.w1;have w2:=ok.w2;refine#[rfl,_,eE,#[KK,KK],by rw[bF];lia,λk ys=>ys=aB f.p f.w 0 k,rfl,?_,?_]
  .rintro k v ys hk hl rfl;let#[p_,rfl]:=bQ hk;refine#[rfl,_,gD,rfl,_,fM,f.p,f.d,0,k,f.w.toNat,by rw[IM KK],ok.is,ok.ok,KK,#[KK,KK],#[KK,KK],#[KK,KK],?_];show aB f.p f.w 0 k++_=aB f.p f.w 0 (k+1);rw[<-pQ,JH]
  .rintro ys hl rfl;rw[bF];exact hR
def S_Floor_lay:SpM:=λds M R RX=>∃a q f n,ds=[.ptr a,.int n]/\a≠q/\M=Fl.M f a q/\f.Ok/\1<=n/\n<=1000/\(f.h-f.l<n->RX "NoRow" [] (f.M a q))/\(n<=f.h-f.l->∀q',a≠q'->R (.lst (aB f.p f.w f.l n.toNat)) ((f.lay n).M a q'))
variable{d:My.D}
def Fl.ok_new{p:Pat}{w h:Int}(is:bg p d)(ok:p.Ok)(w1:1<=w)(w2:w<=30)(h1:1<=h)(h2:h<=30):(Fl.mk p d w h 0 []).Ok:=#[is,ok,w1,w2,h1,h2,Int.le_refl 0,Je (show(0:Int)<=1 by decide) h1,IL _,λ_ h=>nomatch h]
def GH(h:n<=20):n+1-(n+1-20)<=20:=KK
def Fl.Ok.keep(ok:f.Ok)(w:Mr):(f.keep w).Ok:=by
 refine#[ok.is,ok.ok,ok.w1,ok.w2,ok.h1,ok.h2,ok.l0,ok.l1,?_,λe he=>?_]
 .show(JC _ _).length<=20;rw[Jq,Ix,JM];exact GH ok.de
 .rcases IK.mp (J8 he)with z|z
  .exact ok.dd e z
  .rw[Ih.mp z];exact#[ok.is,ok.ok,ok.l0,ok.l1]
def Fl.Ok.stand{p:Pat}(ok:f.Ok)(is:bg p d)(q8:p.Ok):(f.stand p d).Ok:=#[is,q8,ok.w1,ok.w2,ok.h1,ok.h2,ok.l0,ok.l1,ok.de,ok.dd]
def Fl.Ok.lay{n:Int}(ok:f.Ok)(n0:0<=n)(hn:n<=f.h-f.l):(f.lay n).Ok:=by
 have l0:=ok.l0;have k:=ok.keep "lay";exact#[ok.is,ok.ok,ok.w1,ok.w2,ok.h1,ok.h2,by show 0<=f.l+n;lia,by show f.l+n<=f.h;lia,k.de,k.dd]
abbrev wR(V:Bx):Prop:=V.Q 11 "Floor" "lay" iR S_Floor_lay/\V.Qd 11 "Floor" "lay" iR [.int 1] S_Floor_lay
def GI(T:V.Td "Floor" "lay" "Floor.lay" ng iR [.int 1])(uU:V.m "max")(uV:V.a "Floor" "height")(uE:V.a "Floor" "laid")(N5:pZ V)(N6:qf V)(RA:V.n "NoRow"):wR V:=by
 refine Txd.okMd T sc_Floor_lay (λds M R RX h=>?_) (λ_ _ _ _ _ _ _ J hr hx=>⟨_,((aj (aX (Bf (ag (aa 1)) (dE (aD uV (ag (aa 0))) (aD uE (ag (aa 0))))) (au (kQ RA hx rfl (ax (ac av ae)))) aR)
   (aj (bO (aT (CalMth.one N5) hx hr (ag (aa 0)) (ax (ac av ae))))
   (aj (aG 2 sc_Floor_lay.nd (aD uE (ag (aa 0))))
   (aj (bZ uE (ag (aa 0)) (ag (am (aa 2) (fW rfl uU (ac (aa 1) (ac ad ae))))))
   (au (aE (Em (bY (CalMth.one (CalMth.lendD N6)) hx hr (ag (aa 0))) (wg (ag (aa 2))) we)))))))),λds M R RX c_ h=>?_⟩)
 .let#[_,_,#[_,_,_,_,rfl,_],_]:=h;rfl
 .let#[R,RX,#[a,q,f,n,rfl,ne,rfl,ok,n1,n2,hX,hR],rfl,rfl]:=h;have l0:=ok.l0;have l1:=ok.l1;refine#[_,Fl.ma ne,_,jk,_,Fl.ma ne,_,eE,ite2 (λc=>?_) (λc=>?_)]
  .have c':=of_decide_eq_true c;refine#[le_b rfl,?_];rw[c_];exact#[_,Fl.sub ne,hX c']
  have hc:n<=f.h-f.l:=by have:¬(f.h-f.l<n):=λz=>c (decide_eq_true z);lia
  refine#[_,Ih.mpr rfl,_,Fl.ma ne,rfl,a,q,f,"lay",rfl,ne,rfl,ok.de,λq' f8=>?_];refine#[λd M'=>d=.int f.l/\M'=(f.keep "lay").M a q',#[_,Fl.ma f8,_,eE,rfl,rfl],?_];rintro _ _⟨rfl,rfl⟩;k_places;have eM:mput ((f.keep "lay").M a q') a (.ins "Floor" (putD "laid" (.int (f.l+if 0>n then 0 else n)) ((f.keep "lay").fs q')))=(f.lay n).M a q':=by
   rw[Fl.put f8,if_neg KK];rfl
  refine#[_,Fl.ma f8,le_b rfl,?_];rw[eM];have el:(f.lay n).l.toNat=f.l.toNat+n.toNat:=by show(f.l+n).toNat=_;lia
  refine#[_,Ih.mpr rfl,_,Fl.ma f8,rfl,?_];dsimp only[mNil];refine wQ f8 (ok.lay KK hc) ?_;rw[el];show ∃N,subM N _/\R (.lst (cutD (aB f.p f.w 0 _) (be f.l) z6)) N;rw[wt _ _ _ l0];exact#[_,Fl.sub f8,hR hc q' f8]
def GJ:SpM:=λds M R _=>∃a q f n b,ds=[.ptr a,.int n,.bl b]/\a≠q/\M=Fl.M f a q/\f.Ok/\1<=n/\n<=1000/\(f.h-f.l<n->R (.lst [.bl true,.non]) (f.M a q))/\(n<=f.h-f.l->∀q',a≠q'->R (.lst [.bl false,.lst (aB f.p f.w f.l n.toNat)]) ((f.lay n).M a q'))
abbrev gI(V:Bx):Prop:=V.Ek ["WrongSign","OneLine","TooGreat","TooFar","NoRow","Parted","NothingKept"]
abbrev wS(V:Bx):Prop:=V.MM 12 "_law_lay" nj GJ
def GK(T:V.T "_law_lay" nh nj)(PJ:wR V)(ek:gI V):wS V:=by
 refine(Tx.okM T sc__law_lay (λds M R RX h=>?_) (λ_ _ _ _ _ _ _ J hr hx=>⟨_,((aj (aG 3 sc__law_lay.nd (ag bn))
   (aj (aG 4 sc__law_lay.nd (ag bN))
   (aj (iy (λpn xe J hp hx=>(au (iu (bp (cC (ke (bC (aa 1) ad) (jZ (cu (aa 2)))))) (au (aG 3 sc__law_lay.nd (Et PJ.2 hx hr (ag (aa 0))))) (au (aG 3 sc__law_lay.nd (aT (CalMth.one PJ.1) hx hr (ag (aa 0)) (ax (ac (aa 1) ae)))))))) (λ_=>(kG ek (λe=>(aq (ao 4 sc__law_lay.nd bN))) ie)))
   (au (aE (ag (aQ (ac (aa 4) (ac (aa 3) ae)))))))))),λds M R RX c_ h=>?_⟩))
 .let#[_,_,_,_,_,rfl,_]:=h;rfl
 .let#[a,q,f,n,b,rfl,ne,rfl,ok,n1,n2,hX,hR]:=h;refine#[λd M'=>d=.non/\M'=f.M a q,#[rfl,rfl],?_];rintro _ _⟨rfl,rfl⟩;k_places;refine#[λd M'=>d=.bl false/\M'=f.M a q,#[rfl,rfl],?_];rintro _ _⟨rfl,rfl⟩;k_places;refine#[λz M' x fs=>z=[be (.ptr a),be (.int n),be (.bl b),be .non,be (.bl false)]/\M'=f.M a q/\x="NoRow"/\f.h-f.l<n,λJ hJ=>?_,?_]
  .let P:D->MS->Prop:=λd M'=>n<=f.h-f.l/\∃q',a≠q'/\d=.lst (aB f.p f.w f.l n.toNat)/\M'=(f.lay n).M a q'
   have lay:S_Floor_lay [.ptr a,.int n] (f.M a q) P (λx fs M'=>J.RM [be (.ptr a),be (.int n),be (.bl b),be .non,be (.bl false)] M' x fs):=
    #[a,q,f,n,rfl,ne,rfl,ok,n1,n2,λc=>by rw[hJ];exact#[rfl,rfl,rfl,c],λc q' f8=>#[c,q',f8,rfl,rfl]]
   refine#[λz M'=>n<=f.h-f.l/\∃q',a≠q'/\z=[be (.ptr a),be (.int n),be (.bl b),be (.lst (aB f.p f.w f.l n.toNat)),be (.bl false)]/\M'=(f.lay n).M a q',ite2 (λc=>ite2 (λ_=>?_) (λ_=>?_)) (λ_=>?_),λz M' ⟨c,q',f8,e1,e2⟩=>?_]
   .have c':n=1:=of_decide_eq_true c;subst c';exact#[P,#[_,Fl.ma ne,rfl,lay],λd M' ⟨c,q',f8,e1,e2⟩=>#[c,q',f8,by rw[e1];rfl,e2]]
   .exact#[P,#[_,Ih.mpr rfl,_,Fl.ma ne,rfl,lay],λd M' ⟨c,q',f8,e1,e2⟩=>#[c,q',f8,by rw[e1];rfl,e2]]
   .exact#[P,#[_,Ih.mpr rfl,_,Fl.ma ne,rfl,lay],λd M' ⟨c,q',f8,e1,e2⟩=>#[c,q',f8,by rw[e1];rfl,e2]]
   .subst e1 e2;exact#[le_b rfl,hR c q' f8]
  .rintro z M' x fs⟨rfl,rfl,rfl,c⟩;k_places;refine#[#[Nq,Nq],?_];rw[if_pos Nn];exact#[λd=>d=.bl true,rfl,λd e=>by subst e;exact#[#[le_b rfl,hX c],NoOwn.of rfl]]
def GL:SpD:=λds R=>∃(p:Pat) (w lo:Int) (n:Nat),ds=[.lst (aB p w lo n),.lst (aB p w lo n)]/\n<=1000/\R (.bl true)
abbrev qg(V:Bx):Prop:=V.D 1 "_law_texts" nt GL
def GM(T:V.T "_law_texts" nq nt)(uA:V.m "len")(uN:V.m "isinstance")(A':V.m "list")(uB:V.m "range")(uG:V.m "str"):qg V:=by
 refine Tx.okDW T sc__law_texts (λds R h=>?_) (λ_ _ _ _ _ _ _ J hr=>⟨_,((ai (bA (cC (dv (dR (cu (eX uN A' (aa 0) PyProof.Rows.boot_list kit_list))) (du (cr (bB uA (ac (aa 0) ae)) (bB uA (ac (aa 1) ae)))))) (aq (aH bN)) bo)
   (ai (cf 2 PassesOwn.never rfl sc__law_texts.nd uB (bB uA (ac (aa 1) ae)) (aq (bA (cC (dv (dR (cu (eX uN uG (af (aa 0) (aa 2)) PyProof.Rows.boot_str kit_str))) (du (cr (af (aa 0) (aa 2)) (af (aa 1) (aa 2)))))) (aq (aH bN)) bo)))
   (aq (aH bN))))),λds R h=>?_⟩)
 .let#[_,_,_,_,rfl,_]:=h;rfl
 .let#[p,w,lo,n,rfl,n7,hR]:=h;have lp:(aB p w lo n).length=n:=by unfold aB;simp
  refine ite2 (λc=>absurd c Nq) λ_=>?_;refine#[#[KK,by rw[lp];lia],λk z=>∃o,z=[be (.lst (aB p w lo n)),be (.lst (aB p w lo n)),o],#[_,rfl],?_,?_]
  .rintro k v z hk⟨o,rfl⟩;k_places;let#[p_,rfl]:=bQ hk;rw[lp]at p_;have ak:=pR (p:=p) (w:=w) (lo:=lo) (show k<n by lia);exact#[_,ak,_,ak,_,ak,ite2 (λc=>absurd c Nq) λ_=>#[_,rfl]]
  .rintro z⟨o,rfl⟩;k_places;exact hR
abbrev qh(V:Bx):Prop:=V.E 1 "WrongSign" nv Df
def GN(T:V.Te "WrongSign" "WrongSign.__init__" nu nv)(ML:V.b "MotifError")(uBE:V.ea "WrongSign")(RB:V.xf "WrongSign" "place"):qh V:=by
 refine Txe.okE T E3 (λds R h=>?_) (λ_ _ _ _ _ _ _ J hr=>#[_,((kE ML uBE (ac (aa 1) ae) (kF uBE RB (aa 1) kD))),λds R h=>?_])
 .let#[i,rfl,_]:=h;rfl
 .let#[i,rfl,hR]:=h;exact#[le_b rfl,rfl,hR]
abbrev eF(V:Bx):Prop:=V.Q 1 "Reading" "may_take" ny De
def GO(T:V.Tm "Reading" "may_take" "Reading.may_take" nw ny)(uA:V.m "len")(Nb:V.a "Reading" "text")(uH:V.a "Reading" "place"):eF V:=by
 refine Txm.okM T E4 (λds M R RX h=>?_) (λ_ _ _ _ _ _ _ J hr hx=>⟨_,((aj (aX (mt_w (im (gf (aD uH (ag (aa 0))) (uc uA (aA (aD Nb (ag (aa 0))) aS))) (il (Bg (kL (aD Nb (ag (aa 0))) (aD uH (ag (aa 0)))) (ag (aa 1)))))) (au (aE (ag av))) aR)
   (aj (bZ uH (ag (aa 0)) (ik (aD uH (ag (aa 0))) (ag ad)))
   (au (aE (kL (aD Nb (ag (aa 0))) (dE (aD uH (ag (aa 0))) (ag ad)))))))),λds M R RX c_ h=>?_⟩)
 .let#[_,_,_,_,_,rfl,_]:=h;rfl
 .let#[a,t,k,l,al,rfl,rfl,d8,hR]:=h;refine#[_,aU,_,cY,_,aU,_,ly,Io d8.sz Nk,?_];cases l with
  |nil=>
   refine ifdT (by rw[d8.nil]) (ifT rfl ?_);exact hR
  |cons c l=>
   have lt:=d8.lt;refine ifdF KK ?_;refine#[_,aU,_,ly,_,aU,_,cY,c,#[Io d8.sz Nk,bI d8.get],?_];refine ite2 (λe=>?_) (λe=>?_)
   .have e2:(!(!(Builtin.Str.occurrences al #[[c].toArray] 0 al.length 1).isEmpty))=true:=e;rw[vF]at e2;have nc:c∉cs al:=by simpa using e2
    rw[dX nc,dY nc]at hR;exact hR
   .have e2:¬(!(!(Builtin.Str.occurrences al #[[c].toArray] 0 al.length 1).isEmpty))=true:=e;rw[vF]at e2;have nc:c∈cs al:=by simpa using e2
    rw[fG nc,fH nc]at hR;refine#[_,aU,_,cY,_,aU,le_b rfl,?_];rw[show mput (RdM a t k) a (.ins "Reading" (putD ("place":Mr) (.int ((k:Int)+1)) (rdF t k)))=RdM a t (k+1)by rw[Dc];exact fF];refine#[_,aU,_,ly,_,aU,_,cY,c,#[Io d8.sz Nk,?_],hR];rw[show((k+1:Nat):Int)-1=(k:Int)by lia];exact bI d8.get
abbrev dg(V:Bx):Prop:=V.Q 3 "Reading" "take" nA Dg
def GP(T:V.Tm "Reading" "take" "Reading.take" nz nA)(uH:V.a "Reading" "place")(uM:eF V)(uAG:qh V):dg V:=by
 refine Txm.okM T sc_Reading_take (λds M R RX h=>?_) (λ_ _ _ _ _ _ _ J hr hx=>⟨_,((aj (aG 2 sc_Reading_take.nd (aT (CalMth.one uM) hx hr (ag (aa 0)) (ax (ac (aa 1) ae))))
   (aj (aX (bp (bC (aa 2) av)) (au (ir uAG hr hx rfl (aA (aD uH (ag (aa 0))) aS))) aR)
   (au (aE (ag (aa 2))))))),λds M R RX c_ h=>?_⟩)
 .let#[_,_,_,_,_,_,_,rfl,_]:=h;rfl
 .let#[a,t,k,b,c,l,al,rfl,rfl,d8,hc,hR]:=h;cases b with
  |false=>
   refine#[λd M'=>d=.str #[[c].toArray]/\M'=RdM a t (k+1),#[_,Ih.mpr rfl,_,aU,cZ,a,t,k,c::l,al,rfl,rfl,d8,by rw[fG hc,fH hc];exact#[rfl,rfl]],?_];rintro _ _⟨rfl,rfl⟩;k_places;exact hR
  |true=>
   refine#[λd M'=>d=.str ""/\M'=RdM a t k,#[_,Ih.mpr rfl,_,aU,cZ,a,t,k,[],al,rfl,rfl,d8,rfl,rfl],?_];rintro _ _⟨rfl,rfl⟩;k_places;refine#[_,aU,_,cY,le_b rfl,(k:Int),rfl,?_];rw[c_,At.nil d8];exact hR _
abbrev wT(V:Bx):Prop:=V.MM 4 "line_from" nC S_line_from
def GQ(T:V.T "line_from" nB nC)(uB:V.m "range")(uR:V.gs "SIGNS" ".123456")(uC:dg V)(uM:eF V):wT V:=by
 refine(Tx.okM T sc_line_from (λds M R RX h=>?_) (λ_ _ _ _ _ _ _ J hr hx=>⟨_,((aj (aG 3 sc_line_from.nd (ag av))
   (aj (BC 4 PassesOwn.leaving rfl sc_line_from.nd uB (ag (aa 2)) (au (aG 3 sc_line_from.nd (ik (ag (aa 3)) (gh (bp (dm (aa 4) (aa 1))) (aT (CalMth.one uC) hx hr (ag (aa 0)) (ax (ac (fv uR) ae))) (aT (CalMth.one uM) hx hr (ag (aa 0)) (ax (ac (fv uR) ae))))))))
   (au (aE (ag (aa 3))))))),λds M R RX c_ h=>?_⟩))
 .let#[_,_,_,_,_,_,_,rfl,_]:=h;rfl
 .let#[a,t,k,n,m,x,l,rfl,rfl,d8,hs,hn,hm,VJ,m4,hR]:=h;refine#[λd M'=>d=.str ""/\M'=RdM a t k,#[rfl,rfl],?_];rintro _ _⟨rfl,rfl⟩;k_places;refine#[#[KK,KK],λi z M'=>i<=m/\∃col,z=[be (.ptr a),be (.int n),be (.int m),be (.str #[(x.take i).toArray]),col]/\M'=RdM a t (k+min i x.length),#[IL _,z6,rfl,by rw[Nat.zero_min];rfl],?_,?_]
  .rintro i d z M' hi⟨VL,col,rfl,rfl⟩;k_places;let#[C_,rfl]:=bQ hi;have C_:i<m:=by lia
   have b9:=List.length_take_le i x;refine#[λd M'=>d=.str #[(x.take (i+1)).toArray]/\M'=RdM a t (k+min (i+1) x.length),?_,?_]
   .by_cases ge:i<x.length
    .have e1:x.take (i+1)=x.take i++[x[i]]:=List.take_succ_eq_append_getElem ge;have d7:At t (k+i) (x[i]::(x.drop (i+1)++l)):=by
      have:=d8;rw[<-L5 i x,IU,JG ge]at this;have:=this.app;rw[JK,JJ KK]at this;exact this
     have hc:=signs_is.mpr (Db (hs x[i] (IR ge)));have e2:(#[(x.take i).toArray]:Mr)++#[[x[i]].toArray]=#[(x.take (i+1)).toArray]:=by rw[show(#[[x[i]].toArray]:Mr)=#[[x[i]].toArray]from rfl,str_of_list,e1]
     rw[JJ KK,JJ KK];refine ite2 (λ_=>?_) (λ_=>?_)
     .exact#[_,Ih.mpr rfl,_,aU,cy,a,t,_,false,_,_,".123456",rfl,rfl,d7,hc,by rw[len_of_list,show(#[[x[i]].toArray]:Mr).length=1 from rfl];lia,congrArg D.str e2,rfl]
     .refine#[_,Ih.mpr rfl,_,aU,cZ,a,t,_,_,".123456",rfl,rfl,d7,?_];rw[fG hc,fH hc];exact#[by rw[len_of_list,show(#[[x[i]].toArray]:Mr).length=1 from rfl];lia,congrArg D.str e2,rfl]
    .let#[c,l',rfl,hc]:=m4.resolve_left KK;have d7:=d8.app;rw[Ko KK,Ko KK,JD KK,JD KK];refine ite2 (λc=>absurd (of_decide_eq_true c) KK) (λ_=>?_);refine#[_,Ih.mpr rfl,_,aU,cZ,a,t,_,_,".123456",rfl,rfl,d7,?_];rw[dX (vG hc),dY (vG hc)];refine#[by rw[len_of_list,show("":Mr).length=0 from rfl];lia,?_,rfl];rw[show("":Mr)=#[([]:List Nat).toArray]from rfl,str_of_list,IQ]
   .rintro _ _⟨rfl,rfl⟩;k_places;exact#[C_,_,rfl,trivial]
  .intro z M' hz;rw[bF,Jb]at hz;let#[_,col,rfl,rfl]:=hz;rw[JD hm,Ko hm];exact hR
abbrev wU(V:Bx):Prop:=V.MM 5 "lines_from" nE Dm
def GR(T:V.T "lines_from" nD nE)(uA:V.m "len")(PK:wT V)(PL:V.gi "LONGEST" 8)(uM:eF V):wU V:=by
 refine(Tx.okM T sc_lines_from (λds M R RX h=>?_) (λ_ _ _ _ _ _ _ J hr hx=>⟨_,((aj (aG 1 sc_lines_from.nd (kO (aA (aK (CalMM.frame PK) hx hr (ax (ac (aa 0) (ac ad (ac (fu PL) ae))))) aS)))
   (aj (aG 2 sc_lines_from.nd (uc uA (aA (BE (ag (aa 1)) (ag ad)) aS)))
   (aj (BB PassesOwn.leaving (mt_w (Bi (tZ (kR uA (ag (aa 1))) (ag (fu PL))) (Bh (gf (aT (CalMth.one (CalMth.frame uM)) hx hr (ag (aa 0)) (ax (ac av ae))) (ag av))))) (au (bO (BG (ag (aa 1)) (aK (CalMM.frame PK) hx hr (ax (ac (aa 0) (ac (aa 2) (ac (aa 2) ae)))))))))
   (uf 1 (au (aE (ag (aa 1))))))))),λds M R RX c_ h=>?_⟩))
 .let#[_,_,_,_,_,_,rfl,_]:=h;rfl
 .let#[a,t,k,L,w,l,rfl,rfl,hL,d8,hR]:=h;have hw:=hL.w1;have U2:=hL.w8;have Ma:=hL.many;cases L with
  |nil=>exact absurd Ma.1 Nk
  |cons x L=>
   let#[MY,p9]:=hL.each x Ip;rw[vD]at d8 hR;rw[IU]at d8;rw[Iu]at Ma;have stop:∀N:List (List Nat),∃c l',rowsT N++59::l=c::l'/\isSg c=false:=λN=>by
    cases N with
    |nil=>exact#[59,l,rfl,rfl]
    |cons y N=>exact#[47,_,rfl,rfl]
   refine#[λd M'=>∃p,p≠a/\d=.ptr p/\M'=(p,.lst [.str #[x.toArray]])::RdM a t (k+x.length),#[[],RdM a t k,rfl,a,t,k,1,8,x,_,rfl,rfl,d8,p9,KK,KK,Nk,.inr (stop L),by show 1<=1000;decide,λp hp=>#[p,λe=>hp (by rw[e];exact Ih.mpr rfl),rfl,rfl]],?_];rintro _ _⟨p,U3,rfl,rfl⟩;k_places;refine#[λd M'=>d=.int w/\M'=(p,.lst [.str #[x.toArray]])::RdM a t (k+x.length),#[_,db,_,rfl,by rw[len_of_list];lia,by rw[len_of_list,MY],rfl],?_];rintro _ _⟨rfl,rfl⟩;k_places;refine#[λm z M'=>∃L1 L2 k',L=L1++L2/\m=L2.length/\At t k' (rowsT L2++59::l)/\k'+(rowsT L2).length=k+(x++rowsT L).length/\z=[be (.ptr a),be (.ptr p),be (.int w)]/\M'=(p,.lst (lstD (x::L1)))::RdM a t k',#[_,[],L,_,rfl,rfl,d8.app,by rw[Ix];lia,rfl,rfl],?_];rintro m z M'⟨L1,L2,k',rfl,rfl,k6,hk,rfl,rfl⟩;k_places;rw[Ix]at Ma;have OZ:(lstD (x::L1)).length=L1.length+1:=by simp[lstD]
   have done:L2=[]->R (.lst (lstD (x::L1))) (RdM a t k'):=λe=>by
    subst e;rw[show k'=k+(x++rowsT (L1++[])).length from hk,show lstD (x::L1)=lstD (x::(L1++[]))by rw[IQ]];exact hR
   refine#[_,db,?_];rw[OZ];refine ite2 (λc=>?_) (λc=>?_)
   .refine#[_,Ih.mpr rfl,_,Dl U3,cZ,[(p,_)],RdM a t _,rfl,a,t,_,_,"/",rfl,rfl,k6,?_];cases L2 with
    |nil=>
     rw[show rowsT []++59::l=59::l from rfl,dX Nk,dY Nk];refine#[_,db,?_];rw[show mdel ([(p,MO.lst (lstD (x::L1)))]++RdM a t (k'+0)) p=RdM a t k' from lz];exact done rfl
    |cons y N=>
     have e1:rowsT (y::N)++59::l=47::(y++(rowsT N++59::l)):=by simp[rowsT]
     have Tl:(47:Nat)∈cs "/":=Nk
     rw[e1]at k6 ⊢;rw[fG Tl,fH Tl];let#[U4,ON]:=hL.each y (Im _ (IE _ Ip));have u8:=k6.next;refine#[#[_,db],[(p,_)],RdM a t _,rfl,a,t,_,w,w,y,_,rfl,rfl,u8,ON,KK,KK,U2,.inl U4,?_];refine#[_,db,by rw[OZ];lia,N.length,by rw[Iu];lia,L1++[y],N,_,Nq,rfl,u8.app,?_,rfl,?_]
     .rw[<-hk];simp[rowsT];lia
     .show mput ((p,MO.lst (lstD (x::L1)))::RdM a t _) p _=_;rw[vH];simp[lstD]
   .have c':L1.length+1=8:=by
     have:¬((L1.length+1:Nat):Int)<8:=λz=>c (decide_eq_true z);lia
    refine#[_,db,?_];rw[lz];exact done (J3 KK)
abbrev wV(V:Bx):Prop:=V.MM 4 "number_from" nG Dj
def GS(T:V.T "number_from" nF nG)(uD:V.m "int")(uM:eF V)(uC:dg V):wV V:=by
  refine(Tx.okM T sc_number_from (λds M R RX h=>?_) (λ_ _ _ _ _ _ _ J hr hx=>⟨_,((aj (aX (gf (aT (CalMth.one uM) hx hr (ag (aa 0)) (ax (ac av ae))) (ag av)) (au (aE (ag ad))) aR)
      (aj (aG 1 sc_number_from.nd (ik (aT (CalMth.one uM) hx hr (ag (aa 0)) (ax (ac av ae))) (aT (CalMth.one uC) hx hr (ag (aa 0)) (ax (ac av ae)))))
      (aj (iu (bp (cu (Bd (aa 1) (ac av ae)))) (au (aG 1 sc_number_from.nd (ik (ag (aa 1)) (aT (CalMth.one uM) hx hr (ag (aa 0)) (ax (ac av ae)))))) aR)
      (au (aE (ag (dS uD (ac (aa 1) ae))))))))),λds M R RX c_ h=>?_⟩))
  . let#[_,_,_,_,_,rfl,_]:=h;rfl
  . let#[a,t,k,x,r,rfl,rfl,ge,he,d8,hR]:=h;have hi:=Dh ge;have hl:=bP ge;rw[<-aZ]at hl;change (numL x).length<=3 at hl;refine#[_,Ih.mpr rfl,_,aU,cZ,a,t,k,_,"0",rfl,rfl,d8,?_];rcases numS ge with e0|⟨pre,c,y,hp,hc,ev,hy⟩
    . rw[e0]at hR hi ⊢;have e1:x=0:=Option.some.inj (hi.symm.trans Nn);subst e1;have e2:(48:Nat)∈cs "0":=by decide
      rw[show([48]++r:List Nat)=48::r from rfl,fG e2,fH e2];exact hR
    rw[ev]at d8 hR hi hl ⊢;have h0:mayS "0" (pre++c::y++r)=""/\mayN "0" (pre++c::y++r)=0:=by
      have n:c∉cs "0":=λq=>by have:=Ih.mp q;lia
      rcases hp with rfl|rfl
      . exact#[dX n,dY n]
      . exact#[dX Nk,dY Nk]
    have hm:mayS "-" (pre++c::y++r)=#[pre.toArray]/\mayN "-" (pre++c::y++r)=pre.length:=by
      have n:c∉cs "-":=λq=>by have:=Ih.mp q;lia
      rcases hp with rfl|rfl
      . exact#[dX n,dY n]
      . exact#[rfl,rfl]
    rw[h0.1,h0.2];have d7:At t (k+pre.length) (c::(y++r)):=by rw[IU]at d8;exact d8.app
    have k6:=d7.next;refine#[λd M'=>d=.str #[(pre++[c]).toArray]/\M'=RdM a t (k+pre.length+1),?_,?_]
    . refine#[_,Ih.mpr rfl,_,aU,cZ,a,t,k,_,"-",rfl,rfl,d8,?_];rw[hm.1,hm.2];refine#[_,Ih.mpr rfl,_,aU,cy,a,t,k+pre.length,false,c,_,"123456789",rfl,rfl,d7,digits19.mpr hc,?_,?_,rfl]
      . rcases hp with rfl|rfl<;>simp[Str.length]
      . rw[show(#[[c].toArray]:Mr)=#[[c].toArray]from rfl,str_of_list]
    . rintro _ _⟨ rfl,rfl⟩;k_places;refine#[λz M'=>z=[be (.ptr a),be (.str #[(pre++c::y).toArray])]/\M'=RdM a t (k+(pre++c::y).length),?_,?_]
      . show if Txt.endswith #[(pre++[c]).toArray] "1"=true then _ else _
        rw[Di];refine ite2 (λz=>?_) (λz=>?_)
        . let#[e1,e2,e3]:(⟨(pre++[c]).toArray⟩:Mr)++mayS "012" (y++r)=⟨(pre++c::y).toArray⟩/\mayN "012" (y++r)=y.length/\(mayS "012" (y++r)).length<=1:=by
            rcases hy with rfl|⟨_,d,hd,rfl⟩
            . let#[m1,m2]:mayS "012" r=""/\mayN "012" r=0:=by
                cases r with
                |nil=>exact#[rfl,rfl]
                |cons e l=>
                  have n:e∉cs "012":=λq=>by have:=digits02.mp q;have:=he e l rfl;unfold endS at this;lia
                  exact#[dX n,dY n]
              rw[K9,m1,m2];refine#[?_,rfl,Nk];rw[show("":Mr)=#[([]:List Nat).toArray]from rfl,str_of_list];simp
            . rw[show([d]++r:List Nat)=d::r from rfl,fG (digits02.mpr hd),fH (digits02.mpr hd)];refine#[?_,rfl,Ii 1];rw[show(#[[d].toArray]:Mr)=#[[d].toArray]from rfl,str_of_list];simp
          refine#[λv M'=>v=.str #[(pre++c::y).toArray]/\M'=RdM a t (k+(pre++c::y).length),#[_,Ih.mpr rfl,_,aU,cZ,a,t,_,_,"012",rfl,rfl,k6,?_],?_]
          . refine#[?_,congrArg D.str e1,?_]
            . rcases hp with rfl|rfl<;>simp[Str.length]at e3 ⊢<;>lia
            . rw[e2];congr 1;simp;lia
          . rintro _ _⟨rfl,rfl⟩;k_places;exact#[rfl,trivial]
        . have P1:y=[]:=hy.resolve_right λq=>z (decide_eq_true q.1);subst P1;exact#[rfl,by rw[Ix];rfl]
      . rintro _ _⟨rfl,rfl⟩;k_places;exact#[x,#[hi,by show(pre++c::y).length<=640;lia],hR]
abbrev jq(V:Bx):Prop:=V.MM 5 "shift_from" nI Dk
def GT(T:V.T "shift_from" nH nI)(PM:wV V)(uC:dg V):jq V:=by
 refine(Tx.okM T sc_shift_from (λds M R RX h=>?_) (λ_ _ _ _ _ _ _ J hr hx=>⟨_,((aj (aG 1 sc_shift_from.nd (aK PM hx hr (ax (ac (aa 0) ae))))
   (aj (bO (aT (CalMth.one uC) hx hr (ag (aa 0)) (ax (ac av ae))))
   (au (aE (ub (aA (ag (aa 1)) (aA (aK PM hx hr (ax (ac (aa 0) ae))) aS)))))))),λds M R RX c_ h=>?_⟩))
 .let#[_,_,_,_,_,_,rfl,_]:=h;rfl
 .let#[a,t,k,x,y,r,rfl,rfl,ge,hy,he,d8,hR]:=h;refine#[λd M'=>d=.int x/\M'=RdM a t (k+(numL x).length),#[a,t,k,x,_,rfl,rfl,ge,(λ_ _ q=>by cases q;exact .inl rfl),d8,rfl,rfl],?_];rintro _ _⟨rfl,rfl⟩;k_places;have d7:=d8.app;exact#[_,Ih.mpr rfl,_,aU,cy,a,t,_,false,44,_,",",rfl,rfl,d7,Nk,a,t,_,y,r,rfl,rfl,hy,he,d7.next,Nq,hR]
abbrev qi(V:Bx):Prop:=V.D 1 "levelled" nK Ct
def GU(T:V.T "levelled" nJ nK):qi V:=by
 refine Tx.okDW T sc_levelled (λds R h=>?_) (λ_ _ _ _ _ _ _ J hr=>⟨_,((ai (fV PassesOwn.never (cr (af (aa 1) ad) ad) (ai (ao 2 sc_levelled.nd (zV (af (aa 0) ad) (af (aa 1) ad)))
    (ai (ao 3 sc_levelled.nd (aI (ac (bj (af (aa 0) ad) (az (aa 2) (af (aa 1) ad))) (ac (bj (af (aa 0) ad) (az (aa 2) (af (aa 1) ad))) ae))))
    (ai (ao 0 sc_levelled.nd (aa 1))
    (aq (ao 1 sc_levelled.nd (aa 3)))))))
   (ai (eY (dm (af (aa 0) ad) ad) (aq (ao 0 sc_levelled.nd (aI (ac (bx (af (aa 0) ad)) (ac (bx (af (aa 0) ad)) ae))))) bo)
   (aq (aH (aI (ac (aa 0) (ac (aa 1) ae)))))))),λds R h=>?_⟩)
 .let#[a,b,c,d,rfl,_]:=h;rfl
 .let#[a,b,c,d,rfl,hb,hd,hR]:=h;refine#[λm z=>∃(f0 f1 s0 s1:Int) (t r:Option D),z=[be (.tup [.int f0,.int f1]),be (.tup [.int s0,.int s1]),t,r]/\Uni a b c d f0 f1 s0 s1/\f1.natAbs<4611686018427387904/\s1.natAbs<4611686018427387904/\m=s1.natAbs,#[_,a,b,c,d,z6,z6,rfl,Uni.refl a b c d,hb,hd,rfl],?_];rintro m z⟨f0,f1,s0,s1,t,r,rfl,hu,hf,hs,rfl⟩;k_places;refine#[_,rfl,ite2 (λcc=>?_) (λcc=>?_)]
  .have c':¬s1=0:=by simpa using cc
   let#[g1,g2]:=fdm f1 s1 c';refine#[λd=>d=.int (f1.fdiv s1),#[_,rfl,_,rfl,#[c',hs],rfl],?_];rintro _ rfl;k_places;refine#[λd=>d=.tup [.int (f0-f1.fdiv s1*s0),.int (f1-f1.fdiv s1*s1)],#[_,rfl,_,rfl,.inl #[KK,KK],_,rfl,_,rfl,.inl #[KK,KK],Nq,rfl],?_];rintro _ rfl;k_places;refine#[λd=>d=.tup [.int s0,.int s1],rfl,?_];rintro _ rfl;k_places;refine#[λd=>d=.tup [.int (f0-f1.fdiv s1*s0),.int (f1-f1.fdiv s1*s1)],rfl,?_];rintro _ rfl;k_places;exact#[_,g1,s0,s1,_,_,_,_,rfl,hu.step _,hs,KK,rfl]
  .have c':s1=0:=by simpa using cc
   subst c';refine#[λz=>∃p0 p1:Int,z=[be (.tup [.int p0,.int p1]),be (.tup [.int s0,.int 0]),t,r]/\Lev a b c d p0 p1 s0,#[_,rfl,ite2 (λe=>?_) (λe=>?_)],?_]
   .have e':=of_decide_eq_true e;refine#[λd=>d=.tup [.int (-f0),.int (-f1)],#[_,rfl,_,rfl,Nq,rfl],?_];rintro _ rfl;k_places;exact#[_,_,rfl,KK,hu.neg]
   .have e':=of_decide_eq_false (IT.mpr e);exact#[_,_,rfl,KK,hu]
   .rintro _⟨p0,p1,rfl,hL⟩;k_places;exact#[Nq,hR p0 p1 s0 hL]
abbrev qj(V:Bx):Prop:=V.D 2 "spread" nN Cu
def GV(T:V.T "spread" nM nN)(uT:V.m "abs")(N7:qi V):qj V:=by
 refine Tx.okDW T sc_spread (λds R h=>?_) (λ_ _ _ _ _ _ _ J hr=>⟨_,((ai (bA (bC (az (af (aa 0) ad) (af (aa 1) ad)) (az (af (aa 0) ad) (af (aa 1) ad))) (aq (aH bn)) bo)
   (ai (ao 2 sc_spread.nd (ay N7 hr (ac (aa 0) (ac (aa 1) ae))))
   (ai (ao 3 sc_spread.nd (eV uT (ac (af (af (aa 2) ad) ad) ae)))
   (aq (aH (aI (ac (aa 3) (ac (af (af (aa 2) ad) ad) (ac (aF (af (af (aa 2) ad) ad) (aa 3)) ae)))))))))),λds R h=>?_⟩)
 .let#[a,b,c,d,rfl,_]:=h;rfl
 .let#[a,b,c,d,rfl,ha,hb,hc,hd,hN,hR]:=h;refine#[_,rfl,_,rfl,.inl #[KK,KK],_,rfl,_,rfl,.inl #[KK,KK],ite2 (λe=>?_) (λe=>?_)]
  .exact hN (of_decide_eq_true e)
  .have e':=of_decide_eq_false (IT.mpr e);refine#[λx=>∃p0 p1 q0:Int,x=.tup [.tup [.int p0,.int p1],.tup [.int q0,.int 0]]/\Lev a b c d p0 p1 q0,#[a,b,c,d,rfl,hb,hd,λp0 p1 q0 hL=>#[p0,p1,q0,rfl,hL]],?_];rintro _⟨p0,p1,q0,rfl,hL⟩;k_places;have hF:=gl e' hL;refine#[λx=>x=.int (if q0<0 then -q0 else q0),#[_,rfl,_,rfl,rfl],?_];rintro _ rfl;k_places;exact#[_,rfl,_,rfl,_,rfl,_,rfl,hF.1,Nq,hR e' _ _ _ hF]
abbrev wW(V:Bx):Prop:=V.MM 2 "hues_by_home" nP Dr
def GW(T:V.T "hues_by_home" nO nP)(NK:V.m "enumerate")(L_:gH V)(uR:V.gs "SIGNS" ".123456"):wW V:=by
 refine(Tx.okM T sc_hues_by_home (λds M R RX h=>?_) (λ_ _ _ _ _ _ _ J hr hx=>⟨_,((aj (aG 2 sc_hues_by_home.nd BV)
   (aj (BM PassesOwn.leaving rfl NK (ag (aa 0)) (dg_cons 3 sc_hues_by_home.nd (dg_cons 4 sc_hues_by_home.nd cT)) (au (BN PassesOwn.leaving rfl NK (ag (aa 4)) (dg_cons 5 sc_hues_by_home.nd (dg_cons 6 sc_hues_by_home.nd cT)) (au (iu (bp (cr (aa 6) av)) (au (bO (BY (dP hr) (ag (aa 2)) (ax (ac (ay L_ hr (ac (aa 1) (ac (aa 5) (ac (aa 3) ae)))) (ac (kJ (fv uR) (ac (aa 6) ae)) ae)))))) aR)))))
   (uf 2 (au (aE (ag (aa 2)))))))),λds M R RX c_ h=>?_⟩))
 .let#[_,_,_,_,_,rfl,_]:=h;rfl
 .let#[L,wd,w,h,s,rfl,hL,hw,hh,Mj,hs,m9,hR]:=h;have UX:=hL.w8;refine#[λd M'=>∃p,p∉aw M/\d=.ptr p/\M'=(p,.dti [])::M,λp hp=>#[p,hp,rfl,rfl],?_];rintro _ _⟨p,hp,rfl,rfl⟩;k_places;refine#[λj z M'=>∃(kv:List ((Int×Int)×Int)) (x3 x4 x5 x6:Option D),hAll w h s j (L.drop j) kv=hAll w h s 0 L []/\kv.length<=8*j/\z=[be (.lst (lstD L)),be (.tup [.int w,.int h,.int s]),be (.ptr p),x3,x4,x5,x6]/\M'=(p,.dti kv)::M,#[[],z6,z6,z6,z6,rfl,Nq,rfl,rfl],?_,?_]
  .rintro j d z M' hd⟨kv,x3,x4,x5,x6,e1,U5,rfl,rfl⟩;k_places;let#[x,ge,rfl]:=Dp hd;have hj:j<L.length:=(IB.mp ge).1;have VM:=hL.many;let#[xl,xs]:=hL.each x (Jf ge);rw[vJ ge]at e1;refine#[Do xs,λi z M'=>∃(MN:List ((Int×Int)×Int)) (x5 x6:Option D),hRow w h s j i (x.drop i) MN=hRow w h s j 0 x kv/\MN.length<=8*j+i/\i<=x.length/\z=[be (.lst (lstD L)),be (.tup [.int w,.int h,.int s]),be (.ptr p),be (.int j),be (.str #[x.toArray]),x5,x6]/\M'=(p,.dti MN)::M,#[kv,x5,x6,rfl,KK,IL _,rfl,rfl],?_,?_]
   .rintro i d z M' NN⟨MN,y5,y6,e2,RC,hi,rfl,rfl⟩;k_places;let#[c,hc,rfl]:=Dq NN;have C_:i<x.length:=(IB.mp hc).1;have sc:=xs c (Jf hc);rw[vJ hc,hRow]at e2;refine#[λz M'=>∃O0:List ((Int×Int)×Int),hRow w h s j (i+1) (x.drop (i+1)) O0=hRow w h s j 0 x kv/\O0.length<=8*j+(i+1)/\z=[be (.lst (lstD L)),be (.tup [.int w,.int h,.int s]),be (.ptr p),be (.int j),be (.str #[x.toArray]),be (.int i),be (.str #[[c].toArray])]/\M'=(p,.dti O0)::M,?_,?_]
    .show if(!decide ((#[[c].toArray]:Mr)="."))=true then _ else _;by_cases z9:c=46
     .subst z9;rw[if_pos rfl]at e2;exact#[MN,e2,KK,rfl,rfl]
     .rw[if_neg z9]at e2;refine ifT (by simp[one_sign,z9]) ?_;have c6:49<=c/\c<=54:=by unfold bc at sc;lia
      let#[ix,rest,ho,Qj]:=Dn c6;refine#[#[_,db],w,h,s,i,j,rfl,hw,hh,Mj,hs,m9,ix,rest,ho,_,db,by have:=vI MN (hmX w h s i j) ((j:Int)%h) ((c:Int)-48);lia,λv=>?_];rw[vH,Qj];exact#[_,e2,by have:=vI MN (hmX w h s i j) ((j:Int)%h) ((c:Int)-48);lia,rfl,rfl]
    .rintro z M'⟨O0,e3,h3,rfl,rfl⟩;k_places;exact#[O0,_,_,e3,h3,C_,rfl,rfl]
   .rintro z M' hz;rw[fz,len_of_list]at hz;let#[MN,y5,y6,e2,RC,hi,rfl,rfl]:=hz;rw[L7]at e2;refine#[MN,_,_,_,_,?_,KK,rfl,rfl];rw[<-e1,hAll,<-e2];rfl
  .rintro z M' hz;rw[show(lstD L).length=L.length by simp[lstD]]at hz;let#[kv,x3,x4,x5,x6,e1,U5,rfl,rfl]:=hz;rw[L7]at e1;refine#[_,db,?_];rw[lz];have e2:kv=hAll w h s 0 L []:=e1;rw[<-e2]at hR;exact hR
abbrev wX(V:Bx):Prop:=V.M 3 "Motif" nR Ds
def GX(T:V.Ti "Motif" "Motif.__init__" nQ nR)(N8:qj V)(RD:wW V)(Nd:V.a "Motif" "place")(uO:V.a "Motif" "shifts")(M7:V.a "Motif" "hues"):wX V:=by
 refine Txi.okIM T E5 (λds R h=>?_) (λ_ _ _ _ _ _ _ J hr hx=>⟨_,((aj (bZ Nd (ag (aa 0)) (ag (aa 1)))
   (aj (bZ uO (ag (aa 0)) (ag (ay N8 hr (ac (aa 3) (ac (aa 4) ae)))))
   (au (bZ M7 (ag (aa 0)) (gh (kN (aD uO (ag (aa 0))) (ag bn)) BU (aK RD hx hr (aA (ag (aa 2)) (aA (aD uO (ag (aa 0))) aS))))))))),λa ds R NO h=>?_⟩)
 .let#[_,_,_,_,_,_,_,rfl,_]:=h;rfl
 .let#[k,L,wd,x,y,u,v,rfl,hL,ge,hy,hu,hv,h0,h1]:=h;unfold B12 at ge hy hu hv;refine#[_,cK,le_b rfl,?_];rw[fF,Dt];refine#[x,y,u,v,rfl,KK,KK,KK,KK,λe=>?_,λe w h s F=>?_]
  .refine#[_,cK,le_b rfl,?_];rw[fF,vK];refine#[_,cK,_,lC,?_];refine#[_,cK,le_b rfl,?_];rw[fF,vL];exact#[_,rfl,h0 e]
  .refine#[_,cK,le_b rfl,?_];rw[fF,vK];refine#[_,cK,_,lC,?_];let#[b1,b2,b3]:=F.bd (N:=288) (lx ge hy hu hv);refine#[_,cK,_,lC,L,wd,w,h,s,rfl,hL,F.1,F.2.1,KK,F.2.2.1,KK,?_];refine#[_,cK,le_b rfl,?_];rw[fF,vL];exact#[_,rfl,h1 e w h s F]
abbrev qk(V:Bx):Prop:=V.MM 6 "motif_from" nU DB
def GY(T:V.T "motif_from" nS nU)(RE:wU V)(MP:jq V)(uH:V.a "Reading" "place")(RF:wX V)(uC:dg V):qk V:=by
 refine(Tx.okM T sc_motif_from (λds M R RX h=>?_) (λ_ _ _ _ _ _ _ J hr hx=>⟨_,((aj (aG 1 sc_motif_from.nd (aD uH (ag (aa 0))))
   (aj (bO (aT (CalMth.one uC) hx hr (ag (aa 0)) (ax (ac av ae))))
   (aj (aG 2 sc_motif_from.nd (aK RE hx hr (ax (ac (aa 0) ae))))
   (aj (bO (aT (CalMth.one uC) hx hr (ag (aa 0)) (ax (ac av ae))))
   (aj (aG 3 sc_motif_from.nd (aK MP hx hr (ax (ac (aa 0) ae))))
   (aj (bO (aT (CalMth.one uC) hx hr (ag (aa 0)) (ax (ac av ae))))
   (aj (aG 4 sc_motif_from.nd (aK MP hx hr (ax (ac (aa 0) ae))))
   (aj (bO (aT (CalMth.one uC) hx hr (ag (aa 0)) (ax (ac av ae))))
   (au (aE (ag (kA RF hr (ac (aa 1) (ac (aa 2) (ac (aa 3) (ac (aa 4) ae))))))))))))))))),λds M R RX c_ h=>?_⟩))
 .let#[_,_,_,_,_,_,_,_,_,_,rfl,_]:=h;rfl
 .let#[g,t,k,L,a,b,c,d,o,l,rfl,rfl,d8,p7,hR]:=h;let#[Mb,ha,hb,hc,hd]:Rows L/\B12 a/\B12 b/\B12 c/\B12 d:=by
   rcases p7 with⟨h1,h2,h3,h4,h5,_⟩|⟨h1,h2,h3,h4,h5,_⟩<;>exact#[h1,h2,h3,h4,h5]
  let#[w,hL]:=Dz Mb;have d8:At t k (91::(rowsL (L.map cs)++59::(numL a++44::(numL b++59::(numL c++44::(numL d++cutL o [93] l)))))):=by
   have:=d8;unfold motL at this;rw[cutL_cons Nq,cx Nq,cutL_cons Nq,cx Nq,cutL_cons Nq,cx Nq,cutL_cons Nq,cx Nq,cutL_cons Nq,cx Nq]at this;exact this
  have d7:=d8.next;have k6:=d7.app;have u8:=k6.next;have O1:At t (k+1+(rowsL (L.map cs)).length+1+(numL a).length+1+(numL b).length) _:=u8.app.next.app;have O2:=O1.next;refine#[λv M'=>v=.int k/\M'=RdM g t k,#[_,aU,_,cY,rfl,rfl],?_];rintro _ _⟨rfl,rfl⟩;k_places;refine#[_,Ih.mpr rfl,_,aU,cy,g,t,_,false,91,_,"[",rfl,rfl,d8,Nk,?_];refine#[λv M'=>v=.lst (lstD (L.map cs))/\M'=RdM g t (k+1+(rowsL (L.map cs)).length),#[g,t,_,_,w,_,rfl,rfl,hL,d7,rfl,rfl],?_];rintro _ _⟨rfl,rfl⟩;k_places;refine#[_,Ih.mpr rfl,_,aU,cy,g,t,_,false,59,_,";",rfl,rfl,k6,Nk,?_];refine#[λv M'=>v=.tup [.int a,.int b]/\M'=RdM g t (k+1+(rowsL (L.map cs)).length+1+(numL a).length+1+(numL b).length),#[g,t,_,a,b,_,rfl,rfl,ha,hb,(λ_ _ q=>by cases q;exact .inr (.inl rfl)),u8,rfl,rfl],?_];rintro _ _⟨rfl,rfl⟩;k_places;refine#[_,Ih.mpr rfl,_,aU,cy,g,t,_,false,59,_,";",rfl,rfl,O1,Nk,?_];have RG:At t (k+1+(rowsL (L.map cs)).length+1+(numL a).length+1+(numL b).length+1+(numL c).length+1+(numL d).length) (cutL o [93] l):=O2.app.next.app;refine#[λv M'=>v=.tup [.int c,.int d]/\M'=RdM g t (k+1+(rowsL (L.map cs)).length+1+(numL a).length+1+(numL b).length+1+(numL c).length+1+(numL d).length),#[g,t,_,c,d,_,rfl,rfl,hc,hd,(λ_ _ q=>by cases o<;>cases q;exact .inr (.inr (.inr rfl))),O2,rfl,rfl],?_];rintro _ _⟨rfl,rfl⟩;k_places;refine#[_,Ih.mpr rfl,_,aU,cy,g,t,_,o,93,l,"]",rfl,rfl,RG,Nk,?_];cases o with
  |true=>
   intro M';rw[c_];exact hR M'
  |false=>
   have b9:k+(motL (L.map cs) a b c d).length=k+1+(rowsL (L.map cs)).length+1+(numL a).length+1+(numL b).length+1+(numL c).length+1+(numL d).length+1:=by simp[motL];lia
   unfold two at hR;dsimp only at hR;rw[b9]at hR;refine#[k,_,w,a,b,c,d,rfl,hL,ha,hb,hc,hd,λe=>?_,λe w h s F=>?_]
   .exact hR _ (.inr #[#[Mb,ha,hb,hc,hd,e],rfl])
   .exact hR _ (.inl #[#[Mb,ha,hb,hc,hd,e],k,w,h,s,rfl,F])
abbrev ql(V:Bx):Prop:=V.M 1 "Mirror" nW Dw
def GZ(T:V.Ti "Mirror" "Mirror.__init__" nV nW)(uY:V.a "Mirror" "form"):ql V:=by
 refine Txi.okI T E6 (λds R h=>?_) (λ_ _ _ _ _ _ _ J hr=>#[_,((bU uY (aa 1) dU)),λds R h=>?_])
 .let#[_,_,rfl,_]:=h;rfl
 .let#[x,fs,rfl,hR]:=h;exact#[Nk,hR]
abbrev qm(V:Bx):Prop:=V.M 1 "Turn" nY Dx
def G0(T:V.Ti "Turn" "Turn.__init__" nX nY)(y7:V.a "Turn" "form"):qm V:=by
 refine Txi.okI T E7 (λds R h=>?_) (λ_ _ _ _ _ _ _ J hr=>#[_,((bU y7 (aa 1) dU)),λds R h=>?_])
 .let#[_,_,rfl,_]:=h;rfl
 .let#[x,fs,rfl,hR]:=h;exact#[Nk,hR]
abbrev qo(V:Bx):Prop:=V.M 1 "Over" oa Du
def G1(T:V.Ti "Over" "Over.__init__" nZ oa)(uZ:V.a "Over" "above")(x_:V.a "Over" "below"):qo V:=by
 refine Txi.okI T E8 (λds R h=>?_) (λ_ _ _ _ _ _ _ J hr=>#[_,((bU uZ (aa 1) (bU x_ (aa 2) dU))),λds R h=>?_])
 .let#[_,_,_,_,rfl,_]:=h;rfl
 .let#[x,y,fs,gs,rfl,hR]:=h;refine#[Nk,le_b rfl,?_];show R (putD _ _ (putD _ _ []));rw[putD,putD,if_neg Nn];exact hR
abbrev qp(V:Bx):Prop:=V.M 1 "Shifted" oh Dv
def G2(T:V.Ti "Shifted" "Shifted.__init__" og oh)(uW:V.a "Shifted" "form")(M9:V.a "Shifted" "x")(M8:V.a "Shifted" "y"):qp V:=by
 refine Txi.okI T E9 (λds R h=>?_) (λ_ _ _ _ _ _ _ J hr=>#[_,((bU uW (aa 1) (bU M9 (aa 2) (bU M8 (aa 3) dU)))),λds R h=>?_])
 .let#[_,_,_,_,rfl,_]:=h;rfl
 .let#[x,fs,a,b,rfl,hR]:=h;refine#[Nk,le_b rfl,le_b rfl,?_];show R (putD _ _ (putD _ _ (putD _ _ [])));rw[show putD ("x":Mr) (.int a) (putD ("form":Mr) (.obj x fs) [])=([("form",.obj x fs),("x",.int a)]:List (Mr×D))by rw[putD,putD,if_neg Nn];rfl,putD,if_neg Nn,putD,if_neg Nn];exact hR
abbrev qq(V:Bx):Prop:=V.M 1 "Rehue" oj Dy
def G3(T:V.Ti "Rehue" "Rehue.__init__" oi oj)(y8:V.a "Rehue" "form")(M_:V.a "Rehue" "old")(Na:V.a "Rehue" "new"):qq V:=by
 refine Txi.okI T Fb (λds R h=>?_) (λ_ _ _ _ _ _ _ J hr=>#[_,((bU y8 (aa 1) (bU M_ (aa 2) (bU Na (aa 3) dU)))),λds R h=>?_])
 .let#[_,_,_,_,rfl,_]:=h;rfl
 .let#[x,fs,a,b,rfl,hR]:=h;refine#[Nk,le_b rfl,le_b rfl,?_];show R (putD _ _ (putD _ _ (putD _ _ [])));rw[show putD ("old":Mr) (.int a) (putD ("form":Mr) (.obj x fs) [])=([("form",.obj x fs),("old",.int a)]:List (Mr×D))by rw[putD,putD,if_neg Nn];rfl,putD,if_neg Nn,putD,if_neg Nn];exact hR
def G4(hL:6<=n)(T:V.T "over_from" iS gx)(uK:V.MM n "form_from" cL (dL j))(O3:qo V)(uC:dg V):V.MM (n+1) "over_from" gx (vN j):=by
 refine Tx.okM T sc_over_from (λds M R RX h=>?_) (λ_ _ _ _ _ _ _ J hr hx=>⟨_,((aj (aG 2 sc_over_from.nd (aK (hn:=Ow) uK hx hr (ax (ac (aa 0) (ac (aa 1) ae)))))
   (aj (bO (aT (hn:=Ow) (CalMth.one uC) hx hr (ag (aa 0)) (ax (ac av ae))))
   (aj (aG 3 sc_over_from.nd (aK (hn:=Ow) uK hx hr (ax (ac (aa 0) (ac (aa 1) ae)))))
   (aj (bO (aT (hn:=Ow) (CalMth.one uC) hx hr (ag (aa 0)) (ax (ac av ae))))
   (au (aE (ag (kA (hn:=Ow) O3 hr (ac (aa 2) (ac (aa 3) ae))))))))))),λds M R RX c_ h=>?_⟩)
 .let#[_,_,_,_,_,_,_,_,rfl,_]:=h;rfl
 .let#[a,t,k,p,q,o,l,d,rfl,rfl,d8,NL,MJ,hp,hq,D',U6,hR]:=h;have d7:=d8.app;have k6:=d7.next;have u8:=k6.app;refine#[λv M'=>FormOf p v/\M'=RdM a t (k+p.tl.length),#[a,t,k,p,false,_,d,rfl,rfl,d8,NL,MJ,.inl hp,D',λv h=>#[h.good hp,rfl]],?_];rintro v _⟨hv,rfl⟩;k_places;let#[fs,rfl,_]:=hv.objm;refine#[_,Ih.mpr rfl,_,aU,cy,a,t,_,false,124,_,"|",rfl,rfl,d7,Nk,?_];refine#[λv M'=>FormOf q v/\M'=RdM a t (k+p.tl.length+1+q.tl.length),#[a,t,_,q,false,_,d,rfl,rfl,k6,NL,MJ,.inl hq,U6,λv h=>#[h.good hq,rfl]],?_];rintro v _⟨Tn,rfl⟩;k_places;let#[gs,rfl,_]:=Tn.objm;refine#[_,Ih.mpr rfl,_,aU,cy,a,t,_,o,41,l,")",rfl,rfl,u8,Nk,?_];cases o with
  |true=>intro M';rw[c_];exact hR M'
  |false=>exact#[_,_,_,_,rfl,hR _ _ hv Tn]
def G5(hL:6<=n)(T:V.T "shifted_from" iT gy)(MP:jq V)(uK:V.MM n "form_from" cL (dL j))(O4:qp V)(uC:dg V):V.MM (n+1) "shifted_from" gy (vO j):=by
 refine Tx.okM T sc_shifted_from (λds M R RX h=>?_) (λ_ _ _ _ _ _ _ J hr hx=>⟨_,((aj (aG 2 sc_shifted_from.nd (aK (hn:=Ow) MP hx hr (ax (ac (aa 0) ae))))
   (aj (bO (aT (hn:=Ow) (CalMth.one uC) hx hr (ag (aa 0)) (ax (ac av ae))))
   (au (aE (iq (hn:=Ow) O4 hr (aA (aK (hn:=Ow) uK hx hr (ax (ac (aa 0) (ac (aa 1) ae)))) (aA (ag (af (aa 2) ad)) (aA (ag (af (aa 2) ad)) aS))))))))),λds M R RX c_ h=>?_⟩)
 .let#[_,_,_,_,_,_,_,_,_,rfl,_]:=h;rfl
 .let#[a,t,k,x,y,p,o,l,d,rfl,rfl,d8,NL,MJ,ge,hy,hp,D',hR]:=h;have d7:At t (k+(numL x).length+1+(numL y).length) _:=d8.app.next.app;refine#[λv M'=>v=.tup [.int x,.int y]/\M'=RdM a t (k+(numL x).length+1+(numL y).length),#[a,t,_,x,y,_,rfl,rfl,ge,hy,(λ_ _ q=>by cases q;exact .inr (.inr (.inl rfl))),d8,rfl,rfl],?_];rintro _ _⟨rfl,rfl⟩;k_places;refine#[_,Ih.mpr rfl,_,aU,cy,a,t,_,false,58,_,":",rfl,rfl,d7,Nk,?_];refine#[a,t,_,p,o,l,d,rfl,rfl,d7.next,NL,MJ,.inl hp,D',?_];cases o with
  |true=>intro M';rw[c_];exact hR M'
  |false=>
   intro v h;have h:=h.good hp;let#[fs,rfl,_]:=h.objm;exact#[_,rfl,_,rfl,_,_,_,_,rfl,hR _ h]
def G6(hL:6<=n)(T:V.T "rehue_from" iU gz)(uD:V.m "int")(uK:V.MM n "form_from" cL (dL j))(O5:qq V)(uC:dg V):V.MM (n+1) "rehue_from" gz (vP j):=by
 refine Tx.okM T sc_rehue_from (λds M R RX h=>?_) (λ_ _ _ _ _ _ _ J hr hx=>⟨_,((aj (aG 2 sc_rehue_from.nd (kP uD (aA (aT (hn:=Ow) (CalMth.one uC) hx hr (ag (aa 0)) (ax (ac av ae))) aS)))
   (aj (aG 3 sc_rehue_from.nd (kP uD (aA (aT (hn:=Ow) (CalMth.one uC) hx hr (ag (aa 0)) (ax (ac av ae))) aS)))
   (au (aE (iq (hn:=Ow) O5 hr (aA (aK (hn:=Ow) uK hx hr (ax (ac (aa 0) (ac (aa 1) ae)))) (aA (ag (aa 2)) (aA (ag (aa 3)) aS))))))))),λds M R RX c_ h=>?_⟩)
 .let#[_,_,_,_,_,_,_,_,_,rfl,_]:=h;rfl
 .let#[a,t,k,f,g,p,o,l,d,rfl,rfl,d8,NL,MJ,hf,hg,hp,D',hR]:=h;have To:∀{f:Int},1<=f/\f<=6->PySem.intText? (#[[(48+f).toNat].toArray]:Mr)=be f:=λ{f} h=>by
   have:=digit_of (c:=(48+f).toNat) KK;rw[show(((48+f).toNat:Nat):Int)-48=f by lia]at this;exact this
  refine#[λv M'=>v=.int f/\M'=RdM a t (k+1),#[_,Ih.mpr rfl,_,aU,cy,a,t,_,false,_,_,"123456",rfl,rfl,d8,vM hf,_,#[To hf,le_b rfl],rfl,rfl],?_];rintro _ _⟨rfl,rfl⟩;k_places;refine#[λv M'=>v=.int g/\M'=RdM a t (k+2),#[_,Ih.mpr rfl,_,aU,cy,a,t,_,false,_,_,"123456",rfl,rfl,d8.next,vM hg,_,#[To hg,le_b rfl],rfl,rfl],?_];rintro _ _⟨rfl,rfl⟩;k_places;refine#[a,t,_,p,o,l,d,rfl,rfl,d8.next.next,NL,MJ,.inl hp,D',?_];cases o with
  |true=>intro M';rw[c_];exact hR M'
  |false=>
   intro v h;have h:=h.good hp;let#[fs,rfl,_]:=h.objm;exact#[_,_,_,_,rfl,hR _ h]
def G7(hL:6<=n)(T:V.T "form_from" iV cL)(U7:V.MM n "over_from" gx (vN j))(U8:V.MM n "shifted_from" gy (vO j))(uK:V.MM n "form_from" cL (dL j))(U9:V.MM n "rehue_from" gz (vP j))(O6:qk V)(O7:V.gi "DEEP" 5)(O8:ql V)(O9:qm V)(uM:eF V):V.MM (n+1) "form_from" cL (dL (j+1)):=by
 refine Tx.okM T sc_form_from (λds M R RX h=>?_) (λ_ _ _ _ _ _ _ J hr hx=>⟨_,((aj (aG 2 sc_form_from.nd (gh (bp (dm (aa 1) (fu O7))) (aT (hn:=Ow) (CalMth.one uM) hx hr (ag (aa 0)) (ax (ac av ae))) (ag av)))
   (aj (aX (bp (bC (aa 2) av)) (au (aE (aK (hn:=Ow) U7 hx hr (ax (ac (aa 0) (ac (am (aa 1) ad) ae)))))) aR)
   (aj (aX (bp (bC (aa 2) av)) (au (aE (aK (hn:=Ow) U8 hx hr (ax (ac (aa 0) (ac (am (aa 1) ad) ae)))))) aR)
   (aj (aX (bp (bC (aa 2) av)) (au (aE (iq (hn:=Ow) O8 hr (aA (aK (hn:=Ow) uK hx hr (ax (ac (aa 0) (ac (am (aa 1) ad) ae)))) aS)))) aR)
   (aj (aX (bp (bC (aa 2) av)) (au (aE (iq (hn:=Ow) O9 hr (aA (aK (hn:=Ow) uK hx hr (ax (ac (aa 0) (ac (am (aa 1) ad) ae)))) aS)))) aR)
   (aj (aX (bp (bC (aa 2) av)) (au (aE (aK (hn:=Ow) U9 hx hr (ax (ac (aa 0) (ac (am (aa 1) ad) ae)))))) aR)
   (au (aE (aK (hn:=Ow) O6 hx hr (ax (ac (aa 0) ae)))))))))))),λds M R RX c_ h=>?_⟩)
 .let#[_,_,_,_,_,_,_,rfl,_]:=h;rfl
 .let#[a,t,k,p,o,l,d,rfl,rfl,d8,NL,MJ,c8,D',hR]:=h;refine#[λv M'=>v=.str (mayS "(smth" p.tl)/\M'=RdM a t (k+mayN "(smth" p.tl),?_,?_]
  .show if decide ((d:Int)<5)=true then _ else _
   refine ite2 (λc=>?_) (λc=>?_)
   .exact#[_,Ih.mpr rfl,_,aU,cZ,a,t,_,_,"(smth",rfl,rfl,d8,by rw[vQ.1],by rw[vQ.2]]
   .have c':¬((d:Int)<5):=λz=>c (decide_eq_true z);cases p with
    |mot L a b c d=>exact#[rfl,rfl]
    |_=>rw[Pat.depth]at D';lia
  rintro _ _⟨rfl,rfl⟩;k_places;cases p with
  |mot L x y u v=>
   refine#[a,t,k,L,x,y,u,v,o,l,rfl,rfl,d8,c8,?_];cases o with
   |true=>intro M';rw[c_];exact hR M'
   |false=>exact hR
  |over p q=>
   rw[Pat.depth]at D';have hp:(Pat.over p q).Wf:=c8.resolve_right id;have e:k+(Pat.over p q).tl.length=k+1+p.tl.length+1+q.tl.length+1:=by rw[Pat.tl];simp;lia
   have d7:At t (k+1) (p.tl++124::(q.tl++cutL o [41] l)):=by
    have:=d8;rw[Pat.tl,cutL_cons Nq,cx Nq,cutL_cons Nq,cx Nq]at this;exact this.next
   refine#[a,t,k+1,p,q,o,l,d+1,rfl,rfl,d7,KK,KK,hp.1,hp.2,KK,KK,?_];cases o with
   |true=>intro M';rw[c_];exact hR M'
   |false=>
    unfold two at hR;dsimp only at hR;rw[e]at hR;exact λu u' h1 h2=>hR _ (.inl #[hp,u,u',rfl,h1,h2])
  |sh x y p=>
   rw[Pat.depth]at D';have hp:(Pat.sh x y p).Wf:=c8.resolve_right id;have e:k+(Pat.sh x y p).tl.length=k+1+(numL x).length+1+(numL y).length+1+p.tl.length:=by rw[Pat.tl];simp;lia
   have d7:At t (k+1) (numL x++44::(numL y++58::cutL o p.tl l)):=by
    have:=d8;rw[Pat.tl,cutL_cons Nq,cx Nq,cutL_cons Nq,cx Nq,cutL_cons p.tl_ne]at this;exact this.next
   refine#[a,t,k+1,x,y,p,o,l,d+1,rfl,rfl,d7,KK,KK,hp.1,hp.2.1,hp.2.2,KK,?_];cases o with
   |true=>intro M';rw[c_];exact hR M'
   |false=>
    unfold two at hR;dsimp only at hR;rw[e]at hR;exact λu h1=>hR _ (.inl #[hp,u,rfl,h1])
  |hue f g p=>
   rw[Pat.depth]at D';have hp:(Pat.hue f g p).Wf:=c8.resolve_right id;have e:k+(Pat.hue f g p).tl.length=k+1+2+p.tl.length:=by rw[Pat.tl,hueL hp.1,hueL hp.2.1];simp;lia
   have d7:At t (k+1) ((48+f).toNat::(48+g).toNat::cutL o p.tl l):=by
    have:=d8;rw[Pat.tl,hueL hp.1,hueL hp.2.1,cutL_cons Nq,cx (by simp[p.tl_ne]),cx p.tl_ne]at this;exact this.next
   refine#[a,t,k+1,f,g,p,o,l,d+1,rfl,rfl,d7,KK,KK,hp.1,hp.2.1,hp.2.2,KK,?_];cases o with
   |true=>intro M';rw[c_];exact hR M'
   |false=>
    unfold two at hR;dsimp only at hR;rw[e]at hR;exact λu h1=>hR _ (.inl #[hp,u,rfl,h1])
  |mir p=>
   rw[Pat.depth]at D';have hp:(Pat.mir p).Wf:=c8.resolve_right id;have e:k+(Pat.mir p).tl.length=k+1+p.tl.length:=by rw[Pat.tl];simp;lia
   have d7:At t (k+1) (cutL o p.tl l):=by
    have:=d8;rw[Pat.tl,cutL_cons p.tl_ne]at this;exact this.next
   refine#[a,t,k+1,p,o,l,d+1,rfl,rfl,d7,KK,KK,.inl hp,KK,?_];cases o with
   |true=>intro M';rw[c_];exact hR M'
   |false=>
    intro u h1;have h1:=FormL.good (p:=p) hp h1;unfold two at hR;dsimp only at hR;rw[e]at hR;let#[fs,rfl,_]:=h1.objm;exact#[_,_,rfl,hR _ (.inl #[hp,_,rfl,h1])]
  |tur p=>
   rw[Pat.depth]at D';have hp:(Pat.tur p).Wf:=c8.resolve_right id;have e:k+(Pat.tur p).tl.length=k+1+p.tl.length:=by rw[Pat.tl];simp;lia
   have d7:At t (k+1) (cutL o p.tl l):=by
    have:=d8;rw[Pat.tl,cutL_cons p.tl_ne]at this;exact this.next
   refine#[a,t,k+1,p,o,l,d+1,rfl,rfl,d7,KK,KK,.inl hp,KK,?_];cases o with
   |true=>intro M';rw[c_];exact hR M'
   |false=>
    intro u h1;have h1:=FormL.good (p:=p) hp h1;unfold two at hR;dsimp only at hR;rw[e]at hR;let#[fs,rfl,_]:=h1.objm;exact#[_,_,rfl,hR _ (.inl #[hp,_,rfl,h1])]
def G8(U':V.T "over_from" iS gx)(U_:V.T "shifted_from" iT gy)(Va:V.T "rehue_from" iU gz)(Tp:V.T "form_from" iV cL)(O3:qo V)(uC:dg V)(MP:jq V)(O4:qp V)(uD:V.m "int")(O5:qq V)(O6:qk V)(O7:V.gi "DEEP" 5)(O8:ql V)(O9:qm V)(uM:eF V):∀j,V.MM (6+2*j) "form_from" cL (dL j):=by
 intro j;induction j with
 |zero=>exact CalMM.never Tp (λds M R RX=>DC)
 |succ j ih=>
  have O_:=ih;have RH:=G4 (n:=6+2*j) (j:=j) Ow U' O_ O3 uC;have RI:=G5 (n:=6+2*j) (j:=j) Ow U_ MP O_ O4 uC;have RJ:=G6 (n:=6+2*j) (j:=j) Ow Va uD O_ O5 uC;have O_:=Cal.mono ih (Jy _);exact G7 (n:=6+2*j+1) (j:=j) Ow Tp RH RI O_ RJ O6 O7 O8 O9 uM
abbrev wY(V:Bx):Prop:=V.M 1 "Reading" om Dd
def G9(T:V.Ti "Reading" "Reading.__init__" ol om)(Nb:V.a "Reading" "text")(uH:V.a "Reading" "place"):wY V:=by
 refine Txi.okI T Fc (λds R h=>?_) (λ_ _ _ _ _ _ _ J hr=>#[_,((bU Nb (aa 1) (bU uH ad dU))),λds R h=>?_])
 .let#[_,rfl,_]:=h;rfl
 .let#[t,rfl,hR]:=h;refine#[Nk,le_b rfl,?_];show R (putD _ _ (putD _ _ []));rw[putD,putD,if_neg Nn];exact hR
abbrev wZ(V:Bx):Prop:=V.M 1 "Pattern" ot DN
def Ha(T:V.Ti "Pattern" "Pattern.__init__" oq ot)(N9:V.a "Pattern" "text")(Mm:V.a "Pattern" "shifts")(N3:V.a "Pattern" "form"):wZ V:=by
 refine Txi.okI T Fd (λds R h=>?_) (λ_ _ _ _ _ _ _ J hr=>#[_,((bU N9 (aa 1) (bU Mm (aa 2) (bU N3 (aa 3) dU)))),λds R h=>?_])
 .let#[_,_,_,_,_,_,rfl,_]:=h;rfl
 .let#[t,w,h,s,x,fs,rfl,hR]:=h;refine#[Nk,le_b rfl,le_b rfl,?_];show R (putD _ _ (putD _ _ (putD _ _ [])));rw[show putD ("shifts":Mr) (.tup [.int w,.int h,.int s]) (putD ("text":Mr) (.str t) [])=([("text",.str t),("shifts",.tup [.int w,.int h,.int s])]:List (Mr×D))by rw[putD,putD,if_neg Nn];rfl,putD,if_neg Nn,putD,if_neg Nn];exact hR
abbrev qr(V:Bx):Prop:=V.E 1 "OneLine" ow DG
def Hb(T:V.Te "OneLine" "OneLine.__init__" ou ow)(ML:V.b "MotifError")(uAY:V.ea "OneLine")(RK:V.xf "OneLine" "place"):qr V:=by
 refine Txe.okE T Fe (λds R h=>?_) (λ_ _ _ _ _ _ _ J hr=>#[_,((kE ML uAY (ac (aa 1) ae) (kF uAY RK (aa 1) kD))),λds R h=>?_])
 .let#[i,rfl,_]:=h;rfl
 .let#[i,rfl,hR]:=h;exact#[le_b rfl,rfl,hR]
abbrev xa(V:Bx):Prop:=V.D 2 "measure" oz Cz
def Hc(T:V.T "measure" oy oz)(N7:qi V):xa V:=by
 refine Tx.okDW T sc_measure (λds R h=>?_) (λ_ _ _ _ _ _ _ J hr=>⟨_,((ai (ao 2 sc_measure.nd (af (ay N7 hr (ac (aI (ac ad (ac (aa 0) ae))) (ac (aI (ac ad (ac (aa 1) ae))) ae))) ad))
   (aq (aH (aI (ac (af (aa 2) ad) (ac (af (aa 2) ad) ae))))))),λds R h=>?_⟩)
 .let#[x,y,rfl,_]:=h;rfl
 .let#[x,y,rfl,hx,hy,hR]:=h;refine#[λd=>∃p0 p1:Int,d=.tup [.int p0,.int p1]/\Meas x y p1 p0,#[Nq,Nq,1,x,0,y,rfl,hx,hy,λp0 p1 q0 hL=>#[_,rfl,p0,p1,rfl,va #[hL.1,hL.2]]],?_];rintro _⟨p0,p1,rfl,hM⟩;k_places;exact#[_,rfl,_,rfl,Nq,hR p1 p0 hM]
abbrev qt(V:Bx):Prop:=V.D 3 "met" oB CA
def Hd(T:V.T "met" oA oB)(Pa:xa V):qt V:=by
 refine Tx.okDW T sc_met (λds R h=>?_) (λ_ _ _ _ _ _ _ J hr=>⟨_,((ai (ao 2 sc_met.nd (ay Pa hr (ac (af (aa 0) ad) (ac (af (aa 1) ad) ae))))
   (ai (ao 3 sc_met.nd (bf (az (af (aa 0) ad) (af (aa 1) ad)) (af (aa 2) ad)))
   (ai (ao 4 sc_met.nd (bf (az (af (aa 0) ad) (af (aa 1) ad)) (af (ay Pa hr (ac (af (aa 0) ad) (ac (af (aa 1) ad) ae))) ad)))
   (ai (ao 5 sc_met.nd (az (bf (aa 4) (af (aa 0) ad)) (af (aa 0) ad)))
   (ai (ao 6 sc_met.nd (bj (az (bf (aa 4) (af (aa 1) ad)) (af (aa 1) ad)) (aa 5)))
   (ai (ao 7 sc_met.nd (bf (af (aa 2) ad) (af (ay Pa hr (ac (af (aa 2) ad) (ac (aa 6) ae))) ad)))
   (ai (ao 8 sc_met.nd (az (bf (az (aa 7) (aa 6)) (af (aa 2) ad)) (af (aa 2) ad)))
   (aq (aH (aI (ac (aa 3) (ac (az (aa 4) (aa 7)) (ac (aF (am (az (aa 7) (aa 5)) (az (aa 8) (af (aa 0) ad))) (aa 3)) ae)))))))))))))),λds R h=>?_⟩)
 .let#[_,_,_,_,_,_,rfl,_]:=h;rfl
 .let#[w1,h1,s1,w2,h2,s2,rfl,a1,a2,a3,a4,a5,a6,b1,b2,b3,b4,b5,b6,hR]:=h;refine#[λd=>∃g u:Int,d=.tup [.int g,.int u]/\Meas w1 w2 g u,#[_,rfl,_,rfl,w1,w2,rfl,KK,KK,λg u M=>#[g,u,rfl,M]],?_];rintro _⟨g,u,rfl,M1⟩;k_places;have hg:=M1.pos a1;have Rg:=M1.le a1;refine#[λd=>d=.int (w1*w2/g),#[_,rfl,_,rfl,.inl (b64B a1 a2),_,rfl,d30B hg (Je Rg a2),rfl],?_];rintro _ rfl;k_places;refine#[λd=>∃k u':Int,d=.int (h1*h2/k)/\Meas h1 h2 k u',#[_,rfl,_,rfl,.inl (b64B a3 a4),_,rfl,_,rfl,h1,h2,rfl,KK,KK,λk u' M=>#[_,rfl,d30B (M.pos a3) (Je (M.le a3) a4),k,u',rfl,M]],?_];rintro _⟨k,u',rfl,M2⟩;k_places;let#[r0,r1,r2,r3,r4,r5]:=lh a3 b3 M2;have Vb:h1*h2<=1125899906842624:=by
   have:=cD (a:=h1) (d:=h2) (A:=33554432) (B:=33554432) KK KK;lia
  refine#[λd=>d=.int (h1*h2/k/h1*s1),#[_,rfl,d30B a3 a4,_,rfl,.inr (s64B a5 a6 a2),rfl],?_];rintro _ rfl;k_places;refine#[λd=>d=.int (h1*h2/k/h2*s2-h1*h2/k/h1*s1),#[_,rfl,d30B b3 b4,_,rfl,.inr (s64B b5 b6 b2),rfl],?_];rintro _ rfl;k_places;have t1:=cD (a:=h1*h2/k/h1) (d:=s1) (A:=33554432) (B:=33554432) KK KK;have t2:=cD (a:=h1*h2/k/h2) (d:=s2) (A:=33554432) (B:=33554432) KK KK;refine#[λd=>∃gg z8:Int,d=.int (g/gg)/\Meas g (h1*h2/k/h2*s2-h1*h2/k/h1*s1) gg z8,#[_,rfl,_,rfl,g,_,rfl,KK,KK,λgg z8 M=>#[_,rfl,d30B (M.pos hg) (Je (M.le hg) (Je Rg a2)),gg,z8,rfl,M]],?_];rintro _⟨gg,z8,rfl,M3⟩;k_places;have MI:=M3.pos hg;have c1:0<=g/gg:=Ks KK KK;have c2:g/gg<=g:=K0 _ KK;have c4:=Cj (c:=g/gg) (gap:=h1*h2/k/h2*s2-h1*h2/k/h1*s1) (N:=2251799813685248) hg c1 c2 KK;have mr:=lf a1 b1 a3 b3 M1 M2 M3;refine#[λd=>d=.int (g/gg*(h1*h2/k/h2*s2-h1*h2/k/h1*s1)/g*u),#[.inl #[KK,KK],_,rfl,#[KK,KK],_,rfl,.inl #[KK,KK],rfl],?_];rintro _ rfl;k_places;let#[w0,w3,_]:=lh a1 b1 M1;have Vc:w1*w2<=1125899906842624:=by
   have:=cD (a:=w1) (d:=w2) (A:=33554432) (B:=33554432) KK KK;lia
  have SU:=cD (a:=h1*h2/k) (d:=g/gg) (A:=1125899906842624) (B:=33554432) KK KK;exact#[.inl #[KK,KK],.inl #[KK,KK],_,rfl,.inr #[KK,KK],w0,Nq,hR _ _ _ _ mr]
abbrev qu(V:Bx):Prop:=V.D 1 "mirrored" oE Cw
def Hf(T:V.T "mirrored" oC oE):qu V:=by
 refine Tx.okDW T Ff (λds R h=>?_) (λ_ _ _ _ _ _ _ J hr=>#[_,((aq (aH (aI (ac (af (aa 0) ad) (ac (af (aa 0) ad) (ac (aF (bx (af (aa 0) ad)) (af (aa 0) ad)) ae))))))),λds R h=>?_])
 .let#[w,h,s,rfl,_]:=h;rfl
 .let#[w,h,s,rfl,hw,hR]:=h;exact#[_,rfl,_,rfl,_,rfl,_,rfl,hw,Nq,hR]
abbrev qv(V:Bx):Prop:=V.D 3 "turned" oG Cy
def Hg(T:V.T "turned" oF oG)(N8:qj V):qv V:=by
 refine Tx.okDW T Fg (λds R h=>?_) (λ_ _ _ _ _ _ _ J hr=>#[_,((aq (aH (ay N8 hr (ac (aI (ac ad (ac (af (aa 0) ad) ae))) (ac (aI (ac (bx (af (aa 0) ad)) (ac (af (aa 0) ad) ae))) ae)))))),λds R h=>?_])
 .let#[w,h,s,rfl,_]:=h;rfl
 .let#[w,h,s,rfl,hw,hh,OR,Mj,hs,m9,hR]:=h;have hp:0<w*h:=IF hw hh;have hn:¬0*s=w* -h:=by rw[Kk];lia
  exact#[_,rfl,Nq,_,rfl,_,rfl,Nq,0,w,-h,s,rfl,KK,KK,KK,KK,λe=>absurd e hn,λ_ w' h' s' f=>hR w' h' s' f]
def ok_Motif_family(hL:3<=n)(T:V.Tm "Motif" "family" "Motif.family" iW cG)(uO:V.a "Motif" "shifts")(Nd:V.a "Motif" "place")(uAM:qr V):V.Q (n+1) "Motif" "family" cG (ofX (ck (j+1) "Motif")):=by
 refine Txm.okM T Fh (λds M R RX h=>?_) (λ_ _ _ _ _ _ _ J hr hx=>⟨_,((aj (aX (kN (aD uO (ag (aa 0))) (ag bn)) (au (ir (hn:=Ow) uAM hr hx rfl (aA (aD Nd (ag (aa 0))) aS))) aR)
   (au (aE (aD uO (ag (aa 0))))))),λds M R RX c_ h=>?_⟩)
 .obtain⟨_,_,rfl,_⟩|⟨_,rfl,_⟩:=h<;>rfl
 .obtain⟨p,v,rfl,hv,hp,hd,hc,hf,hR⟩|⟨k,rfl,_,_,hX⟩:=h
  rotate_left
  focus
   refine#[_,#[rfl,rfl],_,mo_shifts,_,#[rfl,rfl],_,DF,le_b rfl,(k:Int),rfl,?_];rw[c_];exact hX
  cases p<;>simp only[Pat.cls]at hc<;>try exact absurd hc Nn
  let#[k,w,h,s,rfl,F]:=hv;exact#[_,#[rfl,rfl],_,mo_shifts,_,#[rfl,rfl],_,mo_shifts,hR w h s (Pat.Fam.mot F)]
def Hi(hL:3<=n)(T:V.Tm "Over" "family" "Over.family" iX iY)(Pb:qt V)(uZ:V.a "Over" "above")(x_:V.a "Over" "below")(uJ:∀x,x∈(["Motif","Over","Shifted","Mirror","Turn","Rehue"]:List Mr)->V.Q n x "family" cG (ofX (ck j x))):V.Q (n+1) "Over" "family" iY (ofX (ck (j+1) "Over")):=by
 refine Txm.okM T sc_Over_family (λds M R RX h=>?_) (λ_ _ _ _ _ _ _ J hr hx=>⟨_,((aj (aG 1 sc_Over_family.nd (bY (hn:=Ow) uJ hx hr (aD uZ (ag (aa 0)))))
   (au (aE (aK (hn:=Ow) (CalD.toM Pb) hx hr (aA (ag (aa 1)) (aA (bY (hn:=Ow) uJ hx hr (aD x_ (ag (aa 0)))) aS))))))),λds M R RX c_ h=>?_⟩)
 .obtain⟨_,_,rfl,_⟩|⟨_,rfl,_⟩:=h<;>rfl
 .let#[p,v,rfl,hv,hp,hd,hc,hf,hR]:=h.resolve_right λz=>absurd z.choose_spec.2.2.1 Nn;cases p<;>simp only[Pat.cls]at hc<;>try exact absurd hc Nn
  rename_i p q;let#[u,u',rfl,hu,OX]:=hv;let#[fs,rfl,o1]:=hu.objm;let#[gs,rfl,o2]:=OX.objm;let#[c1,c2,f1,f2]:=hf;rw[Pat.depth]at hd;refine#[λd M'=>(∃w h s,p.Fam w h s/\d=.tup [.int w,.int h,.int s])/\M'=M,#[_,#[rfl,rfl],_,rfl,p.cls,p.cls_mem,fs,#[rfl,rfl],o1.fam,.inl #[p,_,rfl,hu,hp.1,KK,rfl,c1,λw h s F=>#[#[w,h,s,F,rfl],rfl]]],?_];rintro _ _⟨⟨w1,h1,s1,F1,rfl⟩,rfl⟩;k_places;refine#[_,#[rfl,rfl],_,fJ Nn,q.cls,q.cls_mem,gs,#[rfl,rfl],o2.fam,.inl #[q,_,rfl,OX,hp.2,KK,rfl,c2,λw2 h2 s2 F2=>?_]];let#[a1,a2,a3,a4,a5,a6]:=f1.small F1;let#[b1,b2,b3,b4,b5,b6]:=f2.small F2;exact#[w1,h1,s1,w2,h2,s2,rfl,a1,KK,a3,KK,a5,a6,b1,KK,b3,KK,b5,b6,λw h s A MR=>hR w h s (Pat.Fam.over F1 F2 MR)]
def Hj(hL:3<=n)(T:V.Tm "Shifted" "family" "Shifted.family" iZ ja)(uW:V.a "Shifted" "form")(uJ:∀x,x∈(["Motif","Over","Shifted","Mirror","Turn","Rehue"]:List Mr)->V.Q n x "family" cG (ofX (ck j x))):V.Q (n+1) "Shifted" "family" ja (ofX (ck (j+1) "Shifted")):=by
 refine Txm.okM T Fi (λds M R RX h=>?_) (λ_ _ _ _ _ _ _ J hr hx=>#[_,((au (aE (bY (hn:=Ow) uJ hx hr (aD uW (ag (aa 0))))))),λds M R RX c_ h=>?_])
 .obtain⟨_,_,rfl,_⟩|⟨_,rfl,_⟩:=h<;>rfl
 .let#[p,v,rfl,hv,hp,hd,hc,hf,hR]:=h.resolve_right λz=>absurd z.choose_spec.2.2.1 Nn;cases p<;>simp only[Pat.cls]at hc<;>try exact absurd hc Nn
  rename_i a b p;let#[u,rfl,hu]:=hv;let#[fs,rfl,o1]:=hu.objm;rw[Pat.depth]at hd;refine#[_,#[rfl,rfl],_,rfl,p.cls,p.cls_mem,fs,#[rfl,rfl],o1.fam,.inl #[p,_,rfl,hu,hp.2.2,KK,rfl,hf,λw h s F=>?_]];exact hR w h s (F.sh a b)
def Hk(hL:3<=n)(T:V.Tm "Mirror" "family" "Mirror.family" jb jc)(Pc:qu V)(uY:V.a "Mirror" "form")(uJ:∀x,x∈(["Motif","Over","Shifted","Mirror","Turn","Rehue"]:List Mr)->V.Q n x "family" cG (ofX (ck j x))):V.Q (n+1) "Mirror" "family" jc (ofX (ck (j+1) "Mirror")):=by
 refine Txm.okM T Fj (λds M R RX h=>?_) (λ_ _ _ _ _ _ _ J hr hx=>#[_,((au (aE (aK (hn:=Ow) (CalD.toM Pc) hx hr (aA (bY (hn:=Ow) uJ hx hr (aD uY (ag (aa 0)))) aS))))),λds M R RX c_ h=>?_])
 .obtain⟨_,_,rfl,_⟩|⟨_,rfl,_⟩:=h<;>rfl
 .let#[p,v,rfl,hv,hp,hd,hc,hf,hR]:=h.resolve_right λz=>absurd z.choose_spec.2.2.1 Nn;cases p<;>simp only[Pat.cls]at hc<;>try exact absurd hc Nn
  rename_i p;let#[u,rfl,hu]:=hv;let#[fs,rfl,o1]:=hu.objm;rw[Pat.depth]at hd;refine#[_,#[rfl,rfl],_,rfl,p.cls,p.cls_mem,fs,#[rfl,rfl],o1.fam,.inl #[p,_,rfl,hu,hp,KK,rfl,hf,λw h s F=>?_]];exact#[w,h,s,rfl,F.f.w0,hR w h _ F.mir]
def Hl(hL:3<=n)(T:V.Tm "Turn" "family" "Turn.family" jd je)(Pd:qv V)(y7:V.a "Turn" "form")(uJ:∀x,x∈(["Motif","Over","Shifted","Mirror","Turn","Rehue"]:List Mr)->V.Q n x "family" cG (ofX (ck j x))):V.Q (n+1) "Turn" "family" je (ofX (ck (j+1) "Turn")):=by
 refine Txm.okM T Fk (λds M R RX h=>?_) (λ_ _ _ _ _ _ _ J hr hx=>#[_,((au (aE (aK (hn:=Ow) (CalD.toM Pd) hx hr (aA (bY (hn:=Ow) uJ hx hr (aD y7 (ag (aa 0)))) aS))))),λds M R RX c_ h=>?_])
 .obtain⟨_,_,rfl,_⟩|⟨_,rfl,_⟩:=h<;>rfl
 .let#[p,v,rfl,hv,hp,hd,hc,hf,hR]:=h.resolve_right λz=>absurd z.choose_spec.2.2.1 Nn;cases p<;>simp only[Pat.cls]at hc<;>try exact absurd hc Nn
  rename_i p;let#[u,rfl,hu]:=hv;let#[fs,rfl,o1]:=hu.objm;rw[Pat.depth]at hd;refine#[_,#[rfl,rfl],_,rfl,p.cls,p.cls_mem,fs,#[rfl,rfl],o1.fam,.inl #[p,_,rfl,hu,hp,KK,rfl,hf.1,λw h s F=>?_]];let#[a1,a2,a3,a4,a5,a6]:=hf.2.small F;exact#[w,h,s,rfl,a1,a3,KK,KK,a5,KK,λw' h' s' F'=>hR w' h' s' (F.tur F')]
def Hm(hL:3<=n)(T:V.Tm "Rehue" "family" "Rehue.family" jg jh)(y8:V.a "Rehue" "form")(uJ:∀x,x∈(["Motif","Over","Shifted","Mirror","Turn","Rehue"]:List Mr)->V.Q n x "family" cG (ofX (ck j x))):V.Q (n+1) "Rehue" "family" jh (ofX (ck (j+1) "Rehue")):=by
 refine Txm.okM T Fo (λds M R RX h=>?_) (λ_ _ _ _ _ _ _ J hr hx=>#[_,((au (aE (bY (hn:=Ow) uJ hx hr (aD y8 (ag (aa 0))))))),λds M R RX c_ h=>?_])
 .obtain⟨_,_,rfl,_⟩|⟨_,rfl,_⟩:=h<;>rfl
 .let#[p,v,rfl,hv,hp,hd,hc,hf,hR]:=h.resolve_right λz=>absurd z.choose_spec.2.2.1 Nn;cases p<;>simp only[Pat.cls]at hc<;>try exact absurd hc Nn
  rename_i f g p;let#[u,rfl,hu]:=hv;let#[fs,rfl,o1]:=hu.objm;rw[Pat.depth]at hd;refine#[_,#[rfl,rfl],_,rfl,p.cls,p.cls_mem,fs,#[rfl,rfl],o1.fam,.inl #[p,_,rfl,hu,hp.2.2,KK,rfl,hf,λw h s F=>?_]];exact hR w h s (F.hue f g)
def Hn(Tq:V.Tm "Motif" "family" "Motif.family" iW cG)(Tr:V.Tm "Over" "family" "Over.family" iX iY)(Ts:V.Tm "Shifted" "family" "Shifted.family" iZ ja)(Tt:V.Tm "Mirror" "family" "Mirror.family" jb jc)(Tu:V.Tm "Turn" "family" "Turn.family" jd je)(Tv:V.Tm "Rehue" "family" "Rehue.family" jg jh)(uO:V.a "Motif" "shifts")(Nd:V.a "Motif" "place")(uAM:qr V)(Pb:qt V)(uZ:V.a "Over" "above")(x_:V.a "Over" "below")(uW:V.a "Shifted" "form")(Pc:qu V)(uY:V.a "Mirror" "form")(Pd:qv V)(y7:V.a "Turn" "form")(y8:V.a "Rehue" "form"):∀j x,x∈(["Motif","Over","Shifted","Mirror","Turn","Rehue"]:List Mr)->V.Q (3+j) x "family" cG (ofX (ck j x)):=by
 intro j;induction j with
 |zero=>
  intro x hx;simp only[Ik,JF,or_false]at hx;rcases hx with rfl|rfl|rfl|rfl|rfl|rfl
  .exact CalMth.never Tq (λds M R RX=>fK)
  .exact CalMth.never Tr (λds M R RX=>fK)
  .exact CalMth.never Ts (λds M R RX=>fK)
  .exact CalMth.never Tt (λds M R RX=>fK)
  .exact CalMth.never Tu (λds M R RX=>fK)
  .exact CalMth.never Tv (λds M R RX=>fK)
 |succ j Pe=>
  intro x hx;simp only[Ik,JF,or_false]at hx;rcases hx with rfl|rfl|rfl|rfl|rfl|rfl
  .exact ok_Motif_family (n:=3+j) (j:=j) Ow Tq uO Nd uAM
  .exact Hi (n:=3+j) (j:=j) Ow Tr Pb uZ x_ Pe
  .exact Hj (n:=3+j) (j:=j) Ow Ts uW Pe
  .exact Hk (n:=3+j) (j:=j) Ow Tt Pc uY Pe
  .exact Hl (n:=3+j) (j:=j) Ow Tu Pd y7 Pe
  .exact Hm (n:=3+j) (j:=j) Ow Tv y8 Pe
abbrev xb(V:Bx):Prop:=V.MM 18 "form_from" cL (dL 6)
abbrev xc(V:Bx):Prop:=∀x,x∈(["Motif","Over","Shifted","Mirror","Turn","Rehue"]:List Mr)->V.Q 9 x "family" cG (ofX (ck 6 x))
abbrev jr(V:Bx):Prop:=V.X 19 "read" oI S_read
def Ho(T:V.T "read" oH oI)(uA:V.m "len")(uK:xb V)(RL:V.gi "MOST" 720)(uH:V.a "Reading" "place")(RN:wY V)(RO:wZ V)(uJ:xc V)(uAG:qh V)(RP:V.n "TooGreat"):jr V:=by
 refine CalMM.nilX (Tx.okM T sc_read (λds M R RX h=>?_) (λ_ _ _ _ _ _ _ J hr hx=>⟨_,((aj (aG 1 sc_read.nd (Br RN hr (ax (ac (aa 0) ae))))
   (aj (aG 2 sc_read.nd (aK uK hx hr (ax (ac (aa 1) (ac ad ae)))))
   (aj (aX (tZ (aD uH (ag (aa 1))) (ag (bB uA (ac (aa 0) ae)))) (au (ir uAG hr hx rfl (aA (aD uH (ag (aa 1))) aS))) aR)
   (aj (aG 3 sc_read.nd (bY uJ hx hr (ag (aa 2))))
   (aj (aX (bp (jY (az (af (aa 3) ad) (af (aa 3) ad)) (fu RL))) (au (kQ RP hx rfl (ax (ac av ae)))) aR)
   (au (aE (ag (kA RO hr (ac (aa 0) (ac (aa 3) (ac (aa 2) ae))))))))))))),λds M R RX c_ h=>?_⟩))
 .obtain⟨_,R0,w_,⟨_,_,⟨rfl,_⟩|⟨_,_,rfl,_⟩|⟨rfl,_⟩⟩,_⟩:=h<;>rfl
 .let#[rfl,R0,w_,#[p,Rz,hc],hR,hX]:=h;let#[t,o,l,rfl,k8,Op,c8,hk]:∃(t:Mr) (o:Bool) (l:List Nat),ds=[.str t]/\t.length<=100000/\cs t=cutL o p.tl l/\(p.Wf\/p.LineM)/\two o ((l=[]/\t=p.text/\((p.Wf/\p.Cal/\(∀w h s,p.Fam w h s->w<=1000000)/\(p.Fits->∀d,bg p d->R0 d)/\(¬p.Fits->w_ "TooGreat" []))\/(p.LineM/\w_ "OneLine" [("place",.int (0:Nat))])))\/∃c,l=[c]/\w_ "WrongSign" [("place",.int p.tl.length)]) (w_ "WrongSign" [("place",.int t.length)]):=by
   rcases hc with⟨e,h1,h2⟩|⟨h1,t,e,h2⟩|⟨e,h1,h2⟩
   .have:=Pat.text_short h1 Rz;exact#[_,false,[],e,KK,by rw[ce];exact(IQ _).symm,.inl h1,.inl #[rfl,rfl,.inl #[h1,h2]]]
   .have h3:=Pat.text_short h1 Rz;rw[vE]at h3;rcases h2 with⟨h2,hx⟩|⟨c,h2,hx⟩
    .exact#[t,true,[],e,by rw[<-aZ,h2,Kw];lia,h2,.inl h1,hx]
    .exact#[t,false,[c],e,by rw[<-aZ,h2,Ix,JM];lia,h2,.inl h1,.inr #[c,rfl,hx]]
   .have:=DP h1;exact#[_,false,[],e,KK,by rw[ce];exact(IQ _).symm,.inr h1,.inl #[rfl,rfl,.inr #[h1,h2]]]
  clear hc;have d8:At t 0 (cutL o p.tl l):=#[Op,IL _,k8];refine#[λd M'=>∃a,d=.ptr a/\M'=RdM a t 0,#[_,rfl,λa _=>#[a,rfl,rfl]],?_];rintro _ _⟨a,rfl,rfl⟩;k_places;refine#[λv M'=>o=false/\FormL p 0 v/\M'=RdM a t p.tl.length,#[a,t,0,p,o,l,0,rfl,rfl,d8,rfl,Nk,c8,KK,?_],?_]
  .cases o with
   |true=>intro M';rw[c_];exact hX _ _ _ hk
   |false=>exact λv h=>#[rfl,h,by rw[KS]]
  rintro v _⟨rfl,hv,rfl⟩;k_places;have b9:t.length=p.tl.length+l.length:=by rw[<-aZ,Op];exact Ix
  rcases hk with⟨rfl,rfl,hk⟩|⟨c,rfl,hk⟩
  rotate_left
  focus
   refine#[_,aU,_,cY,KK,ite2 (λ_=>?_) (λc=>absurd (decide_eq_true (by rw[b9,JM];lia)) c)];refine#[_,aU,_,cY,le_b rfl,(p.tl.length:Int),rfl,?_];rw[c_];exact hX _ _ _ hk
  refine#[_,aU,_,cY,KK,ite2 (λc=>absurd (of_decide_eq_true c) (by rw[b9,Lf];lia)) (λ_=>?_)];rcases hk with⟨p7,RQ,hw,hG,Vd⟩|⟨hl,hk⟩
  rotate_left
  focus
   let#[_,rfl]:=hv.resolve_left λz=>by
    cases p with
    |mot L a b c d=>exact absurd hl.2.2.2.2.2 z.1.2.2.2.2.2
    |_=>exact hl.elim
   refine#[λ_ _=>False,#["Motif",.head _,_,#[rfl,rfl],DM,.inr #[0,rfl,Nk,rfl,?_]],λ_ _ z=>z.elim];rw[c_];exact hX _ _ _ hk
  have hv:=hv.good p7;let#[fs,rfl,o1]:=hv.objm;refine#[λd M'=>∃w h s,p.Fam w h s/\d=.tup [.int w,.int h,.int s],#[p.cls,p.cls_mem,fs,#[rfl,rfl],o1.fam,.inl #[p,_,rfl,hv,p7,KK,rfl,RQ,λw h s F=>#[w,h,s,F,rfl]]],?_];rintro _ M'⟨w,h,s,F,rfl⟩;k_places;have VN:=hw w h s F;have UJ:=F.f.w0;refine#[_,rfl,_,rfl,.inl #[KK,KK],ite2 (λc=>?_) (λc=>?_)]
  .have c2:=of_decide_eq_true c;refine#[le_b rfl,?_];rw[c_];refine hX _ _ _ (Vd λ⟨w',h',s',F',hb⟩=>?_);let#[rfl,rfl,_]:=F.uniq F';lia
  .have c2:¬(720<w*h):=λz=>c (decide_eq_true z);exact#[_,_,_,_,_,_,rfl,hR _ _ (hG #[w,h,s,F,KK] _ #[_,_,s,_,rfl,rfl,fJ Nn,#[F,#[_,lD Nn Nn,hv],by simp[noLF,noL,noLs,o1.nl]]])]
def Hq:SpD:=λds R=>∃(p q:Pat) (d e:D) (w h:Int),ds=[d,e,.int w,.int h]/\bg p d/\bg q e/\p.Ok/\q.Ok/\0<=w/\w<=720/\0<=h/\h<=720/\((∀x y:Int,0<=x->x<w->0<=y->y<h->p.show x y=q.show x y)->R .non)/\∀x y:Int,0<=x->x<w->0<=y->y<h->p.show x y≠q.show x y->(∀x' y':Int,0<=x'->x'<w->0<=y'->(y'<y\/(y'=y/\x'<x))->p.show x' y'=q.show x' y')->R (.tup [.int x,.int y])
abbrev xg(V:Bx):Prop:=V.D 9 "first_unlike" oK Hq
def Hr(T:V.T "first_unlike" oJ oK)(uB:V.m "range")(NJ:qd V):xg V:=by
 refine Tx.okDW T sc_first_unlike (λds R h=>?_) (λ_ _ _ _ _ _ _ J hr=>⟨_,((ai (cf 4 PassesOwn.never rfl sc_first_unlike.nd uB (aa 3) (aq (cf 5 PassesOwn.never rfl sc_first_unlike.nd uB (aa 2) (aq (bA (cr (ay (CalX.no NJ) hr (ac (aa 0) (ac (aa 5) (ac (aa 4) ae)))) (ay (CalX.no NJ) hr (ac (aa 1) (ac (aa 5) (ac (aa 4) ae))))) (aq (aH (aI (ac (aa 5) (ac (aa 4) ae))))) bo)))))
   (aq (aH bn)))),λds R h=>?_⟩)
 .let#[_,_,_,_,_,_,rfl,_]:=h;rfl
 .let#[p,q,d,e,w,h,rfl,hd,he,q8,h_,w0,w7,h0,h7,hN,hS]:=h;let#[wd,f9,sd,fs,rfl,q1,q2,fam]:=hd;have hd:bg p (.obj "Pattern" fs):=#[wd,f9,sd,fs,rfl,q1,q2,fam];let#[Ve,NN,Vf,PN,rfl,q3,q4,RR]:=he;have he:bg q (.obj "Pattern" PN):=#[Ve,NN,Vf,PN,rfl,q3,q4,RR];refine#[#[KK,KK],λk z=>∃o4 o5,z=[be (.obj "Pattern" fs),be (.obj "Pattern" PN),be (.int w),be (.int h),o4,o5]/\∀x y:Int,0<=x->x<w->0<=y->y<k->p.show x y=q.show x y,#[_,_,rfl,λx y _ _ a b=>KK],?_,?_]
  .rintro k v z hk⟨o4,o5,rfl,hj⟩;k_places;let#[p_,rfl]:=bQ hk;refine#[#[KK,KK],λi z=>∃o5,z=[be (.obj "Pattern" fs),be (.obj "Pattern" PN),be (.int w),be (.int h),be (.int k),o5]/\∀x:Int,0<=x->x<i->p.show x k=q.show x k,#[_,rfl,λx a b=>KK],?_,?_]
   .rintro i v z hi⟨o5,rfl,j9⟩;k_places;let#[C_,rfl]:=bQ hi;have nn:br (i:Int)/\br (k:Int):=#[#[KK,KK],KK,KK];refine#[p,_,i,k,rfl,hd,q8,λ_=>#[q,_,i,k,rfl,he,h_,λ_=>?_,λn=>n nn],λn=>n nn];refine ite2 (λc=>?_) (λc=>?_)
    .refine#[le_b rfl,hS i k KK KK KK KK (λz=>by simp[z]at c) λx' y' a b c d=>?_];rcases d with d|⟨rfl,d⟩
     .exact hj x' y' a b c KK
     .exact j9 x' a KK
    .have c':p.show i k=q.show i k:=by simpa using c
     refine#[_,rfl,λx a b=>?_];by_cases e:x=i
     .rw[e];exact c'
     .exact j9 x a KK
   .rintro z⟨o5,rfl,j9⟩;k_places;rw[bF]at j9;refine#[_,_,rfl,λx y a b c d=>?_];by_cases e:y=k
    .rw[e];exact j9 x a KK
    .exact hj x y a b c KK
  .rintro z⟨o4,o5,rfl,hj⟩;k_places;rw[bF]at hj;exact hN λx y a b c d=>hj x y a b c KK
def Hs:SiD:=λds R=>∃x y:Int,ds=[.int x,.int y]/\R [("y",.int y),("x",.int x)]
abbrev xh(V:Bx):Prop:=V.E 1 "Parted" oN Hs
def Ht(T:V.Te "Parted" "Parted.__init__" oM oN)(ML:V.b "MotifError")(uAK:V.ea "Parted")(RS:V.xf "Parted" "x")(RT:V.xf "Parted" "y"):xh V:=by
 refine Txe.okE T Fp (λds R h=>?_) (λ_ _ _ _ _ _ _ J hr=>#[_,((kE ML uAK (ac (aa 1) (ac (aa 2) ae)) (kF uAK RS (aa 1) (Ep uAK RT (aa 2) kD)))),λds R h=>?_])
 .let#[_,_,rfl,_]:=h;rfl
 .let#[x,y,rfl,hR]:=h;exact#[le_b rfl,rfl,#[(λz=>nomatch z),le_b rfl],hR]
def Hu:SpM:=λds M R _=>∃a q f p d,ds=[.ptr a,d]/\a≠q/\M=Fl.M f a q/\bg p d/\R .non ((f.stand p d).M a q)
abbrev qw(V:Bx):Prop:=V.Q 1 "Floor" "stand" oP Hu
def Hv(T:V.Tm "Floor" "stand" "Floor.stand" oO oP)(uF:V.a "Floor" "pattern")(uX:V.a "Floor" "text")(N9:V.a "Pattern" "text"):qw V:=by
 refine CalMth.drop (Txm.okM T Fq (λds M R RX h=>?_) (λ_ _ _ _ _ _ _ J hr hx=>⟨_,((aj (bZ uF (ag (aa 0)) (ag (aa 1)))
   (au (bZ uX (ag (aa 0)) (aD N9 (ag (aa 1))))))),λds M R RX c_ h=>?_⟩))
 .let#[_,_,#[_,_,_,_,_,rfl,_],_]:=h;rfl
 .let#[R,RX,#[a,q,f,p,d,rfl,ne,rfl,#[wd,f9,sd,fs,rfl,e1,e2,fam],hR],rfl,rfl]:=h;refine#[_,Fl.ma ne,le_b rfl,?_];rw[Fl.put ne];refine#[fs,#[rfl,rfl],_,e1,_,(eA (Ne.symm ne)).trans cH,le_b rfl,_,?_,hR];rw[eB (Ne.symm ne),cM];exact Fl.sub (f:=f.stand p _) ne
def Fl.chg(f:Fl)(a:Pi)(R:D->MS->Prop)(RX:XDM)(M:MS):D->Prop:=λd=>∃p,bg p d/\p.Ok/\(Same2 f.p p f.w f.l->∀q',a≠q'->R .non (((f.keep "change").stand p d).M a q'))/\∀x y,First2 f.p p f.w f.l x y->RX "Parted" [("y",.int y),("x",.int x)] M
def Hw:SpM:=λds M R RX=>∃a q f t,ds=[.ptr a,.str t]/\a≠q/\M=Fl.M f a q/\f.Ok/\S_read [.str t] (f.chg a R RX M) (λx fs=>RX x fs M)
abbrev qy(V:Bx):Prop:=V.Q 20 "Floor" "change" oR Hw
def Hx(T:V.Tm "Floor" "change" "Floor.change" oQ oR)(MQ:jr V)(RU:xg V)(uE:V.a "Floor" "laid")(uL:V.a "Floor" "width")(uF:V.a "Floor" "pattern")(N5:pZ V)(N_:qw V)(uBB:xh V):qy V:=by
 refine CalMth.drop (Txm.okM T sc_Floor_change (λds M R RX h=>?_) (λ_ _ _ _ _ _ _ J hr hx=>⟨_,((aj (aG 2 sc_Floor_change.nd (aK (CalX.toM MQ) hx hr (ax (ac (aa 1) ae))))
   (aj (aG 3 sc_Floor_change.nd (aK (CalD.toM RU) hx hr (aA (aD uF (ag (aa 0))) (aA (ag (aa 2)) (aA (aD uL (ag (aa 0))) (aA (aD uE (ag (aa 0))) aS))))))
   (aj (aX (bp (Ag (aa 3) bn)) (au (ir uBB hr hx rfl (ax (ac (af (aa 3) ad) (ac (af (aa 3) ad) ae))))) aR)
   (aj (bO (aT (CalMth.one N5) hx hr (ag (aa 0)) (ax (ac av ae))))
   (au (bO (aT (CalMth.one N_) hx hr (ag (aa 0)) (ax (ac (aa 2) ae)))))))))),λds M R RX c_ h=>?_⟩))
 .let#[_,_,#[_,_,_,_,rfl,_],_]:=h;rfl
 .let#[R,RX,#[a,q,f,t,rfl,ne,rfl,ok,hR],rfl,rfl]:=h;have w1:=ok.w1;have w2:=ok.w2;have l0:=ok.l0;have l1:=ok.l1;have h2:=ok.h2;refine#[λd M'=>M'=f.M a q/\f.chg a R RX (f.M a q) d,S_read.mono hR (λd h=>#[rfl,h]) (λx fs z=>?_),?_]
  .show J.RM _ _ x fs;rw[c_];exact#[_,Fl.sub ne,z]
  rintro d _⟨rfl,p,hd,q8,hS,hP⟩;k_places;let#[wd,f9,sd,fs,rfl,e1,e2,fam]:=hd;have hd:bg p (.obj "Pattern" fs):=#[wd,f9,sd,fs,rfl,e1,e2,fam];refine#[λc M'=>M'=f.M a q/\((c=.non/\Same2 f.p p f.w f.l)\/∃x y,c=.tup [.int x,.int y]/\First2 f.p p f.w f.l x y),?_,?_]
  .exact#[_,Fl.ma ne,_,gD,_,Fl.ma ne,_,fM,_,Fl.ma ne,_,eE,f.p,p,f.d,_,f.w,f.l,rfl,ok.is,hd,ok.ok,q8,KK,KK,l0,KK,λh=>#[rfl,.inl #[rfl,h]],λx y h1 h2 h3 h4 h5 h6=>#[rfl,.inr #[x,y,rfl,#[h1,h2,h3,h4],h5,h6]]]
  rintro c _⟨rfl,⟨rfl,same⟩|⟨x,y,rfl,hf⟩⟩;k_places
  .refine#[_,Ih.mpr rfl,_,Fl.ma ne,rfl,a,q,f,"change",rfl,ne,rfl,ok.de,λq' f8=>?_];exact#[_,Ih.mpr rfl,_,Fl.ma f8,rfl,a,q',_,p,_,rfl,f8,rfl,hd,_,Fl.sub f8,hS same q' f8]
  .refine#[_,rfl,_,rfl,le_b rfl,x,y,rfl,?_];rw[c_];exact#[_,Fl.sub ne,hP x y hf]
def Hy:SpM:=λds M R _=>∃a q f p,ds=[.ptr a,.str (Pat.text p)]/\a≠q/\M=Fl.M f a q/\f.Ok/\p.Ok/\(Same2 f.p p f.w f.l->∀q' d,bg p d->a≠q'->R (.tup [.str "let in"]) (((f.keep "change").stand p d).M a q'))/\∀x y,First2 f.p p f.w f.l x y->R (.tup [.str "parted",.int x,.int y]) (f.M a q)
abbrev xi(V:Bx):Prop:=V.MM 21 "_law_change" oU Hy
def Hz(T:V.T "_law_change" oS oU)(Oa:qy V)(RV:V.x "y" ["Parted"])(RW:V.x "x" ["Parted"])(ek:gI V):xi V:=by
 refine(Tx.okM T sc__law_change (λds M R RX h=>?_) (λ_ _ _ _ _ _ _ J hr hx=>⟨_,((aj (aG 2 sc__law_change.nd (ag bn))
   (aj (iy (λpn xe J hp hx=>(au (iu (kN (aT (CalMth.one Oa) hx hr (ag (aa 0)) (ax (ac (aa 1) ae))) (ag bn)) (au (aG 2 sc__law_change.nd (ag (aI (ac av ae))))) aR))) (λ_=>(kH 3 ek sc__law_change.nd (λe=>(aq (ao 2 sc__law_change.nd (aI (ac av (ac (ig RW (aa 3)) (ac (ig RV (aa 3)) ae))))))) ie)))
   (au (aE (ag (aa 2))))))),λds M R RX c_ h=>?_⟩))
 .let#[_,_,_,_,rfl,_]:=h;rfl
 .let#[a,q,f,p,rfl,ne,rfl,ok,q8,hS,hP]:=h;refine#[λd M'=>d=.non/\M'=f.M a q,#[rfl,rfl],?_];rintro _ _⟨rfl,rfl⟩;k_places;refine#[λz M' x fs=>z=[be (.ptr a),be (.str p.text),be .non,z6]/\M'=f.M a q/\x="Parted"/\∃x y,fs=([("y",.int y),("x",.int x)]:List (Mr×D))/\First2 f.p p f.w f.l x y,λJ hJ=>?_,?_]
  .refine#[λz M'=>Same2 f.p p f.w f.l/\∃q' d,bg p d/\a≠q'/\z=[be (.ptr a),be (.str p.text),be (.tup [.str "let in"]),z6]/\M'=((f.keep "change").stand p d).M a q',?_,λz M' ⟨c,q',d,hd,f8,e1,e2⟩=>?_]
   .refine#[_,Ih.mpr rfl,_,Fl.ma ne,rfl,a,q,f,p.text,rfl,ne,rfl,ok,lF q8 λd hd=>#[p,hd,q8,λc q' f8=>?_,λx y hf=>by rw[hJ];exact#[rfl,rfl,rfl,x,y,rfl,hf]]];dsimp only[mP,dC,rdIs,jW,id];rw[if_pos rfl];refine#[λe M'=>e=.tup [.str "let in"]/\M'=((f.keep "change").stand p d).M a q',#[le_b rfl,rfl,rfl],?_];rintro _ _⟨rfl,rfl⟩;k_places;exact#[c,q',d,hd,f8,rfl,rfl]
   .subst e1 e2;exact hS c q' d hd f8
  .rintro z M' x fs⟨rfl,rfl,rfl,x,y,rfl,hf⟩;k_places;refine#[#[Nq,Nq],?_];rw[if_pos Nn];refine#[λd=>d=.tup [.str "parted",.int x,.int y],#[Ih.mpr rfl,_,rfl,Ih.mpr rfl,_,rfl,le_b rfl,rfl],?_];rintro _ rfl;k_places;exact#[hP x y hf,NoOwn.of rfl]
def HA:SpD:=λds R=>∃(p q:Pat) (w:Int) (n m:Nat),ds=[.lst (aB p w 0 n),.lst (aB q w 0 m)]/\p.Ok/\q.Ok/\0<=w/\w<=30/\n<=m/\m<=30/\(Same2 p q w n->R .non)/\∀x y,First2 p q w n x y->R (.tup [.int x,.int y])
abbrev xj(V:Bx):Prop:=V.D 1 "_law_parted" oW HA
def HB(T:V.T "_law_parted" oV oW)(uB:V.m "range")(uA:V.m "len"):xj V:=by
 refine Tx.okDW T sc__law_parted (λds R h=>?_) (λ_ _ _ _ _ _ _ J hr=>⟨_,((ai (cf 2 PassesOwn.never rfl sc__law_parted.nd uB (bB uA (ac (aa 0) ae)) (aq (cf 3 PassesOwn.never rfl sc__law_parted.nd uB (bB uA (ac (af (aa 0) (aa 2)) ae)) (aq (bA (cr (af (af (aa 0) (aa 2)) (aa 3)) (af (af (aa 1) (aa 2)) (aa 3))) (aq (aH (aI (ac (aa 3) (ac (aa 2) ae))))) bo)))))
   (aq (aH bn)))),λds R h=>?_⟩)
 .let#[_,_,_,_,_,rfl,_]:=h;rfl
 .let#[p,q,w,n,m,rfl,q8,h_,w0,w7,nm,m7,hN,hS]:=h;have lp:∀{p:Pat} {n:Nat},(aB p w 0 n).length=n:=λ{p n}=>by unfold aB;simp
  refine#[#[KK,by rw[lp];lia],λk z=>∃o2 o3,z=[be (.lst (aB p w 0 n)),be (.lst (aB q w 0 m)),o2,o3]/\Same2 p q w k,#[_,_,rfl,λx y _ _ a b=>KK],?_,?_]
  .rintro k v z hk⟨o2,o3,rfl,hj⟩;k_places;let#[p_,rfl]:=bQ hk;rw[lp]at p_;have a1:=pR (p:=p) (w:=w) (lo:=0) (show k<n by lia);have a2:=pR (p:=q) (w:=w) (lo:=0) (show k<m by lia);rw[JH]at a1 a2;refine#[_,a1,by rw[cE];lia,#[by rw[cE];lia,by rw[cE];lia],λi z=>∃o3,z=[be (.lst (aB p w 0 n)),be (.lst (aB q w 0 m)),be (.int k),o3]/\∀x:Int,0<=x->x<i->p.show x k=q.show x k,#[_,rfl,λx a b=>KK],?_,?_]
   .rintro i v z hi⟨o3,rfl,j9⟩;k_places;let#[C_,rfl]:=bQ hi;rw[cE]at C_;have b1:=wv (p:=p) (y:=(k:Int)) (show i<w.toNat by lia);have b2:=wv (p:=q) (y:=(k:Int)) (show i<w.toNat by lia);refine#[_,a1,_,#[by rw[cE];lia,b1],_,a2,_,#[by rw[cE];lia,b2],ite2 (λc=>?_) (λc=>?_)]
    .refine#[le_b rfl,hS i k #[#[KK,KK,KK,KK],λz=>by simp[z]at c,λx' y' a b c d=>?_]];rcases d with d|⟨rfl,d⟩
     .exact hj x' y' a b c KK
     .exact j9 x' a KK
    .have c':(#[[aV (p.show i k)].toArray]:Mr)=#[[aV (q.show i k)].toArray]:=by simpa using c
     have c2:=FK (Pat.show_le q8.wf (by have:=q8.deep;lia) _ _).1 (Pat.show_le h_.wf (by have:=h_.deep;lia) _ _).1 (one_inj c');refine#[_,rfl,λx a b=>?_];by_cases e:x=i
     .rw[e];exact c2
     .exact j9 x a KK
   .rintro z⟨o3,rfl,j9⟩;k_places;rw[bF,Jb,cE]at j9;refine#[_,_,rfl,λx y a b c d=>?_];by_cases e:y=k
    .rw[e];exact j9 x a KK
    .exact hj x y a b c KK
  .rintro z⟨o2,o3,rfl,hj⟩;k_places;rw[bF,lp,Jb]at hj;exact hN hj
abbrev gJ(V:Bx):Prop:=V.D 1 "_law_whole" oY Co
def HC(T:V.T "_law_whole" oX oY)(uN:V.m "isinstance")(RY:V.m "bool")(uD:V.m "int"):gJ V:=by
 refine Tx.okDW T Fs (λds R h=>?_) (λ_ _ _ _ _ _ _ J hr=>#[_,((aq (aH (dA (eX uN uD (aa 0) PyProof.Rows.boot_int Ak) (dz (Aj (eX uN RY (aa 0) PyProof.Rows.boot_bool kit_bool))))))),λds R h=>?_])
 .let#[i,rfl,_]:=h;rfl
 .let#[i,rfl,hR]:=h;exact hR
def HD:SpM:=λds M R _=>∃(a q:Pi) (f:Fl) (dr:Int),ds=[.ptr a,.str f.p.text,.int dr]/\a≠q/\M=Fl.M f a q/\f.Ok/\R (.bl true) (f.M a q)
abbrev xk(V:Bx):Prop:=V.MM 21 "_law_bad" pd HD
def HE(T:V.T "_law_bad" oZ pd)(uA:V.m "len")(uQ:gJ V)(Oa:qy V)(PP:V.x "place" ["WrongSign","OneLine"])(ek:gI V):xk V:=by
 refine(Tx.okM T sc__law_bad (λds M R RX h=>?_) (λ_ _ _ _ _ _ _ J hr hx=>⟨_,((aj (aG 3 sc__law_bad.nd (ag (af (aQ (ac (bK (aa 1) bV (bz (bx ad))) (ac (am (aa 1) av) (ac av (ac av ae))))) (aF (aa 2) ad))))
   (aj (aG 4 sc__law_bad.nd (ag (aI (ac av (ac ad ae)))))
   (aj (iy (λpn xe J hp hx=>(au (bO (aT (CalMth.one Oa) hx hr (ag (aa 0)) (ax (ac (aa 3) ae)))))) (λ_=>(kH 5 ek sc__law_bad.nd (λe=>(aq (ao 4 sc__law_bad.nd (aI (ac av (ac (ig PP (aa 5)) ae)))))) (kH 5 ek sc__law_bad.nd (λe=>(aq (ao 4 sc__law_bad.nd (aI (ac av (ac (ig PP (aa 5)) ae)))))) (kG ek (λe=>(aq (ao 4 sc__law_bad.nd (aI (ac av (ac ad ae)))))) ie)))))
   (aj (aG 6 sc__law_bad.nd (ag (af (aQ (ac (aI (ac av (ac (bj (bB uA (ac (aa 1) ae)) ad) ae))) (ac (aI (ac av (ac (bB uA (ac (aa 1) ae)) ae))) (ac (aI (ac av (ac ad ae))) (ac (aI (ac av (ac ad ae))) ae))))) (aF (aa 2) ad))))
   (au (aE (ag (dA (ay uQ hr (ac (af (aa 4) ad) ae)) (dz (sQ (dP hr) (aa 4) (aa 6)))))))))))),λds M R RX c_ h=>?_⟩))
 .let#[_,_,_,_,rfl,_]:=h;rfl
 .let#[a,q,f,dr,rfl,ne,rfl,ok,hR]:=h;have l8:=Pat.text_short ok.ok.wf ok.ok.deep;let#[t,w,k,hb,et,ew]:=bad4 ok.ok dr;refine#[λd M'=>d=.str t/\M'=f.M a q,#[KK,by rw[show("]":Mr).length=1 from rfl];lia,le_b rfl,Nk,_,et,rfl,rfl],?_];rintro _ _⟨rfl,rfl⟩;k_places;refine#[λd M'=>d=.tup [.str "none",.int 0]/\M'=f.M a q,#[le_b rfl,rfl,rfl],?_];rintro _ _⟨rfl,rfl⟩;k_places;refine#[λz M' x fs=>z=[be (.ptr a),be (.str f.p.text),be (.int dr),be (.str t),be (.tup [.str "none",.int 0]),z6,z6]/\M'=f.M a q/\ErrW w k x fs,λJ hJ=>?_,?_]
  .refine#[_,Ih.mpr rfl,_,Fl.ma ne,rfl,a,q,f,t,rfl,ne,rfl,ok,S_read.mono hb (λ_ z=>z.elim) λx fs z=>?_];show J.RM _ _ x fs;rw[hJ];exact#[rfl,rfl,z]
  rintro z M' x fs⟨rfl,rfl,⟨rfl,rfl,rfl⟩|⟨rfl,rfl,rfl⟩|⟨rfl,rfl,rfl,rfl⟩⟩;k_places
  focus
   refine#[#[Nq,Nq],?_];rw[if_pos Nn];refine#[λd=>d=.tup [.str "wrong",.int k],#[Nk,_,rfl,le_b rfl,rfl],?_];rintro _ rfl;k_places;refine#[?_,NoOwn.of rfl]
  rotate_left
  focus
   refine#[#[Nq,Nq],?_];rw[if_neg Nn];refine#[#[Nq,Nq],?_];rw[if_pos Nn];refine#[λd=>d=.tup [.str "line",.int k],#[Nk,_,rfl,le_b rfl,rfl],?_];rintro _ rfl;k_places;refine#[?_,NoOwn.of rfl]
  rotate_left
  focus
   refine#[#[Nq,Nq],?_];rw[if_neg Nn];refine#[#[Nq,Nq],?_];rw[if_neg Nn];refine#[#[Nq,Nq],?_];rw[if_pos Nn];refine#[λd=>d=.tup [.str "great",.int 0],#[le_b rfl,rfl],?_];rintro _ rfl;k_places;refine#[?_,NoOwn.of rfl]
  rotate_left
  all_goals
   have n2:(2:Nat)<=1000:=Nk
   refine#[λd M'=>(be d=be (.tup [_,_])/\M'=f.M a q),#[KK,n2,KK,n2,n2,n2,le_b rfl,Nk,_,ew,rfl,rfl],?_];rintro _ _⟨e,rfl⟩;k_places;cases e;refine#[_,rfl,_,rfl,#[rfl,rfl],?_];dsimp only;rw[FY];exact hR
def Fl.undone(f:Fl)(e:Deed)(es:List Deed):Fl:={f with p:=e.p,d:=e.d,l:=e.l,ds:=es}
def HF:SpM:=λds M R RX=>∃a q f,ds=[.ptr a]/\a≠q/\M=Fl.M f a q/\(f.ds=[]->RX "NothingKept" [] (f.M a q))/\∀es e,f.ds=es++[e]->bg e.p e.d/\R (.str e.w) ((f.undone e es).M a q)
abbrev xm(V:Bx):Prop:=V.Q 2 "Floor" "undo" pf HF
def HG(T:V.Tm "Floor" "undo" "Floor.undo" pe pf)(uA:V.m "len")(uS:V.a "Floor" "deeds")(uE:V.a "Floor" "laid")(N_:qw V)(RZ:V.n "NothingKept"):xm V:=by
 refine CalMth.drop (Txm.okM T sc_Floor_undo (λds M R RX h=>?_) (λ_ _ _ _ _ _ _ J hr hx=>⟨_,((aj (aX (gf (kR uA (aD uS (ag (aa 0)))) (ag ad)) (au (kQ RZ hx rfl (ax (ac av ae)))) aR)
   (aj (aG 1 sc_Floor_undo.nd (Ez (aD uS (ag (aa 0)))))
   (aj (bO (aT (CalMth.one N_) hx hr (ag (aa 0)) (ax (ac (af (aa 1) ad) ae))))
   (aj (bZ uE (ag (aa 0)) (ag (af (aa 1) ad)))
   (au (aE (ag (af (aa 1) ad))))))))),λds M R RX c_ h=>?_⟩))
 .let#[_,_,#[_,_,_,rfl,_],_]:=h;rfl
 .let#[R,RX,#[a,q,f,rfl,ne,rfl,hX,hR],rfl,rfl]:=h;refine#[_,Fl.ma ne,_,jl,_,Fl.mq,ite2 (λc=>?_) (λc=>?_)]
  .have c':=of_decide_eq_true c;rw[Ij]at c';refine#[le_b rfl,?_];rw[c_];exact#[_,Fl.sub ne,hX (J3 KK)]
  have c':f.ds≠[]:=λz=>c (decide_eq_true (by rw[z];rfl));let#[es,e,he]:∃es e,f.ds=es++[e]:=#[_,_,(List.dropLast_concat_getLast c').symm];let#[hi,hR]:=hR es e he;have q1:f.ds.map Deed.D=es.map Deed.D++[e.D]:=by rw[he,II];rfl
  refine#[λd M'=>d=e.D/\M'=Fl.M {f with ds:=es} a q,#[_,Fl.ma ne,_,jl,_,e.D,Fl.mq,by rw[q1];simp,rfl,?_],?_]
  .rw[show f.M a q=[(q,.lst (f.ds.map Deed.D)),(a,.ins "Floor" (f.fs q))]from rfl,cM,q1,List.dropLast_concat];rfl
  rintro _ _⟨rfl,rfl⟩;k_places;refine#[_,Ih.mpr rfl,_,Fl.ma ne,rfl,_,rfl,a,q,_,e.p,e.d,rfl,ne,rfl,hi,?_];refine#[_,rfl,_,Fl.ma ne,le_b rfl,_,rfl,_,?_,hR];rw[Fl.put ne];exact Fl.sub (f:=f.undone e es) ne
def HH:SpM:=λds M R _=>∃a q f,ds=[.ptr a]/\a≠q/\M=Fl.M f a q/\(f.ds=[]->R (.tup [.str "nothing"]) (f.M a q))/\∀es e,f.ds=es++[e]->bg e.p e.d/\R (.str e.w) ((f.undone e es).M a q)
def Fl.Ok.undone{e:Deed}{es:List Deed}(ok:f.Ok)(h:f.ds=es++[e]):(f.undone e es).Ok:=by
 have hl:=ok.de;rw[h,Ix]at hl;let#[i,o,a,b]:=ok.dd e (by rw[h];exact IE _ (Ih.mpr rfl));exact#[i,o,ok.w1,ok.w2,ok.h1,ok.h2,a,b,Io (L4 _ _) hl,λx hx=>ok.dd x (by rw[h];exact Jk _ hx)]
abbrev xn(V:Bx):Prop:=V.MM 3 "_law_undo" pi HH
def HI(T:V.T "_law_undo" ph pi)(R1:xm V)(ek:gI V):xn V:=by
 refine(Tx.okM T sc__law_undo (λds M R RX h=>?_) (λ_ _ _ _ _ _ _ J hr hx=>⟨_,((aj (aG 1 sc__law_undo.nd (ag bn))
   (aj (iy (λpn xe J hp hx=>(au (aG 1 sc__law_undo.nd (bY (CalMth.one R1) hx hr (ag (aa 0)))))) (λ_=>(kG ek (λe=>(aq (ao 1 sc__law_undo.nd (aI (ac av ae))))) ie)))
   (au (aE (ag (aa 1))))))),λds M R RX c_ h=>?_⟩))
 .let#[_,_,_,rfl,_]:=h;rfl
 .let#[a,q,f,rfl,ne,rfl,hX,hR]:=h;refine#[λd M'=>d=.non/\M'=f.M a q,#[rfl,rfl],?_];rintro _ _⟨rfl,rfl⟩;k_places;refine#[λz M' x fs=>z=[be (.ptr a),be .non]/\M'=f.M a q/\x="NothingKept"/\f.ds=[],λJ hJ=>?_,?_]
  .refine#[λd M'=>∃es e,f.ds=es++[e]/\d=.str e.w/\M'=(f.undone e es).M a q,#[_,Ih.mpr rfl,_,Fl.ma ne,rfl,a,q,f,rfl,ne,rfl,λc=>by rw[hJ];exact#[rfl,rfl,rfl,c],λes e h=>#[(hR es e h).1,es,e,h,rfl,rfl]],?_];rintro _ _⟨es,e,h,rfl,rfl⟩;k_places;exact(hR es e h).2
  .rintro z M' x fs⟨rfl,rfl,rfl,c⟩;k_places;refine#[#[Nq,Nq],?_];rw[if_pos Nn];refine#[λd=>d=.tup [.str "nothing"],#[le_b rfl,rfl],?_];rintro _ rfl;k_places;exact#[hX c,NoOwn.of rfl]
def TriD(x:Deed×Nat):D:=.tup [.str x.1.w,.int x.2,.int x.1.l]
def StN(s:Nat)(l:Int)(es:List (Deed×Nat)):D:=.lst [.int s,.int l,.lst (es.map TriD)]
structure Kn(ps:List Pat)(f:Fl)(s:Nat)(es:List (Deed×Nat)):Prop where
 at_:ps[s]?=be f.p
 ds:f.ds=es.map Prod.fst
 all:∀x∈es,ps[x.2]?=be x.1.p
def S__law_next:SpM:=λds M R _=>∃(a q:Pi) (f:Fl) (dr:Int) (ps:List Pat) (s:Nat) (es:List (Deed×Nat)),ds=[.ptr a,.int dr,StN s f.l es,.lst (ps.map (EntD f.w f.h)),.int f.h]/\a≠q/\M=Fl.M f a q/\f.Ok/\ps.length=4/\(∀p∈ps,p.Ok)/\Kn ps f s es/\
 ∀(g:Fl) (q':Pi) (s':Nat) (l5:List (Deed×Nat)),a≠q'->g.Ok->g.w=f.w->g.h=f.h->Kn ps g s' l5->R (StN s' g.l l5) (g.M a q')
def js(es:List (Deed×Nat))(e:Deed×Nat):List (Deed×Nat):=(es++[e]).drop (es.length+1-20)
variable{xs:List My.D}
def HJ:atI (xs++[d]) (-1)=be d:=by
 have e:ixN (xs++[d]).length (-1)=be xs.length:=by
  rw[Ix,JM];unfold ixN;simp;lia
 unfold atI;rw[e];simp
def HK:cutD (xs++[d]) z6 (be (-1))=xs:=by
 have e:HT.sIx (xs++[d]).length (xs++[d]).length (be (-1))=xs.length:=by
  rw[Ix,JM];unfold HT.sIx;simp;lia
 unfold cutD;rw[e,show HT.sIx (xs++[d]).length 0 z6=0 from rfl];simp
def xo(es:List (Deed×Nat))(e:Deed×Nat):cutD (es.map TriD++[TriD e]) (be (-20)) z6=(js es e).map TriD:=by
 rw[wr,js,KZ,II,Ix,Ij];rfl
def Kn.keep{ps:List Pat}{g:Fl}{s s':Nat}{es:List (Deed×Nat)}{w:Mr}(k:Kn ps f s es)(hg:ps[s']?=be g.p)(hd:g.ds=(f.keep w).ds):Kn ps g s' (js es (#[w,f.p,f.d,f.l],s)):=by
 refine#[hg,?_,λx hx=>?_]
 .rw[hd];show(f.ds++[_]).drop (f.ds.length+1-20)=_;rw[k.ds,js,KZ,II,Ij];rfl
 .rcases IK.mp (J8 hx)with z|z
  .exact k.all x z
  .rw[Ih.mp z];exact k.at_
abbrev C__law_next(V:Bx):Prop:=V.MM 22 "_law_next" pk S__law_next
def ok__law_next(T:V.T "_law_next" pj pk)(uD:V.m "int")(uN:V.m "isinstance")(uG:V.m "str")(R3:wS V)(Ob:qg V)(R4:xi V)(R5:xj V)(uQ:gJ V)(R6:xk V)(R7:xn V):C__law_next V:=by
 refine(Tx.okM T sc__law_next (λds M R RX h=>?_) (λ_ _ _ _ _ _ _ J hr hx=>⟨_,((aj (uu (λ_=>(tf rfl (aa 2) (dg_cons 5 sc__law_next.nd (dg_cons 6 sc__law_next.nd (dg_cons 7 sc__law_next.nd cT))))))
   (aj (aG 8 sc__law_next.nd (ag (aF (aa 1) ad)))
   (aj (aG 1 sc__law_next.nd (ag (bf (aa 1) ad)))
   (aj (aX (bp (dm (aa 8) ad)) (aj (aG 9 sc__law_next.nd (ag (am ad (aF (aa 1) (af (aQ (ac ad (ac ad (ac ad ae)))) (aa 8))))))
    (aj (EI rfl (aK R3 hx hr (ax (ac (aa 0) (ac (aa 9) (ac (cP (aa 8) ad) ae))))) (dg_cons 10 sc__law_next.nd (dg_cons 11 sc__law_next.nd cT)))
    (aj (aX (bp (cC (dv (cu (aa 10)) (du (jY (aa 9) (bj (aa 4) (aa 6))))))) (au (aE (ag (af (aQ (ac bn (ac (aa 2) ae))) (dS uD (ac (dA (aa 10) (dz (zZ (aa 9) (bj (aa 4) (aa 6))))) ae)))))) aR)
    (aj (aX (bp (dR (cu (ay Ob hr (ac (aa 11) (ac (bK (af (af (aa 3) (aa 5)) ad) (bz (aa 6)) (bz (am (aa 6) (aa 9)))) ae)))))) (au (aE (ag bn))) aR)
    (au (aE (ag (aQ (ac (aa 5) (ac (am (aa 6) (aa 9)) (ac (bK (am (aa 7) (aQ (ac (aI (ac av (ac (aa 5) (ac (aa 6) ae)))) ae))) (bz (bx ad)) bV) ae))))))))))) aR)
   (aj (aX (bp (dm (aa 8) ad)) (aj (aG 12 sc__law_next.nd (ag (aF (aa 1) ad)))
    (aj (aG 11 sc__law_next.nd (aK R4 hx hr (ax (ac (aa 0) (ac (af (af (aa 3) (aa 12)) ad) ae)))))
    (aj (aG 13 sc__law_next.nd (ag (ay R5 hr (ac (bK (af (af (aa 3) (aa 5)) ad) bV (bz (aa 6))) (ac (af (af (aa 3) (aa 12)) ad) ae)))))
    (aj (aX (bp (cC (ke (fU (aa 13) bn) (jZ (Al (dP hr) (aa 11) (aI (ac av ae))))))) (au (aE (ag (aQ (ac (aa 12) (ac (aa 6) (ac (bK (am (aa 7) (aQ (ac (aI (ac av (ac (aa 5) (ac (aa 6) ae)))) ae))) (bz (bx ad)) bV) ae))))))) aR)
    (aj (aX (bp (cC (dv (fU (aa 13) bn) (du (EL (dP hr) (aa 11) (aI (ac av (ac (af (aa 13) ad) (ac (af (aa 13) ad) ae))))))))) (au (aE (ag bn))) aR)
    (au (aE (ag (af (aQ (ac bn (ac (aa 2) ae))) (dS uD (ac (dA (ay uQ hr (ac (af (aa 11) ad) ae)) (dz (ay uQ hr (ac (af (aa 11) ad) ae)))) ae))))))))))) aR)
   (aj (aX (bp (bC (aa 8) ad)) (au (aE (kL (ag (aQ (ac bn (ac (aa 2) ae)))) (kP uD (aA (aK R6 hx hr (ax (ac (aa 0) (ac (af (af (aa 3) (aa 5)) ad) (ac (aa 1) ae))))) aS))))) aR)
   (aj (aG 11 sc__law_next.nd (aK R7 hx hr (ax (ac (aa 0) ae))))
   (aj (aX (bp (EO (dP hr) (aa 7) (aQ ae))) (au (aE (ag (af (aQ (ac bn (ac (aa 2) ae))) (dS uD (ac (sQ (dP hr) (aa 11) (aI (ac av ae))) ae)))))) aR)
   (aj (aX (bp (cC (dv (dR (cu (eX uN uG (aa 11) PyProof.Rows.boot_str kit_str))) (du (cr (aa 11) (af (af (aa 7) (bx ad)) ad)))))) (au (aE (ag bn))) aR)
   (au (aE (ag (aQ (ac (af (af (aa 7) (bx ad)) ad) (ac (af (af (aa 7) (bx ad)) ad) (ac (bK (aa 7) bV (bz (bx ad))) ae))))))))))))))))),λds M R RX c_ h=>?_⟩))
 .let#[_,_,_,_,_,_,_,rfl,_]:=h;rfl
 .let#[a,q,f,dr,ps,s,es,rfl,ne,rfl,ok,p4,u6,kn,hR]:=h;have l0:=ok.l0;have l1:=ok.l1;have h2:=ok.h2;have w1:=ok.w1;have w2:=ok.w2;have same:R (StN s f.l es) (f.M a q):=hR f q s es ne ok rfl rfl kn;have eS:=jp (EntD f.w f.h) kn.at_;have el:es.length<=20:=by have:=ok.de;rw[kn.ds,Ij]at this;exact this
  refine#[rfl,?_,NoOwn.of rfl];show mSeq _ _ _ [_,_,_,_,_,_,_,_,_,_,_,_,_,_] _;let#[kd,Vg,VO,VP]:∃kd:Int,dr%8=kd/\0<=kd/\kd<8:=#[_,rfl,KK,KK];refine#[λd M'=>d=.int kd/\M'=f.M a q,#[Nk,congrArg D.int Vg,rfl],?_];rintro _ _⟨rfl,rfl⟩;k_places;let#[v,ev]:∃v:Int,dr/8=v:=#[_,rfl];refine#[λd M'=>d=.int v/\M'=f.M a q,#[#[Nk,Nk],congrArg D.int ev,rfl],?_];rintro _ _⟨rfl,rfl⟩;k_places;refine ite2 (λc=>?_) (λc=>?_)
  .have c':kd<3:=of_decide_eq_true c;let#[b,eb,hb]:∃b:Int,atI [D.int 3,.int 3,.int 30] kd=be (.int b)/\(b=3\/b=30):=by
    rcases(KK:kd=0\/kd=1\/kd=2)with rfl|rfl|rfl
    .exact#[3,rfl,.inl rfl]
    .exact#[3,rfl,.inl rfl]
    .exact#[30,rfl,.inr rfl]
   have b0:=Ji v (show b≠0 by lia);have b1:=Jj v (show 0<b by lia);refine#[λd M'=>M'=f.M a q/\∃n:Int,d=.int n/\1<=n/\n<=30,#[le_b rfl,_,eb,KK,rfl,_,rfl,KK,KK],?_];rintro _ _⟨rfl,n,rfl,n1,n2⟩;k_places;refine#[a,q,f,n,_,rfl,ne,rfl,ok,n1,KK,λc=>#[rfl,?_],λc q' f8=>#[rfl,?_]]
   .refine#[le_b rfl,_,?_,same];rw[if_pos (decide_eq_true c)];rfl
   .refine ite2 (λz=>absurd (of_decide_eq_true z) KK) (λ_=>?_);have hm:=FO (p:=f.p) (w:=f.w) (l:=f.l.toNat) (m:=n.toNat) (n:=f.h.toNat) KK;rw[IM l0,IM KK]at hm;refine#[_,eS,_,rfl,f.p,f.w,f.l,n.toNat,by rw[hm],KK,?_];refine#[le_b rfl,le_b rfl,by rw[Ij];show es.length+1<=_;lia,le_b rfl,?_];rw[show D.tup [.str "lay",.int s,.int f.l]=TriD (#["lay",f.p,f.d,f.l],s)from rfl,xo];exact hR (f.lay n) q' s _ f8 (ok.lay KK c) rfl rfl (kn.keep kn.at_ rfl)
  refine ite2 (λc5=>?_) (λc5=>?_)
  .have c':kd<5:=of_decide_eq_true c5;let#[i,ei,i4]:∃i:Nat,v%4=(i:Int)/\i<4:=#[(v%4).toNat,KK,KK];let#[r,er]:∃r,ps[i]?=be r:=#[_,ID KK];have PQ:=u6 r (Jf er);have R8:=jp (EntD f.w f.h) er;have Pf:cutD (aB f.p f.w 0 f.h.toNat) z6 (be f.l)=aB f.p f.w 0 f.l.toNat:=by
    have:=ww (p:=f.p) (w:=f.w) (lo:=0) (n:=f.h.toNat) (k:=f.l.toNat) KK;rw[IM l0]at this;exact this
   have et:=IM l0;refine#[λd M'=>d=.int i/\M'=f.M a q,#[Nk,congrArg D.int ei,rfl],?_];rintro _ _⟨rfl,rfl⟩;k_places;refine#[λd M'=>(d=.tup [.str "let in"]/\Same2 f.p r f.w f.l/\∃q' d',bg r d'/\a≠q'/\M'=((f.keep "change").stand r d').M a q')\/∃x y,d=.tup [.str "parted",.int x,.int y]/\First2 f.p r f.w f.l x y/\M'=f.M a q,#[_,R8,_,rfl,a,q,f,r,rfl,ne,rfl,ok,PQ,λsm q' d' is f8=>.inl #[rfl,sm,q',d',is,f8,rfl],λx y f2=>.inr #[x,y,rfl,f2,rfl]],?_];rintro _ _ (⟨rfl,sm,q',d',is,f8,rfl⟩|⟨x,y,rfl,f2,rfl⟩);k_places
   .refine#[λd M'=>d=.non/\M'=((f.keep "change").stand r d').M a q',#[_,eS,_,rfl,_,R8,_,rfl,f.p,r,f.w,f.l.toNat,f.h.toNat,by rw[Pf],ok.ok,PQ,KK,KK,KK,KK,λ_=>#[rfl,rfl],λx y f2=>(First2.not (by rw[et]at f2;exact f2) sm).elim],?_];rintro _ _⟨rfl,rfl⟩;k_places;refine#[le_b rfl,#[rfl,rfl],ite2 (λ_=>?_) (λz=>absurd Nn z)];refine#[le_b rfl,le_b rfl,by rw[Ij];show es.length+1<=_;lia,le_b rfl,?_];rw[show D.tup [.str "change",.int s,.int f.l]=TriD (#["change",f.p,f.d,f.l],s)from rfl,xo];exact hR ((f.keep "change").stand r d') q' i _ f8 ((ok.keep _).stand is PQ) rfl rfl (kn.keep er rfl)
   .refine#[λd M'=>d=.tup [.int x,.int y]/\M'=f.M a q,#[_,eS,_,rfl,_,R8,_,rfl,f.p,r,f.w,f.l.toNat,f.h.toNat,by rw[Pf],ok.ok,PQ,KK,KK,KK,KK,λsm=>(First2.not f2 (by rw[et]at sm;exact sm)).elim,λx' y' f3=>?_],?_]
    .rw[et]at f3;let#[rfl,rfl]:=First2.uniq f2 f3;exact#[rfl,rfl]
    rintro _ _⟨rfl,rfl⟩;k_places;refine#[_,rfl,_,rfl,le_b rfl,#[rfl,rfl],?_];dsimp only;rw[FZ];exact#[le_b rfl,_,rfl,_,rfl,_,rfl,_,rfl,_,rfl,same]
  refine ite2 (λ_=>#[le_b rfl,_,eS,_,rfl,a,q,f,v,rfl,ne,rfl,ok,_,rfl,same]) (λ_=>?_);refine#[λd M'=>(f.ds=[]/\d=.tup [.str "nothing"]/\M'=f.M a q)\/∃ds e,f.ds=ds++[e]/\d=.str e.w/\M'=(f.undone e ds).M a q,#[a,q,f,rfl,ne,rfl,λh=>.inl #[h,rfl,rfl],λds e he=>#[(ok.dd e (by rw[he];exact IE _ (Ih.mpr rfl))).1,.inr #[ds,e,he,rfl,rfl]]],?_];rintro _ _ (⟨R9,rfl,rfl⟩|⟨ds,e,he,rfl,rfl⟩);k_places
  .have e0:es=[]:=by have:=kn.ds;rw[R9]at this;exact List.map_eq_nil_iff.mp this.symm
   subst e0;exact#[le_b rfl,rfl,le_b rfl,le_b rfl,#[rfl,rfl],_,rfl,same]
  .let#[l5,l2,rfl,rfl,t7]:=List.map_eq_append_iff.mp (kn.ds.symm.trans he);let#[x,rfl,rfl]:=List.map_eq_singleton_iff.mp t7;have Mc:atI ((l5++[x]).map TriD) (-1)=be (TriD x):=by
    rw[II];exact HJ
   refine#[le_b rfl,rfl,?_];rw[show((l5++[x]).map TriD).isEmpty=false by simp];refine#[_,Mc,_,rfl,ite2 (λz=>absurd z Nq) λ_=>?_];refine#[_,Mc,_,rfl,_,Mc,_,rfl,le_b rfl,?_];rw[show cutD ((l5++[x]).map TriD) z6 (be (-1))=l5.map TriD by rw[II];exact HK];exact hR (f.undone x.1 _) q x.2 l5 ne (ok.undone he) rfl rfl #[kn.all x (IE _ (Ih.mpr rfl)),rfl,λy hy=>kn.all y (Jk _ hy)]
def HL:SpD:=λds R=>∃xs:List Int,ds=[.lst (xs.map D.int),.lst (xs.map D.int)]/\xs.length=7/\R (.bl true)
abbrev qz(V:Bx):Prop:=V.D 2 "_law_seven" pq HL
def HM(T:V.T "_law_seven" pp pq)(uA:V.m "len")(uN:V.m "isinstance")(A':V.m "list")(uB:V.m "range")(uQ:gJ V):qz V:=by
 refine Tx.okDW T sc__law_seven (λds R h=>?_) (λ_ _ _ _ _ _ _ J hr=>⟨_,((ai (bA (cC (dv (dR (cu (eX uN A' (aa 0) PyProof.Rows.boot_list kit_list))) (du (cr (bB uA (ac (aa 0) ae)) ad)))) (aq (aH bN)) bo)
   (ai (cf 2 PassesOwn.never rfl sc__law_seven.nd uB ad (aq (bA (cC (dv (dR (cu (ay uQ hr (ac (af (aa 0) (aa 2)) ae)))) (du (cr (af (aa 0) (aa 2)) (af (aa 1) (aa 2)))))) (aq (aH bN)) bo)))
   (aq (aH bN))))),λds R h=>?_⟩)
 .let#[_,rfl,_]:=h;rfl
 .let#[xs,rfl,x7,hR]:=h;refine ite2 (λc=>absurd c (by simp[x7])) λ_=>?_;refine#[#[Nk,Nk],λk z=>∃o,z=[be (.lst (xs.map D.int)),be (.lst (xs.map D.int)),o],#[_,rfl],?_,?_]
  .rintro k v z hk⟨o,rfl⟩;k_places;let#[p_,rfl]:=bQ hk;have k7:k<7:=p_;have ak:atI (xs.map D.int) (k:Int)=be (.int (xs[k]' KK)):=bI (by rw[Iy,ID KK];rfl);exact#[_,ak,_,rfl,_,ak,_,ak,ite2 (λc=>absurd c Nq) λ_=>#[_,rfl]]
  .rintro z⟨o,rfl⟩;k_places;exact hR
def HN:SpD:=λds R=>∃(p:Pat) (w lo:Int) (n:Nat),ds=[.lst (aB p w lo n)]/\p.Ok/\0<=w/\w<=30/\n<=30/\R (.lst ((bL p 0 lo w.toNat n).map D.int))
abbrev xp(V:Bx):Prop:=V.D 1 "_law_counts" pv HN
def HP(T:V.T "_law_counts" pr pv):xp V:=by
 refine Tx.okDW T sc__law_counts (λds R h=>?_) (λ_ _ _ _ _ _ _ J hr=>⟨_,((ai (eZ 1 sc__law_counts.nd (ac ad (ac ad (ac ad (ac ad (ac ad (ac ad (ac ad ae))))))))
   (ai (gZ 2 PassesOwn.never rfl sc__law_counts.nd (aa 0) (aq (Bc 3 PassesOwn.never rfl sc__law_counts.nd (aa 2) (aq (Cd 1 (kJ av (ac (aa 3) ae)) ad)))))
   (cS 1 (aq (aH (aa 1))))))),λds R h=>?_⟩)
 .let#[_,_,_,_,rfl,_]:=h;rfl
 .let#[p,w,lo,n,rfl,ok,w0,w7,n7,hR]:=h;have e0:([.int 0,.int 0,.int 0,.int 0,.int 0,.int 0,.int 0]:List D)=(due7 p 0 lo w.toNat 0 0).map D.int:=rfl;refine#[Nk,?_];refine#[λk z=>∃o1 o2,z=[be (.lst (aB p w lo n)),be (.own ((due7 p 0 lo w.toNat k 0).map D.int)),o1,o2],#[_,_,rfl],?_,?_]
  .rintro k v z hk⟨o1,o2,rfl⟩;k_places;let#[p_,rfl]:=FE hk;refine#[FH ok 0 (lo+k) w.toNat,λi z=>∃o2,z=[be (.lst (aB p w lo n)),be (.own ((due7 p 0 lo w.toNat k i).map D.int)),be (.str (aM p 0 (lo+k) w.toNat)),o2],#[_,rfl],?_,?_]
   .rintro i v z hi⟨o2,rfl⟩;k_places;let#[C_,rfl]:=FI hi;let#[u,u7,eu,e3,e4]:=FA ok 0 lo w.toNat k i;let#[rest,ho]:=FJ u7;rw[eu];refine#[u,rest,ho,_,KK,by rw[Iy,Jb,e3];rfl,?_];rw[Jb];exact#[_,by rw[<-e4];rfl]
   .rintro z⟨o2,rfl⟩;k_places;refine#[be (.str (aM p 0 (lo+k) w.toNat)),o2,?_];rw[fz,cE,FC]
  .rintro z⟨o1,o2,rfl⟩;k_places;rw[show(aB p w lo n).length=n by unfold aB;simp,FD];exact hR
abbrev xq(V:Bx):Prop:=V.D 10 "field_rows" pw D3
def HQ(T:V.T "field_rows" ji pw)(uB:V.m "range")(N4:qe V)(Mm:V.a "Pattern" "shifts"):xq V:=by
 refine Tx.okDW T Ft (λds R h=>?_) (λ_ _ _ _ _ _ _ J hr=>#[_,((aq (aH (fY rfl (compScope (by change cI _ (ah ji) ["pattern"] _=true;decide+kernel)) uB (af (fq Mm (aa 0)) ad) (λcl s0 H0 fp=>(ay N4 hr (ac (aa 0) (ac ad (ac (aa 1) (ac (af (fq Mm (aa 0)) ad) ae)))))))))),λds R h=>?_])
 .let#[_,_,rfl,_]:=h;rfl
 .let#[p,d,rfl,hd,ok,hR]:=h;let#[w,h,s,fs,rfl,e1,e2,hp]:=id hd;have F:=hp.toFam;have sm:=ok.fits.small F;have wh:w*h<=720:=by
   let#[w',h',s',f',hb]:=ok.fits;let#[rfl,rfl,_]:=F.uniq f';exact hb
  refine#[rfl,_,e2,_,rfl,#[KK,KK],by rw[bF];lia,λk ys=>ys=(Il k).map λ(y:Nat)=>D.str (aM p 0 (y:Int) w.toNat),rfl,?_,?_]
  .rintro k v ys hk hl rfl;let#[p_,rfl]:=bQ hk;refine#[rfl,_,e2,_,rfl,p,.obj "Pattern" fs,0,k,w.toNat,by rw[IM KK],hd,ok,KK,#[KK,KK],#[KK,KK],#[KK,KK],?_];show _=JP _ (Il (k+1));rw[JR,II];rfl
  .rintro ys hl rfl;rw[bF];exact hR w h s F wh sm.2.1 sm.2.2.2.1
abbrev C_round_row(V:Bx):Prop:=V.D 2 "round_row" pA D4
def HR(T:V.T "round_row" pz pA)(L_:gH V):C_round_row V:=by
 refine Tx.okDW T sc_round_row (λds R h=>?_) (λ_ _ _ _ _ _ _ J hr=>⟨_,((ai (ao 4 sc_round_row.nd (ay L_ hr (ac (aa 0) (ac (aa 2) (ac (aa 3) ae)))))
   (ai (ao 5 sc_round_row.nd (af (aa 1) (af (aa 4) ad)))
   (aq (aH (am (bK (aa 5) (bz (af (aa 4) ad)) bV) (bK (aa 5) bV (bz (af (aa 4) ad))))))))),λds R h=>?_⟩)
 .let#[_,_,_,_,_,_,rfl,_]:=h;rfl
 .let#[p,w,h,s,x,y,rfl,F,w7,h7,hR]:=h;have f:=F.f;have y0:=Ji y (show h≠0 by have:=f.h0;lia);have y1:=Jj y f.h0;refine#[λd=>d=.tup [.int (hmX w h s x y),.int (y%h)],#[w,h,s,x,y,rfl,f.w0,f.h0,KK,f.s0,by have:=f.sw;lia,rfl],?_];rintro _ rfl;k_places;refine#[λd=>d=.str (aM p 0 (y%h) w.toNat),#[_,rfl,_,?_,rfl],?_]
  .have e:y%h=(((y%h).toNat:Nat):Int):=by lia
   rw[e];exact bI (by rw[Iy,IY KK];simp)
  rintro _ rfl;k_places;have l:=cE p 0 (y%h) w.toNat;refine#[_,rfl,KK,_,rfl,KK,?_];have e:=D2 f.w0 f.h0 (λ_ _ q=>F.keeps q) x y;refine#[?_,?_]
  .rw[<-aZ,<-aZ,<-Ix,<-bE,e,df];simp;lia
  .rw[e];exact hR
abbrev xr(V:Bx):Prop:=V.D 1 "count_sign" pC Eb
def HS(T:V.T "count_sign" pB pC)(uA:V.m "len"):xr V:=by
 refine Tx.okDW T Fu (λds R h=>?_) (λ_ _ _ _ _ _ _ J hr=>#[_,((aq (aH (am (az (bf (aa 2) (bB uA (ac (aa 0) ae))) (ux (aa 0) (ac (aa 1) ae))) (ux (bK (aa 0) bV (bz (aF (aa 2) (bB uA (ac (aa 0) ae))))) (ac (aa 1) ae)))))),λds R h=>?_])
 .let#[_,_,_,_,_,_,rfl,_]:=h;rfl
 .let#[p,x,y,v,m,w,rfl,ok,v0,v6,w0,w7,m0,m1,kw,hR]:=h;have l:=cE p x y w;have q0:0<=m/(w:Int):=Ks m0 KK;have q1:m/(w:Int)<=m:=K0 _ m0;have r0:=Ji m (show(w:Int)≠0 by lia);have r1:=Jj m (show 0<(w:Int)by lia);have er:m%(w:Int)=(((m%(w:Int)).toNat:Nat):Int):=by lia
  have e2:Txt.slice (aM p x y w) z6 (be (m%(w:Int)))=aM p x y (m%(w:Int)).toNat:=by
   rw[er,Ea p x y KK];rfl
  refine#[KK,#[by rw[l];lia,by rw[l];lia],.inl #[by rw[l];lia,by rw[l];lia],KK,by rw[l];lia,KK,?_];show R (.int (m/((aM p x y w).length:Int)*occC (aM p x y w) (aV v)+occC (Txt.slice (aM p x y w) z6 (be (m%((aM p x y w).length:Int)))) (aV v)));rw[l,e2,vZ ok x y v0 v6,vZ ok x y v0 v6];have NU:∀k:Nat,(λk:Nat=>p.show (x+k) y) (k+w)=(λk:Nat=>p.show (x+k) y) k:=λk=>by
   have:=kw (x+k) y;rw[J7]at this;show p.show (x+((k+w:Nat):Int)) y=p.show (x+(k:Int)) y;rw[<-this,JI,Kq]
  have:=D7 (f:=λk:Nat=>p.show (x+k) y) w0 NU v m.toNat;have d1:m/(w:Int)=((m.toNat/w:Nat):Int):=by rw[Int.natCast_ediv,IM m0]
  have d2:(m%(w:Int)).toNat=m.toNat%w:=by
   have:m%(w:Int)=((m.toNat%w:Nat):Int):=by rw[LQ,IM m0]
   lia
  rw[d1,d2,this];exact hR
abbrev jt(V:Bx):Prop:=V.X 11 "count_all" pD Ei
def HU(T:V.T "count_all" jj pD)(uU:V.m "max")(uB:V.m "range")(R_:V.m "min")(NK:V.m "enumerate")(NI:qc V)(Sa:xq V)(Sb:C_round_row V)(Sc:xr V)(uR:V.gs "SIGNS" ".123456")(Mm:V.a "Pattern" "shifts"):jt V:=by
  refine Tx.okXW T sc_count_all (λds R RX h=>?_) (λ_ _ _ _ _ _ _ J hr hx=>⟨_,((ai (sR (tM NI hx hr (ac (aa 1) (ac (aa 2) ae))))
      (ai (sR (tM NI hx hr (ac (aa 3) (ac (aa 4) ae))))
      (ai (ao 5 sc_count_all.nd (fq Mm (aa 0)))
      (ai (ao 6 sc_count_all.nd (ay Sa hr (ac (aa 0) ae)))
      (ai (ao 7 sc_count_all.nd (fW rfl uU (ac (am (bj (aa 3) (aa 1)) ad) (ac ad ae))))
      (ai (ao 8 sc_count_all.nd (az (af (aa 5) ad) (af (aa 5) ad)))
      (ai (B5 9 rfl (compScope (by change cI _ (ah jj) ["pattern","left","top","right","bottom","family","rows","many","again","counts","y","times","row","hue","sign"] _=true;decide+kernel)) sc_count_all.nd (fv uR) (λcl s0 H0 fp=>ad))
      (ai (AN 10 PassesOwn.leaving rfl sc_count_all.nd uB (aa 2) (Ay rfl R_ (ac (am (aa 4) ad) (ac (am (aa 2) (aa 8)) ae))) (ai (ao 11 sc_count_all.nd (am (bf (bj (aa 4) (aa 10)) (aa 8)) ad))
        (ai (ao 12 sc_count_all.nd (ay Sb hr (ac (aa 5) (ac (aa 6) (ac (aa 1) (ac (aa 10) ae))))))
        (aq (B9 PassesOwn.leaving rfl NK (fv uR) (dg_cons 13 sc_count_all.nd (dg_cons 14 sc_count_all.nd cT)) (aq (kB 9 (am (ku 9 (aa 13)) (az (aa 11) (ay Sc hr (ac (aa 12) (ac (aa 14) (ac (aa 7) ae)))))) (aa 13))))))))
      (cS 9 (aq (aH (aa 9))))))))))))),λds R RX c_ h=>?_⟩)
  . let#[_,_,_,_,_,_,rfl,_]:=h;rfl
  . let#[p,d,left,top,right,b8,rfl,hd,ok,hR,hX]:=h;let#[w,h,s,fs,rfl,e1,e2,hp]:=id hd;have F:=hp.toFam;have sm:=ok.fits.small F;refine#[left,top,rfl,λn1=>?_,λn1=>by rw[c_];exact hX λz=>n1 #[z.1,z.2.1]];refine#[right,b8,rfl,λn2=>?_,λn2=>by rw[c_];exact hX λz=>n2 #[z.2.2.1,z.2.2.2]];have hR:=hR #[n1.1,n1.2,n2.1,n2.2];unfold br at n1 n2;refine#[λd=>d=.tup [.int w,.int h,.int s],#[rfl,_,e2,rfl],?_];rintro _ rfl;k_places;refine#[λd=>d=gu p w h/\w*h<=720,#[p,_,rfl,hd,ok,λw' h' s' F' hb _ _=>by let#[rfl,rfl,rfl]:=F.uniq F';exact#[rfl,hb]],?_];rintro _⟨rfl,hb⟩;k_places;refine#[λd=>d=.int ((right-left+1).toNat:Nat),congrArg D.int (Eh _),?_];rintro _ rfl;k_places;have Vh:0<w*h:=IF F.f.w0 F.f.h0;refine#[λd=>d=.int (w*h),#[_,rfl,_,rfl,.inl #[KK,KK],rfl],?_];rintro _ rfl;k_places;generalize hm:(right-left+1).toNat=m at*;generalize hn:(b8-top+1).toNat=n at*;generalize hN:(w*h).toNat=N at*;refine#[Nn,Nn,λk ys=>ys=Iw k (D.int 0),rfl,?_,?_]
    . rintro k v ys hk hl rfl;show _=Iw (k+1) _;rw[List.replicate_succ']
    rintro ys hl rfl;have wN:w*h=(N:Int):=KK
    have C_:=Ee (top:=top) hn wN;have VQ:=wc n1.1 n2.1 hm;have VR:=wc n1.2 n2.2 hn;refine#[Ef #[n1.2.1,n1.2.2] #[n2.2.1,n2.2.2] Vh hb,λk z=>∃Sd ND NE A_ B_,z=[be (.obj "Pattern" fs),be (.int left),be (.int top),be (.int right),be (.int b8),be (.tup [.int w,.int h,.int s]),be (gu p w h),be (.int m),be (.int (w*h)),be (.own ((Il 7).map λ(v:Nat)=>D.int (cq p left top m n N k v))),Sd,ND,NE,A_,B_],#[z6,z6,z6,z6,z6,?_],?_,?_]
    . have e7:(bW (".123456":Mr)).length=7:=by decide+kernel
      rw[e7];rfl
    . rintro k v z hk⟨Sd,ND,NE,A_,B_,rfl⟩;k_places;let#[p_,rfl]:=range2_int hk;rw[C_]at p_;refine#[λd=>d=.int (((n:Int)-1-k)/N+1),#[#[KK,KK],?_],?_]
      . rw[wN];congr 3;exact Eg hn p_
      rintro _ rfl;k_places;refine#[λd=>d=.str (aM p left (top+k) w.toNat),#[p,w,h,s,left,top+k,rfl,F,sm.2.1,sm.2.2.2.1,rfl],?_];rintro _ rfl;k_places;refine#[Nn,λi z=>∃A_ B_,z=[be (.obj "Pattern" fs),be (.int left),be (.int top),be (.int right),be (.int b8),be (.tup [.int w,.int h,.int s]),be (gu p w h),be (.int m),be (.int (w*h)),be (.own ((Il 7).map λ(v:Nat)=>D.int (if v<i then cq p left top m n N (k+1) v else cq p left top m n N k v))),be (.int (top+k)),be (.int (((n:Int)-1-k)/N+1)),be (.str (aM p left (top+k) w.toNat)),A_,B_],#[_,_,rfl],?_,?_]
      . rintro i v z hi⟨A_,B_,rfl⟩;k_places;rw[Ed]at hi;have i7:i<7:=by simpa using(IB.mp hi).1
        have ev:v=.str #[[aV (i:Int)].toArray]:=by
          rw[Iy,IY i7]at hi;exact(Option.some.inj hi).symm
        subst ev;have ci:=vX (λk'=>p.show (left+k') (top+k)) i m;have tq:0<=((n:Int)-1-k)/N/\((n:Int)-1-k)/N<=(n:Int)-1-k:=#[Ks KK KK,K0 _ KK];refine#[_,bI (by rw[Iy,IY i7];rfl),p,left,top+k,i,m,w.toNat,rfl,ok,KK,KK,KK,KK,KK,KK,by rw[IM KK];exact F.across,?_];refine#[.inl #[KK,KK],i,?_,?_]
        . unfold ixN;rw[if_pos KK,if_pos Qh];simp
        refine#[be (.int i),be (.str #[[aV (i:Int)].toArray]),?_];rw[Jb,if_neg (Jv i)];have e:cq p left top m n N k i+(((n:Int)-1-k)/N+1)*cntN (λk'=>p.show (left+k') (top+k)) i m=cq p left top m n N (k+1) i:=rfl;rw[e];have q:=wa (n:=7) (i:=i) (λ(v:Nat)=>D.int (if v<i then cq p left top m n N (k+1) v else cq p left top m n N k v)) (λ(v:Nat)=>D.int (if v<i+1 then cq p left top m n N (k+1) v else cq p left top m n N k v)) (λv hv ne=>by
          by_cases c:v<i
          . rw[if_pos c,if_pos KK]
          . rw[if_neg c,if_neg KK])
        rw[if_pos (show i<i+1 by lia)]at q;rw[q];rfl
      . rintro z⟨A_,B_,rfl⟩;k_places;refine#[be (.int (top+k)),be (.int (((n:Int)-1-k)/N+1)),be (.str (aM p left (top+k) w.toNat)),A_,B_,?_];have:∀v∈Il 7,D.int (if v<(bW (".123456":Mr)).length then cq p left top m n N (k+1) v else cq p left top m n N k v)=D.int (cq p left top m n N (k+1) v):=λv hv=>by
          rw[if_pos (by  have e7:(bW (".123456":Mr)).length=7:=by decide+kernel
                         rw[e7];simpa using hv)]
        rw[JS this]
    . rintro z⟨Sd,ND,NE,A_,B_,rfl⟩;k_places;have e:((Il ((if top+w*h<b8+1 then top+w*h else b8+1)-top).toNat).map λ(k:Nat)=>D.int (top+(k:Int))).length=min n N:=by simp[C_]
      rw[e];have fold:∀v:Nat,cq p left top m n N (min n N) v=bH p v left top m n:=λv=>Ec KK (by rw[<-wN];exact F.down) v left top m n;simp only[fold];have e2:((Il 7).map λ(v:Nat)=>D.int (bH p v left top m n))=(bL p left top m n).map D.int:=by unfold bL;rw[JW];rfl
      rw[e2];exact hR
def HV:SpM:=λds M R _=>∃a q f,ds=[.ptr a]/\a≠q/\M=Fl.M f a q/\f.Ok/\R (.lst ((bL f.p 0 0 f.w.toNat f.l.toNat).map D.int)) (f.M a q)
abbrev qA(V:Bx):Prop:=V.Q 12 "Floor" "lies" pF HV
def HW(T:V.Tm "Floor" "lies" "Floor.lies" pE pF)(MU:jt V)(uE:V.a "Floor" "laid")(uL:V.a "Floor" "width")(uF:V.a "Floor" "pattern"):qA V:=by
 refine Txm.okM T Fv (λds M R RX h=>?_) (λ_ _ _ _ _ _ _ J hr hx=>#[_,((au (aE (aK (CalX.toM MU) hx hr (aA (aD uF (ag (aa 0))) (aA (ag ad) (aA (ag ad) (aA (dE (aD uL (ag (aa 0))) (ag ad)) (aA (dE (aD uE (ag (aa 0))) (ag ad)) aS))))))))),λds M R RX c_ h=>?_])
 .let#[_,_,_,rfl,_]:=h;rfl
 .let#[a,q,f,rfl,ne,rfl,ok,hR]:=h;have w1:=ok.w1;have w2:=ok.w2;have l0:=ok.l0;have l1:=ok.l1;have h2:=ok.h2;refine#[_,Fl.ma ne,_,gD,_,Fl.ma ne,_,fM,_,Fl.ma ne,_,eE,f.p,f.d,0,0,f.w-1,f.l-1,rfl,ok.is,ok.ok,λ_=>?_,λz=>absurd #[#[KK,KK],#[KK,KK],#[KK,KK],KK,KK] z];rw[show(f.w-1-0+1).toNat=f.w.toNat by lia,show(f.l-1-0+1).toNat=f.l.toNat by lia];exact hR
def HX:SpM:=λds M R _=>∃a q f,ds=[.ptr a]/\a≠q/\M=Fl.M f a q/\f.Ok/\R (.lst ((bL f.p 0 f.l f.w.toNat (f.h-f.l).toNat).map D.int)) (f.M a q)
abbrev qB(V:Bx):Prop:=V.Q 12 "Floor" "still" pH HX
def HY(T:V.Tm "Floor" "still" "Floor.still" pG pH)(MU:jt V)(uV:V.a "Floor" "height")(uL:V.a "Floor" "width")(uE:V.a "Floor" "laid")(uF:V.a "Floor" "pattern"):qB V:=by
 refine Txm.okM T Fw (λds M R RX h=>?_) (λ_ _ _ _ _ _ _ J hr hx=>#[_,((au (aE (aK (CalX.toM MU) hx hr (aA (aD uF (ag (aa 0))) (aA (ag ad) (aA (aD uE (ag (aa 0))) (aA (dE (aD uL (ag (aa 0))) (ag ad)) (aA (dE (aD uV (ag (aa 0))) (ag ad)) aS))))))))),λds M R RX c_ h=>?_])
 .let#[_,_,_,rfl,_]:=h;rfl
 .let#[a,q,f,rfl,ne,rfl,ok,hR]:=h;have w1:=ok.w1;have w2:=ok.w2;have l0:=ok.l0;have l1:=ok.l1;have h2:=ok.h2;refine#[_,Fl.ma ne,_,gD,_,Fl.ma ne,_,eE,_,Fl.ma ne,_,fM,_,Fl.ma ne,_,jk,f.p,f.d,0,f.l,f.w-1,f.h-1,rfl,ok.is,ok.ok,λ_=>?_,λz=>absurd #[#[KK,KK],#[KK,KK],#[KK,KK],KK,KK] z];rw[show(f.w-1-0+1).toNat=f.w.toNat by lia,show(f.h-1-f.l+1).toNat=(f.h-f.l).toNat by lia];exact hR
def HZ:SpM:=λds M R _=>∃a q f,ds=[.ptr a]/\a≠q/\M=Fl.M f a q/\R (.int f.ds.length) (f.M a q)
abbrev xt(V:Bx):Prop:=V.Q 1 "Floor" "kept" pJ HZ
def H8(T:V.Tm "Floor" "kept" "Floor.kept" pI pJ)(uA:V.m "len")(uS:V.a "Floor" "deeds"):xt V:=by
 refine Txm.okM T Fx (λds M R RX h=>?_) (λ_ _ _ _ _ _ _ J hr hx=>#[_,((au (aE (kR uA (aD uS (ag (aa 0))))))),λds M R RX c_ h=>?_])
 .let#[_,_,_,rfl,_]:=h;rfl
 .let#[a,q,f,rfl,ne,rfl,hR]:=h;refine#[_,Fl.ma ne,_,jl,_,Fl.mq,?_];rw[Ij];exact hR
def H9:SpM:=λds M R _=>∃a q f,ds=[.ptr a,.str f.p.text,.tup [.int f.w,.int f.h],.lst (aB f.p f.w 0 f.l.toNat),.lst (aB f.p f.w f.l (f.h-f.l).toNat),.int f.ds.length]/\a≠q/\M=Fl.M f a q/\f.Ok/\R (.bl true) (f.M a q)
abbrev xu(V:Bx):Prop:=V.MM 13 "_law_view" pL H9
def Ia(T:V.T "_law_view" pK pL)(uN:V.m "isinstance")(uG:V.m "str")(uQ:gJ V)(Ob:qg V)(NM:qz V)(PR:xp V)(uX:V.a "Floor" "text")(uL:V.a "Floor" "width")(uV:V.a "Floor" "height")(N6:qf V)(Oc:qA V)(Od:qB V)(Se:xt V):xu V:=by
 refine(Tx.okM T sc__law_view (λds M R RX h=>?_) (λ_ _ _ _ _ _ _ J hr hx=>⟨_,((aj (aX (mt_w (im (eg (dZ (EF uN uG (aD uX (ag (aa 0))) PyProof.Rows.boot_str kit_str))) (il (kM (aD uX (ag (aa 0))) (ag (aa 1)))))) (au (aE (ag bN))) aR)
   (aj (aX (mt_w (im (eg (dZ (aK (CalD.toM uQ) hx hr (aA (aD uL (ag (aa 0))) aS)))) (il (kM (aD uL (ag (aa 0))) (ag (af (aa 2) ad)))))) (au (aE (ag bN))) aR)
   (aj (aX (mt_w (im (eg (dZ (aK (CalD.toM uQ) hx hr (aA (aD uV (ag (aa 0))) aS)))) (il (kM (aD uV (ag (aa 0))) (ag (af (aa 2) ad)))))) (au (aE (ag bN))) aR)
   (aj (aX (eg (dZ (aK (CalD.toM Ob) hx hr (aA (bY (CalMth.one (CalMth.lendD N6)) hx hr (ag (aa 0))) (aA (ag (aa 3)) aS))))) (au (aE (ag bN))) aR)
   (aj (aX (eg (dZ (aK (CalD.toM NM) hx hr (aA (bY (CalMth.one Oc) hx hr (ag (aa 0))) (aA (ag (ay PR hr (ac (aa 3) ae))) aS))))) (au (aE (ag bN))) aR)
   (aj (aX (eg (dZ (aK (CalD.toM NM) hx hr (aA (bY (CalMth.one Od) hx hr (ag (aa 0))) (aA (ag (ay PR hr (ac (aa 4) ae))) aS))))) (au (aE (ag bN))) aR)
   (aj (aG 6 sc__law_view.nd (bY (CalMth.one Se) hx hr (ag (aa 0))))
   (au (aE (ag (dA (ay uQ hr (ac (aa 6) ae)) (dz (cP (aa 6) (aa 5))))))))))))))),λds M R RX c_ h=>?_⟩))
 .let#[_,_,_,rfl,_]:=h;rfl
 .let#[a,q,f,rfl,ne,rfl,ok,hR]:=h;have w1:=ok.w1;have w2:=ok.w2;have l0:=ok.l0;have l1:=ok.l1;have h2:=ok.h2;have ec:∀lo n,(bL f.p 0 lo f.w.toNat n).length=7:=λlo n=>by unfold bL;simp
  refine#[_,Fl.ma ne,_,pP,?_];dsimp only[kg];refine ite2 (λc=>nomatch c) λ_=>#[_,Fl.ma ne,_,pP,ite2 (λc=>absurd c Nq) λ_=>?_];refine#[_,Fl.ma ne,_,fM,_,rfl,ite2 (λc=>nomatch c) λ_=>#[_,Fl.ma ne,_,fM,_,rfl,ite2 (λc=>absurd c Nq) λ_=>?_]];refine#[_,Fl.ma ne,_,jk,_,rfl,ite2 (λc=>nomatch c) λ_=>#[_,Fl.ma ne,_,jk,_,rfl,ite2 (λc=>absurd c Nq) λ_=>?_]];refine#[_,Ih.mpr rfl,_,Fl.ma ne,rfl,?_];dsimp only[mNil];refine wQ ne ok #[f.p,f.w,0,_,rfl,KK,ite2 (λc=>nomatch c) λ_=>?_];refine#[_,Ih.mpr rfl,_,Fl.ma ne,rfl,a,q,f,rfl,ne,rfl,ok,f.p,f.w,0,_,rfl,ok.ok,KK,w2,KK,_,rfl,ec _ _,ite2 (λc=>nomatch c) λ_=>?_];refine#[_,Ih.mpr rfl,_,Fl.ma ne,rfl,a,q,f,rfl,ne,rfl,ok,f.p,f.w,f.l,_,rfl,ok.ok,KK,w2,KK,_,rfl,ec _ _,ite2 (λc=>nomatch c) λ_=>?_];refine#[λd M'=>d=.int f.ds.length/\M'=f.M a q,#[_,Ih.mpr rfl,_,Fl.ma ne,rfl,a,q,f,rfl,ne,rfl,rfl,rfl],?_];rintro _ _⟨rfl,rfl⟩;k_places;refine#[_,rfl,?_];show R (.bl (decide ((f.ds.length:Int)=f.ds.length))) (f.M a q);rw[decide_eq_true rfl];exact hR
def Ib:SiM:=λa ds R=>∃p w h,ds=[.str (Pat.text p),.int w,.int h]/\p.Ok/\∀d q,bg p d->a≠q->R (Fl.M #[p,d,w,h,0,[]] a q)
abbrev xx(V:Bx):Prop:=V.N 20 "Floor" pN Ib
def Ic(T:V.Ti "Floor" "Floor.__init__" pM pN)(MQ:jr V)(uF:V.a "Floor" "pattern")(uX:V.a "Floor" "text")(uL:V.a "Floor" "width")(uV:V.a "Floor" "height")(uE:V.a "Floor" "laid")(uS:V.a "Floor" "deeds"):xx V:=by
 refine Txi.okIN T Fy (λa ds R h=>?_) (λ_ _ _ _ _ _ _ J hr hx=>⟨_,((aj (bZ uF (ag (aa 0)) (aK (CalX.toM MQ) hx hr (ax (ac (aa 1) ae))))
   (aj (bZ uX (ag (aa 0)) (ag (aa 1)))
   (aj (bZ uL (ag (aa 0)) (ag (aa 2)))
   (aj (bZ uV (ag (aa 0)) (ag (aa 3)))
   (aj (bZ uE (ag (aa 0)) (ag ad))
   (au (bZ uS (ag (aa 0)) (kO (ax ae)))))))))),λa ds R NO h=>?_⟩)
 .let#[_,_,_,rfl,_]:=h;rfl
 .let#[p,w,h,rfl,ok,hR]:=h;refine lF ok λd hd=>?_;refine#[_,cH,le_b rfl,?_];rw[cM];refine#[_,cH,le_b rfl,?_];rw[cM];refine#[_,cH,le_b rfl,?_];rw[cM];refine#[_,cH,le_b rfl,?_];rw[cM];refine#[_,cH,le_b rfl,?_];rw[cM];refine#[le_b rfl,λq hq=>?_];have ne:a≠q:=λe=>hq (e ▸ Ip);refine#[_,(eA (Ne.symm ne)).trans cH,le_b rfl,?_];rw[eB (Ne.symm ne),cM];exact hR d q hd ne
def Ie{fa:Pi}{fd:V2}(F:Fun V.K "law" "law" gC fa fd)(uA:V.m "len")(uB:V.m "range")(Ml:pT V)(Sf:wM V)(z_:gG V)(Sg:C__law_next V)(Sh:xu V)(MU:jt V)(MQ:jr V)(NM:qz V)(uX:V.a "Floor" "text")(Si:xx V)(Oc:qA V)(Od:qB V):FnOk V.P V.w V.K V.mg V.base (Exc.CX1 V.P V.w) 23 fa fd pO (lSp V.K fk):=by
 refine EE (Fun.okM F sc_law (λds M R RX h=>?_) (λ_ _ _ _ _ _ J hr hx=>⟨_,((aj (aG 1 sc_law.nd (ag (aI (ac (am ad (aF (ay Ml hr (ac (aa 0) (ac ad ae))) ad)) (ac (am ad (aF (ay Ml hr (ac (aa 0) (ac ad ae))) ad)) ae)))))
   (aj (aG 2 sc_law.nd (ag (ay Sf hr (ac (aa 0) (ac (aa 1) ae)))))
   (aj (aG 3 sc_law.nd (EB Si hr (ax (ac (af (af (aa 2) ad) ad) (ac (af (aa 1) ad) (ac (af (aa 1) ad) ae))))))
   (aj (aG 4 sc_law.nd (ag (aQ (ac ad (ac ad (ac (aQ ae) ae))))))
   (aj (aG 5 sc_law.nd (ag (ay z_ hr (ac (aa 0) (ac ad (ac (am ad (aF (ay Ml hr (ac (aa 0) (ac ad ae))) ad)) ae))))))
   (aj (EG 6 PassesOwn.leaving rfl sc_law.nd (ag (am (am (aa 5) (bK (aa 0) (bz ad) (bz ad))) (A5 (aQ (ac ad ae)) ad))) (aj (aG 4 sc_law.nd (aK Sg hx hr (ax (ac (aa 3) (ac (aa 6) (ac (aa 4) (ac (aa 2) (ac (af (aa 1) ad) ae))))))))
    (aj (aX (bp (fU (aa 4) bn)) (au (aE (ag bN))) aR)
    (aj (uu (λ_=>(km rfl (af (aa 2) (af (aa 4) ad)) (dg_cons 7 sc_law.nd (dg_cons 8 sc_law.nd cT)))))
    (aj (aG 9 sc_law.nd (ag (af (aa 4) ad)))
    (au (aX (eg (dZ (aK Sh hx hr (ax (ac (aa 3) (ac (aa 7) (ac (aa 1) (ac (bK (aa 8) bV (bz (aa 9))) (ac (bK (aa 8) (bz (aa 9)) bV) (ac (bB uA (ac (af (aa 4) ad) ae)) ae)))))))))) (au (aE (ag bN))) aR)))))))
   (aj (aG 10 sc_law.nd (bY (CalMth.one Oc) hx hr (ag (aa 3))))
   (aj (aG 11 sc_law.nd (bY (CalMth.one Od) hx hr (ag (aa 3))))
   (aj (aG 12 sc_law.nd (aK (CalX.toM MU) hx hr (aA (aK (CalX.toM MQ) hx hr (aA (aD uX (ag (aa 3))) aS)) (aA (ag ad) (aA (ag ad) (aA (ag (bj (af (aa 1) ad) ad)) (aA (ag (bj (af (aa 1) ad) ad)) aS)))))))
   (au (aE (ag (ay NM hr (ac (aa 12) (ac (fY rfl (compScope (by change cI _ (ah gC) ["_law_script","_law_size","_law_texts_here","_law_floor","_law_state","_law_deeds","_law_draw","_law_text","_law_lines_here","_law_laid","_law_lies","_law_still","_law_told"] _=true;decide+kernel)) uB ad (λcl s0 H0 fp=>(am (af (aa 10) (aa 13)) (af (aa 11) (aa 13))))) ae)))))))))))))))),λds M R RX c_ h=>?_⟩))
 .let#[rfl,_,#[ns,rfl,_],rfl]:=h;rfl
 .let#[rfl,R0,#[ns,rfl,hl,hR],rfl]:=h;refine#[λd M'=>M'=[]/\∃w h:Int,d=.tup [.int w,.int h]/\(1<=w/\w<=8)/\1<=h/\h<=10,#[ns,0,rfl,Nk,Nk,ns,1,rfl,Nk,Nk,le_b rfl,rfl,_,_,rfl,#[KK,KK],KK,KK],?_];rintro _ _⟨rfl,w,h,rfl,⟨w1,w2⟩,h1,h2⟩;k_places;refine#[λd M'=>M'=[]/\∃ps:List Pat,d=.lst (ps.map (EntD w h))/\ps.length=4/\∀p∈ps,p.Ok,#[ns,w,h,rfl,#[KK,KK],#[KK,KK],λps a b=>#[rfl,ps,rfl,a,b]],?_];rintro _ _⟨rfl,ps,rfl,p4,u6⟩;k_places;let#[p0,e0]:∃p0,ps[0]?=be p0:=#[_,ID KK];have Pg:=u6 p0 (Jf e0);refine#[λd M'=>∃a qa d0,d=.ptr a/\a≠qa/\bg p0 d0/\M'=Fl.M #[p0,d0,w,h,0,[]] a qa,#[_,jp (EntD w h) e0,_,rfl,_,rfl,_,rfl,λa _=>#[p0,w,h,rfl,Pg,λd0 qa is ne=>#[a,qa,d0,rfl,ne,is,rfl]]],?_];rintro _ _⟨a,qa,d0,rfl,ne,is,rfl⟩;k_places;have PH:=Fl.ok_new is Pg w1 KK h1 KK;refine#[λd M'=>d=StN 0 0 []/\M'=Fl.M #[p0,d0,w,h,0,[]] a qa,#[le_b rfl,le_b rfl,rfl,rfl],?_];rintro _ _⟨rfl,rfl⟩;k_places;refine#[λd M'=>M'=Fl.M #[p0,d0,w,h,0,[]] a qa/\∃xs:List Int,d=.lst (xs.map D.int)/\xs.length<=30,#[ns,3,rfl,Nk,Nk,ns,2,(1+cell ns 3%30).toNat,by rw[IM KK],Nk,KK,λxs xl _=>#[rfl,xs,rfl,KK]],?_];rintro _ _⟨rfl,xs,rfl,xl⟩;k_places;have cl:(cutD (ns.map D.int) (be 32) (be 77)).length<=63:=by
   unfold cutD;rw[JK,Jq,Ij];lia
  refine#[by rw[Ij];lia,le_b rfl,#[Nk,Nk,by show 1*21<=1000000;decide],?_,?_]
  .rw[Ix,Ij];show _+21<=1000000;lia
  have v8:∀v∈xs.map D.int++cutD (ns.map D.int) (be 32) (be 77)++(Iw (21:Int).toNat [D.int 7]).flatten,∃n:Int,v=.int n:=by
   intro v hv;rcases IK.mp hv with hv|hv
   .rcases IK.mp hv with hv|hv
    .let#[n,_,rfl]:=IJ.mp hv;exact#[n,rfl]
    .let#[n,_,rfl]:=IJ.mp (J8 (L6 hv));exact#[n,rfl]
   .let#[l,h1,h2]:=List.mem_flatten.mp hv;rw[List.eq_of_mem_replicate h1,Ih]at h2;exact#[7,h2]
  refine#[λ_ z M=>∃(f:Fl) (q:Pi) (s:Nat) (es:List (Deed×Nat)) (o6 o7 o8 o9:Option D),z=[be (.rol (ns.map D.int)),be (.tup [.int w,.int h]),be (.lst (ps.map (EntD w h))),be (.ptr a),be (StN s f.l es),be (.lst (xs.map D.int)),o6,o7,o8,o9,z6,z6,z6]/\M=f.M a q/\a≠q/\f.Ok/\f.w=w/\f.h=h/\Kn ps f s es/\NoOwn z,#[_,qa,0,[],_,_,_,_,rfl,rfl,ne,PH,rfl,rfl,#[e0,rfl,λ_ h=>nomatch h],NoOwn.of rfl],?_,?_]
  .clear PH ne is;rintro k v z M' hk⟨f,q,s,es,o6,o7,o8,o9,rfl,rfl,ne,Nf,rfl,rfl,kn,hn⟩;k_places;let#[x,rfl]:=v8 v (Jf hk);refine#[λd M'=>∃(g:Fl) (q':Pi) (s':Nat) (l5:List (Deed×Nat)),d=StN s' g.l l5/\M'=g.M a q'/\a≠q'/\g.Ok/\g.w=f.w/\g.h=f.h/\Kn ps g s' l5,#[_,rfl,a,q,f,x,ps,s,es,rfl,ne,rfl,Nf,p4,u6,kn,λg q' s' l5 f8 Oe ew eh Ph=>#[g,q',s',l5,rfl,rfl,f8,Oe,ew,eh,Ph]],?_];rintro _ _⟨g,q',s',l5,rfl,rfl,f8,Oe,ew,eh,Ph⟩;k_places;have Mg:=(((hn.set 6 (d:=.int x) rfl).set 4 (d:=StN s' g.l l5) rfl).set 7 (d:=.str g.p.text) rfl).set 8 (d:=.lst (aB g.p f.w 0 f.h.toNat)) rfl;refine#[_,rfl,_,jp (EntD f.w f.h) Ph.at_,rfl,?_,Mg];refine#[λd M'=>d=.int g.l/\M'=g.M a q',#[_,rfl,rfl,rfl],?_];rintro _ _⟨rfl,rfl⟩;k_places;refine#[_,rfl,a,q',g,?_,f8,rfl,Oe,?_]
   .have q0:=Oe.l0;have q1:=Oe.l1;have e1:=ww (p:=g.p) (w:=g.w) (lo:=0) (n:=g.h.toNat) (k:=g.l.toNat) KK;have e2:=wt g.p g.w (g.h-g.l).toNat q0;rw[show g.l.toNat+(g.h-g.l).toNat=g.h.toNat by lia]at e2;rw[IM q0]at e1;show[D.ptr a,D.str g.p.text,D.tup [D.int f.w,D.int f.h],D.lst (cutD (aB g.p f.w 0 f.h.toNat) z6 (be g.l)),D.lst (cutD (aB g.p f.w 0 f.h.toNat) (be g.l) z6),D.int (l5.map TriD).length]=_;rw[Ij,<-ew,<-eh,e1,e2,Ph.ds,Ij]
   .exact#[g,q',s',l5,_,_,_,_,rfl,rfl,f8,Oe,ew,eh,Ph,Mg.set 9 (d:=.int g.l) rfl]
  rintro z M'⟨f,q,s,es,o6,o7,o8,o9,rfl,rfl,ne,Nf,rfl,rfl,kn,hn⟩;k_places;have f1:=Nf.l0;have f2:=Nf.l1;refine#[λd M'=>M'=f.M a q/\d=.lst ((bL f.p 0 0 f.w.toNat f.l.toNat).map D.int),#[_,Ih.mpr rfl,_,Fl.ma ne,rfl,a,q,f,rfl,ne,rfl,Nf,rfl,rfl],?_];rintro _ _⟨rfl,rfl⟩;k_places;refine#[λd M'=>M'=f.M a q/\d=.lst ((bL f.p 0 f.l f.w.toNat (f.h-f.l).toNat).map D.int),#[_,Ih.mpr rfl,_,Fl.ma ne,rfl,a,q,f,rfl,ne,rfl,Nf,rfl,rfl],?_];rintro _ _⟨rfl,rfl⟩;k_places;refine#[λd M'=>M'=f.M a q/\d=.lst ((bL f.p 0 0 f.w.toNat f.h.toNat).map D.int),?_,?_]
  .refine#[_,Fl.ma ne,_,pP,lF Nf.ok λd hd=>?_];refine#[_,rfl,_,rfl,f.p,d,0,0,f.w-1,f.h-1,rfl,hd,Nf.ok,λ_=>#[rfl,?_],λz=>absurd #[#[KK,KK],#[KK,KK],#[KK,KK],#[KK,KK]] z];rw[show(f.w-1-0+1).toNat=f.w.toNat by lia,show(f.h-1-0+1).toNat=f.h.toNat by lia]
  rintro _ _⟨rfl,rfl⟩;k_places;refine#[#[Nk,Nk],by rw[bF];decide,λk ys=>ys=(Il k).map λ(v:Nat)=>D.int (bH f.p v 0 0 f.w.toNat f.l.toNat+bH f.p v 0 f.l f.w.toNat (f.h-f.l).toNat),rfl,?_,?_]
  .rintro k v ys hk hl rfl;let#[p_,rfl]:=bQ hk;have k7:k<7:=p_;refine#[_,wu k7,_,wu k7,?_];show _=JP _ (Il (k+1));rw[JR,II];rfl
  .rintro ys hl rfl;rw[bF];refine#[bL f.p 0 0 f.w.toNat f.h.toNat,?_,by unfold bL;simp,hR];have e:((Il 7).map λ(v:Nat)=>D.int (bH f.p v 0 0 f.w.toNat f.l.toNat+bH f.p v 0 f.l f.w.toNat (f.h-f.l).toNat))=(bL f.p 0 0 f.w.toNat f.h.toNat).map D.int:=by
    unfold bL;rw[JW];apply JS;intro v _;have:=FF f.p v 0 0 f.w.toNat f.l.toNat (f.h-f.l).toNat;rw[JH,IM f1,show f.l.toNat+(f.h-f.l).toNat=f.h.toNat by lia]at this;exact congrArg D.int this
   rw[show(7:Int).toNat=7 from rfl,e]
end
local macro_rules | `(tactic| walk_at "b") => `(tactic| first | exact B2 λ_ _ _ _ _ _ _ => rfl | exact bind2 λ_ _ _ _ _ _ _ _ => rfl | exact bind3 λ_ _ _ _ _ _ _ _ _ => rfl | exact bind4 λ_ _ _ _ _ _ _ _ _ _ => rfl | exact bind5 λ_ _ _ _ _ _ _ _ _ _ _ => rfl | exact bind6 λ_ _ _ _ _ _ _ _ _ _ _ _ => rfl)
local macro_rules | `(tactic| walk_at "bd") => `(tactic| exact λ_ _ _ _ _ _ _ _ _ _ _ _ _ _ h hs => ⟨.of_defaults rfl h hs rfl rfl, .of_defaults rfl h hs rfl rfl⟩)
structure TopIn(K:Ex):Prop where
 uMN:FnIn K "_law_at" lG
 uGX:FnIn K "_law_draws" lJ
 uFS:FnIn K "_law_lines" lL
 uHX:FnIn K "_law_shift_pair" lN
 uLF:FnIn K "_law_motif_text" lQ
 uKT:FnIn K "_law_motif" lU
 uJC:FnIn K "_law_wrapped" iB
 uHP:FnIn K "_law_gcd" lY
 uKI:FnIn K "_law_on" md
 uFQ:FnIn K "_law_leaf_family" mf
 uIB:FnIn K "_law_in_family" mj
 uKS:FnIn K "_law_both" mm
 uLQ:FnIn K "_law_family" mo
 uLA:FnIn K "_law_over" mx
 uKG:FnIn K "_law_pattern" mz
 uLL:FnIn K "_law_respelled" mC
 uHU:FnIn K "_law_leaf_shows" mF
 uIF:FnIn K "_law_shows" mH
 uFN:FnIn K "_law_floor_rows" iC
 uHM:FnIn K "_law_four" iD
 uJD:FnIn K "refuse_far" mN
 uFW:FnIn K "home" mR
 uIE:FnIn K "cell_at" mV
 uHG:FnIn K "row_from" iP
 uHQ:FnIn K "_law_lay" nh
 uKA:FnIn K "_law_texts" nq
 uGF:FnIn K "line_from" nB
 uGH:FnIn K "lines_from" nD
 uLJ:FnIn K "number_from" nF
 uFZ:FnIn K "shift_from" nH
 uKB:FnIn K "levelled" nJ
 uMK:FnIn K "spread" nM
 uLV:FnIn K "hues_by_home" nO
 uGT:FnIn K "motif_from" nS
 uKC:FnIn K "over_from" iS
 uME:FnIn K "shifted_from" iT
 uMO:FnIn K "rehue_from" iU
 uHN:FnIn K "form_from" iV
 uLD:FnIn K "measure" oy
 uIU:FnIn K "met" oA
 uJG:FnIn K "mirrored" oC
 uFU:FnIn K "turned" oF
 uJJ:FnIn K "read" oH
 uJQ:FnIn K "first_unlike" oJ
 uIR:FnIn K "_law_change" oS
 uII:FnIn K "_law_parted" oV
 uLY:FnIn K "_law_whole" oX
 uFX:FnIn K "_law_bad" oZ
 uFL:FnIn K "_law_undo" ph
 uLW:FnIn K "_law_next" pj
 uKU:FnIn K "_law_seven" pp
 uGV:FnIn K "_law_counts" pr
 uIY:FnIn K "field_rows" ji
 uJE:FnIn K "round_row" pz
 uIK:FnIn K "count_sign" pB
 uKZ:FnIn K "count_all" jj
 uKJ:FnIn K "_law_view" pK
 uJA:FnIn K "law" gC
 uHD:NnIn K "len"
 uLR:NnIn K "range"
 uJL:NnIn K "int"
 uFT:NnIn K "str"
 uJT:NnIn K "list"
 uHK:NnIn K "abs"
 uJF:NnIn K "max"
 uFM:NnIn K "isinstance"
 uFV:NnIn K "enumerate"
 uIT:NnIn K "bool"
 uGP:NnIn K "min"
 uP:ClIn K "Floor"
 uBY:ClIn K "Motif"
 uCJ:ClIn K "Over"
 uBW:ClIn K "Shifted"
 uCR:ClIn K "Mirror"
 uEB:ClIn K "Turn"
 uCA:ClIn K "Rehue"
 uDY:ClIn K "Pattern"
 uCI:ClIn K "Reading"
 uMA:InIn K "Motif" "Motif.__init__" nQ
 uHL:InIn K "Mirror" "Mirror.__init__" nV
 uMC:InIn K "Turn" "Turn.__init__" nX
 uLN:InIn K "Over" "Over.__init__" nZ
 uIM:InIn K "Shifted" "Shifted.__init__" og
 uHB:InIn K "Rehue" "Rehue.__init__" oi
 uLP:InIn K "Reading" "Reading.__init__" ol
 uJH:InIn K "Pattern" "Pattern.__init__" oq
 uIO:InIn K "Floor" "Floor.__init__" pM
 uJZ:MtIn K "Floor" "keep" "Floor.keep" mL
 uIQ:MtIn K "Motif" "shows" "Motif.shows" iE
 uKM:MtIn K "Over" "shows" "Over.shows" iF
 uLK:MtIn K "Shifted" "shows" "Shifted.shows" iH
 uGN:MtIn K "Mirror" "shows" "Mirror.shows" iJ
 uGD:MtIn K "Turn" "shows" "Turn.shows" iL
 uIG:MtIn K "Rehue" "shows" "Rehue.shows" iN
 uKP:MtIn K "Floor" "rows" "Floor.rows" iQ
 uKR:MdIn K "Floor" "lay" "Floor.lay" ng 1
 uJM:MtIn K "Reading" "may_take" "Reading.may_take" nw
 uIJ:MtIn K "Reading" "take" "Reading.take" nz
 uJY:MtIn K "Motif" "family" "Motif.family" iW
 uJP:MtIn K "Over" "family" "Over.family" iX
 uHY:MtIn K "Shifted" "family" "Shifted.family" iZ
 uHW:MtIn K "Mirror" "family" "Mirror.family" jb
 uJX:MtIn K "Turn" "family" "Turn.family" jd
 uKE:MtIn K "Rehue" "family" "Rehue.family" jg
 uGO:MtIn K "Floor" "stand" "Floor.stand" oO
 uLM:MtIn K "Floor" "change" "Floor.change" oQ
 uFY:MtIn K "Floor" "undo" "Floor.undo" pe
 uJR:MtIn K "Floor" "lies" "Floor.lies" pE
 uFO:MtIn K "Floor" "still" "Floor.still" pG
 uKN:MtIn K "Floor" "kept" "Floor.kept" pI
 uMI:NoIn K "Floor" "deeds"
 uKH:NoIn K "Floor" "laid"
 uIN:NoIn K "Floor" "pattern"
 uMF:NoIn K "Motif" "hues"
 uLC:NoIn K "Motif" "shifts"
 uMJ:NoIn K "Over" "above"
 uJK:NoIn K "Over" "below"
 uKQ:NoIn K "Shifted" "form"
 uGI:NoIn K "Shifted" "y"
 uKY:NoIn K "Shifted" "x"
 uHZ:NoIn K "Mirror" "form"
 uGJ:NoIn K "Turn" "form"
 uIZ:NoIn K "Rehue" "form"
 uIL:NoIn K "Rehue" "old"
 uGE:NoIn K "Rehue" "new"
 uIS:NoIn K "Pattern" "form"
 uLS:NoIn K "Floor" "width"
 uMD:NoIn K "Floor" "height"
 uLZ:NoIn K "Reading" "text"
 uGY:NoIn K "Reading" "place"
 uKL:NoIn K "Motif" "place"
 uGZ:NoIn K "Pattern" "text"
 uKD:NoIn K "Pattern" "shifts"
 uIH:NoIn K "Floor" "text"
 uKW:CiIn K "KEPT" 20
 uGS:CiIn K "FAR" 1000000000000
 uGA:CsIn K "SIGNS" ".123456"
 uKV:CiIn K "LONGEST" 8
 uKX:CiIn K "DEEP" 5
 uMB:CiIn K "MOST" 720
 eb:EbIn K
 uAG:E1In K "WrongSign" "WrongSign.__init__" nu
 uBE:EaIn K "WrongSign"
 uEZ:NoIn K "WrongSign" "place"
 uHR:EgIn K "WrongSign"
 uAM:E1In K "OneLine" "OneLine.__init__" ou
 uAY:EaIn K "OneLine"
 uFH:NoIn K "OneLine" "place"
 uGL:EgIn K "OneLine"
 uES:E0In K "TooGreat"
 uFK:E0In K "TooFar"
 uFE:E0In K "NoRow"
 uBB:E1In K "Parted" "Parted.__init__" oM
 uAK:EaIn K "Parted"
 uFD:NoIn K "Parted" "x"
 uFC:NoIn K "Parted" "y"
 uFA:EgIn K "Parted"
 uEP:E0In K "NothingKept"
 uJI:EiIn K "MotifError"
 uIP:EmIn K "WrongSign" "WrongSign"
 uHV:EmIn K "WrongSign" "OneLine"
 uHT:EmIn K "WrongSign" "TooGreat"
 uGQ:EmIn K "WrongSign" "TooFar"
 uIV:EmIn K "WrongSign" "NoRow"
 uHH:EmIn K "WrongSign" "Parted"
 uHS:EmIn K "WrongSign" "NothingKept"
 uHE:EmIn K "OneLine" "WrongSign"
 uGG:EmIn K "OneLine" "OneLine"
 uMM:EmIn K "OneLine" "TooGreat"
 uIW:EmIn K "OneLine" "TooFar"
 uHA:EmIn K "OneLine" "NoRow"
 uJN:EmIn K "OneLine" "Parted"
 uIX:EmIn K "OneLine" "NothingKept"
 uHF:EmIn K "TooGreat" "WrongSign"
 uLT:EmIn K "TooGreat" "OneLine"
 uJW:EmIn K "TooGreat" "TooGreat"
 uLI:EmIn K "TooGreat" "TooFar"
 uLO:EmIn K "TooGreat" "NoRow"
 uHC:EmIn K "TooGreat" "Parted"
 uKK:EmIn K "TooGreat" "NothingKept"
 uJS:EmIn K "TooFar" "WrongSign"
 uIC:EmIn K "TooFar" "OneLine"
 uKO:EmIn K "TooFar" "TooGreat"
 uGR:EmIn K "TooFar" "TooFar"
 uGU:EmIn K "TooFar" "NoRow"
 uML:EmIn K "TooFar" "Parted"
 uJU:EmIn K "TooFar" "NothingKept"
 uHI:EmIn K "NoRow" "WrongSign"
 uGM:EmIn K "NoRow" "OneLine"
 uLX:EmIn K "NoRow" "TooGreat"
 uKF:EmIn K "NoRow" "TooFar"
 uFR:EmIn K "NoRow" "NoRow"
 uLE:EmIn K "NoRow" "Parted"
 uJO:EmIn K "NoRow" "NothingKept"
 uID:EmIn K "Parted" "WrongSign"
 uIA:EmIn K "Parted" "OneLine"
 uJV:EmIn K "Parted" "TooGreat"
 uLH:EmIn K "Parted" "TooFar"
 uGW:EmIn K "Parted" "NoRow"
 uLU:EmIn K "Parted" "Parted"
 uJB:EmIn K "Parted" "NothingKept"
 uGB:EmIn K "NothingKept" "WrongSign"
 uHJ:EmIn K "NothingKept" "OneLine"
 uFP:EmIn K "NothingKept" "TooGreat"
 uGC:EmIn K "NothingKept" "TooFar"
 uHO:EmIn K "NothingKept" "NoRow"
 uLB:EmIn K "NothingKept" "Parted"
 uLG:EmIn K "NothingKept" "NothingKept"
def Ig{V:Bx}{h:Heap}(t:TopIn V.K)(X:V.K.In h)(G:h.Ns SL V.mg){fa:Pi}{fd:V2}(F:Fun V.K "law" "law" gC fa fd):FnOk V.P V.w V.K V.mg V.base (Exc.CX1 V.P V.w) 23 fa fd pO (lSp V.K fk):=by
 have uA:=mg_none_of X G t.uHD;have uB:=mg_none_of X G t.uLR;have uD:=mg_none_of X G t.uJL;have uG:=mg_none_of X G t.uFT;have A':=mg_none_of X G t.uJT;have uT:=mg_none_of X G t.uHK;have uU:=mg_none_of X G t.uJF;have uN:=mg_none_of X G t.uFM;have NK:=mg_none_of X G t.uFV;have RY:=mg_none_of X G t.uIT;have R_:=mg_none_of X G t.uGP;have uS:=t.uP.a t.uMI;have uE:=t.uP.a t.uKH;have uF:=t.uP.a t.uIN;have M7:=t.uBY.a t.uMF;have uO:=t.uBY.a t.uLC;have uZ:=t.uCJ.a t.uMJ;have x_:=t.uCJ.a t.uJK;have uW:=t.uBW.a t.uKQ;have M8:=t.uBW.a t.uGI;have M9:=t.uBW.a t.uKY;have uY:=t.uCR.a t.uHZ;have y7:=t.uEB.a t.uGJ;have y8:=t.uCA.a t.uIZ;have M_:=t.uCA.a t.uIL;have Na:=t.uCA.a t.uGE;have N3:=t.uDY.a t.uIS;have uL:=t.uP.a t.uLS;have uV:=t.uP.a t.uMD;have Nb:=t.uCI.a t.uLZ;have uH:=t.uCI.a t.uGY;have Nd:=t.uBY.a t.uKL;have N9:=t.uDY.a t.uGZ;have Mm:=t.uDY.a t.uKD;have uX:=t.uP.a t.uIH;have Rw:=t.uKW.g X G;have Rx:=t.uGS.g X G;have uR:=t.uGA.g X G;have PL:=t.uKV.g X G;have O7:=t.uKX.g X G;have RL:=t.uMB.g X G;have uBE:=t.uAG.a t.eb t.uBE X G;have RB:=t.uEZ.all;have uAY:=t.uAM.a t.eb t.uAY X G;have RK:=t.uFH.all;have RP:=t.uES.k t.eb X G;have Ry:=t.uFK.k t.eb X G;have RA:=t.uFE.k t.eb X G;have uAK:=t.uBB.a t.eb t.uAK X G;have RS:=t.uFD.all;have RT:=t.uFC.all;have RZ:=t.uEP.k t.eb X G;have ML:=t.uJI.b X G;have RV:V.x "y" ["Parted"]:=AllP.mem #[t.uFA.g uAK t.uFC,trivial];have RW:V.x "x" ["Parted"]:=AllP.mem #[t.uFA.g uAK t.uFD,trivial];have PP:V.x "place" ["WrongSign","OneLine"]:=AllP.mem #[t.uHR.g uBE t.uEZ,t.uGL.g uAY t.uFH,trivial];have ek:gI V:=B3 #[(t.uAG.c t.eb X G),(t.uAM.c t.eb X G),(let ⟨C,N,bm,k,_⟩:=t.uES.k t.eb X G;#[C,N,bm,k]),(let ⟨C,N,bm,k,_⟩:=t.uFK.k t.eb X G;#[C,N,bm,k]),(let ⟨C,N,bm,k,_⟩:=t.uFE.k t.eb X G;#[C,N,bm,k]),(t.uBB.c t.eb X G),(let ⟨C,N,bm,k,_⟩:=t.uEP.k t.eb X G;#[C,N,bm,k]),trivial] #[#[t.uIP,t.uHV,t.uHT,t.uGQ,t.uIV,t.uHH,t.uHS,trivial],#[t.uHE,t.uGG,t.uMM,t.uIW,t.uHA,t.uJN,t.uIX,trivial],#[t.uHF,t.uLT,t.uJW,t.uLI,t.uLO,t.uHC,t.uKK,trivial],#[t.uJS,t.uIC,t.uKO,t.uGR,t.uGU,t.uML,t.uJU,trivial],#[t.uHI,t.uGM,t.uLX,t.uKF,t.uFR,t.uLE,t.uJO,trivial],#[t.uID,t.uIA,t.uJV,t.uLH,t.uGW,t.uLU,t.uJB,trivial],#[t.uGB,t.uHJ,t.uFP,t.uGC,t.uHO,t.uLB,t.uLG,trivial],trivial];have Ml:=F4 (t.uMN.tx X G) uA;have z_:=F5 (t.uGX.tx X G) uB Ml;have Q6:=F6 (t.uFS.tx X G) uB uA;have Q7:=F7 (t.uHX.tx X G) uD;have Q8:=F8 (t.uLF.tx X G) uG;have NF:=F9 (t.uKT.tx X G) z_ Q6 Q7 Q8;have M5:=Ga (t.uJC.tx X G) uG A' uD;have NZ:=Gb (t.uHP.tx X G) uT;have N1:=Gc (t.uKI.tx X G);have PF:=Gd (t.uFQ.tx X G) uT NZ N1;have Rf:=Ge (t.uIB.tx X G);have Rj:=Gf (t.uKS.tx X G) NZ Rf;have Rk:=Gg (t.uLQ.tx X G) PF Rj;have NG:=Gh (t.uLA.tx X G) uU Rk;have Rs:=Gi (t.uKG.tx X G) uB z_ NF M5 NG;have Rt:=Gk (t.uLL.tx X G) uA A';have Rq:=Gm (t.uHU.tx X G) uB uA uD N1;have Rr:=Gn (t.uIF.tx X G) Rq;have Ru:=Gp (t.uFN.tx X G) uB Rr;have Sf:=Gr (t.uHM.tx X G) Rs z_ Rt M5 NG NF Ru;have N5:=Gu (t.uJZ.txm t.uP) Rw uS uE uF;have NI:=Gv (t.uJD.tx X G) uU uT Rx Ry;have L_:=Gw (t.uFW.tx X G);have uI:wO V:=GC (t.uIQ.txm t.uBY) (t.uKM.txm t.uCJ) (t.uLK.txm t.uBW) (t.uGN.txm t.uCR) (t.uGD.txm t.uEB) (t.uIG.txm t.uCA) L_ M7 uO uZ x_ uW M8 M9 uY y7 y8 M_ Na 6;have NJ:=GD (t.uIE.tx X G) NI N3 uI;have N4:=GE (t.uHG.tx X G) uB NJ uR;have N6:=GF (t.uKP.txm t.uP) uB N4 uE uL uF;have PJ:=GI (t.uKR.txd t.uP (by walk_at "bd")) uU uV uE N5 N6 RA;have R3:=GK (t.uHQ.tx X G) PJ ek;have Ob:=GM (t.uKA.tx X G) uA uN A' uB uG;have uAG:=GN (t.uAG.txe t.eb X G) ML uBE RB;have uM:=GO (t.uJM.txm t.uCI) uA Nb uH;have uC:=GP (t.uIJ.txm t.uCI) uH uM uAG;have PK:=GQ (t.uGF.tx X G) uB uR uC uM;have RE:=GR (t.uGH.tx X G) uA PK PL uM;have PM:=GS (t.uLJ.tx X G) uD uM uC;have MP:=GT (t.uFZ.tx X G) PM uC;have N7:=GU (t.uKB.tx X G);have N8:=GV (t.uMK.tx X G) uT N7;have RD:=GW (t.uLV.tx X G) NK L_ uR;have RF:=GX (t.uMA.txi X G) N8 RD Nd uO M7;have O6:=GY (t.uGT.tx X G) RE MP uH RF uC;have O8:=GZ (t.uHL.txi X G) uY;have O9:=G0 (t.uMC.txi X G) y7;have O3:=G1 (t.uLN.txi X G) uZ x_;have O4:=G2 (t.uIM.txi X G) uW M9 M8;have O5:=G3 (t.uHB.txi X G) y8 M_ Na;have uK:xb V:=G8 (t.uKC.tx X G) (t.uME.tx X G) (t.uMO.tx X G) (t.uHN.tx X G) O3 uC MP O4 uD O5 O6 O7 O8 O9 uM 6;have RN:=G9 (t.uLP.txi X G) Nb uH;have RO:=Ha (t.uJH.txi X G) N9 Mm N3;have uAM:=Hb (t.uAM.txe t.eb X G) ML uAY RK;have Pa:=Hc (t.uLD.tx X G) N7;have Pb:=Hd (t.uIU.tx X G) Pa;have Pc:=Hf (t.uJG.tx X G);have Pd:=Hg (t.uFU.tx X G) N8;have uJ:xc V:=Hn (t.uJY.txm t.uBY) (t.uJP.txm t.uCJ) (t.uHY.txm t.uBW) (t.uHW.txm t.uCR) (t.uJX.txm t.uEB) (t.uKE.txm t.uCA) uO Nd uAM Pb uZ x_ uW Pc uY Pd y7 y8 6;have MQ:=Ho (t.uJJ.tx X G) uA uK RL uH RN RO uJ uAG RP;have RU:=Hr (t.uJQ.tx X G) uB NJ;have uBB:=Ht (t.uBB.txe t.eb X G) ML uAK RS RT;have N_:=Hv (t.uGO.txm t.uP) uF uX N9;have Oa:=Hx (t.uLM.txm t.uP) MQ RU uE uL uF N5 N_ uBB;have R4:=Hz (t.uIR.tx X G) Oa RV RW ek;have R5:=HB (t.uII.tx X G) uB uA;have uQ:=HC (t.uLY.tx X G) uN RY uD;have R6:=HE (t.uFX.tx X G) uA uQ Oa PP ek;have R1:=HG (t.uFY.txm t.uP) uA uS uE N_ RZ;have R7:=HI (t.uFL.tx X G) R1 ek;have Sg:=ok__law_next (t.uLW.tx X G) uD uN uG R3 Ob R4 R5 uQ R6 R7;have NM:=HM (t.uKU.tx X G) uA uN A' uB uQ;have PR:=HP (t.uGV.tx X G);have Sa:=HQ (t.uIY.tx X G) uB N4 Mm;have Sb:=HR (t.uJE.tx X G) L_;have Sc:=HS (t.uIK.tx X G) uA;have MU:=HU (t.uKZ.tx X G) uU uB R_ NK NI Sa Sb Sc uR Mm;have Oc:=HW (t.uJR.txm t.uP) MU uE uL uF;have Od:=HY (t.uFO.txm t.uP) MU uV uL uE uF;have Se:=H8 (t.uKN.txm t.uP) uA uS;have Sh:=Ia (t.uKJ.tx X G) uN uG uQ Ob NM PR uX uL uV N6 Oc Od Se;have Si:=Ic (t.uIO.txi X G) MQ uF uX uL uV uE uS;exact Ie F uA uB Ml Sf z_ Sg Sh MU MQ NM uX Si Oc Od
def all_mk{l:Kz}{w:VX}{K:Ex}{h:Heap}{mg:Mr->Option Os}{fa:Pi}(X:K.In h)(G:h.Ns SL mg)(Ny:mg "law"=be (.ref fa))(t:TopIn K):
  ∃fd:V2,(∀(s:SB) (v:Os),WO s fd #[[v],[]] [("_law_script",v)])/\∀base:Heap,K.In base->base.Ns SL mg->FnOk l.prog w K mg base (Exc.CX1 l.prog w) 23 fa fd ["_law_script"] (lSp K fk):=by
 let#[fd,b,F]:=t.uJA.law X G Ny (λ_ _ _ _ _ _ _=>rfl);exact#[fd,b,λbase _ _=>Ig (V:=#[l.prog,w,K,mg,base]) t X G F]
def law_walk{l:Kz}{q:VU}{l9:List Mr}{XP:(Mr->Option Os)->Heap->Prop}{YP:VX->Heap->Prop}{d:DefRec}{K:Params->Ex}(hn:l.most=be 63)(Ou:d.params.defaults=[])
  (hY:∀(w:VX) (h:Heap),YP w h->(K w.params).In h)
  (F:∀(w:VX) (mg:Mr->Option Os) (fa:Pi) (h:Heap),(K w.params).In h->h.Ns SL mg->mg d.name=be (.ref fa)->
   ∃fd:V2,(∀(s:SB) (u:Os),WO s fd #[[u],[]] [("_law_script",u)])/\∀base:Heap,(K w.params).In base->base.Ns SL mg->FnOk l.prog w (K w.params) mg base (Exc.CX1 l.prog w) 23 fa fd ["_law_script"] (lSp (K w.params) fk)):
  La q l9 XP YP l.row.toRowW d [] (λf vs=>PySem.call f vs):=
 L2.walk_of (n:=63) (k:=23) (x:="_law_script") (CX:=λw=>Exc.CX1 l.prog w) (sp:=λw=>lSp (K w.params) fk) hn Nk Ou #[rfl,Nk,Nk] hY F (λ_ _ a ns hl _ hS=>Ar hl hS) λ_ _ _ _ _ h=>by let#[_,_,_,_,_,_,_,_,_,_,_,_,_,_,_,z]:=h;exact z
end My
open PySem PySem.W PyProof.Rows
set_option maxRecDepth 100000 in
set_option maxHeartbeats 0 in
theorem PySem.Challenge.cw_motiffield_k44_whole_floor_holds : PySem.Challenge.rw_motiffield_k44_whole_floor.Holds := by
  w_on;o_law;k_head;(case hw =>w_witness2)
  k_fill
  refine My.law_walk (l :=PySem.Challenge.rw_motiffield_k44_whole_floor) rfl rfl (λw h Y =>kIn_of Y) ?F
  case F =>
    intro w mg fa h KX G l6;refine My.all_mk KX G l6 ?_;constructor
    all_goals first|((with_reducible refine' My.fnIn_mk ?a ?l ?c ?k);(case a =>k_is);(case l =>k_is);(case c =>k_is);(case k =>k_is))|((with_reducible refine' My.nnIn_mk ?a);(case a =>k_is))|((with_reducible refine' My.noIn_mk ?a ?b);(case a =>k_is);(case b =>k_is))|((with_reducible refine' My.mtIn_mk ?a ?b ?i ?l ?c ?k);(case a =>k_is);(case b =>k_is);(case i =>k_is);(case l =>k_is);(case c =>k_is);(case k =>k_is))|((with_reducible refine' My.mdIn_mk ?a ?b ?i' ?l ?c ?k ?d);(case a =>k_is);(case b =>k_is);(case i' =>k_is);(case l =>k_is);(case c =>k_is);(case k =>k_is);(case d =>k_is))|((with_reducible refine' My.inIn_mk ?a ?mk ?b ?i ?kp ?l ?c ?k);(case a =>k_is);(case mk =>k_is);(case b =>k_is);(case i =>k_is);(case kp =>k_is);(case l =>k_is);(case c =>k_is);(case k =>k_is))|((with_reducible refine' My.clIn_mk ?a ?pg ?hd ?po ?sa ?ha ?hn ?ht ?hm);(case a =>k_is);(case pg =>k_is);(case hd =>k_is);(case po =>k_is);(case sa =>k_is);(case ha =>k_is);(case hn =>k_is);(case ht =>k_is);(case hm =>k_is))|((with_reducible refine' My.ciIn_mk ?a);(case a =>k_is))|((with_reducible refine' My.csIn_mk ?a);(case a =>k_is))|((with_reducible refine' My.ebIn_mk ?a ?kp ?o ?nk ?al ?ni);(case a =>k_is);(case kp =>k_is);(case o =>k_is);(case nk =>k_is);(case al =>rfl);(case ni =>k_is))|((with_reducible refine' My.e0In_mk ?b ?a ?kp ?o ?nk ?al ?ni);(case b =>k_is);(case a =>k_is);(case kp =>k_is);(case o =>k_is);(case nk =>k_is);(case al =>rfl);(case ni =>k_is))|((with_reducible refine' My.e1In_mk ?b ?a ?kp ?o ?j ?i ?l ?c ?k);(case b =>k_is);(case a =>k_is);(case kp =>k_is);(case o =>k_is);(case j =>k_is);(case i =>k_is);(case l =>k_is);(case c =>k_is);(case k =>k_is))|((with_reducible refine' My.eaIn_mk ?a ?b);(case a =>k_is);(case b =>k_is))|((with_reducible refine' My.egIn_mk ?a ?b ?c);(case a =>k_is);(case b =>k_is);(case c =>k_is))|((with_reducible refine' My.eiIn_mk ?a ?b ?c ?d);(case a =>k_is);(case b =>k_is);(case c =>k_is);(case d =>k_is))|((with_reducible refine' My.emIn_mkT ?e ?a ?c ?d);(case e =>decide);(case a =>k_is);(case c =>k_is);(case d =>k_is))|((with_reducible refine' My.emIn_mkF ?e ?a ?c ?d);(case e =>decide);(case a =>k_is);(case c =>k_is);(case d =>k_is))
end
