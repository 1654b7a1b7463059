import PyProof.Rows.All
import Wide.All
import OpenK.AllK
import Wide.FinOn
import Lean
import PyProof.EqAt
import PyProof.EqKinds
import PyProof.TupleCall
import PySem.Challenge.RW_motiffield_k42_whole_refusals
set_option compiler.extract_closed false
set_option Elab.async false
set_option linter.all false
set_option maxRecDepth 100000
set_option maxHeartbeats 4000000
def goN(s:String):=Lean.mkNode (String.append "Lean.Parser.Tactic.rcasesPat" s).toName
def goL(s:String)(a:Array Lean.Syntax):=goN "Lo" #[goN "Med" #[Lean.mkNullNode #[goN s a]],Lean.mkNullNode]
def goQ(f:Lean.Syntax->Lean.Syntax)(s:Lean.Syntax):=if s.isAtom then s else if s.isIdent then goL ".one" #[s] else if s[1].isMissing then goL ".ignore" s.getArgs else goL ".tuple" #[s[0],s[1].modifyArgs (·.map f),s[2]]
def goP:=goQ (goQ (goQ (goQ (goQ (goQ (goQ id))))))
local macro_rules|`(tactic|let$d:letDecl)=>let p:=d.raw[0];if p[0][0].getAtomVal=="#[" then pure (Lean.mkNode ``Lean.Parser.Tactic.obtain #[Lean.mkAtom "obtain",Lean.mkNullNode #[(goP p[0])[0]],Lean.mkNullNode p[2][0].getArgs,Lean.mkNullNode #[p[3],Lean.mkNullNode #[p[4]]]]) else Lean.Macro.throwUnsupported
local macro_rules|`($t\$c)=>pure (Lean.Syntax.mkApp (Lean.mkIdent `autoParam) #[t,c])
def goT(a:Nat)(x:Char):=a*52+(x.toNat-65)%32+x.toNat/97*26
local macro_rules|`(command|mutual$x*end)=>let d:=x[0]!.raw;let e:=x.back!.raw;if e[0].getAtomVal != "#check" then Lean.Macro.throwUnsupported else pure (Lean.mkNullNode (e[1][1].getArgs.map fun i=>d.setArg 1 (d[1].setArg 1 (d[1][1].setArg 0 (Lean.mkIdent (.mkSimple (.append "tw" (Nat.repr (i.getId.toString.toList.foldl goT 0)))))))))
local macro_rules|`(command|def $x:declId $s:optDeclSig $v:declVal)=>`(command|noncomputable def $x:declId $s:optDeclSig $v:declVal)
local macro_rules|`(command|abbrev $x:declId $s:optDeclSig $v:declVal)=>`(command|noncomputable abbrev $x:declId $s:optDeclSig $v:declVal)
local macro_rules|`(#[$x,*])=>`(⟨$x,*⟩)
theorem KK{p:Prop}(h:p:=by decide+kernel):p:=h
theorem KZ{p:Prop}(h:p:=by lia):p:=h
theorem K3{p:Prop}(h:p:=by decide):p:=h
theorem K7{p:Prop}(h:p:=by first|decide|rfl|exact Gw rfl):p:=h
theorem K8{p:Prop}(h:p:=by simp):p:=h
theorem LV{p:Prop}(h:p:=by omega):p:=h
theorem L8{p:Prop}(h:p:=by rw[ht];decide+kernel):p:=h
theorem L_{p:Prop}(h:p:=by k_memK):p:=h
theorem Mg{p:Prop}(h:p:=by grind):p:=h
theorem Nb{p:Prop}(h:p:=by simp[step,aN,aF]):p:=h
theorem N3{p:Prop}(h:p:=by cases d<;>first|exact#[_,rfl,h]|exact False.elim h):p:=h
theorem Pe{p:Prop}(h:p:=by rw[ht];rfl):p:=h
theorem Qa{p:Prop}(h:p:=by cases q:cd.mro with|nil=>rw[q]at hm;simp[aS]at hm|cons _ _=>rfl):p:=h
theorem Ql{p:Prop}(h:p:=by rw[<-hY];rfl):p:=h
theorem Qt{p:Prop}(h:p:=by unfold mroIn;rw[hc,HQ,if_neg (by rw[ne];decide),eV KK hm]):p:=h
theorem S5{p:Prop}(h:p:=by rw[bT];simp[aZ,show¬d=5 by lia]):p:=h
open PySem renaming Str->J7
open Option renaming some->be,none->x8
open PySem renaming Value->KB,Addr->KF,Shared->KM,wpAny_bind->Os,mainGlobals->Pi,wpAny_pure->P3,Program->SB,model->SL,Expr->SZ,wpAny->TC,Stmt->TF,World->TJ,Around->TK,starEach->TL,attributeBase->TM,assignEach->TN,FuncData->TQ,eval->TR,compareOp->TU,wpAny_Call_Name_kw->TV,Pos->TX,wpAny_newObj_type->TZ,wpAny_mono->T1,bootBuiltins->T3,behindInMarks->T4,Obj->T5,wpAny_loadPart_at->T6,swapsWith->T7,binaryOp->T8,excClassObj->T9,wpAny_passesOwn->T_,sysModules->Ua,codeAny_mono->Ub,Scope->Uc,ExceptHandler->Ud,wpAny_call->Ue,wpAny_getItem_str_slice->Ug,PassesOwn->Uh,wpAny_truthy_bool->Ui,plainObj_wpAny_Assign_Attribute->Uj,wpAny_standAt->Uk,wpAny_holding->Ul,swapsWithSole->Um,swappedStores->Uo,wpAny_field->Up,sliceBounds->Uq,codeAny_call_builtin->Ur,bindArgs->Us,NameKind->Ut,wpAny_execs_nil->Uu,wpAny_isSubtype_exc->Uv,Env->Uw,cLine->Ux,backTo->Uy,wpAny_pyIter_enum->Uz,sizeLine_eq->UA,keywordEach->UB,assign->UD,tupleKind->UE,noteFrame->UF,standAt->UG,holding->UH,call_meets->UI,BindsTo->UJ,post_val_or_str->UK,letOwnedTupleGo->UL,wpAny_setField->UM,rawInt->UN,getMethod->UO,codeAny->UP,isInstance->UQ,wpAny_assign_Name->US,callerA->UT,backToKw->UU,wpAny_lookBehind->UV,setFlight->UW,pastItsLine_dict->UX,IsPart->UY,atKey->UZ,valueAt->U0,getItem->U1,wpAny_loadPart->U2,wpAny_letOwnedTupleGo_enum->U3,typeIs_str->U4,handleBy->U5,dictSetDefault->U6,bindName->U7,Operator->U8,wpAny_comprehension_free->U9,assignInOrder->U',bindL->U_,bindC->Va,ClassData->Vb,wpAny_nsSet1->Vc,seqIndex_neg->Ve,leaving->Vf,getAttr->Vg,codeAny_compStart_list->Vh,call_meetsIn->Vi,Sem->Vj,codeAny_handlers_test->Vl,wpAny_of_eq->Vm,wpAny_newFunctionEnv->Vn,seqIndex_of->Vo,callWith->Vp,Model->Vq,GenState->Vr,wpAny_handleBy_cons->Vs,wpAny_call_exc_subT->Vt,wpAny_rule->Vu,wpAny_entryPlaceOf->Vv,wpAny_Name->Vw,typeIs_int->Vx,tupleKind_room_in1->Vy,builtinsNs->Vz,wpAny_frameOf_fun->VA,setAttr->VB,relabel->VC,foldedSetIterable->VD,Tok->VF,Keyword->VG,CmpOp->VH
open PyProof.Rows renaming envOfC->TY,AllBare->UC,assignInOrder_cons->UR,subscriptTail_builtinR->Vd,IntsAre->Vk,assignInOrder_nil->VE
open PySem.W renaming Frag->Ex,findIn->GE,mroIn->Hb,OpenLaw->IB,clsIn->IF,handedIn->IW,WalkO->Je
open List renaming mem_singleton->Gu,mem_cons_of_mem->Gx,length_cons->Gy,mem_cons_self->Gz,mem_cons->GA,length_map->GB,size_toArray->GC,length_append->GF,replicate->GI,map_cons->GK,getElem?_set_ne->GL,lookup_cons->GM,getElem?_eq_some_iff->GO,getElem?_eq_getElem->GP,range->GQ,mem_append->GS,getElem?_map->GU,mem_map->GV,map_append->GW,mem_append_right->GX,append_assoc->GZ,append_nil->G1,cons_append->G5,getElem?_set_self->G6,nodup_cons->G7,replicate_succ->G8,getD->G9,length_set->Hc,all_cons->Hd,getElem_mem->Hf,length_take->Hl,getElem?_append_left->Hm,flatten_cons->Hn,all_eq_true->Ho,getElem?_eq_none->Hq,eq_nil_of_length_eq_zero->Hr,lookup->Hv,find?_cons->Hx,findIdx_cons->Hy,map_map->Hz,not_mem_nil->HA,mem_append_left->HB,getElem?_append_right->HC,length_drop->HD,any_cons->HE,map_nil->HF,getElem?_set->HG,nodup_append->HH,length->HM,mem_of_getElem?->HN,nil_append->HP,length_nil->HR,drop->HU,filterMap_cons->HZ,length_singleton->H9,ext_getElem?->Ig,take_length->Il,drop_eq_getElem_cons->Ip,mem_of_mem_drop->Iq,of_mem_zip->Iw,getElem?_replicate->Ix,foldl->Iy,contains_cons->IC,map->ID,range_succ->IG,set_cons_succ->IR,set_cons_zero->IS,getElem?_drop->IT,mem_filter->IU,mem_filterMap->IV,getElem?_take_of_lt->IY,length_replicate->IZ,filterMap_map->Ja,foldl_cons->Jc,getElem_toArray->Jj,forIn_cons->Jk,take_succ->Jp,take_of_length_le->Jr,dropLast_cons₂->Ju,nodup_nil->Jv,sum_cons->JH,drop_drop->JQ,length_range->JS,any_eq_true->JT,findIdx_lt_length->JU,getElem?_range->JV,mem_of_mem_take->JW,dropLast_concat->JX,drop_length->JY
open Nat renaming le_refl->Gv,le_of_ble_eq_true->Gw,le_trans->GD,ne_of_lt->GH,lt_of_lt_of_le->GR,zero_le->GT,ne_of_gt->Hi,le_succ->Hk,pow_succ->Ht,lt_irrefl->Hu,mul_le_mul->HI,pow_le_pow_right->HK,lt_or_ge->HS,not_lt_zero->HW,le_of_lt->HY,le_of_eq->H8,succ_mul->Ia,le_of_not_lt->Ib,add_le_add->Ih,add_sub_cancel->Ik,pow_pos->Io,zero_add->Ir,lt_succ_self->Iv,add_comm->Iz,mul_comm->IA,lt_succ_of_lt->IE,lt_of_le_of_lt->Jf,lt_trans->Jg,log2_lt->Jh,add_sub_add_right->Jl,mul_le_mul_left->Jt,succ_ne_self->Jw,le_max_left->JI,le_max_right->JJ,pow_add->JK
open Bool renaming false_ne_true->GJ,and_eq_true->GY,eq_false_iff->G4,eq_iff_iff->Hj,or_true->Ic,or_eq_true_iff->Jn
open Int renaming mul_pos->GN,mul_le_mul_of_nonneg_right->G0,mul_comm->G2,mul_ediv_cancel->G3,le_trans->Ha,natAbs_mul->Hg,mul_nonpos_of_nonpos_of_nonneg->Hs,toNat_natCast->Hw,eq_of_mul_eq_mul_right->HJ,emod_add_mul_ediv->HL,emod_def->HV,toNat_of_nonneg->HX,dvd_mul_of_dvd_right->Ii,mul_eq_zero->Ij,mul_neg->Im,natAbs_add_le->IH,mul_nonneg->II,emod_nonneg->IJ,emod_lt_of_pos->IK,mul_le_mul_of_nonneg_left->IL,natAbs_neg->IM,eq_of_mul_eq_mul_left->IN,dvd_add->IP,sub_mul->IQ,natAbs_eq_zero->Ji,le_ediv_of_mul_le->Js,fmod_nonneg_of_pos->Jy,fmod_lt_of_pos->Jz,natAbs_sub_le->JA,mul_emod_left->JB,fmod_eq_zero_of_dvd->JC,neg_mul->JD,le_natAbs->JE,ofNat_le->JF,dvd_mul_of_dvd_left->JG,mul_fdiv_cancel_of_fmod_eq_zero->JL,dvd_antisymm->JM,zero_mul->JN,mul_le_mul->JO,add_mul_emod_self_right->JR
open Option renaming bind_some->HQ,getD_none->Jb
open Array renaming getElem?_eq_some_iff->Ie,length_toList->Iu,getElem?_toList->Jd,all_toList->Jo,eq_empty_of_size_eq_zero->Jq,toList_inj->JP
open PySem.W (InitBack any_some callWith_K callWith_K0 cellsFrom_some cls_value codeIn codeRec_of emptyDict eq_bytes findCls findObj_own fnOf get_value hasDictIn hideAll hideAll_get hideAll_none hideAll_size instObj isFn isNs_of_in kIn_of keepIn ki_setAt ki_setBack kia_one kitOne kitx_bool kitx_dict kitx_float kitx_int kitx_list kitx_none kitx_own kitx_str kitx_tuple kun_itemsOf len_bytes lookIn make_core makesIn makes_of methodCall_KW methodObj method_cls method_fn mg_none_of mg_of ne_bytes nsIn nsMap_none_of_in nsOkIn of_hideAll osa_open plainGet plainGet_of plainOver readsIn specialIn tailIn tail_of_in takerIn takesIn truthy_bytes)
def qZ0(_:0=0:=by rfl):=0
nonrec def zA0:=qZ0._auto_1
def qZ1(_:0=0:=by decide):=0
nonrec def zA1:=qZ1._auto_1
def qZ2(_:0=0:=by first|exact .inl rfl|exact .inr rfl|assumption):=0
nonrec def zA2:=qZ2._auto_1
def qZ3(_:0=0:=by exact λ_=>rfl):=0
nonrec def zA3:=qZ3._auto_1
def qZ4(_:0=0:=by first|exact Or.inl rfl|exact Or.inr rfl):=0
nonrec def zA4:=qZ4._auto_1
def qZ5(_:0=0:=by first|exact Or.inl rfl|exact Or.inr (Or.inl rfl)|exact Or.inr (Or.inr rfl)):=0
nonrec def zA5:=qZ5._auto_1
def qZ6(_:0=0:=by exact λ_ _=>rfl):=0
nonrec def zA6:=qZ6._auto_1
def qZ7(_:0=0:=by walk_at "b"):=0
nonrec def zA7:=qZ7._auto_1
def qZ8(_:0=0:=by intros;rfl):=0
nonrec def zA8:=qZ8._auto_1
namespace PySem.W.Fast
mutual def tw:=Nat #check x BCsDxpjoyPnv AxMhtNSjUEhO CSEuJkndptTN AisjiualZFDR CUoLbWVxwaaa AAXjTrkpmFDM AHwvukcufeGm ADVUZoKZmUBb ATAWqrRhmhnU BlzptsOSbvkJ BqpetydhlQCY AGtfvtUEWyEC BNeHrEkPkLqv CKOqFGNXMyBQ AupnaZuRKNCW COJgUtcSAyHF AWSsxelZvTEk CIIWUXOOJlJF BtdaPxSRrMQY CLTeEyPJfLny BNoGgDLSEIBd BZvdyROPvvrd CGshIBqtdBPM BSvkWYmtFfTC ATeTnpIArVpl CHFLuxqmmLMb BtmMAsUKcPVN CFTUBaFyyHQw AJOeIcutEOde BvpvDuOyhRxv CRUfwbJIqLpi BQhCBEkrKaWt AMPAFHFAQygi AiFuIruswYwb ArPVYHPMBZQB BserVMkxgVNq CVGPzENCCEgO AFDOGDkDgIDM BYWkowRNmNXk BQzZfPMiMuYy BePnhtxMyQKd AexoNfHPYXfJ BqGXXvWCWQPL BNUmWypyofmS CEagVwimJZlp ACOgihvaiwQF BfolREcKeyYd BZbzqPSWoGxZ AteMuCfUDhhc ABcFcEXqCKbM BRVUTcOgxHZU BZQvISqZYFTQ BYBZFZmxQoDB BNQmdrygIwqJ AdMgRodJsTKm AasLGqGgiChb CRtOvYKTsBRI AdTWqOhJDRZW AvkasMdDDbCW AfGUNfEdKAlg CSRGOkdjGkMm ARtyALdsqAZg CUUxmJQZwhoP AyHOKpAIOxrI CUxGxcJdJlcx ARlkGdQAopRi ALcvycFvZMdR ACBaKBCIXSze BfWHurbqoOKM AyTFSfqXlOWg BltNFHBMrXyc AXaApbONSlET BxEXWedifutv CKHEllEHoFJi CNzzuNacFGOB AiQTSJZodvso AZMHrAGVSCkF AZylViDRzJXi CVbDcRkaLlAv BtqGZaBgNXXK AvpgqtjpEuYw BMBuomaEUGkf CTwbcgfNdzCx CLiuClGSahvD CIotqycqRXWd AOrJjLPmnBTH BMeWnCaxlJPd AeYQyguswuBG BynzVjVZMJys CWpIHMpMqibk BUXGcAPsSygA CNbMgIoySyuf CIPlskUXSXaJ BPbEoXviQRKx BwiRnuYeMHGJ CKoQrLKNuhLL AdLTmvFKoeYB ARGdJTwMRYfH BeAKvPIeRmJp COwqXmGTjVSo BztTiClImqCL CHqLOsJBVGZs BVKuELKBWQSD AeJxYNmkjLfG BmKoZcgLguVr AlLHtGlQVKiZ BuzKmGTHWFeN AxfvaUFqWrWX BqlIKkGuPoeI BlixVVbDiLlW BdzCLmtTqhUF BjYTOxImRWJa AsmFXIyLCeLd CSBTMVSxpCJP AkFJdMtqgqgs AfiXqdAtvXdi AoRpQPtFbMwX BpVPBWPLbhTT BYlQcUfsoDuR BFKxbFQMFhrP AnacRTYdzuNf ArdaWVdpvGvh BhajFxhTEDzc BKbMwXDBSioA CEFuUuHYpHJc BNzQEvGlMsQM AFeIHNZlbaPH BObPabChYwDt BxoXYHBTTIdF BuSHqkSdFkqP AuZaCstincSw AvNocaUrorAb AsZoOOXNcsKL BXilIFqwRCkk CPtxUWmdWjLG AqhSOoLkZBap BgqFbpbODaBu BiqoqvXnZosz CKBXxbbcUnfV BQJlhlGIhHCh BzPXOljNwHwe COvmyWnqFuuj AvLgrsqkGJhk AYyOKdRTmWtN AqlcftvgzeGI CILanwsXkAwd BXgahCvIRrPv CFZNGqHCLoiW AYXAtjckUuWp CLeLlEzJoWGp BmaeFnidkQmQ AKBmEMHIFKFL ApwuQZfOBfzV CFUWpQmtqTiU BxxXCMQyQSJC CLERpXZPoyKV CAOWkkpWRxam BwzoRqLlIUPH BwkjpaFjbAUM BJajxZOwwaTN ByMjowcQuzFg ALNHawwwdUUn CWeiCwnCBYgH CTytJDessSfW BBdCsmsgAgpk CEMrRudBFjAQ BRlGJIOeFejT BVOLghRUTxti BjXcHXUzNGfU AiYjmIgeyIGA BQSgwCZqeDoh AYztcHFFjxJZ BNAZduYMaBWP BWfmnDAKdsNH BgBHBNPXRaaq BFKnziqnDUvB BvCyIgjthznr CVbxmhwjavqE AAGpUfmjIowA AgtpiyrMJztI CWPCwuyLjWiv BPnBftAoCxcZ AuMsLouUZdGx BvovwkfBqlIT BIrluyHAnKbT BKgpNtUOUann AcchOeWHlDYl BKprMyiCtXJD BnLYrJVnmmiF COSlFacwESKo BpfyOkYIdyXP CPJwBCJRZkDJ CSPcRbXufhJd BNlFRMYVnpsq AckwaQHZrifU BQZEdDpykwjn BjwQRpryQdBY BMAGdFxPOuiY ACNkcFPtvqQm AtxaRRJEJQII AQsNJYkOLRJR CQfnvCkavrYJ AhOqtQHSnxNj BZYAuRrRJfSN AkTUnjqJDCag AlZDSjOfDlZM CDeFMKWSpzkV BeyEDnbVBKQY BburPwrZImZY CDUhZrjpgQrZ AWMSatkKTAhV BIlZQhhNHjym BOosiFGiekcE BzPPlLHGtzHz BVBScFWXKFss AHEEWGPxTpHq CHhsDrJHJKOQ AwVUkkyAcZml BLGYWxciwlhQ ApsFjyvqnzqx BgpdhLCfPBMH BrvixTLTTqVa AVQzDWjwVQwK AhwXeXjWIxMU BFZrktCsbpIb AlaDdDRSsGFk BhpMiJbAXFfn AQxlyuTXeCeR CSgWMStTHgRh BvmxOJmiwyfz CUfCIAtZyFIo BEbgqAikYtNt AwAYWXLsJCHa BmbfIMfCQxUD AzMBXuLQRzch BQAAvTLEEwrr BsZFEnnXDzvh BYWwxmopGpaT AsPURueHutEK CTzCxIEBfcTp BZYLCxZCfhnG BVjBrVkpUPPh AvrzCbeQsQQc CXNDPffmxPwC COUpUDsrGdWt AIncptjVpZFV BtraUwMkoAYv BfkvhUmtmkmH AZwVdCsPmQFS BawwZcFXCSrk COvwalEZLJED CODHqUBBnxar ApQdUiTNEzUM BCzRPuZcwMAa CPyUTSPElRjD AjIpzGRsGxOB AdHmfpEhMEGS BNGIDZkTZpim BgNYVAYXQxID BfILgEkMNkLZ ActxxTSOglBB BpUwfpflICUY AGKFQqBVpQGM AbDHgpQXQXBT AIlBpJQByRZr AFKELXKdlRAI BfNwgpVVIsuN CQuSGbhoIAhI AIHpXfDtSnQz AeUnxymWrfFg AWjgIzUaNusT BrULGolDYtNs COXyGISdLXny AtSodKyFFxkr BCGnFwFHSZPa AsNKUsTeEpMe BBPjSMEGkAHA BJQwFQqUkhpC BmeUjdBTVaPg BVdWgnXxTMox ButWFVKCPwfU CSlWRbcaJqCz BRaVceJsdkBb AhxqVrEytdiD BuOeHaIJvePM BGRHqbAyxVXP BYWuhkLyNbsf BohlrlgPdoks AHbpuHsqgYXu AUPZdGPYnBHw AuckvXKXKfgT CWDkqGoQemyf BihJkHZJnxRw BFvhXgonwKid BoOhnSZuzXIm CBpBIPhYJDMN AlJXwOjMHefK BtHtEJOOOIzw CSxDrIURPBZH CUvRzGNXycFB BLtVAbYNhKUp AeKhTdUnQLSr BEZcFnLqftwB BShwMbDJFtiS BwomHVPbctod BsOXrtIGlwyj BCvxrICLSZWv AoIBZupzVEzW AyItmXvJAJyG BnxYsHnQsGMx AnvGbkCTfWbj ANpGfJtCMwVu CNsvOBpcHhCS CDsUdTdSGTzD ASSzViJLfLLE BJvbMNzpggjk CLqiYqjtXXsC BMWVOeJCtMiw BDMPWliuwVxm BAEvacgRyLaS AvmSZxQQkmON AygGTDzdNWjE BAckCucjwrBR AtwdkYRkPkLD ApoFscxoIDSS CLrcZtaiZDzr BUhrtHKZxAUT BcOputMqPFCz ARdVabYqURRl CJkwioeAnxBq BpmKBKQSFUxC ARYNXTYTayZn BdQFlEkPncVk BXEefoCyqJZL ALSfBRBwiAqq ATCyjICMfysJ BQLktneLIKzq AWKEYkyWDEmu ASFmhtOVwYee CHuOpqdRJeDP BqwJbdhhuJOG BuPtxnUXcMMR BXDDDZZEFiuh AfLaVPDgkZsB ALpXKcqxNDIk AybDXqZIfZnZ CAzGjqEQgilp AgPUTZFMqfAb AlUBhSabSnbQ BZCRqIptBBNe BxbJIlPYCRun BlhLkUBlyWhs BSqSrunNgdJS BUCDBGQYmXux BkQwZIkGdFdu BGmPbMMgAHiX BopHwhLaPdep CJOBhIdprVrO BdCQitzlYWLk BVhRXqWIlHyT BmdVhLxvaTDS CMBlqeiEroKO AMskQEHHwiYn AZJXZgnrTBEK BltCVzQdjqXR AVKJhrEUAHMw CThzGtroeBJT ADYUbALFoKZx CFLoMXtYbGvY BsmloYxJkShd ASosNRGXPLdy BZFqRNZwoBoj AjppeMkhvNKc AXvTOqYiMSyC AGGRYstdlrtb BtdjhqPxxVkV BMziFvEtTdVB ASkGNxXmJoxP BZysmDeYOgoe AJQnMUoMRyAG ASVtdfVMDZOQ BFqSJihVdMoI BRZXGvQQFpoC BJVxceOPmZrT AeVjEDKdswfG BLeYdfRIuoqE COLHVXHwsbEa BxQbEOzjkfBA ANXLqEXHpqUQ AwsorZKnDlkH BroVFRlLDJWz BOedgNzqbudS ByhBMRxqQGbY AQXKfxdkdrGb CWSmoZVmCzYg BzWvdldRIMel AWaXEQjTfPFv CNmjDxdfJXpb BOpFiRdHUAvB BZrpdmkMLxPG AuvEUzNUxrBc BKDvAMSdySIf CGKlQAwnUQLN BIAjffmerFsH AlMwJudJEcMk ATOViLYrJSPy BwMKzgWXlIra AeLwPZGXsNIN AwEvVPljpPTa CMfwBwTkrkQU AnXiJXKgJKpu AkohiAuCmIRf BQvFgGkWFAzh CGRtDKGcomgp AwNrKWBDQUoE BONINgfEMkKh BqHyOPxyrHTM AZbeGyyHmaoY AgwvXJmKEaSb AMavjNfKXrBC BnFNKQrTJWCx CLlZAgvIXSEt CVtsMeujnrRE CCUYIMjbBLEV APlgYBwGNwNp BpZPltUPVsTF ALiNiLuxHWsE CLFEneQcbRhI AfSNtxzPYTzL AdLfOxvvOcXo BUfkucvpnpBR CRBjNgbRgLXz CPRvfOPSzBwq AYvokRHdJuEK BfdYsnKPnOvq BRnmlHwdqUCO BFFNlCwycAXM ATxYTWsPaNnn AzSbFnKezFRC ApFiNbeFYLIh AjaLhYpCxCKG BdmtWSNjVEbf BangmhRRerlQ AdLIXxhQOQcn AcFfAGImmKRp BBqaWPfJRTZU AXVfPGtPfurf AwRlERnshnmz ADoqhUGlvmHk end
end PySem.W.Fast
section
namespace L2
open PySem PySem.Spec PyProof.Rows
abbrev Key:=Sum Int J7
def eJ:Key->KB->Bool
 |.inl k,v=>Value.isInt k v
 |.inr x,v=>Value.isStrOf x v
def keyH(w:TJ):Key->Int
 |.inl k=>hashInt k
 |.inr x=>hashStr w x
def keyIs_shape:∀{k:Key} {v:KB},eJ k v=true->(∃i t,k=Sum.inl i/\v=Value.int i t)\/(∃x t,k=Sum.inr x/\v=Value.str x t)
 |.inl i,v,h=>by
  let#[t,e]:=Value.isInt_shape (k:=i) (v:=v) h;exact .inl #[i,t,rfl,e]
 |.inr x,v,h=>by
  let#[t,e]:=Value.isStrOf_shape (x:=x) (v:=v) h;exact .inr #[x,t,rfl,e]
def wr(i:Int)(t:VF):eJ (.inl i) (.int i t)=true:=by simp[eJ,Value.isInt]
def wt(x:J7)(t:VF):eJ (.inr x) (.str x t)=true:=by simp[eJ,Value.isStrOf]
def wu(a b:Int):decide ((Sum.inl a:Key)=Sum.inl b)=(a==b):=by
 by_cases e:a=b
 .subst e;simp
 .have h:¬(Sum.inl a:Key)=Sum.inl b:=λq=>e (Sum.inl.inj q);rw[decide_eq_false h];exact(beq_eq_false_iff_ne.mpr e).symm
def wv(a b:J7):decide ((Sum.inr a:Key)=Sum.inr b)=decide (a=b):=by
 by_cases e:a=b
 .subst e;simp
 .have h:¬(Sum.inr a:Key)=Sum.inr b:=λq=>e (Sum.inr.inj q);rw[decide_eq_false h,decide_eq_false e]
def ww(a:Int)(b:J7):decide ((Sum.inl a:Key)=Sum.inr b)=false:=decide_eq_false (λq=>nomatch q)
def wx(a:J7)(b:Int):decide ((Sum.inr a:Key)=Sum.inl b)=false:=decide_eq_false (λq=>nomatch q)
def bN(prog:SB)(w:TJ):PySem.KeyKind prog w Key where
 is:=eJ
 hash:=keyH w
 inj:=λv a b ha hb=>by
  rcases keyIs_shape ha with⟨i,t,rfl,rfl⟩|⟨x,t,rfl,rfl⟩
  .rcases keyIs_shape hb with⟨j,u,rfl,e⟩|⟨y,u,rfl,e⟩
   .injection e with e1 _;rw[e1]
   .exact nomatch e
  .rcases keyIs_shape hb with⟨j,u,rfl,e⟩|⟨y,u,rfl,e⟩
   .exact nomatch e
   .injection e with e1 _;rw[e1]
 byValue:=λk v h=>by
  rcases keyIs_shape h with⟨i,t,rfl,rfl⟩|⟨x,t,rfl,rfl⟩<;>rfl
 pyHash:=λhv h=>by
  rcases keyIs_shape hv with⟨i,t,rfl,rfl⟩|⟨x,t,rfl,rfl⟩
  .exact wpAny_pyHash_int h
  .exact wpAny_pyHash_str h
 eqBool:=λhu hv h=>by
  rcases keyIs_shape hu with⟨i,t,rfl,rfl⟩|⟨x,t,rfl,rfl⟩
  .rcases keyIs_shape hv with⟨j,u,rfl,rfl⟩|⟨y,u,rfl,rfl⟩
   .rw[wu]at h;exact wpAny_eqBool_int h
   .rw[ww]at h;exact SeqAt.EqAt.int_str i t y u _ _ _ _ h
  .rcases keyIs_shape hv with⟨j,u,rfl,rfl⟩|⟨y,u,rfl,rfl⟩
   .rw[wx]at h;exact SeqAt.EqAt.str_int x t j u _ _ _ _ h
   .rw[wv]at h;exact wpAny_eqBool_str h
 «strs»:=λk x t v h=>by
  rcases keyIs_shape h with⟨i,u,rfl,e⟩|⟨y,u,rfl,e⟩
  .exact nomatch e
  .injection e with e1 _;subst e1;cases v<;>rfl
def mixKind_int(prog:SB)(w:TJ)(i:Int)(t:VF):(bN prog w).is (.inl i) (.int i t)=true:=wr i t
def wy(prog:SB)(w:TJ)(x:J7)(t:VF):(bN prog w).is (.inr x) (.str x t)=true:=wt x t
inductive V where
 |non|bl (b:Bool)|int (i:Int)|str (x:Str)|byt (b:Array UInt8)|flt (b:UInt64)|ref (a:KF)|ty (n:String)
 deriving DecidableEq
def RelV:V->KB->Prop
 |.non,u=>u=Value.none
 |.bl b,u=>u=Value.bool b
 |.int i,u=>∃t,u=Value.int i t
 |.str x,u=>∃t,u=Value.str x t
 |.byt b,u=>∃t,u=Value.bytes b t
 |.flt b,u=>∃t,u=Value.float b t
 |.ref a,u=>u=Value.ref a
 |.ty n,u=>u=Value.type n
abbrev Vals:List V->List KB->Prop:=Paired RelV
variable{xs:List V}{us:List KB}
def Vals.length(r:Vals xs us):xs.length=us.length:=Paired.length r
def Vals.get:∀{xs:List V} {us:List KB} {i:Nat} {x:V},Vals xs us->xs[i]?=be x->∃u,us[i]?=be u/\RelV x u
 |_,_,_,_,.nil,e=>by simp at e
 |_,_,0,_,.cons r _,e=>by simp at e;subst e;exact#[_,rfl,r]
 |_,_,i+1,x,.cons _ t,e=>by
  let#[u,h1,h2]:=Vals.get (i:=i) (x:=x) t (by simpa using e);exact#[u,by simpa using h1,h2]
def Vals.set{x:V}{u:KB}(r:RelV x u):∀{xs:List V} {us:List KB} (i:Nat),Vals xs us->Vals (xs.set i x) (us.set i u)
 |_,_,_,.nil=>.nil
 |_,_,0,.cons _ t=>.cons r t
 |_,_,i+1,.cons q t=>.cons q (Vals.set r i t)
def Vals.append:∀{xs ys:List V} {us ws:List KB},Vals xs us->Vals ys ws->Vals (xs++ys) (us++ws):=by
 intro xs ys us ws h s;induction h with
 |nil=>exact s
 |cons r _ e=>exact .cons r e
def Vals.take:∀{xs:List V} {us:List KB} (n:Nat),Vals xs us->Vals (xs.take n) (us.take n)
 |_,_,0,_=>.nil
 |_,_,_+1,.nil=>.nil
 |_,_,n+1,.cons r t=>.cons r (Vals.take n t)
def Vals.drop:∀{xs:List V} {us:List KB} (n:Nat),Vals xs us->Vals (xs.drop n) (us.drop n)
 |_,_,0,r=>r
 |_,_,_+1,.nil=>.nil
 |_,_,n+1,.cons _ t=>Vals.drop n t
def RelO:Option V->Option KB->Prop
 |some v,be u=>RelV v u
 |none,x8=>True
 |_,_=>False
def KV{κ:Type}:List (κ×V)->List (κ×KB)->Prop:=Paired λ(p:κ×V) (q:κ×KB)=>p.1=q.1/\RelV p.2 q.2
def kV:Key->V
 |.inl i=>.int i
 |.inr x=>.str x
inductive HO where
  |lst (xs:List V)
  |tup (xs:List V)
  |dK (a_:List (Key×V))|dT (a_:List (List Key×V))
  |set (S:Int->Bool) (n:Nat)
  |ins (C dx:KF) (fs:List (J7×V))
  |own (x:KF)
  |xd (fs:List (J7×V))
  |met (f x:KF)
  |rng (lo hi:Int)
  |frz (o:T5) (u:HO)
  |tbl (ps:Array KB)
  |ext (φ:Heap->Prop)
abbrev Hp:=KF->Option HO
def upd(H:Hp)(a:KF)(o:HO):Hp:=λb=>if b=a then be o else H b
variable{H:Hp}{a:KF}{o:HO}
def aB:upd H a o a=be o:=by unfold upd;rw[if_pos rfl]
variable{b:KF}
def ar(h:b≠a):upd H a o b=H b:=by unfold upd;rw[if_neg h]
def wz{u:HO}(h:H a=be o)(h':H b=be u)(d:o≠u):a≠b:=by
 intro e;subst e;rw[h]at h';exact d (Option.some.inj h')
def bG(h:H a=be o)(h':H b=x8):a≠b:=by
 intro e;subst e;rw[h]at h';cases h'
section
variable (P:SB)(w:TJ)
def ObjOk(H:Hp)(h:Heap)(a:KF):HO->Prop
 |.lst xs=>xs.length<=sizeLine/\∃(its:List KB) (n:Nat),Vals xs its/\h.get? a=be {cls:=.type "list",data:=.seq its.toArray n}
 |.tup xs=>xs.length<=sizeLine/\∃its:List KB,Vals xs its/\IsTup h a its.toArray
 |.dK a_=>a_.length<=sizeLine/\(a==Ua)=false/\∃vs,KV a_ vs/\h.DictOf (bN P w) a vs
 | .dT a_=>a_.length<=sizeLine/\(a==Ua)=false/\∃xs:List (List Key×KF×KB),
   Paired (λ(p:List Key×V) (q:List Key×KF×KB)=>p.1=q.1/\H q.2.1=be (.tup (p.1.map kV))/\RelV p.2 q.2.2) a_ xs/\
   ∃o es ep,h.get? a=be o/\o.ExactDict/\o.data=.dict es ep/\es.toList=xs.map (entryOfKey (UE (bN P w)))/\(xs.map (·.1)).Nodup
 |.set S n=>h.SetOf (intKind P w) a S n
 | .ins C dx fs=>H dx=be (.own a)/\fs.length<=1000/\dx≠a/\h.get? a=be (instObj C dx)/\
   ∃mA,h.Ns1 dx mA/\(∀f,RelO (fs.lookup f) (mA f))/\PySem.Within mA (fs.map (·.1))
 |.own _=>∃o,h.get? a=be o
 |.xd fs=>∃mA,h.Ns1 a mA/\∀f,RelO (fs.lookup f) (mA f)
 |.rng lo hi=>∃t u v,h.get? a=be {cls:=.type "range",data:=.fields [.int lo t,.int hi u,.int 1 v].toArray}
 |.frz o u=>h.get? a=be o/\ObjOk H h a u
 |.tbl ps=>h.get? a=be {cls:=.none,data:=.fields ps}
 |.met f x=>h.get? a=be (methodObj (.ref f) (.ref x))
 |.ext φ=>φ h/\(∃o,h.get? a=be o)/\∀h1 h2:Heap,φ h1->(∀o,h1.get? a=be o->h2.get? a=be o)->φ h2
def HOk(H:Hp)(h:Heap):Prop:=∀a o,H a=be o->ObjOk P w H h a o
end
section
variable {P:SB}{w:TJ}{H H':Hp}{h h':Heap}{a:KF}{o:HO}
def ObjOk.lt(x:ObjOk P w H h a o):a<h.objs.size:=by
 cases o with
 |lst xs=>let#[_,_,_,_,e]:=x;exact Heap.lt_size e
 |tup xs=>let#[_,_,_,p]:=x;exact p.lt
 |dK a_=>let#[_,_,_,_,o,_,_,e,_]:=x;exact Heap.lt_size e
 |dT a_=>let#[_,_,_,_,o,_,_,e,_]:=x;exact Heap.lt_size e
 |set S n=>let#[o,_,_,_,e,_]:=x;exact Heap.lt_size e
 |ins C dx fs=>let#[_,_,_,e,_]:=x;exact Heap.lt_size e
 |own y=>let#[_,e]:=x;exact Heap.lt_size e
 |xd fs=>let#[_,#[_,_,_,e,_],_]:=x;exact Heap.lt_size e
 |rng lo hi=>let#[_,_,_,e]:=x;exact Heap.lt_size e
 |frz ob u=>let#[e,_]:=x;exact Heap.lt_size e
 |tbl ps=>exact Heap.lt_size (show h.get? a=be _ from x)
 |met f y=>exact Heap.lt_size (show h.get? a=be _ from x)
 |ext φ=>let#[_,#[_,e],_]:=x;exact Heap.lt_size e
def Paired.mapP{α β:Type}{F G:α->β->Prop}:∀{l₁:List α} {l₂:List β},Paired F l₁ l₂->(∀a b,F a b->G a b)->Paired G l₁ l₂:=by
 intro l₁ l₂ h f;induction h with
 |nil=>exact .nil
 |cons r _ e=>exact .cons (f _ _ r) e
def ObjOk.stay(x:ObjOk P w H h a o)(k:∀b u,(b=a\/H b=be (.own a))->h.get? b=be u->h'.get? b=be u)
  (ho:∀b,H b=be (.own a)->H' b=be (.own a)) (ht:∀b xs,H b=be (.tup xs)->H' b=be (.tup xs)):ObjOk P w H' h' a o:=by
 induction o with
 |lst xs=>let#[z,its,n,r,e]:=x;exact#[z,its,n,r,k _ _ (.inl rfl) e]
 |tup xs=>let#[z,its,r,ob,e,c]:=x;exact#[z,its,r,ob,k _ _ (.inl rfl) e,c]
 |dK a_=>let#[z,y,vs,r,ob,es,ep,e,c]:=x;exact#[z,y,vs,r,ob,es,ep,k _ _ (.inl rfl) e,c]
 |dT a_=>
  let#[z,y,xs,r,ob,es,ep,e,c]:=x;exact#[z,y,xs,Paired.mapP r λp q z=>#[z.1,ht _ _ z.2.1,z.2.2],ob,es,ep,k _ _ (.inl rfl) e,c]
 |set S n=>let#[ob,es,ep,t,e,c]:=x;exact#[ob,es,ep,t,k _ _ (.inl rfl) e,c]
 |ins C dx fs=>
  let#[d,z,ne,e,mA,#[od,es,ep,e2,c],r]:=x;exact#[ho _ d,z,ne,k _ _ (.inl rfl) e,mA,#[od,es,ep,k _ _ (.inr d) e2,c],r]
 |own y=>let#[ob,e]:=x;exact#[ob,k _ _ (.inl rfl) e]
 |xd fs=>let#[mA,#[od,es,ep,e,c],r]:=x;exact#[mA,#[od,es,ep,k _ _ (.inl rfl) e,c],r]
 |rng lo hi=>let#[t,u,v,e]:=x;exact#[t,u,v,k _ _ (.inl rfl) e]
 |frz ob u ih=>let#[e,q]:=x;exact#[k _ _ (.inl rfl) e,ih q]
 |tbl ps=>
  have e:h.get? a=be {cls:=.none,data:=.fields ps}:=x;show h'.get? a=be {cls:=.none,data:=.fields ps};exact k a _ (.inl rfl) e
 |met f y=>
  have e:h.get? a=be (methodObj (.ref f) (.ref y)):=x;show h'.get? a=be (methodObj (.ref f) (.ref y));exact k a _ (.inl rfl) e
 |ext φ=>let#[p,#[o,e],st]:=x;exact#[st _ _ p λo q=>k _ _ (.inl rfl) q,#[o,k _ _ (.inl rfl) e],st]
def HOk.lt(x:HOk P w H h)(e:H a=be o):a<h.objs.size:=(x a o e).lt
def HOk.fresh(x:HOk P w H h)(e:h.objs.size<=a):H a=none:=by
 cases q:H a with
 |none=>rfl
 |some u=>exact absurd (GR (x.lt q) e) (Hu _)
def HOk.kept(x:HOk P w H h)(k:∀b u,h.get? b=be u->h'.get? b=be u):HOk P w H h':=λa o e=>
 (x a o e).stay (λb u _ q=>k b u q) (λ_ q=>q) λ_ _ q=>q
def HOk.laid(x:HOk P w H h)(k:∀b u,h.get? b=be u->h'.get? b=be u)(hp:h.objs.size<=a)(new:ObjOk P w (upd H a o) h' a o):HOk P w (upd H a o) h':=λb u e=>by
 have hn:=x.fresh hp;by_cases hb:b=a
 .subst hb;rw[aB]at e;cases e;exact new
 .rw[ar hb]at e;exact(x b u e).stay (λc v _ q=>k c v q) (λc q=>by rw[ar (bG q hn)];exact q) λc xs q=>by rw[ar (bG q hn)];exact q
end
def Rd(H:Hp)(a:KF)(u:HO):Prop:=H a=be u\/∃o,H a=be (.frz o u)
variable{P:SB}{w:TJ}{h:Heap}
def Rd.ok{u:HO}(r:Rd H a u)(x:HOk P w H h):ObjOk P w H h a u:=by
 rcases r with r|⟨o,r⟩
 .exact x a u r
 .let#[_,q]:=x a _ r;exact q
def Mut:Option HO->Prop
 |some (.lst _)=>True
 |some (.dK _)=>True
 |some (.dT _)=>True
 |some (.set _ _)=>True
 |some (.ins _ _ _)=>True
 |some (.ext _)=>True
 |_=>False
section
variable {P:SB}{w:TJ}{H:Hp}{h h':Heap}{x e:KF}{o':HO}
def HOk.write(ok:HOk P w H h)(mu:Mut (H x))(he:e=x\/H e=be (.own x))(k:∀b u,b≠e->h.get? b=be u->h'.get? b=be u)(G':∃u,h'.get? e=be u)
  (new:ObjOk P w (upd H x o') h' x o'):HOk P w (upd H x o') h':=λb u q=>by
 have nown:∀c y,H c=be (.own y)->c≠x:=λc y r z=>by subst z;rw[r]at mu;exact mu
 have NG:∀c xs,H c=be (.tup xs)->c≠x:=λc xs r z=>by subst z;rw[r]at mu;exact mu
 by_cases hb:b=x
 .subst hb;rw[aB]at q;cases q;exact new
 .rw[ar hb]at q;by_cases KS:b=e
  .have q':H b=be (.own x):=by
    rcases he with z|z
    .exact absurd (KS.trans z) hb
    .rw[KS];exact z
   rw[q]at q';cases q';let#[v,hv]:=G';exact#[v,by rw[KS];exact hv]
  .refine(ok b u q).stay (λc v hc r=>k c v ?_ r) (λc r=>by rw[ar (nown c b r)];exact r) λc xs r=>by rw[ar (NG c xs r)];exact r
   rcases hc with rfl|hc
   .exact KS
   .rintro rfl;rcases he with z|z
    .exact nown c b hc z
    .rw[hc]at z;cases z;exact hb rfl
end
structure Un(fs ex:List KF)(H H':Hp)(h h':Heap):Prop where
 keep:∀b o,h.get? b=be o->H b=x8->b∉fs->b∉ex->h'.get? b=be o
 slot:∀b o,h.get? b=be o->H b=x8->b∈fs->b∉ex->∃sl,h'.get? b=be {o with slots:=sl}
 free:∀b o,h.get? b=be o->H b=x8->b∉ex->H' b=x8
 there:∀b o,h.get? b=be o->b∉ex->∃o',h'.get? b=be o'
 tups:∀b xs,H b=be (.tup xs)->H' b=be (.tup xs)
 frzs:∀b o u,H b=be (.frz o u)->H' b=be (.frz o u)
 tbls:∀b ps,H b=be (.tbl ps)->∃more,H' b=be (.tbl (ps++more))
section
variable {fs n9 ex P7:List KF}{H H1 H2:Hp}{h h1 h2 h':Heap}{a x e:KF}{o:HO}
def Un.any(u:Un fs ex H H1 h h1){b:KF}{ob:T5}(q:h.get? b=be ob)(n:H b=x8)(hx:b∉ex):∃sl,h1.get? b=be {ob with slots:=sl}:=by
 by_cases hb:b∈fs
 .exact u.slot b ob q n hb hx
 .exact#[ob.slots,u.keep b ob q n hb hx]
def Un.kept(k:∀b u,h.get? b=be u->h'.get? b=be u):Un fs ex H H h h':=
 #[λb ob q _ _ _=>k b ob q,λb ob q _ _ _=>#[ob.slots,k b ob q],λ_ _ _ n _=>n,λb ob q _=>#[ob,k b ob q],λ_ _ q=>q,λ_ _ _ q=>q,λ_ ps q=>#[[].toArray,by rw[q];simp]]
def Un.refl:Un fs ex H H h h:=Un.kept λ_ _ q=>q
def Un.laid(k:∀b u,h.get? b=be u->h'.get? b=be u)(hp:h.objs.size<=a)(hn:H a=x8):Un fs ex H (upd H a o) h h' where
 keep:=λb u q _ _ _=>k b u q
 slot:=λb u q _ _ _=>#[u.slots,k b u q]
 free:=λb u q n _=>by rw[ar (GH (GR (Heap.lt_size q) hp))];exact n
 there:=λb u q _=>#[u,k b u q]
 tups:=λb xs q=>by rw[ar (bG q hn)];exact q
 frzs:=λb u xs q=>by rw[ar (bG q hn)];exact q
 tbls:=λb ps q=>#[[].toArray,by rw[ar (bG q hn),q];simp]
def Un.write(mu:Mut (H x))(he:e=x\/H e=be (.own x))(k:∀b u,b≠e->h.get? b=be u->h'.get? b=be u)(G':∃u,h'.get? e=be u):Un fs ex H (upd H x o) h h':=by
 have hx:∀b,H b=x8->b≠x:=λb n z=>by subst z;rw[n]at mu;exact mu
 have hb:∀b,H b=x8->b≠e:=λb n z=>by
  subst z;rcases he with r|r
  .exact hx b n r
  .rw[n]at r;cases r
 have hm:∀b u,H b=be u->¬Mut (be u)->b≠x:=λb u q nm z=>by subst z;rw[q]at mu;exact nm mu
 refine⟨λb u q n _ _=>k b u (hb b n) q,λb u q n _ _=>#[u.slots,k b u (hb b n) q],λb u q n _=>by rw[ar (hx b n)];exact n,λb u q _=>?_,
  λb xs q=>by rw[ar (hm b _ q λz=>z)];exact q,λb u xs q=>by rw[ar (hm b _ q λz=>z)];exact q,λb ps q=>#[[].toArray,by rw[ar (hm b _ q λz=>z),q];simp]⟩
 by_cases KS:b=e
 .subst KS;exact G'
 .exact#[u,k b u KS q]
end
def trk(h:Heap)(H:Hp):List KF:=(GQ h.objs.size).filter λa=>(H a).isSome
def hidT(h:Heap)(H:Hp):Heap:=hideAll h (trk h H)
def wA(h:Heap)(H:Hp):(hidT h H).objs.size=h.objs.size:=hideAll_size _ _
def wB{o:T5}(e:h.get? b=be o)(n:H b=x8):(hidT h H).get? b=be o:=
 hideAll_get _ e λhm=>by
  have q:(H b).isSome=true:=(IU.mp hm).2;rw[n]at q;simp at q
def wC{o:T5}(e:(hidT h H).get? b=be o):h.get? b=be o/\H b=none:=by
 have e':h.get? b=be o:=of_hideAll (trk h H) e;refine#[e',?_];cases q:H b with
 |none=>rfl
 |some x=>
  have hm:b∈trk h H:=IU.mpr #[List.mem_range.mpr (Heap.lt_size e'),by simp[q]];have z:(hidT h H).get? b=none:=hideAll_none (trk h H) hm;rw[z]at e;cases e
structure Mod(K:Ex)(mg:Str->Option KB)(base:Heap):Prop where
 kin:K.In base
 glob:base.Ns Pi mg
 blt:∃mb,base.Ns Vz mb/\∀x:J7,x≠"__name__"->mb x=T3 x
 nolimit:base.NoLimit
structure Cx where
 prog:SB
 w:TJ
 K:Ex
 mg:J7->Option KB
 base:Heap
 A:TK
 N:List J7
 s₀:KM
 H₀:Hp
 env:Uw
 outer:List Uw
 stack:List Uw
 ex:List KF
 fn:J7->Bool
 calm:Bool
 pn:List (KF×T5)
 xe:KB->KM->Prop
abbrev zSE(X:Cx)(e:SZ)(es:List SZ):Prop:=TL (e::es) X.env=(false,TR e X.env)::TL es X.env
abbrev zPL(X:Cx)(p:TX)(es:List SZ):Prop:=(Uy p (TL es X.env)).any (·.1)=false
abbrev zHF(X:Cx)(p:TX)(es:List SZ):Prop:=((Uy p (TL es X.env)).all (λx=>!x.1)&&(UU p (UB [] X.env)).all (λx=>x.1.isSome)&&decide (es.length+([]:List VG).length+(if([]:List VG).isEmpty then 0 else 1)<30))=true
abbrev zFN(X:Cx)(x:J7):Prop:=X.fn x=true\/X.env.scope.names.lookup x=be .local
abbrev zND(x:J7):Prop:=(x==("__debug__":J7))=false
abbrev zNC(x:J7):Prop:=(x==("__classdict__":J7))=false
abbrev zFS(X:Cx)(e:SZ)(y:KB):Prop:=VD e X.env y=pure y
def frs(l:List Uw):List KF:=l.filterMap (·.frame)
abbrev Cx.fs(X:Cx):List KF:=frs X.outer
def Vis(sc:Uc)(x:J7):Prop:=sc.names.lookup x=be .local\/sc.names.lookup x=be .cell\/sc.names.lookup x=be .free
def Loc(sc:Uc)(x:J7):Prop:=sc.names.lookup x=be .local\/sc.names.lookup x=be .cell
def Look(env:Uw)(h:Heap)(m:J7->Option KB)(x:J7)(u:KB):Prop:=
 (env.kindOf x=be .local/\m x=be u)\/((env.kindOf x=be .cell\/env.kindOf x=be .free)/\∃c,env.cells.lookup x=be c/\h.IsCell c (be u))
structure Cx.Ok(X:Cx):Prop where
 mod:Mod X.K X.mg X.base
 kind:X.env.scope.kind=.function
 glob:X.env.globals=Pi
 blt:X.env.builtins=Vz
 above:X.s₀.heap.objs.size<=X.env.locals
 inj:∀x y c,X.env.cells.lookup x=be c->X.env.cells.lookup y=be c->x=y
 has:∀x,(X.env.kindOf x=be .cell\/X.env.kindOf x=be .free)->∃c,X.env.cells.lookup x=be c
 cab:∀x c,X.fn x=true->X.env.cells.lookup x=be c->X.s₀.heap.objs.size<=c
 hd:X.calm=true->X.A.handled=x8
 frames:X.A.frames=be X.stack
 stk:X.stack=X.outer\/(X.stack=X.env::X.outer/\X.env.frame=be X.env.locals)
 exf:∀b∈X.ex,b≠X.env.locals/\∀x c,X.env.cells.lookup x=be c->c≠b
 bs:∀b o,X.base.get? b=be o->X.s₀.heap.get? b=be o/\X.H₀ b=x8
 bsz:X.base.objs.size<=X.s₀.heap.objs.size
 noex:∀b o,X.base.get? b=be o->b∉X.ex
 exfs:∀b∈X.ex,b∉X.fs
 funs:X.s₀.heap.FunFrames X.base X.outer
 frf:∀b∈X.fs,X.H₀ b=x8
structure Inv(X:Cx)(pins:List (KF×T5))(σ:List (Option V))(H:Hp)(s:KM):Prop where
 ok:X.Ok
 os:s.os=X.s₀.os
 bare:UC s.gens
 base:Un X.fs X.ex X.H₀ H X.s₀.heap s.heap
 loc:∃m,s.heap.Ns X.env.locals m/\∀(i:Nat) (x:J7) (v:V),X.N[i]?=be x->σ[i]?=be (be v)->Vis X.env.scope x->∃u,RelV v u/\Look X.env s.heap m x u
 cell:∀x c,X.env.cells.lookup x=be c->∃v,s.heap.IsCell c v
 free:H X.env.locals=x8
 freeC:∀x c,X.env.cells.lookup x=be c->H c=x8
 pin:∀p∈X.pn++pins,s.heap.get? p.1=be p.2/\H p.1=x8/\p.1≠X.env.locals/\p.1∉X.fs/\∀v,p.2.data≠.cell v
 hok:HOk X.prog X.w H s.heap
 len:σ.length=X.N.length
section
variable {X:Cx}{pins:List (KF×T5)}{σ:List (Option V)}{H H':Hp}{s:KM}{h':Heap}
def Cx.Ok.nofr(ok:X.Ok){b:KF}{o:T5}(e:X.base.get? b=be o):b∉X.fs:=λhb=>by
 have:=(ok.funs.mem hb).1;rw[e]at this;cases this
def Inv.bs(I:Inv X pins σ H s):∀b o,X.base.get? b=be o->s.heap.get? b=be o/\H b=none:=λb o e=>
 #[I.base.keep b o (I.ok.bs b o e).1 (I.ok.bs b o e).2 (I.ok.nofr e) (I.ok.noex b o e),I.base.free b o (I.ok.bs b o e).1 (I.ok.bs b o e).2 (I.ok.noex b o e)]
def Inv.bk(I:Inv X pins σ H s):∀b o,X.base.get? b=be o->s.heap.get? b=be o:=λb o e=>(I.bs b o e).1
def Inv.mod(I:Inv X pins σ H s):Mod X.K X.mg X.base:=I.ok.mod
def Inv.kIn(I:Inv X pins σ H s):X.K.In s.heap:=I.ok.mod.kin.keeps I.bk
def Inv.lt(I:Inv X pins σ H s):X.env.locals<s.heap.objs.size:=let ⟨_,hn,_⟩:=I.loc;hn.lt
def Inv.sz(I:Inv X pins σ H s):X.s₀.heap.objs.size<=s.heap.objs.size:=GD I.ok.above (HY I.lt)
def Inv.nofs(I:Inv X pins σ H s){a:KF}(h:s.heap.objs.size<=a):a∉X.fs:=λhb=>by
 let#[_,o,ho,_]:=I.ok.funs.mem hb;exact absurd (GR (Heap.lt_size ho) (GD I.sz h)) (Hu _)
def Inv.cne(I:Inv X pins σ H s):∀x c,X.env.cells.lookup x=be c->c≠X.env.locals:=λx c e z=>by
 let#[v,o,ho,hd]:=I.cell x c e;let#[m,#[o',es,ep,KU,gt,_],_]:=I.loc;rw[z,KU]at ho;cases ho;rw[gt]at hd;cases hd
def Inv.funs(I:Inv X pins σ H s):s.heap.FunFrames X.base X.outer:=by
 have all:∀(l:List Uw),(∀b∈frs l,b∈X.fs)->X.s₀.heap.FunFrames X.base l->s.heap.FunFrames X.base l:=by
  intro l;induction l with
  |nil=>intro _ _;trivial
  |cons env r ih=>
   intro hs hl;let#[hk,#[L,o,hf,hn,ho,hd],hr]:=hl;have hL:L∈X.fs:=hs L (by unfold frs;rw[HZ,hf];exact Gz);let#[sl,e]:=I.base.slot L o ho (I.ok.frf L hL) hL λz=>I.ok.exfs L z hL;exact#[hk,#[L,_,hf,hn,e,hd],ih (λb hb=>hs b (by unfold frs;rw[HZ,hf];exact Gx _ hb)) hr]
 exact all X.outer (λ_ hb=>hb) I.ok.funs
def Inv.stack(I:Inv X pins σ H s):s.heap.FunFrames X.base X.stack:=by
 rcases I.ok.stk with e|⟨e,hf⟩
 .rw[e];exact I.funs
 .rw[e];let#[m,hn,_]:=I.loc;refine .cons (by rw[I.ok.kind];decide) hf hn ?_ I.funs;exact Heap.get?_none_of_le (GD I.ok.bsz I.ok.above)
def Inv.stkSub(I:Inv X pins σ H s):∀b∈frs X.stack,b∈X.env.locals::X.fs:=λb hb=>by
 rcases I.ok.stk with e|⟨e,hf⟩
 .rw[e]at hb;exact Gx _ hb
 .rw[e]at hb;unfold frs at hb;rw[HZ,hf]at hb;exact hb
def Inv.stkFree(I:Inv X pins σ H s):∀b∈frs X.stack,H b=none:=λb hb=>by
 rcases GA.mp (I.stkSub b hb)with e|hb
 .rw[e];exact I.free
 .let#[_,o,ho,_]:=I.ok.funs.mem hb;exact I.base.free b o ho (I.ok.frf b hb) λz=>I.ok.exfs b z hb
variable{g':Array Vr}{ch:List KF}
def Inv.step{t':Nat}{d':Drawn}(I:Inv X pins σ H s)
  (G_:∀b∈ch,(b∈X.ex\/X.s₀.heap.objs.size<=b)/\b≠X.env.locals/\(∀x c,X.env.cells.lookup x=be c->c≠b)/\∀p∈X.pn++pins,p.1≠b)
  (keep:∀b o,b≠X.env.locals->b∉X.fs->b∉ch->s.heap.get? b=be o->H b=x8->h'.get? b=be o)
  (slot:∀b o,b≠X.env.locals->b∈X.fs->b∉ch->s.heap.get? b=be o->H b=x8->∃sl,h'.get? b=be {o with slots:=sl}) (free:∀b o,b∉ch->s.heap.get? b=be o->H b=x8->H' b=x8)
  (there:∀b o,b∉ch->s.heap.get? b=be o->∃o',h'.get? b=be o')
  (tups:∀b xs,H b=be (.tup xs)->H' b=be (.tup xs)) (frzs:∀b o u,H b=be (.frz o u)->H' b=be (.frz o u)) (tbls:∀b ps,H b=be (.tbl ps)->∃more,H' b=be (.tbl (ps++more)))
  (ns:∀m,s.heap.Ns X.env.locals m->h'.Ns X.env.locals m) (hok:HOk X.prog X.w H' h') (hg:UC g'):
  Inv X pins σ H' {s with heap:=h',gens:=g',drawn:=d',toks:=t'}:=by
 have P8:∀b o,X.s₀.heap.get? b=be o->b≠X.env.locals:=λb o e=>GH (GR (Heap.lt_size e) I.ok.above);have M7:∀b o,X.s₀.heap.get? b=be o->b∉X.ex->b∉ch:=λb o e hx hb=>by
  rcases(G_ b hb).1 with z|z
  .exact hx z
  .exact absurd (GR (Heap.lt_size e) z) (Hu _)
 have o_:∀x c,X.env.cells.lookup x=be c->∀v,s.heap.IsCell c v->h'.IsCell c v:=λx c e v ⟨o,ho,hd⟩=>by
  have LR:c∉ch:=λz=>(G_ c z).2.2.1 x c e rfl;by_cases hc:c∈X.fs
  .let#[sl,q]:=slot c o (I.cne x c e) hc LR ho (I.freeC x c e);exact#[_,q,hd]
  .exact#[o,keep c o (I.cne x c e) hc LR ho (I.freeC x c e),hd]
 refine#[I.ok,I.os,hg,#[λb o e n hb hx=>?_,λb o e n hb hx=>?_,λb o e n hx=>?_,λb o e hx=>?_,λb xs e=>tups b xs (I.base.tups b xs e),λb o xs e=>frzs b o xs (I.base.frzs b o xs e),λb ps e=>?_],?_,λx c e=>?_,?_,λx c e=>?_,λp hp=>?_,hok,I.len]
 .exact keep b o (P8 b o e) hb (M7 b o e hx) (I.base.keep b o e n hb hx) (I.base.free b o e n hx)
 .let#[sl,e1]:=I.base.slot b o e n hb hx;let#[w9,e2]:=slot b _ (P8 b o e) hb (M7 b o e hx) e1 (I.base.free b o e n hx);exact#[w9,e2]
 .let#[o',e1]:=I.base.there b o e hx;exact free b o' (M7 b o e hx) e1 (I.base.free b o e n hx)
 .let#[o',e1]:=I.base.there b o e hx;exact there b o' (M7 b o e hx) e1
 .let#[m1,e1]:=I.base.tbls b ps e;let#[m2,e2]:=tbls b _ e1;exact#[m1++m2,by rw[e2,Array.append_assoc]]
 .let#[m,hn,hl]:=I.loc;refine#[m,ns m hn,λi x v e1 e2 e3=>?_];let#[u,r,l]:=hl i x v e1 e2 e3;refine#[u,r,?_];rcases l with l|⟨k,c,e,z⟩
  .exact .inl l
  .exact .inr #[k,c,e,o_ x c e _ z]
 .let#[v,z]:=I.cell x c e;exact#[v,o_ x c e v z]
 .let#[m,#[o,_,_,ho,_],_]:=I.loc;exact free _ o (λz=>(G_ _ z).2.1 rfl) ho I.free
 .let#[v,o,ho,hd]:=I.cell x c e;exact free c o (λz=>(G_ c z).2.2.1 x c e rfl) ho (I.freeC x c e)
 .let#[e,n,ne,nf,d]:=I.pin p hp;have LR:p.1∉ch:=λz=>(G_ p.1 z).2.2.2 p hp rfl;exact#[keep p.1 p.2 ne nf LR e n,free p.1 p.2 LR e n,ne,nf,d]
def Inv.un{t':Nat}(I:Inv X pins σ H s)(u:Un X.fs [] H H' s.heap h')(hok:HOk X.prog X.w H' h'):Inv X pins σ H' {s with heap:=h',toks:=t'}:=by
 let#[m,#[o,es,ep,ho,r],_]:=id I.loc;let#[sl,hL]:=u.any ho I.free K8;exact I.step (g':=s.gens) (d':=s.drawn) (ch:=[]) (λ_ z=>nomatch z) (λb o _ hb _ e n=>u.keep b o e n hb K8) (λb o _ hb _ e n=>u.slot b o e n hb K8) (λb o _ e n=>u.free b o e n K8) (λb o _ e=>u.there b o e K8) u.tups u.frzs u.tbls (λm' hm=>by
  let#[o',NH,NJ,KU,r']:=hm;rw[ho]at KU;cases KU;exact#[_,NH,NJ,hL,r']) hok I.bare
def Inv.call{t':Nat}{d':Drawn}(I:Inv X pins σ H s)(u:Un (frs X.stack) ch H H' s.heap h')(hok:HOk X.prog X.w H' h')(hg:UC g')
  (G_:∀b∈ch,(b∈X.ex\/X.s₀.heap.objs.size<=b)/\b≠X.env.locals/\(∀x c,X.env.cells.lookup x=be c->c≠b)/\∀p∈X.pn++pins,p.1≠b):
  Inv X pins σ H' {s with heap:=h',gens:=g',drawn:=d',toks:=t'}:=by
 let#[m,#[o,es,ep,ho,r],_]:=id I.loc;let#[sl,hL]:=u.any ho I.free λz=>(G_ _ z).2.1 rfl;exact I.step (ch:=ch) G_ (λb o hL hb hc e n=>u.keep b o e n (λz=>(GA.mp (I.stkSub b z)).elim hL hb) hc) (λb o _ _ hc e n=>u.any e n hc) (λb o hc e n=>u.free b o e n hc) (λb o hc e=>u.there b o e hc) u.tups u.frzs u.tbls (λm' hm=>by
  let#[o',NH,NJ,KU,r']:=hm;rw[ho]at KU;cases KU;exact#[_,NH,NJ,hL,r']) hok hg
def Inv.turned{t':Nat}{it:KF}(I:Inv X pins σ H s)(k:∀b o,b≠it->s.heap.get? b=be o->h'.get? b=be o)(hn:H it=x8)(hL:it≠X.env.locals)
  (h1:it∈X.ex\/X.s₀.heap.objs.size<=it) (h2:∀x c,X.env.cells.lookup x=be c->c≠it) (h3:∀p∈X.pn++pins,p.1≠it):Inv X pins σ H {s with heap:=h',toks:=t'}:=by
 have KW:∀b u,H b=be u->b≠it:=λb u e z=>by rw[z,hn]at e;cases e
 refine I.step (g':=s.gens) (d':=s.drawn) (ch:=[it]) (λb hb=>?_) (λb o _ _ hc e _=>k b o (λz=>hc (by simp[z])) e) (λb o _ _ hc e _=>#[o.slots,k b o (λz=>hc (by simp[z])) e]) (λ_ _ _ _ n=>n)
  (λb o hc e=>#[o,k b o (λz=>hc (by simp[z])) e]) (λ_ _ e=>e) (λ_ _ _ e=>e) (λb ps e=>#[[].toArray,by rw[e];simp]) (λm hm=>?_) (λb u e=>?_) I.bare
 .have e:b=it:=by simpa using hb
  subst e;exact#[h1,hL,h2,h3]
 .let#[o,es,ep,ho,r]:=hm;exact#[o,es,ep,k _ o (Ne.symm hL) ho,r]
 .refine(I.hok b u e).stay (λc v hc q=>k c v ?_ q) (λ_ q=>q) λ_ _ q=>q;rcases hc with z|z
  .rw[z];exact KW b u e
  .exact KW c _ z
def Inv.tok(I:Inv X pins σ H s)(t:Nat):Inv X pins σ H {s with toks:=t}:=I.un (h':=s.heap) (t':=t) Un.refl I.hok
def Inv.kept{t':Nat}(I:Inv X pins σ H s)(k:∀b u,s.heap.get? b=be u->h'.get? b=be u):Inv X pins σ H {s with heap:=h',toks:=t'}:=I.un (Un.kept k) (I.hok.kept k)
def Inv.laid{a:KF}{o:HO}{t':Nat}(I:Inv X pins σ H s)(k:∀b u,s.heap.get? b=be u->h'.get? b=be u)(hp:s.heap.objs.size<=a)(new:ObjOk X.prog X.w (upd H a o) h' a o):
  Inv X pins σ (upd H a o) {s with heap:=h',toks:=t'}:=I.un (Un.laid k hp (I.hok.fresh hp)) (I.hok.laid k hp new)
def Inv.write{x e:KF}{o:HO}{t':Nat}(I:Inv X pins σ H s)(mu:Mut (H x))(he:e=x\/H e=be (.own x))(k:∀b u,b≠e->s.heap.get? b=be u->h'.get? b=be u)(G':∃u,h'.get? e=be u)
  (new:ObjOk X.prog X.w (upd H x o) h' x o):Inv X pins σ (upd H x o) {s with heap:=h',toks:=t'}:=I.un (Un.write mu he k G') (I.hok.write mu he k G' new)
def Inv.pins_of{Kw:List (KF×T5)}(I:Inv X pins σ H s)(h:∀p∈Kw,s.heap.get? p.1=be p.2/\H p.1=x8/\p.1≠X.env.locals/\p.1∉X.fs/\∀v,p.2.data≠.cell v):Inv X Kw σ H s:=
 #[I.ok,I.os,I.bare,I.base,I.loc,I.cell,I.free,I.freeC,λp hp=>(GS.mp hp).elim (λz=>I.pin p (HB _ z)) (h p),I.hok,I.len]
variable{x:J7}{i:Nat}
def jl{N:List J7}(hN:N.Nodup){j:Nat}(a:N[i]?=be x)(b:N[j]?=be x):i=j:=by
 let#[h1,e1]:=GO.mp a;let#[h2,e2]:=GO.mp b;exact(List.getElem_inj hN).mp (e1.trans e2.symm)
variable{E:KB->KM->Prop}{Q:Unit->KM->Prop}
def pA{M:Vq}{A:TK}{v:V}{u:KB}(I:Inv X pins σ H s)(hN:X.N.Nodup)(hi:X.N[i]?=be x)(hx:Loc X.env.scope x)(r:RelV v u)
  (h:∀s',Inv X pins (σ.set i (be v)) H s'->(∃a,Heap.SameBut a s.heap s'.heap/\(a=X.env.locals\/X.env.cells.lookup x=be a))->Q () s') (hf:zFN X x\zA2):TC M A (storeName X.env x u) Q E s:=by
 let#[m,hn,hl]:=id I.loc;have y8:(X.env.scope.kind== .class||(X.env.scope.kind== .module&&X.env.locals !=X.env.globals))=false:=by rw[I.ok.kind];rfl
 have hiσ:i<σ.length:=by rw[I.len];exact(GO.mp hi).1
 have cne:=I.cne;have g9:∀{a:KF} {h':Heap},(∃o,s.heap.get? a=be o/\H a=x8)->Heap.SameBut a s.heap h'->HOk X.prog X.w H h':=λ{a h'} ha hs b ob e=>by
  let#[_,_,l_]:=ha;refine(I.hok b ob e).stay (λc w' hc q=>(hs.2 c ?_).trans q) (λ_ q=>q) λ_ _ q=>q;rintro rfl;rcases hc with rfl|hc
  .rw[l_]at e;cases e
  .rw[l_]at hc;cases hc
 rcases hx with hk|hk
 .refine wpAny_storeName_local hk hn (λh' g_ hs=>?_) y8;let#[oL,_,_,P9,_]:=id hn;refine h _ #[I.ok,I.os,I.bare,#[λb o e n hb hx=>?_,λb o e n hb hx=>?_,I.base.free,λb o e hx=>?_,I.base.tups,I.base.frzs,I.base.tbls],#[_,g_,λj y v' e1 e2 e3=>?_],λy c e=>?_,I.free,I.freeC,λp hp=>?_,g9 #[oL,P9,I.free] hs,by simpa using I.len] #[_,hs,.inl rfl]
  .exact(hs.2 b (GH (GR (Heap.lt_size e) I.ok.above))).trans (I.base.keep b o e n hb hx)
  .let#[sl,e1]:=I.base.slot b o e n hb hx;exact#[sl,(hs.2 b (GH (GR (Heap.lt_size e) I.ok.above))).trans e1]
  .let#[o',e1]:=I.base.there b o e hx;exact#[o',(hs.2 b (GH (GR (Heap.lt_size e) I.ok.above))).trans e1]
  .by_cases hj:j=i
   .subst hj;rw[hi]at e1;cases e1;rw[G6 hiσ]at e2;cases e2;exact#[u,r,.inl #[hk,K8]]
   .rw[GL (Ne.symm hj)]at e2;let#[u',r',q]:=hl j y v' e1 e2 e3;refine#[u',r',?_];rcases q with⟨k,e⟩|⟨k,c,e,z⟩
    .refine .inl #[k,?_];have:y≠x:=λe=>hj (jl hN e1 (e ▸ hi));simp[this,e]
    .exact .inr #[k,c,e,z.sameBut hs (cne y c e)]
  .let#[w',z]:=I.cell y c e;exact#[w',z.sameBut hs (cne y c e)]
  .let#[e,n,ne,nf,d]:=I.pin p hp;exact#[(hs.2 p.1 ne).trans e,n,ne,nf,d]
 .have LS:X.fn x=true:=by
   rcases hf with z|z
   .exact z
   .rw[z]at hk;cases hk
  let#[c,hc]:=I.ok.has x (.inl hk);let#[w',z]:=I.cell x c hc;refine wpAny_storeName_cell I.ok.kind hk hc z (λh' w_ hs=>?_);let#[oc,P',NK]:=id z;refine h {s with heap:=h'} #[I.ok,I.os,I.bare,#[λb o e n hb hx=>?_,λb o e n hb hx=>?_,I.base.free,λb o e hx=>?_,I.base.tups,I.base.frzs,I.base.tbls],#[m,hn.sameBut hs (Ne.symm (cne x c hc)),λj y v' e1 e2 e3=>?_],λy c' e=>?_,I.free,I.freeC,λp hp=>?_,g9 #[oc,P',I.freeC x c hc] hs,by simpa using I.len] #[c,hs,.inr hc]
  .exact(hs.2 b (GH (GR (Heap.lt_size e) (I.ok.cab x c LS hc)))).trans (I.base.keep b o e n hb hx)
  .let#[sl,e1]:=I.base.slot b o e n hb hx;exact#[sl,(hs.2 b (GH (GR (Heap.lt_size e) (I.ok.cab x c LS hc)))).trans e1]
  .let#[o',e1]:=I.base.there b o e hx;exact#[o',(hs.2 b (GH (GR (Heap.lt_size e) (I.ok.cab x c LS hc)))).trans e1]
  .by_cases hj:j=i
   .subst hj;rw[hi]at e1;cases e1;rw[G6 hiσ]at e2;cases e2;exact#[u,r,.inr #[.inl hk,c,hc,w_]]
   .rw[GL (Ne.symm hj)]at e2;let#[u',r',q]:=hl j y v' e1 e2 e3;refine#[u',r',?_];rcases q with q|⟨k,c',e,z'⟩
    .exact .inl q
    .refine .inr #[k,c',e,z'.sameBut hs ?_];rintro rfl;exact hj (jl hN e1 (I.ok.inj _ _ _ e hc ▸ hi))
  .by_cases P_:c'=c
   .subst P_;exact#[_,w_]
   .let#[w2,z2]:=I.cell y c' e;exact#[w2,z2.sameBut hs P_]
  .let#[e,n,ne,nf,d]:=I.pin p hp;refine#[(hs.2 p.1 ?_).trans e,n,ne,nf,d];intro q;rw[q,P']at e;have q':oc=p.2:=Option.some.inj e;exact d w' (by rw[<-q'];exact NK)
def eK{M:Vq}{A:TK}{v:V}{u:KB}(I:Inv X pins σ H s)(hN:X.N.Nodup)(hi:X.N[i]?=be x)(hx:Loc X.env.scope x)(r:RelV v u)
  (h:∀s',Inv X pins (σ.set i (be v)) H s'->Q () s') (hf:zFN X x\zA2):TC M A (storeName X.env x u) Q E s:=
 pA I hN hi hx r (λs' I' _=>h s' I') hf
def Inv.call'{s':KM}(I:Inv X pins σ H s)(ho:s'.os=s.os)(u:Un (frs X.stack) ch H H' s.heap s'.heap)(hok:HOk X.prog X.w H' s'.heap)(hg:UC s'.gens)
  (G_:∀b∈ch,(b∈X.ex\/X.s₀.heap.objs.size<=b)/\b≠X.env.locals/\(∀x c,X.env.cells.lookup x=be c->c≠b)/\∀p∈X.pn++pins,p.1≠b):Inv X pins σ H' s':=by
 let#[h',g',d',t',o']:=s';have e:o'=s.os:=ho;subst e;exact I.call (g':=g') (t':=t') (d':=d') u hok hg G_
end
abbrev XK:=KB->Option KF->Hp->Prop
abbrev St:=List (Option V)
abbrev VK:=V->Hp->Prop
abbrev TE:=St->Hp->VK->Prop
abbrev TT:=St->Hp->(Bool->Hp->Prop)->Prop
abbrev TA:=St->Hp->(List V->Hp->Prop)->Prop
structure Ends where
 nx:St->Hp->Prop
 rt:VK
 bk:St->Hp->Prop:=λ_ _=>False
 ct:St->Hp->Prop:=λ_ _=>False
abbrev TS:=Ends->St->Hp->Prop
def EP(X:Cx)(pins:List (KF×T5))(σ:St)(Q:VK)(u:KB)(s':KM):Prop:=∃v H',Inv X pins σ H' s'/\RelV v u/\Q v H'
def TP(X:Cx)(pins:List (KF×T5))(σ:St)(Q:Bool->Hp->Prop)(b:Bool)(s':KM):Prop:=∃H',Inv X pins σ H' s'/\Q b H'
def AP(X:Cx)(pins:List (KF×T5))(σ:St)(Q:List V->Hp->Prop)(us:List KB)(s':KM):Prop:=∃vs H',Inv X pins σ H' s'/\Vals vs us/\Q vs H'
def SP(X:Cx)(pins:List (KF×T5))(D:Ends)(f:Flow)(s':KM):Prop:=
 match f with
 |.next=>∃σ' H',Inv X pins σ' H' s'/\D.nx σ' H'
 |.brk=>∃σ' H',Inv X pins σ' H' s'/\D.bk σ' H'
 |.cont=>∃σ' H',Inv X pins σ' H' s'/\D.ct σ' H'
 |.ret u=>∃v σ' H',Inv X pins σ' H' s'/\RelV v u/\D.rt v H'
def PE(X:Cx)(e:SZ)(t:TE):Prop:=
 ∀(pins:List (KF×T5)) (s:KM) (σ:St) (H:Hp) (Q:VK),Inv X pins σ H s->t σ H Q->TC (SL X.prog X.w) X.A (TR e X.env) (EP X pins σ Q) X.xe s
def PT(X:Cx)(e:SZ)(t:TT):Prop:=
 ∀(pins:List (KF×T5)) (s:KM) (σ:St) (H:Hp) (Q:Bool->Hp->Prop),Inv X pins σ H s->t σ H Q->TC (SL X.prog X.w) X.A (isTrue e X.env (TR e X.env)) (TP X pins σ Q) X.xe s
def PW(X:Cx)(e:SZ)(t:TT):Prop:=
 ∀(g5:Vj KB) (pins:List (KF×T5)) (s:KM) (σ:St) (H:Hp) (Q:Bool->Hp->Prop),Inv X pins σ H s->t σ H Q->TC (SL X.prog X.w) X.A (isTrue e X.env g5) (TP X pins σ Q) X.xe s
variable{X:Cx}
def PW.pt{e:SZ}{t:TT}(h:PW X e t):PT X e t:=h _
def PA(X:Cx)(es:List SZ)(t:TA):Prop:=
 ∀(pos:TX) (pins:List (KF×T5)) (s:KM) (σ:St) (H:Hp) (Q:List V->Hp->Prop),Inv X pins σ H s->t σ H Q->TC (SL X.prog X.w) X.A (spliced (Uy pos (TL es X.env))) (AP X pins σ Q) X.xe s
def PS(X:Cx)(st:TF)(t:TS):Prop:=
 ∀(pins:List (KF×T5)) (s:KM) (σ:St) (H:Hp) (D:Ends),Inv X pins σ H s->t D σ H->TC (SL X.prog X.w) X.A (exec st X.env) (SP X pins D) X.xe s
def PSs(X:Cx)(st:List TF)(t:TS):Prop:=
 ∀(pins:List (KF×T5)) (s:KM) (σ:St) (H:Hp) (D:Ends),Inv X pins σ H s->t D σ H->TC (SL X.prog X.w) X.A (execs st X.env) (SP X pins D) X.xe s
variable{A:TK}{E:KB->KM->Prop}{s:KM}
def thn{α:Type}{t:Vj α}{Q Q':α->KM->Prop}{M:Vq}(h:TC M A t Q E s)(hQ:∀a s,Q a s->Q' a s):TC M A t Q' E s:=T1 h hQ λ_ _ x=>x
section
variable {X:Cx}
def tVar(i:Nat):TE:=λσ H Q=>∃v,σ[i]?=be (be v)/\Q v H
def tC(v:V):TE:=λ_ H Q=>Q v H
variable{x:J7}{pos:TX}
def dh{i:Nat}(hN:X.N[i]?=be x)(hv:Vis X.env.scope x)(hd:zND x\zA1)(i8:zNC x\zA1):PE X (.Name x pos) (tVar i):=by
 intro pins s σ H Q I h;let#[v,e,h]:=h;let#[m,hn,hl]:=I.loc;let#[u,r,l]:=hl i x v hN e hv;have c_:EP X pins σ Q u s:=#[v,H,I,r,h];rcases l with⟨hk,hm⟩|⟨hk,c,hc,p6⟩
 .exact Vw (wpAny_loadName_local I.ok.kind hk hn hm c_) hd
 .rcases hk with hk|hk
  .exact Vw (wpAny_loadName_cell I.ok.kind hk hc p6 c_) hd
  .exact Vw (wpAny_loadName_free I.ok.kind hk hc p6 c_ i8) hd
def wE{i j pos}:PE X (.Constant (.int i) j pos) (tC (.int i)):=λ_ _ _ H _ I h=>wpAny_Constant_int #[.int i,H,I.tok _,#[_,rfl],h]
def wF{b j pos}:PE X (.Constant (.bool b) j pos) (tC (.bl b)):=λ_ _ _ H _ I h=>Constant_bool #[.bl b,H,I,rfl,h]
def wG{j pos}:PE X (.Constant .none j pos) (tC .non):=λ_ _ _ H _ I h=>Constant_none #[.non,H,I,rfl,h]
def pB{x j pos}:PE X (.Constant (.str x) j pos) (tC (.str x)):=λ_ _ _ H _ I h=>Calls.Constant_str #[.str x,H,I.tok _,#[_,rfl],h]
def Gl(X:Cx)(x:J7):Prop:=X.env.kindOf x=be .globalImplicit
variable{E Q:KB->KM->Prop}{pins:List (KF×T5)}{u:KB}
def ck{s:KM}{σ:St}{H:Hp}(I:Inv X pins σ H s)(hg:Gl X x)(hm:X.mg x=be u)(h:Q u s)
  (hd:zND x\zA1):TC (SL X.prog X.w) X.A (TR (.Name x pos) X.env) Q E s:=
 Calls.Name_function_global I.ok.kind hg (Calls.loadGlobal_global (by rw[I.ok.glob];exact I.mod.glob.keeps I.bk) hm h) hd
def eN{s:KM}{σ:St}{H:Hp}(I:Inv X pins σ H s)(hg:Gl X x)(hm:X.mg x=x8)(hv:T3 x=be u)(h:Q u s)
  (hn:(x≠"__name__")\zA1) (hd:zND x\zA1):TC (SL X.prog X.w) X.A (TR (.Name x pos) X.env) Q E s:=by
 let#[mb,h1,h2]:=I.mod.blt;exact Calls.Name_function_global I.ok.kind hg (Calls.loadGlobal_builtin (by rw[I.ok.glob];exact I.mod.glob.keeps I.bk) hm (by rw[I.ok.blt];exact h1.keeps I.bk) ((h2 x hn).trans hv) h) hd
def pC{v:V}(hg:Gl X x)(hm:X.mg x=be u)(r:RelV v u)(hd:zND x\zA1):PE X (.Name x pos) (tC v):=
 λ_ _ _ H _ I h=>ck I hg hm #[v,H,I,r,h] hd
def pD{v:V}(hg:Gl X x)(hm:X.mg x=x8)(hv:T3 x=be u)(r:RelV v u)(hn:(x≠"__name__")\zA1)(hd:zND x\zA1):PE X (.Name x pos) (tC v):=
 λ_ _ _ H _ I h=>eN I hg hm hv #[v,H,I,r,h] hn hd
variable {a b:SZ}{ta tb:TE}{pos:TX}
variable {tA J4:TT}{rest:List SZ}
def tAnd(t u:TT):TT:=λσ H Q=>t σ H λc H1=>if c=true then u σ H1 Q else Q false H1
def tOr(t u:TT):TT:=λσ H Q=>t σ H λc H1=>if c=true then Q true H1 else u σ H1 Q
def tNot(t:TT):TT:=λσ H Q=>t σ H λc H1=>Q (!c) H1
def pE(ha:PT X a tA):PW X (.BoolOp .And [a] pos) tA:=by
 intro wh pins s σ H Q I h;refine isTrue_and (thn (ha pins s σ H Q I h) λc s1 e=>?_);cases c with
 |true=>exact isTrue_and_nil e
 |false=>exact e
def pF(ha:PT X a tA):PW X (.BoolOp .Or [a] pos) tA:=by
 intro wh pins s σ H Q I h;refine isTrue_or (thn (ha pins s σ H Q I h) λc s1 e=>?_);cases c with
 |false=>exact isTrue_or_nil e
 |true=>exact e
def pG(ha:PT X a tA)(hb:PW X (.BoolOp .And (b::rest) pos) J4):PW X (.BoolOp .And (a::b::rest) pos) (tAnd tA J4):=by
 intro wh pins s σ H Q I h;refine isTrue_and (thn (ha pins s σ H _ I h) λc s1 c7=>?_);let#[H1,I1,q1]:=c7;cases c with
 |true=>exact hb wh pins s1 σ H1 Q I1 q1
 |false=>exact#[H1,I1,q1]
def pH(ha:PT X a tA)(hb:PW X (.BoolOp .Or (b::rest) pos) J4):PW X (.BoolOp .Or (a::b::rest) pos) (tOr tA J4):=by
 intro wh pins s σ H Q I h;refine isTrue_or (thn (ha pins s σ H _ I h) λc s1 c7=>?_);let#[H1,I1,q1]:=c7;cases c with
 |true=>exact#[H1,I1,q1]
 |false=>exact hb wh pins s1 σ H1 Q I1 q1
def pI(ha:PT X a tA):PT X (.UnaryOp .Not a pos) (tNot tA):=by
 intro pins s σ H Q I h;exact isTrue_not (ha pins s σ H (λc H1=>Q (!c) H1) I h)
def wH(ta tb:TE):TE:=λσ H Q=>ta σ H λx H1=>∃c,x=.bl c/\if c=true then tb σ H1 Q else Q (.bl false) H1
def tOrV(ta tb:TE):TE:=λσ H Q=>ta σ H λx H1=>∃c,x=.bl c/\if c=true then Q (.bl true) H1 else tb σ H1 Q
def wI(ta:TE):TE:=λσ H Q=>ta σ H λx H1=>∃c,x=.bl c/\Q (.bl (!c)) H1
def wJ{op}{t:TE}(h:PE X a t):PE X (.BoolOp op [a] pos) t:=λpins s σ H Q I hw=>BoolOp_one (h pins s σ H Q I hw)
def wK(ha:PE X a ta)(hb:PE X (.BoolOp .And (b::rest) pos) tb):PE X (.BoolOp .And (a::b::rest) pos) (wH ta tb):=by
 intro pins s σ H Q I h;refine BoolOp_and (thn (ha pins s σ H _ I h) λv s1 c7=>?_);let#[x,H1,I1,r1,q1]:=c7;let#[c,rfl,q1]:=q1;cases r1;refine Ui ?_;cases c with
 |true=>exact hb pins s1 σ H1 Q I1 q1
 |false=>exact#[.bl false,H1,I1,rfl,q1]
def wL(ha:PE X a ta)(hb:PE X (.BoolOp .Or (b::rest) pos) tb):PE X (.BoolOp .Or (a::b::rest) pos) (tOrV ta tb):=by
 intro pins s σ H Q I h;refine BoolOp_or (thn (ha pins s σ H _ I h) λv s1 c7=>?_);let#[x,H1,I1,r1,q1]:=c7;let#[c,rfl,q1]:=q1;cases r1;refine Ui ?_;cases c with
 |false=>exact hb pins s1 σ H1 Q I1 q1
 |true=>exact#[.bl true,H1,I1,rfl,q1]
def wM(ha:PE X a ta):PE X (.UnaryOp .Not a pos) (wI ta):=by
 intro pins s σ H Q I h;refine UnaryOp_ (thn (ha pins s σ H _ I h) λv s1 c7=>?_);let#[x,H1,I1,r1,q1]:=c7;let#[c,rfl,q1]:=q1;cases r1;exact not_of (Ui #[.bl (!c),H1,I1,rfl,q1])
def tIf(t:TT)(ta tb:TE):TE:=λσ H Q=>t σ H λc H1=>if c=true then ta σ H1 Q else tb σ H1 Q
def wN{c:SZ}(hc:PT X c tA)(ha:PE X a ta)(hb:PE X b tb):PE X (.IfExp c a b pos) (tIf tA ta tb):=by
 intro pins s σ H Q I h;refine wpAny_IfExp (thn (hc pins s σ H _ I h) λd s1 c7=>?_);let#[H1,I1,q1]:=c7;cases d with
 |true=>exact ha pins s1 σ H1 Q I1 q1
 |false=>exact hb pins s1 σ H1 Q I1 q1
end
def SqL(K:Ex)(H:Hp)(a:KF)(xs:List V):Prop:=
 Rd H a (.lst xs)\/
  ∃(o:T5) (its:Array KB) (n:Nat),K.lookup a=be o/\o.cls=.type "list"/\o.dict=x8/\o.data=.seq its n/\its.size<=sizeLine/\Vals xs its.toList
def SqT(K:Ex)(H:Hp)(a:KF)(xs:List V):Prop:=
 Rd H a (.tup xs)\/
  ∃(o:T5) (its:Array KB) (n:Nat),K.lookup a=be o/\o.cls=.type "tuple"/\o.data=.seq its n/\its.size<=sizeLine/\Vals xs its.toList
def absV:KB->Option V
 |.none=>be .non
 |.bool b=>be (.bl b)
 |.int i _=>be (.int i)
 |.str x _=>be (.str x)
 |.bytes b _=>be (.byt b)
 |.float b _=>be (.flt b)
 |.ref a=>be (.ref a)
 |.type n=>be (.ty n)
 |_=>x8
variable{u:KB}
def RelV.abs{x:V}(r:RelV x u):absV u=be x:=by
 cases x with
 |non=>cases r;rfl
 |bl _=>cases r;rfl
 |int _=>let#[t,rfl]:=r;rfl
 |str _=>let#[t,rfl]:=r;rfl
 |byt _=>let#[t,rfl]:=r;rfl
 |flt _=>let#[t,rfl]:=r;rfl
 |ref _=>cases r;rfl
 |ty _=>cases r;rfl
def RelV.inj{x y:V}(r:RelV x u)(q:RelV y u):x=y:=Option.some.inj (r.abs.symm.trans q.abs)
def Vals.inj:∀{xs ys:List V} {us:List KB},Vals xs us->Vals ys us->xs=ys:=by
 intro xs ys us h;induction h generalizing ys with
 |nil=>intro g;cases g;rfl
 |cons r _ e=>
  intro g;cases g with
  |cons r' t'=>rw[r.inj r',e t']
section
variable {X:Cx}{pins:List (KF×T5)}{σ:St}{H:Hp}{s:KM}{a:KF}{xs ys:List V}
def SqL.of{K:Ex}(h:H a=be (.lst xs)):SqL K H a xs:=.inl (.inl h)
def SqT.of{K:Ex}(h:H a=be (.tup xs)):SqT K H a xs:=.inl (.inl h)
def Inv.list(I:Inv X pins σ H s)(h:SqL X.K H a xs):∃its:List KB,Vals xs its/\PlainL s.heap a its.toArray/\xs.length<=sizeLine:=by
 rcases h with h|⟨o,its,n,hk,hc,hd,hs,hz,r⟩
 .let#[z,its,n,r,e]:=h.ok I.hok;exact#[its,r,#[_,n,e,rfl,rfl,rfl],z]
 .refine#[its.toList,r,#[o,n,I.kIn a o hk,hc,hd,by simpa using hs],?_];have e:=r.length;simp only[Iu]at e;lia
def Inv.tuple(I:Inv X pins σ H s)(h:SqT X.K H a xs):∃its:List KB,Vals xs its/\IsTup s.heap a its.toArray/\xs.length<=sizeLine:=by
 rcases h with h|⟨o,its,n,hk,hc,hs,hz,r⟩
 .let#[z,its,r,p]:=h.ok I.hok;exact#[its,r,p,z]
 .refine#[its.toList,r,#[o,I.kIn a o hk,hc,n,by simpa using hs],?_];have e:=r.length;simp only[Iu]at e;lia
def Inv.list_inj(I:Inv X pins σ H s)(h:SqL X.K H a xs)(h':SqL X.K H a ys):xs=ys:=by
 let#[its,r,#[o,n,e,_,_,d],_]:=I.list h;let#[its',r',#[o',n',e',_,_,d'],_]:=I.list h';rw[e]at e';cases e';rw[d]at d';injection d' with d1 _;have:its=its':=by simpa using congrArg Array.toList d1
 subst this;exact r.inj r'
end
abbrev Cx.wish(X:Cx)(E:KB->KM->Prop):Cx:={X with xe:=E}
abbrev Cx.nox(X:Cx):Cx:=X.wish λ_ _=>False
def Cx.Ok.wish(ok:X.Ok)(E:KB->KM->Prop):(X.wish E).Ok:=
 #[ok.mod,ok.kind,ok.glob,ok.blt,ok.above,ok.inj,ok.has,ok.cab,ok.hd,ok.frames,ok.stk,ok.exf,ok.bs,ok.bsz,ok.noex,ok.exfs,ok.funs,ok.frf]
def Cx.Ok.unwish(ok:(X.wish E).Ok):X.Ok:=
 #[ok.mod,ok.kind,ok.glob,ok.blt,ok.above,ok.inj,ok.has,ok.cab,ok.hd,ok.frames,ok.stk,ok.exf,ok.bs,ok.bsz,ok.noex,ok.exfs,ok.funs,ok.frf]
section
variable {X:Cx}{pins:List (KF×T5)}{σ:St}{H:Hp}{s:KM}{E:KB->KM->Prop}
def Inv.wish(I:Inv X pins σ H s)(E:KB->KM->Prop):Inv (X.wish E) pins σ H s:=#[I.ok.wish E,I.os,I.bare,I.base,I.loc,I.cell,I.free,I.freeC,I.pin,I.hok,I.len]
def Inv.unwish(I:Inv (X.wish E) pins σ H s):Inv X pins σ H s:=#[I.ok.unwish,I.os,I.bare,I.base,I.loc,I.cell,I.free,I.freeC,I.pin,I.hok,I.len]
def SP.unwish{D:Ends}{f:Flow}{s':KM}(h:SP (X.wish E) pins D f s'):SP X pins D f s':=by
 cases f with
 |next=>let#[σ',H',I,q]:=h;exact#[σ',H',I.unwish,q]
 |brk=>let#[σ',H',I,q]:=h;exact#[σ',H',I.unwish,q]
 |cont=>let#[σ',H',I,q]:=h;exact#[σ',H',I.unwish,q]
 |ret u=>let#[v,σ',H',I,r,q]:=h;exact#[v,σ',H',I.unwish,r,q]
def PSs.nox{st:List TF}{t:TS}(h:PSs X.nox st t):PSs X st t:=λpins s σ H D I hw=>
 T1 (h pins s σ H D (I.wish _) hw) (λ_ _ q=>q.unwish) λ_ _ z=>False.elim z
end
section
variable {X:Cx}{st:TF}{rest:List TF}{t u:TS}{e:SZ}{te:TE}{pos:TX}
def wO:TS:=λD σ H=>D.nx σ H
def tSeq(t u:TS):TS:=λD σ H=>t {D with nx:=u D} σ H
def pss_nil:PSs X [] wO:=λ_ _ σ H _ I h=>Uu #[σ,H,I,h]
def eO(h1:PS X st t)(h2:PSs X rest u):PSs X (st::rest) (tSeq t u):=by
 intro pins s σ H D I h;refine wpAny_execs_cons (thn (h1 pins s σ H {D with nx:=u D} I h) λf s1 q=>?_);cases f with
 |next=>
  let#[σ',H',I',q]:=q;exact h2 pins s1 σ' H' D I' q
 |ret v=>exact q
 |brk=>exact q
 |cont=>exact q
def pJ(h1:PS X st t):PSs X [st] t:=by
 intro pins s σ H D I h;refine wpAny_execs_cons (thn (h1 pins s σ H D I h) λf s1 q=>?_);cases f with
 |next=>exact Uu q
 |ret v=>exact q
 |brk=>exact q
 |cont=>exact q
def Inv.quiet{pins:List (KF×T5)}{σ:St}{H:Hp}{s:KM}(I:Inv X pins σ H s):interactive X.env=false:=by simp[interactive,I.ok.kind]
def wP(te:TE):TS:=λD σ H=>te σ H λ_ H1=>D.nx σ H1
def pK(he:PE X e te)(hs:(T7 e x8 pos.line X.env=pure false)\zA0):PS X (.Expr e pos) (wP te):=by
 intro pins s σ H D I h;exact wpAny_Expr_any (thn (he pins s σ H _ I h) λv s1 ⟨x,H1,I1,r1,q1⟩=>#[σ,H1,I1,q1]) I.quiet hs
def tRet(te:TE):TS:=λD σ H=>te σ H D.rt
def pL(he:PE X e te):PS X (.Return (be e) pos) (tRet te):=by
 intro pins s σ H D I h;exact wpAny_Return_some (thn (he pins s σ H _ I h) λv s1 ⟨x,H1,I1,r1,q1⟩=>#[x,σ,H1,I1,r1,q1])
def tIfS(c:TT)(t u:TS):TS:=λD σ H=>c σ H λb H1=>if b=true then t D σ H1 else u D σ H1
def pM{c:SZ}{a b:List TF}{tc:TT}(hc:PT X c tc)(ha:PSs X a t)(hb:PSs X b u):PS X (.If c a b pos) (tIfS tc t u):=by
 intro pins s σ H D I h;refine wpAny_If (thn (hc pins s σ H _ I h) λd s1 c7=>?_);let#[H1,I1,q1]:=c7;cases d with
 |true=>exact ha pins s1 σ H1 D I1 q1
 |false=>exact hb pins s1 σ H1 D I1 q1
end
abbrev TG:=V->St->Hp->(St->Hp->Prop)->Prop
abbrev TGs:=List V->St->Hp->(St->Hp->Prop)->Prop
def PG(X:Cx)(i9:SZ)(t:TG):Prop:=
 ∀(pins:List (KF×T5)) (s:KM) (σ:St) (H:Hp) (v:V) (u:KB) (Q:St->Hp->Prop),Inv X pins σ H s->RelV v u->t v σ H Q->
  TC (SL X.prog X.w) X.A (UD i9 X.env u) (λ_ s'=>∃σ' H',Inv X pins σ' H' s'/\Q σ' H') X.xe s
def PGs(X:Cx)(ts:List SZ)(t:TGs):Prop:=
 ∀(pins:List (KF×T5)) (s:KM) (σ:St) (H:Hp) (vs:List V) (us:List KB) (Q:St->Hp->Prop),Inv X pins σ H s->Vals vs us->t vs σ H Q->
  TC (SL X.prog X.w) X.A (U' ((TN ts X.env).map (·.2)) us) (λ_ s'=>∃σ' H',Inv X pins σ' H' s'/\Q σ' H') X.xe s
abbrev TSet:=V->V->V->Hp->(Hp->Prop)->Prop
def PSet(X:Cx)(t:TSet):Prop:=
 ∀(pins:List (KF×T5)) (s:KM) (σ:St) (H:Hp) (o i v:V) (ov iv u:KB) (Q:Hp->Prop),Inv X pins σ H s->RelV o ov->RelV i iv->RelV v u->t o i v H Q->
  TC (SL X.prog X.w) X.A (setItem ov iv u) (λ_ s'=>∃H',Inv X pins σ H' s'/\Q H') X.xe s
abbrev TIp:=V->V->Hp->VK->Prop
def PIp(X:Cx)(op:U8)(t:TIp):Prop:=
 ∀(pins:List (KF×T5)) (s:KM) (σ:St) (H:Hp) (x y:V) (v u:KB) (Q:VK),Inv X pins σ H s->RelV x v->RelV y u->t x y H Q->
  TC (SL X.prog X.w) X.A (inplaceOp op v u) (EP X pins σ Q) X.xe s
section
variable {X:Cx}{pos:TX}
def gz(i:Nat):TG:=λv σ H Q=>Q (σ.set i (be v)) H
variable{i:Nat}{x:J7}
def gA(hN:X.N.Nodup)(hi:X.N[i]?=be x)(hx:Loc X.env.scope x)(hf:zFN X x\zA2):PG X (.Name x pos) (gz i):=by
 intro pins s σ H v u Q I r h;exact US (eK I hN hi hx r (λs' I'=>#[_,H,I',h]) hf)
def gNil:TGs:=λvs σ H Q=>vs=[]/\Q σ H
def wQ(t:TG)(u:TGs):TGs:=λvs σ H Q=>∃v r,vs=v::r/\t v σ H λσ' H'=>u r σ' H' Q
def wR:PGs X [] gNil:=by
 intro pins s σ H vs us Q I r h;let#[e,h]:=h;subst e;cases r;exact VE #[σ,H,I,h]
variable{e:SZ}{es:List SZ}
def wS{t:TG}{u:TGs}(h1:PG X e t)(h2:PGs X es u)
  (hs:((TN (e::es) X.env).map (·.2)=UD e X.env::(TN es X.env).map (·.2))\zA0):PGs X (e::es) (wQ t u):=by
 intro pins s σ H vs us Q I r h;let#[v,vr,e1,h]:=h;subst e1;cases r with
 |cons r rr=>
  rw[hs];refine UR (thn (h1 pins s σ H _ _ _ I r h) λ_ s1 c7=>?_);let#[σ1,H1,I1,q1]:=c7;exact h2 pins s1 σ1 H1 _ _ Q I1 rr q1
def gTup(K:Ex)(n:Nat)(t:TGs):TG:=λv σ H Q=>∃a xs,v=.ref a/\SqT K H a xs/\xs.length=n/\t xs σ H Q
def jm{k:Nat}{t:TGs}{n:Nat}(hc:X.calm=true)(h:PGs X es t)
  (hn:((TN es X.env).length=n)\zA0) (q8:((TN es X.env).findIdx? (·.1)=none)\zA0):PG X (.Tuple es k pos) (gTup X.K n t):=by
 intro pins s σ H v u Q I r hw;let#[a,xs,e1,hq,hl,hw]:=hw;subst e1;cases r;let#[its,rv,ht,hz]:=I.tuple hq;refine assign_Tuple_tuple (I.ok.hd hc) ht (by simp[hn,<-hl,rv.length]) q8 λh' hx=>?_;have I1:Inv X pins σ H {s with heap:=h'}:=I.kept (t':=s.toks) λb o e=>hx b o (GH (Heap.lt_size e)) e;exact h pins _ σ H xs _ Q I1 (by simpa using rv) hw
def tAsg(te:TE)(g:TG):TS:=λD σ H=>te σ H λx H1=>g x σ H1 D.nx
variable{te:TE}
def jn{tg:SZ}{g:TG}(he:PE X e te)(hg:PG X tg g)(hs:(Um [tg] e pos.line X.env=pure false)\zA0)(hw:(Uo [tg] e X.env=pure none)\zA0)
  (h1:((TN [tg] X.env).map (·.2)=[UD tg X.env])\zA0):PS X (.Assign [tg] e pos) (tAsg te g):=by
 intro pins s σ H D I h;refine wpAny_Assign_stores (thn (he pins s σ H _ I h) λv s1 hh=>?_) hs hw;let#[x,H1,I1,r1,q1]:=hh;rw[h1];exact thn (hg pins s1 σ H1 x v _ I1 r1 q1) λ_ s2 q=>q
def gB{c8:TX}(hN:X.N.Nodup)(hi:X.N[i]?=be x)(hx:Loc X.env.scope x)(he:PE X e te)(hs:(T7 e (be (.Name x c8)) pos.line X.env=pure false)\zA0)(hf:zFN X x\zA2):
  PS X (.Assign [.Name x c8] e pos) (tAsg te (gz i)):=by
 intro pins s σ H D I h;refine wpAny_Assign_Name (thn (he pins s σ H _ I h) λv s1 hh=>?_) hs;let#[y,H1,I1,r1,q1]:=hh;exact eK I1 hN hi hx r1 (λs2 I2=>#[_,H1,I2,q1]) hf
def tPar(i j:Nat)(ta:TA):TS:=λD σ H=>ta σ H λvs H1=>∃v w,vs=[v,w]/\D.nx ((σ.set i (be v)).set j (be w)) H1
def wT{j:Nat}{y:J7}{a b:SZ}{ta:TA}{px py pt:TX}{kt k2 KY}(hc:X.calm=true)(hN:X.N.Nodup)(hi:X.N[i]?=be x)(hj:X.N[j]?=be y)(NL:i≠j)
  (hx:X.env.scope.names.lookup x=be .local) (hy:X.env.scope.names.lookup y=be .local) (ha:PA X [a,b] ta)
  (hw:Uo [.Tuple [.Name x px,.Name y py] kt pt] (.Tuple [a,b] k2 KY) X.env=pure (be [x,y]))
  (hs:(Um [.Tuple [.Name x px,.Name y py] kt pt] (.Tuple [a,b] k2 KY) pos.line X.env=pure false)\zA0):
  PS X (.Assign [.Tuple [.Name x px,.Name y py] kt pt] (.Tuple [a,b] k2 KY) pos) (tPar i j ta):=by
 intro pins s σ H D I h;rw[exec_Assign_arm];refine Os (Uk ?_);rw[hs];refine Os (P3 ?_);rw[if_neg K3];refine Os (Tuple_ (thn (ha _ pins s σ H _ I h) λus s1 c7=>?_));let#[vs,H1,I1,r1,q1]:=c7;let#[v,w,e1,q1]:=q1;subst e1;let#[u1,u2,rfl,rv,j_]:∃u1 u2,us=[u1,u2]/\RelV v u1/\RelV w u2:=by
  cases r1 with
  |cons p q=>
   cases q with
   |cons p' q'=>
    cases q';exact#[_,_,rfl,p,p']
 refine TZ ?_ (by show 2<=sizeLine;decide);have I2:Inv X pins σ H1 {s1 with heap:=s1.heap.push {cls:=.type "tuple",data:=.seq [u1,u2].toArray} }:=I1.kept (t':=s1.toks) λb o e=>Heap.get?_push_of_some _ e;rw[hw];refine Os (P3 ?_);show TC (SL X.prog X.w) X.A (do rule "assign.swapped-stores";let items <-unpackItems (.ref s1.heap.objs.size) 2 x8;U' [λv=>U7 X.env y v,λv=>U7 X.env x v] items.reverse;pure Flow.next) _ _ _;refine Os (Vu (Os (unpackItems_tuple (items:=[u1,u2].toArray) (I.ok.hd hc) (IsTup.new s1.heap _) λh' i_=>?_)));have I3:=I2.kept (h':=h') (t':=s1.toks) λb o e=>i_ b o (GH (Heap.lt_size e)) e;show TC _ _ (U' [λv=>U7 X.env y v,λv=>U7 X.env x v] [u2,u1]>>=λ_=>pure Flow.next) _ _ _;refine Os (UR (wpAny_bindName (eK I3 hN hj (.inl hy) j_ (λs2 I4=>?_) (.inr hy))));refine UR (wpAny_bindName (eK I4 hN hi (.inl hx) rv (λs3 I5=>VE (P3 ?_)) (.inr hx)));rw[List.set_comm _ _ (Ne.symm NL)]at I5;exact#[_,H1,I5,q1]
def wU(to ti te:TE)(J5:V->V->Hp->VK->Prop)(M8:TIp)(J6:TSet):TS:=λD σ H=>to σ H λo H1=>ti σ H1 λi H2=>J5 o i H2 λx H3=>te σ H3 λy H4=>M8 x y H4 λz H5=>J6 o i z H5 λH6=>D.nx σ H6
def PGet(X:Cx)(t:V->V->Hp->VK->Prop):Prop:=
 ∀(pins:List (KF×T5)) (s:KM) (σ:St) (H:Hp) (o i:V) (ov iv:KB) (Q:VK),Inv X pins σ H s->RelV o ov->RelV i iv->t o i H Q->
  TC (SL X.prog X.w) X.A (U1 ov iv) (EP X pins σ Q) X.xe s
def wV{o i:SZ}{to ti:TE}{J5:V->V->Hp->VK->Prop}{M8:TIp}{J6:TSet}{op:U8}{LU:TX}(ho:PE X o to)(hi:PE X i ti)(hg:PGet X J5)(he:PE X e te)(hp:PIp X op M8)(hs:PSet X J6)
  (ha:(∀ov iv new,augStore i ov iv new=(do UH [new,ov,iv] (setItem ov iv new);release [new,ov,iv] [];pure .next))\zA8):PS X (.AugAssign (.Subscript o i LU) op e pos) (wU to ti te J5 M8 J6):=by
 intro pins s σ H D I h;refine wpAny_AugAssign_SubscriptAny (thn (ho pins s σ H _ I h) λov s1 hh=>?_) ha;let#[x1,H1,I1,r1,q1]:=hh;refine thn (hi pins s1 σ H1 _ I1 q1) λiv s2 c7=>?_;let#[x2,H2,I2,r2,q2]:=c7;refine thn (hg pins s2 σ H2 x1 x2 ov iv _ I2 r1 r2 q2) λf8 s3 c7=>?_;let#[x3,H3,I3,r3,q3]:=c7;refine thn (he pins s3 σ H3 _ I3 q3) λv s4 c7=>?_;let#[x4,H4,I4,r4,q4]:=c7;refine thn (hp pins s4 σ H4 x3 x4 f8 v _ I4 r3 r4 q4) λnew s5 c7=>?_;let#[x5,H5,I5,r5,q5]:=c7;exact thn (hs pins s5 σ H5 x1 x2 x5 ov iv new _ I5 r1 r2 r5 q5) λ_ s6 ⟨H6,I6,q6⟩=>#[σ,H6,I6,q6]
def wW(c:TT)(tb:TS):TS:=λD σ H=>∃W:Nat->St->Hp->Prop,(∃m,W m σ H)/\∀m σ H,W m σ H->
 c σ H λb H1=>if b=true then ∃N:St->Hp->Prop,(∀σ' H',N σ' H'->∃m',m'<m/\W m' σ' H')/\tb {D with nx:=N,ct:=N,bk:=D.nx} σ H1 else D.nx σ H1
def pN{c:SZ}{body:List TF}{tc:TT}{tb:TS}(hp:Uh (SL X.prog X.w) X.A X.env X.xe)(hc:PT X c tc)(hb:PSs X body tb):PS X (.While c body [] pos) (wW tc tb):=by
 intro pins s σ H D I h;let#[W,#[m0,w0],e_]:=h;refine wpAny_While (codeAny_whileLoop (λn s'=>∃σ' H',Inv X pins σ' H' s'/\W n σ' H') ?_ m0 #[σ,H,I,w0]);rintro n s1⟨σ1,H1,I1,w1⟩;refine T_ hp (thn (hc pins s1 σ1 H1 _ I1 (e_ n σ1 H1 w1)) λb s2 c7=>?_);let#[H2,I2,q2]:=c7;cases b with
 |true=>
  let#[N,hN,q2]:=q2;rw[if_pos rfl];refine T_ hp (thn (hb pins s2 σ1 H2 _ I2 q2) λf s3 q3=>?_);cases f with
  |next=>
   let#[σ3,H3,I3,n3]:=q3;let#[m',hm,w3]:=hN σ3 H3 n3;exact#[m',hm,σ3,H3,I3,w3]
  |cont=>
   let#[σ3,H3,I3,n3]:=q3;let#[m',hm,w3]:=hN σ3 H3 n3;exact#[m',hm,σ3,H3,I3,w3]
  |brk=>exact q3
  |ret v=>exact q3
 |false=>
  rw[if_neg GJ];exact Uu #[σ1,H2,I2,q2]
end
structure It where
 go:Nat->Hp->Prop
 yld:Nat->Hp->V->Hp->Prop
 stop:Nat->Hp->Prop
def FpOk(X:Cx)(pins:List (KF×T5))(H:Hp)(b:KF):Prop:=
 H b=x8/\b≠X.env.locals/\b∉X.fs/\(b∈X.ex\/X.s₀.heap.objs.size<=b)/\(∀x c,X.env.cells.lookup x=be c->c≠b)/\∀p∈X.pn++pins,p.1≠b
variable{σ:St}
def Inv.fpOk{pins:List (KF×T5)}{H':Hp}(I:Inv X pins σ H s)(hb:s.heap.objs.size<=b)(hn:H' b=x8):FpOk X pins H' b:=by
 refine#[hn,Hi (GR I.lt hb),I.nofs hb,.inr (GD I.sz hb),λx c e z=>?_,λp hp z=>?_]
 .let#[v,q]:=I.cell x c e;exact absurd (GR q.lt (by rw[z];exact hb)) (Hu _)
 .exact absurd (GR (Heap.lt_size (I.pin p hp).1) (by rw[z];exact hb)) (Hu _)
structure Turn(P:SB)(w:TJ)(K:Ex)(tg:SZ)(J:It)(fp:List KF)(it:KF)(tn:Nat->Heap->Prop):Prop where
 mem:it∈fp
 obj:∀i h,tn i h->∀b∈fp,∃o,h.get? b=be o/\∀v,o.data≠.cell v
 keep:∀i h h',tn i h->(∀b∈fp,∀o,h.get? b=be o->h'.get? b=be o)->tn i h'
 item:∀(X:Cx),X.prog=P->X.w=w->X.K=K->X.calm=true->∀(i:Nat) (pins:List (KF×T5)) (s:KM) (σ:St) (H:Hp) (E:KB->KM->Prop),Inv X pins σ H s->(∀b∈fp,FpOk X pins H b)->tn i s.heap->J.go i H->
  TC (SL P w) X.A (pyNext (.ref it)) (λr s1=>∃u,r=be u/\
   TC (SL P w) X.A (UL tg (.ref it) u) (λ_ s2=>∃x H',Inv X pins σ H' s2/\RelV x u/\J.yld i H x H'/\tn (i+1) s2.heap/\∀b∈fp,H' b=x8) E s1) E s
 done:∀(X:Cx),X.prog=P->X.w=w->X.K=K->X.calm=true->∀(i:Nat) (pins:List (KF×T5)) (s:KM) (σ:St) (H:Hp) (E:KB->KM->Prop),Inv X pins σ H s->(∀b∈fp,FpOk X pins H b)->tn i s.heap->J.stop i H->
  TC (SL P w) X.A (pyNext (.ref it)) (λr s1=>r=x8/\Inv X pins σ H s1) E s
 self:∀(A:TK) (i:Nat) (s:KM) (Q:KB->KM->Prop) (E:KB->KM->Prop),tn i s.heap->Q (.ref it) s->TC (SL P w) A (pyIter (.ref it)) Q E s
abbrev TI:=St->Hp->(It->Hp->Prop)->Prop
def PIE(X:Cx)(pins:List (KF×T5))(σ:St)(tg:SZ)(R:It->Hp->Prop)(M9:KB)(s2:KM):Prop:=
 ∃(it:KF) (fp:List KF) (tn:Nat->Heap->Prop) (J:It) (H':Hp),M9=.ref it/\Inv X pins σ H' s2/\Turn X.prog X.w X.K tg J fp it tn/\tn 0 s2.heap/\(∀b∈fp,FpOk X pins H' b)/\R J H'
def PI(X:Cx)(tg iter:SZ)(wi:TI):Prop:=
 ∀(pins:List (KF×T5)) (s:KM) (σ:St) (H:Hp) (R:It->Hp->Prop),Inv X pins σ H s->wi σ H R->
  TC (SL X.prog X.w) X.A (TR iter X.env) (λv s1=>TC (SL X.prog X.w) X.A (pyIter v) (PIE X pins σ tg R) X.xe s1) X.xe s
variable{tg:SZ}
def pO{M:Vq}{it:KF}{o:T5}{n:String}{vs:Array KB}{Q:Unit->KM->Prop}(ho:s.heap.get? it=be o)(hc:o.cls=.type n)(hd:o.data=.fields vs)
    (hn:["enumerate","zip","dict_itemiterator","dict_reverseitemiterator","odict_iterator","itertools.zip_longest","itertools.pairwise"].contains n=false) (hQ:Q () s):TC M A (UL tg (.ref it) u) Q E s:=by
  unfold UL;cases tg<;>first
    |exact P3 hQ
    |(cases u<;>first
        |exact P3 hQ
        |( refine Os (wpAny_load ho ?_)
           rw[hc,hd];show TC M A (if(["enumerate","zip","dict_itemiterator","dict_reverseitemiterator","odict_iterator","itertools.zip_longest","itertools.pairwise"].contains n&&vs[0]?==be (UN _))=true then _ else _) Q E s;rw[if_neg (by intro h;rw[hn,Bool.false_and]at h;cases h)];exact P3 hQ))
def Itl(K:Ex)(a:KF):It:=
 #[λi H=>∃xs x,SqL K H a xs/\xs[i]?=be x,λi H x H'=>H'=H/\∀xs,SqL K H a xs->xs[i]?=be x,λi H=>∃xs,SqL K H a xs/\xs.length<=i]
def Itr(lo:Int)(n:Nat):It:=#[λi _=>i<n,λi H x H'=>H'=H/\x=.int (lo+i),λi _=>n<=i]
variable{K:Ex}
def wX(a it:KF):Turn P w K tg (Itl K a) [it] it (λi h=>h.IsListIter it a i) where
 mem:=K8
 obj:=λi h st b hb=>by
  have e:b=it:=by simpa using hb
  subst e;let#[o,e,c,d]:=st;exact#[o,e,λv z=>by rw[d]at z;cases z]
 keep:=λi h h' st k=>st.at λo e=>k it K8 o e
 item:=by
  intro X hP hw hK hc i pins s σ H E I hf st hg;subst hP hw hK;let#[xs,x,hq,hx]:=hg;let#[its,rv,p,hz]:=I.list hq;let#[u,hu,ru]:=rv.get hx;let#[f0,f1,f2,f3,f4,f5]:=hf it K8;refine wpAny_pyNext_list_item st p.isList (x:=u) (by simpa using hu) λh' st' sb=>?_;have I1:Inv X pins σ H {s with heap:=h'}:=I.turned (t':=s.toks) (λb o hb e=>(sb.2 b hb).trans e) f0 f1 f3 f4 f5;let#[o,e,c,d]:=id st';exact#[u,rfl,pO (s:={s with heap:=h'}) e c d K3 #[x,H,I1,ru,#[rfl,λys hy=>by rw[I.list_inj hy hq];exact hx],st',λb hb=>(hf b hb).1]]
 done:=by
  intro X hP hw hK hc i pins s σ H E I hf st hg;subst hP hw hK;let#[xs,hq,hx]:=hg;let#[its,rv,p,hz]:=I.list hq;let#[f0,f1,f2,f3,f4,f5]:=hf it K8;have hl:=rv.length;exact wpAny_pyNext_list_end (I.ok.hd hc) st p.isList (by simp;lia) λh' eb=>#[rfl,I.turned (t':=s.toks) (λb o hb e=>eb b o hb e) f0 f1 f3 f4 f5]
 self:=λ_ _ _ _ _ st h=>wpAny_pyIter_listiter st h
def wY(it:KF)(lo:Int)(n:Nat):Turn P w K tg (Itr lo n) [it] it (λi h=>IsRangeIter h it (lo+(i:Nat)*1) ((n:Int)-(i:Nat)) 1) where
 mem:=K8
 obj:=λi h st b hb=>by
  have e:b=it:=by simpa using hb
  subst e;exact⟨_,st,λv z=>by
   have z':Data.fields _=Data.cell v:=z;cases z'⟩
 keep:=λi h h' st k=>k it K8 _ st
 item:=by
  intro X hP hw hK hc i pins s σ H E I hf st hg;subst hP hw hK;let#[f0,f1,f2,f3,f4,f5]:=hf it K8;have W:=Walks.range (prog:=X.prog) (w:=X.w) (I.ok.hd hc) it lo 1 n;refine W.item i s _ _ hg st λv h' tk hv st' kk=>?_;let#[t,rfl]:=hv;have I1:Inv X pins σ H {s with heap:=h',toks:=tk}:=I.turned (λb o hb e=>kk b o (by simpa using hb) e) f0 f1 f3 f4 f5;refine#[_,rfl,pO (s:={s with heap:=h',toks:=tk}) (n:="range_iterator") st' rfl rfl K3 #[.int (lo+i),H,I1,#[t,?_],#[rfl,rfl],st',λb hb=>(hf b hb).1]];rw[Int.mul_one]
 done:=by
  intro X hP hw hK hc i pins s σ H E I hf st hg;subst hP hw hK;let#[f0,f1,f2,f3,f4,f5]:=hf it K8;exact wpAny_pyNext_range_end (I.ok.hd hc) st (by have:n<=i:=hg;lia) λh' eb=>#[rfl,I.turned (t':=s.toks) (λb o hb e=>eb b o hb e) f0 f1 f3 f4 f5]
 self:=λ_ _ _ _ _ st h=>wpAny_pyIter_rangeiter st h
section
variable {X:Cx}{tg:SZ}
def pP(K:Ex)(tl:TE):TI:=λσ H R=>tl σ H λx H1=>∃a,x=.ref a/\(∃xs,SqL K H1 a xs)/\R (Itl K a) H1
def jp{l:SZ}{tl:TE}(hl:PE X l tl):PI X tg l (pP X.K tl):=by
 intro pins s σ H R I h;refine thn (hl pins s σ H _ I h) λv s1 c7=>?_;let#[x,H1,I1,r1,q1]:=c7;let#[a,e,#[xs,hq],q]:=q1;subst e;cases r1;let#[its,rv,p,hz]:=I1.list hq;refine wpAny_pyIter_list p.isList ?_;refine#[s1.heap.objs.size,[s1.heap.objs.size],_,_,H1,rfl,I1.kept (t':=s1.toks) λb o e=>Heap.get?_push_of_some _ e,wX a _,#[_,Heap.get?_push_size _ rfl,rfl,rfl],λb hb=>?_,q];have e:b=s1.heap.objs.size:=by simpa using hb
 subst e;exact I1.fpOk (Gv _) (I1.hok.fresh (Gv _))
variable{pins:List (KF×T5)}{σ:St}{H:Hp}{s:KM}
def wZ{R:It->Hp->Prop}{E:KB->KM->Prop}{lo hi:Int}{t u v:VF}{tk:Nat}(I:Inv X pins σ H s)(h1:-(2^62)<=lo)(h2:lo<2^62)(h3:-(2^62)<=hi)(h4:hi<2^62)
  (q:R (Itr lo (hi-lo).toNat) H):TC (SL X.prog X.w) X.A (pyIter (.ref s.heap.objs.size)) (PIE X pins σ tg R) E {s with heap:=s.heap.push {cls:=.type "range",data:=.fields [.int lo t,.int hi u,.int 1 v].toArray},toks:=tk}:=by
 refine wpAny_pyIter_range (IsRange.new ..) (small_one h1 h2 h3 h4) ?_;have I1:Inv X pins σ H {s with heap:=s.heap.push {cls:=.type "range",data:=.fields [.int lo t,.int hi u,.int 1 v].toArray},toks:=tk}:=I.kept λb o e=>Heap.get?_push_of_some _ e;refine⟨(s.heap.push {cls:=.type "range",data:=.fields [.int lo t,.int hi u,.int 1 v].toArray}).objs.size,[(s.heap.push {cls:=.type "range",data:=.fields [.int lo t,.int hi u,.int 1 v].toArray}).objs.size],_,_,H,rfl,
  I1.kept (t':=tk) λb o e=>Heap.get?_push_of_some _ e,wY _ lo (hi-lo).toNat,?_,λb hb=>?_,q⟩
 .have e1:lo+((0:Nat):Int)*1=lo:=by simp
  have e2:(((hi-lo).toNat:Nat):Int)-((0:Nat):Int)=Builtin.Range.rangeSize lo hi 1:=by rw[rangeSize_one];split<;>lia
  show IsRangeIter _ _ (lo+((0:Nat):Int)*1) ((((hi-lo).toNat:Nat):Int)-((0:Nat):Int)) 1;rw[e1,e2];exact Heap.get?_push_size _ rfl
 .have e:b=(s.heap.push {cls:=.type "range",data:=.fields [.int lo t,.int hi u,.int 1 v].toArray}).objs.size:=by simpa using hb
  subst e;exact I1.fpOk (Gv _) (I1.hok.fresh (Gv _))
def pQ(ta:TA):TI:=λσ H R=>ta σ H λvs H1=>∃j:Int,vs=[.int j]/\-(2^62)<=j/\j<2^62/\R (Itr 0 j.toNat) H1
def jq{a:SZ}{ta:TA}{p pos:TX}(hg:Gl X "range")(hm:X.mg "range"=x8)(ha:PA X [a] ta)(hs:(TL [a] X.env=[(false,TR a X.env)])\zA0):PI X tg (.Call (.Name "range" p) [a] [] pos) (pQ ta):=by
 intro pins s σ H R I h;refine Call_ (eN I hg hm boot_range (PyProof.Rows.callWith_type1 (thn (ha pos pins s σ H _ I h) λus s1 hh=>?_) hs rfl));let#[vs,H1,I1,r1,q1]:=hh;let#[j,e,q1,q2,q]:=q1;subst e;cases r1 with
 |cons r rr=>
  cases rr;let#[t,rfl]:=r;exact call_range_1 (wZ I1 KZ KZ q1 q2 (by simpa using q))
def tFor(wi:TI)(g:TG)(tb:TS):TS:=λD σ H=>wi σ H λJ H1=>∃W:Nat->Nat->St->Hp->Prop,(∃m,W 0 m σ H1)/\∀i m σ H,W i m σ H->
 (J.stop i H/\D.nx σ H)\/(J.go i H/\∃N:St->Hp->Prop,(∀σ' H',N σ' H'->∃m',m'<m/\W (i+1) m' σ' H')/\∀x H',J.yld i H x H'->g x σ H' λσ2 H2=>tb {D with nx:=N,ct:=N,bk:=D.nx} σ2 H2)
def gC(fp:List KF)(h:Heap):List (KF×T5):=fp.filterMap λb=>(h.get? b).map λo=>(b,o)
variable{fp:List KF}
def eQ{h:Heap}{b:KF}{o:T5}(hb:b∈fp)(e:h.get? b=be o):(b,o)∈gC fp h:=IV.mpr #[b,hb,by rw[e];rfl]
def xa{h:Heap}{p:KF×T5}(hp:p∈gC fp h):p.1∈fp/\h.get? p.1=be p.2:=by
 let#[b,hb,e]:=IV.mp hp;cases q:h.get? b with
 |none=>rw[q]at e;cases e
 |some o=>
  rw[q]at e;have e':(b,o)=p:=Option.some.inj e;subst e';exact#[hb,q]
def Inv.pinned(I:Inv X pins σ H s)(hf:∀b∈fp,FpOk X pins H b)(ho:∀b∈fp,∃o,s.heap.get? b=be o/\∀v,o.data≠.cell v):Inv X (pins++gC fp s.heap) σ H s:=
 I.pins_of λp hp=>(GS.mp hp).elim (λz=>I.pin p (GX _ z)) λz=>by
  let#[hb,e]:=xa z;let#[f0,f1,f2,_]:=hf p.1 hb;let#[o,e',d]:=ho p.1 hb;rw[e]at e';cases e';exact#[e,f0,f1,f2,d]
def Inv.unpinned{pl:List (KF×T5)}(I:Inv X (pins++pl) σ H s):Inv X pins σ H s:=I.pins_of λp hp=>I.pin p (GX _ (HB _ hp))
def fM{iter:SZ}{body:List TF}{wi:TI}{g:TG}{tb:TS}{pos:TX}(hp:Uh (SL X.prog X.w) X.A X.env X.xe)(hc:X.calm=true)(hi:PI X tg iter wi)(hg:PG X tg g)(hb:PSs X body tb)
  (hs:∀x,VD iter X.env x=pure x:=by intro _;rfl):PS X (.For tg iter body [] pos) (tFor wi g tb):=by
 intro pins s σ H D I h;refine wpAny_For (thn (hi pins s σ H _ I h) λv s1 h1=>thn h1 λM9 s2 h2=>?_) hs;let#[it,fp,tn,J,H2,e,I2,T,u8,f2,W,#[m0,w0],e_]:=h2;subst e;have q9:∀{H':Hp},(∀b∈fp,H' b=x8)->∀b∈fp,FpOk X pins H' b:=λhn b hb=>#[hn b hb,(f2 b hb).2];refine codeAny_forLoop_any (λn s'=>∃i σ' H',Inv X pins σ' H' s'/\tn i s'.heap/\(∀b∈fp,H' b=x8)/\W i n σ' H') ?_ m0 #[0,σ,H2,I2,u8,λb hb=>(f2 b hb).1,w0];rintro n s3⟨i,σ3,H3,I3,H_,Qb,w3⟩;rcases e_ i n σ3 H3 w3 with⟨stop,qn⟩|⟨go,N,hN,step⟩
 .refine T_ hp (thn (T.done X rfl rfl rfl hc i pins s3 σ3 H3 X.xe I3 (q9 Qb) H_ stop) λr s4 c7=>?_);let#[hr,I4]:=c7;subst hr;exact Uu #[σ3,H3,I4,qn]
 .refine T_ hp (thn (T.item X rfl rfl rfl hc i pins s3 σ3 H3 X.xe I3 (q9 Qb) H_ go) λr s4 c7=>?_);let#[u,hr,h4]:=c7;subst hr;refine T_ hp (thn h4 λ_ s5 c7=>?_);let#[x,H5,I5,r5,y5,J8,NM]:=c7;have Re:=I5.pinned (q9 NM) (T.obj _ _ J8);refine T_ hp (thn (hg _ s5 σ3 H5 x u _ Re r5 (step x H5 y5)) λ_ s6 c7=>?_);let#[σ6,H6,I6,q6]:=c7;refine T_ hp (thn (hb _ s6 σ6 H6 _ I6 q6) λf s7 q7=>?_);have again:∀{σ7:St} {H7:Hp},Inv X (pins++gC fp s5.heap) σ7 H7 s7->N σ7 H7->∃m,m<n/\∃i σ' H',Inv X pins σ' H' s7/\tn i s7.heap/\(∀b∈fp,H' b=x8)/\W i m σ' H':=λ{σ7 H7} I7 n7=>by
   let#[m',hm,w7]:=hN σ7 H7 n7;refine#[m',hm,i+1,σ7,H7,I7.unpinned,T.keep _ _ _ J8 λb hb o e=>(I7.pin (b,o) (GX _ (GX _ (eQ hb e)))).1,λb hb=>?_,w7];let#[o,e,d]:=T.obj _ _ J8 b hb;exact(I7.pin (b,o) (GX _ (GX _ (eQ hb e)))).2.1
  cases f with
  |next=>let#[σ7,H7,I7,n7]:=q7;exact again I7 n7
  |cont=>let#[σ7,H7,I7,n7]:=q7;exact again I7 n7
  |brk=>let#[σ7,H7,I7,q7]:=q7;exact#[σ7,H7,I7.unpinned,q7]
  |ret v=>let#[x7,σ7,H7,I7,r7,q7]:=q7;exact#[x7,σ7,H7,I7.unpinned,r7,q7]
end
def pR{g:TG}{tb:TS}{D:Ends}(Pv:Nat->St->Hp->Prop)(h0:Pv 0 σ H)(hl:∀i σ H,i<=xs.length->Pv i σ H->SqL K H a xs)
  (hs:∀i x σ H,xs[i]?=be x->Pv i σ H->g x σ H λσ2 H2=>tb {D with nx:=Pv (i+1),ct:=Pv (i+1),bk:=D.nx} σ2 H2) (hd:∀σ H,Pv xs.length σ H->D.nx σ H):
  ∃W:Nat->Nat->St->Hp->Prop,(∃m,W 0 m σ H)/\∀i m σ H,W i m σ H->
   ((Itl K a).stop i H/\D.nx σ H)\/((Itl K a).go i H/\∃N:St->Hp->Prop,(∀σ' H',N σ' H'->∃m',m'<m/\W (i+1) m' σ' H')/\∀x H',(Itl K a).yld i H x H'->g x σ H' λσ2 H2=>tb {D with nx:=N,ct:=N,bk:=D.nx} σ2 H2):=by
 refine#[λi m σ H=>m=xs.length-i/\i<=xs.length/\Pv i σ H,#[xs.length,K8,GT _,h0],?_];rintro i m σ H ⟨rfl,hi,p⟩;have q:=hl i σ H hi p;by_cases j3:i<xs.length
 .refine .inr #[#[xs,xs[i],q,by simp[j3]],Pv (i+1),λσ' H' p'=>#[xs.length-(i+1),KZ,rfl,j3,p'],λx H' y=>?_];let#[e,y]:=y;subst e;exact hs i x σ _ (y xs q) p
 .have e:i=xs.length:=by lia
  subst e;exact .inl #[#[xs,q,Gv _],hd σ H p]
def pS{lo:Int}{n:Nat}{g:TG}{tb:TS}{D:Ends}(Pv:Nat->St->Hp->Prop)(h0:Pv 0 σ H)
  (hs:∀i σ H,i<n->Pv i σ H->g (.int (lo+i)) σ H λσ2 H2=>tb {D with nx:=Pv (i+1),ct:=Pv (i+1),bk:=D.nx} σ2 H2) (hd:∀σ H,Pv n σ H->D.nx σ H):
  ∃W:Nat->Nat->St->Hp->Prop,(∃m,W 0 m σ H)/\∀i m σ H,W i m σ H->
   ((Itr lo n).stop i H/\D.nx σ H)\/((Itr lo n).go i H/\∃N:St->Hp->Prop,(∀σ' H',N σ' H'->∃m',m'<m/\W (i+1) m' σ' H')/\∀x H',(Itr lo n).yld i H x H'->g x σ H' λσ2 H2=>tb {D with nx:=N,ct:=N,bk:=D.nx} σ2 H2):=by
 refine#[λi m σ H=>m=n-i/\i<=n/\Pv i σ H,#[n,K8,GT _,h0],?_];rintro i m σ H ⟨rfl,hi,p⟩;by_cases j3:i<n
 .refine .inr #[j3,Pv (i+1),λσ' H' p'=>#[n-(i+1),KZ,rfl,j3,p'],λx H' y=>?_];let#[e,y]:=y;subst e y;exact hs i σ _ j3 p
 .have e:i=n:=by lia
  subst e;exact .inl #[Gv _,hd σ H p]
abbrev R2:=V->V->Hp->VK->Prop
def OpR(X:Cx)(f:KB->KB->Vj KB)(r:R2):Prop:=
 ∀(pins:List (KF×T5)) (s:KM) (σ:St) (H:Hp) (x y:V) (v u:KB) (Q:VK),Inv X pins σ H s->RelV x v->RelV y u->r x y H Q->
  TC (SL X.prog X.w) X.A (f v u) (EP X pins σ Q) X.xe s
def UnR(X:Cx)(f:KB->Vj KB)(r:V->Hp->VK->Prop):Prop:=
 ∀(pins:List (KF×T5)) (s:KM) (σ:St) (H:Hp) (x:V) (v:KB) (Q:VK),Inv X pins σ H s->RelV x v->r x H Q->
  TC (SL X.prog X.w) X.A (f v) (EP X pins σ Q) X.xe s
def bH(X:Cx)(f:KB)(r:List V->Hp->VK->Prop):Prop:=
 ∀(pins:List (KF×T5)) (s:KM) (σ:St) (H:Hp) (xs:List V) (us:List KB) (Q:VK),Inv X pins σ H s->Vals xs us->r xs H Q->
  TC (SL X.prog X.w) X.A (call f us) (EP X pins σ Q) X.xe s
def TruR(X:Cx)(r:V->Hp->(Bool->Hp->Prop)->Prop):Prop:=
 ∀(pins:List (KF×T5)) (s:KM) (σ:St) (H:Hp) (x:V) (v:KB) (Q:Bool->Hp->Prop),Inv X pins σ H s->RelV x v->r x H Q->
  TC (SL X.prog X.w) X.A (truthy v) (TP X pins σ Q) X.xe s
def tOp(r:R2)(ta tb:TE):TE:=λσ H Q=>ta σ H λx H1=>tb σ H1 λy H2=>r x y H2 Q
def tUn(r:V->Hp->VK->Prop)(ta:TE):TE:=λσ H Q=>ta σ H λx H1=>r x H1 Q
def rI(C:Int->Int->Prop)(g:Int->Int->V):R2:=λx y H Q=>∃i j,x=.int i/\y=.int j/\C i j/\Q (g i j) H
def rI0(g:Int->Int->V):R2:=λx y H Q=>∃i j,x=.int i/\y=.int j/\Q (g i j) H
def rU(g:Int->V):V->Hp->VK->Prop:=λx H Q=>∃i,x=.int i/\Q (g i) H
section
variable {X:Cx}{a b c:SZ}{ta tb tc:TE}{pos:TX}
variable{f:KB->KB->Vj KB}
def binT(ha:PE X a ta)(hb:PE X b tb){pins:List (KF×T5)}{s:KM}{σ:St}{H:Hp}{R:V->V->Hp->Prop}(I:Inv X pins σ H s)
  (h:ta σ H λx H1=>tb σ H1 λy H2=>R x y H2) {Q:KB->KM->Prop} 
  (hf:∀v u s2 x y H2,Inv X pins σ H2 s2->RelV x v->RelV y u->R x y H2->TC (SL X.prog X.w) X.A (f v u) Q X.xe s2):
  TC (SL X.prog X.w) X.A (TR a X.env) (λv s₁=>TC (SL X.prog X.w) X.A (TR b X.env) (λu s₂=>TC (SL X.prog X.w) X.A (f v u) Q X.xe s₂) X.xe s₁) X.xe s:=by
 refine thn (ha pins s σ H _ I h) λv s1 c7=>?_;let#[x,H1,I1,r1,q1]:=c7;refine thn (hb pins s1 σ H1 _ I1 q1) λu s2 c7=>?_;let#[y,H2,I2,r2,q2]:=c7;exact hf v u s2 x y H2 I2 r1 r2 q2
def gD{op:U8}{r:R2}(ho:OpR X (T8 op) r)(ha:PE X a ta)(hb:PE X b tb):PE X (.BinOp a op b pos) (tOp r ta tb):=by
 intro pins s σ H Q I h;exact wpAny_BinOp (binT ha hb I h λv u s2 x y H2 I2 rx ry q=>ho pins s2 σ H2 x y v u Q I2 rx ry q)
def xb{op:UnaryOp}{r:V->Hp->VK->Prop}(ho:UnR X (unaryOp op) r)(ha:PE X a ta):PE X (.UnaryOp op a pos) (tUn r ta):=by
 intro pins s σ H Q I h;exact UnaryOp_ (thn (ha pins s σ H _ I h) λv s1 ⟨x,H1,I1,r1,q1⟩=>ho pins s1 σ H1 x v Q I1 r1 q1)
variable{g:Int->Int->Int}
def opI{C:Int->Int->Prop}
  (rule:∀(i j:Int) (t u:VF) (s:KM) (Q:KB->KM->Prop) (E:KB->KM->Prop),C i j->Q (.int (g i j) s.toks) {s with toks:=s.toks+1}->TC (SL X.prog X.w) X.A (f (.int i t) (.int j u)) Q E s):
  OpR X f (rI C λi j=>.int (g i j)):=by
 intro pins s σ H x y v u Q I rx ry h;let#[i,j,rfl,rfl,hc,q]:=h;let#[t,rfl]:=rx;let#[t',rfl]:=ry;exact rule i j t t' s _ _ hc #[.int (g i j),H,I.tok _,#[_,rfl],q]
def opI0
  (rule:∀(i j:Int) (t u:VF) (s:KM) (Q:KB->KM->Prop) (E:KB->KM->Prop),Q (.int (g i j) s.toks) {s with toks:=s.toks+1}->TC (SL X.prog X.w) X.A (f (.int i t) (.int j u)) Q E s):
  OpR X f (rI0 λi j=>.int (g i j)):=by
 intro pins s σ H x y v u Q I rx ry h;let#[i,j,rfl,rfl,q]:=h;let#[t,rfl]:=rx;let#[t',rfl]:=ry;exact rule i j t t' s _ _ #[.int (g i j),H,I.tok _,#[_,rfl],q]
def opB0{g:Int->Int->Bool}
  (rule:∀(i j:Int) (t u:VF) (s:KM) (Q:KB->KM->Prop) (E:KB->KM->Prop),Q (.bool (g i j)) s->TC (SL X.prog X.w) X.A (f (.int i t) (.int j u)) Q E s):
  OpR X f (rI0 λi j=>.bl (g i j)):=by
 intro pins s σ H x y v u Q I rx ry h;let#[i,j,rfl,rfl,q]:=h;let#[t,rfl]:=rx;let#[t',rfl]:=ry;exact rule i j t t' s _ _ #[.bl (g i j),H,I,rfl,q]
def CDiv(i j:Int):Prop:=0<j/\j<1073741824
def CMul(i j:Int):Prop:=(-(2^64)<i/\i<2^64)\/(-(2^64)<j/\j<2^64)
def CMul.ok{i j:Int}(h:CMul i j):IntMulOk i j:=by
 rcases h with⟨h1,h2⟩|⟨h1,h2⟩
 .exact .of_left (intBits_le_64 h1 h2)
 .exact .of_right (intBits_le_64 h1 h2)
def xc:OpR X (T8 .Add) (rI0 λi j=>.int (i+j)):=opI0 λ_ _ _ _ _ _ _ q=>add_int q
def pT:OpR X (T8 .Sub) (rI0 λi j=>.int (i-j)):=opI0 λ_ _ _ _ _ _ _ q=>sub_int q
def pU:OpR X (T8 .Mult) (rI CMul λi j=>.int (i*j)):=opI λ_ _ _ _ _ _ _ hc q=>mul_int q hc.ok
def xg:OpR X (T8 .FloorDiv) (rI CDiv λi j=>.int (i/j)):=opI λi j _ _ _ _ _ hc q=>by
 have h1:(0:Int)<j:=hc.1;have h2:j<1073741824:=hc.2;exact floordiv_int KZ (by rw[Int.fdiv_eq_ediv_of_nonneg i KZ];exact q) (.inl (PyProof.noPylong_small KZ))
def xh:OpR X (T8 .Mod) (rI (λ_ j=>0<j) λi j=>.int (i%j)):=opI λi j _ _ _ _ _ hc q=>by
 have h1:(0:Int)<j:=hc;exact mod_int' KZ (by rw[Int.fmod_eq_emod_of_nonneg i KZ];exact q)
def xi:OpR X (T8 .Mod) (rI (λ_ j=>j≠0) λi j=>.int (i.fmod j)):=opI λ_ _ _ _ _ _ _ hc q=>mod_int' hc q
def unI{f:KB->Vj KB}{g:Int->Int}
  (rule:∀(i:Int) (t:VF) (s:KM) (Q:KB->KM->Prop) (E:KB->KM->Prop),Q (.int (g i) s.toks) {s with toks:=s.toks+1}->TC (SL X.prog X.w) X.A (f (.int i t)) Q E s):
  UnR X f (rU λi=>.int (g i)):=by
 intro pins s σ H x v Q I rx h;let#[i,rfl,q]:=h;let#[t,rfl]:=rx;exact rule i t s _ _ #[.int (g i),H,I.tok _,#[_,rfl],q]
def xj:UnR X (unaryOp .USub) (rU λi=>.int (-i)):=unI λ_ _ _ _ _ q=>neg_int q
end
def scal:V->V->Bool
 |.non,.non=>true|.non,.int _=>true|.int _,.non=>true|.non,.bl _=>true|.bl _,.non=>true|.non,.str _=>true|.str _,.non=>true
 |.int _,.int _=>true|.bl _,.bl _=>true|.str _,.str _=>true|.byt _,.byt _=>true
 |.int _,.str _=>true|.str _,.int _=>true|.bl _,.str _=>true|.str _,.bl _=>true
 |_,_=>false
def rEq:R2:=λx y H Q=>scal x y=true/\Q (.bl (decide (x=y))) H
def rNe:R2:=λx y H Q=>scal x y=true/\Q (.bl (!decide (x=y))) H
def pV{i j:Int}:decide (V.int i=V.int j)=(i==j):=by
 rw[Hj];simp
def pW{i j:Bool}:decide (V.bl i=V.bl j)=(i==j):=by
 rw[Hj];simp
def pX{i j:J7}:decide (V.str i=V.str j)=(i==j):=by
 rw[Hj];simp
def pY{i j:Array UInt8}:decide (V.byt i=V.byt j)=(i.toList==j.toList):=by
 rw[Hj];cases i;cases j;simp
section
variable {X:Cx}{a b c:SZ}{ta tb tc:TE}{pos:TX}
def aV{pins:List (KF×T5)}{σ:St}{H:Hp}{s:KM}{Q:VK}{k k':Bool}(I:Inv X pins σ H s)(q:Q (.bl k) H)(e:k=k'):EP X pins σ Q (.bool k') s:=by
 subst e;exact#[.bl k,H,I,rfl,q]
def jr:OpR X (TU .Eq) rEq:=by
 intro pins s σ H x y v u Q I rx ry h;let#[hs,q]:=h;cases x with
 |non=>
  cases rx;cases y with
  |non=>cases ry;exact PySem.EqNone.eq_none_none (aV I q K8)
  |bl j=>cases ry;exact PySem.EqNone.eq_none_bool (aV I q K8)
  |int j=>let#[t',rfl]:=ry;exact PySem.EqNone.eq_none_int (aV I q K8)
  |str j=>let#[t',rfl]:=ry;exact PySem.EqNone.eq_none_str (aV I q K8)
  |_=>exact absurd (show false=true from hs) GJ
 |bl i=>
  cases rx;cases y with
  |non=>cases ry;exact PySem.EqNone.eq_bool_none (aV I q K8)
  |bl j=>cases ry;exact eq_bool (aV I q pW)
  |str j=>let#[t',rfl]:=ry;exact PySem.EqMixed.eq_bool_str (aV I q K8)
  |_=>exact absurd (show false=true from hs) GJ
 |int i=>
  let#[t,rfl]:=rx;cases y with
  |non=>cases ry;exact PySem.EqNone.eq_int_none (aV I q K8)
  |int j=>let#[t',rfl]:=ry;exact eq_int (aV I q pV)
  |str j=>let#[t',rfl]:=ry;exact PySem.EqMixed.eq_int_str (aV I q K8)
  |_=>exact absurd (show false=true from hs) GJ
 |str i=>
  let#[t,rfl]:=rx;cases y with
  |non=>cases ry;exact PySem.EqNone.eq_str_none (aV I q K8)
  |bl j=>cases ry;exact PySem.EqMixed.eq_str_bool (aV I q K8)
  |int j=>let#[t',rfl]:=ry;exact PySem.EqMixed.eq_str_int (aV I q K8)
  |str j=>let#[t',rfl]:=ry;exact eq_str (aV I q pX)
  |_=>exact absurd (show false=true from hs) GJ
 |byt i=>
  let#[t,rfl]:=rx;cases y with
  |byt j=>let#[t',rfl]:=ry;exact eq_bytes (aV I q pY)
  |_=>exact absurd (show false=true from hs) GJ
 |_=>cases y<;>exact absurd (show false=true from hs) GJ
def pZ:OpR X (TU .NotEq) rNe:=by
 intro pins s σ H x y v u Q I rx ry h;let#[hs,q]:=h;cases x with
 |non=>
  cases rx;cases y with
  |non=>cases ry;exact PySem.EqNone.ne_none_none (aV I q K8)
  |bl j=>cases ry;exact PySem.EqNone.ne_none_bool (aV I q K8)
  |int j=>let#[t',rfl]:=ry;exact PySem.EqNone.ne_none_int (aV I q K8)
  |str j=>let#[t',rfl]:=ry;exact PySem.EqNone.ne_none_str (aV I q K8)
  |_=>exact absurd (show false=true from hs) GJ
 |bl i=>
  cases rx;cases y with
  |non=>cases ry;exact PySem.EqNone.ne_bool_none (aV I q K8)
  |bl j=>cases ry;exact ne_bool (aV I q (congrArg not pW))
  |str j=>let#[t',rfl]:=ry;exact PySem.EqMixed.ne_bool_str (aV I q K8)
  |_=>exact absurd (show false=true from hs) GJ
 |int i=>
  let#[t,rfl]:=rx;cases y with
  |non=>cases ry;exact PySem.EqNone.ne_int_none (aV I q K8)
  |int j=>let#[t',rfl]:=ry;exact ne_int (aV I q (congrArg not pV))
  |str j=>let#[t',rfl]:=ry;exact PySem.EqMixed.ne_int_str (aV I q K8)
  |_=>exact absurd (show false=true from hs) GJ
 |str i=>
  let#[t,rfl]:=rx;cases y with
  |non=>cases ry;exact PySem.EqNone.ne_str_none (aV I q K8)
  |bl j=>cases ry;exact PySem.EqMixed.ne_str_bool (aV I q K8)
  |int j=>let#[t',rfl]:=ry;exact PySem.EqMixed.ne_str_int (aV I q K8)
  |str j=>let#[t',rfl]:=ry;exact ne_str (aV I q (congrArg not pX))
  |_=>exact absurd (show false=true from hs) GJ
 |byt i=>
  let#[t,rfl]:=rx;cases y with
  |byt j=>let#[t',rfl]:=ry;exact ne_bytes (aV I q (congrArg not pY))
  |_=>exact absurd (show false=true from hs) GJ
 |_=>cases y<;>exact absurd (show false=true from hs) GJ
def js:OpR X (TU .Lt) (rI0 λi j=>.bl (decide (i<j))):=opB0 λ_ _ _ _ _ _ _ q=>lt_int q
def xk:OpR X (TU .LtE) (rI0 λi j=>.bl (decide (i<=j))):=opB0 λ_ _ _ _ _ _ _ q=>le_int q
def jt:OpR X (TU .Gt) (rI0 λi j=>.bl (decide (j<i))):=opB0 λ_ _ _ _ _ _ _ q=>gt_int q
def xm:OpR X (TU .GtE) (rI0 λi j=>.bl (decide (j<=i))):=opB0 λ_ _ _ _ _ _ _ q=>ge_int q
def xn:OpR X (TU .In) (λx y H Q=>∃i j,x=.str i/\y=.str j/\Q (.bl (!(Builtin.Str.occurrences j i 0 j.length 1).isEmpty)) H):=by
 intro pins s σ H x y v u Q I rx ry h;let#[i,j,rfl,rfl,q]:=h;let#[t,rfl]:=rx;let#[t',rfl]:=ry;exact in_str (aV I q rfl)
def qc:OpR X (TU .Is) (λx y H Q=>y=.non/\Q (.bl (decide (x=.non))) H):=by
 intro pins s σ H x y v u Q I rx ry h;let#[rfl,q]:=h;cases ry;refine is_none_gen (aV I q ?_);cases x<;>first
  |(cases rx;rfl)
  |(let#[t,rfl]:=rx;rfl)
def xo:OpR X (TU .IsNot) (λx y H Q=>y=.non/\Q (.bl (!decide (x=.non))) H):=by
 intro pins s σ H x y v u Q I rx ry h;let#[rfl,q]:=h;cases ry;refine isnot_none_gen (aV I q ?_);cases x<;>first
  |(cases rx;rfl)
  |(let#[t,rfl]:=rx;rfl)
variable{r:R2}
def OpR.or{f:KB->KB->Vj KB}{r':R2}(h:OpR X f r)(h':OpR X f r'):OpR X f (λx y H Q=>r x y H Q\/r' x y H Q):=by
 intro pins s σ H x y v u Q I rx ry q;rcases q with q|q
 .exact h pins s σ H x y v u Q I rx ry q
 .exact h' pins s σ H x y v u Q I rx ry q
variable{op:VH}
def nomark(b:SZ)(h:(op≠.In)\zA1)(h2:(op≠.NotIn)\zA1):T4 op b=false:=by
 have e1:(op==CmpOp.In)=false:=by cases op<;>first|rfl|exact absurd rfl h
 have e2:(op==CmpOp.NotIn)=false:=by cases op<;>first|rfl|exact absurd rfl h2
 cases b<;>simp[T4,e1,e2]
def xp(ho:OpR X (TU op) r)(ha:PE X a ta)(hb:PE X b tb)(hm:T4 op b=false):PE X (.Compare a [op] [b] pos) (tOp r ta tb):=by
 intro pins s σ H Q I h;exact wpAny_Compare1 (binT ha hb I h λv u s2 x y H2 I2 rx ry q=>ho pins s2 σ H2 x y v u Q I2 rx ry q) hm
def xq(t:TE):TT:=λσ H Q=>t σ H λx H'=>∃k,x=.bl k/\Q k H'
def gE(ho:OpR X (TU op) r)(ha:PE X a ta)(hb:PE X b tb)(hm:T4 op b=false):PT X (.Compare a [op] [b] pos) (xq (tOp r ta tb)):=by
 intro pins s σ H Q I h;refine wpAny_isTrue_Compare1 (thn (ha pins s σ H _ I h) λv s1 ⟨x,H1,I1,r1,q1⟩=>thn (hb pins s1 σ H1 _ I1 q1) λu s2 ⟨y,H2,I2,r2,q2⟩=>
  thn (ho pins s2 σ H2 x y v u _ I2 r1 r2 q2) λc s3 hh=>?_) hm
 let#[z,H3,I3,r3,k,e,q3]:=hh;subst e;cases r3;exact Ui #[H3,I3,q3]
def TruV(K:Ex)(x:V)(H:Hp)(k:Bool):Prop:=
 match x with
 |.non=>k=false
 |.bl b=>k=b
 |.int i=>k=(i !=0)
 |.str y=>y.length<=sizeLine/\k=((y.length:Int) !=0)
 |.byt y=>y.size<=sizeLine/\k=((y.size:Int) !=0)
 |.ref p=>(∃xs,SqL K H p xs/\k=!xs.isEmpty)\/(∃xs,SqT K H p xs/\k=!xs.isEmpty)\/∃a_,H p=be (.dK a_)/\k=!a_.isEmpty
 |_=>False
def xr{κ:Type}{a_:List (κ×V)}{vs:List (κ×KB)}(r:KV a_ vs):(!vs.isEmpty)=!a_.isEmpty:=by
 cases r<;>rfl
def isEmpty_of{xs:List V}{its:List KB}(r:Vals xs its):(!its.toArray.isEmpty)=!xs.isEmpty:=by
 cases r<;>simp
def line63:(sizeLine:Nat)<2^63:=by rw[UA];decide
def xt:TruR X (λx H Q=>∃k,TruV X.K x H k/\Q k H):=by
 intro pins s σ H x v Q I rx h;let#[k,e,q]:=h;have hl:=line63;have hs:sizeLine=16777216:=UA;cases x with
 |non=>
  cases rx;have e':k=false:=e;subst e';exact truthy_none #[H,I,q]
 |bl b=>
  cases rx;have e':k=b:=e;subst e';exact Ui #[H,I,q]
 |int i=>
  let#[t,rfl]:=rx;have e':k=(i !=0):=e;subst e';exact PySem.P.truthy_int #[H,I,q]
 |str y=>
  let#[t,rfl]:=rx;let#[hy,e']:y.length<=sizeLine/\k=((y.length:Int) !=0):=e;subst e';exact PySem.P.truthy_str KZ #[H,I.tok _,q]
 |byt y=>
  let#[t,rfl]:=rx;let#[hy,e']:y.size<=sizeLine/\k=((y.size:Int) !=0):=e;subst e';exact truthy_bytes KZ #[H,I.tok _,q]
 |ref p=>
  cases rx;have e':(∃xs,SqL X.K H p xs/\k=!xs.isEmpty)\/(∃xs,SqT X.K H p xs/\k=!xs.isEmpty)\/∃a_,H p=be (.dK a_)/\k=!a_.isEmpty:=e;rcases e' with⟨xs,hx,e'⟩|⟨xs,hx,e'⟩|⟨a_,hx,e'⟩
  .subst e';let#[its,r,pl,hz]:=I.list hx;have b9:=r.length;exact wpAny_truthy_list pl.isList (by simp only[GC];lia) #[H,I.tok _,by rw[isEmpty_of r];exact q]
  .subst e';let#[its,r,pl,hz]:=I.tuple hx;have b9:=r.length;exact truthy_tuple pl (by simp only[GC];lia) #[H,I.tok _,by rw[isEmpty_of r];exact q]
  .subst e';let#[hz,hS,vs,r,m]:a_.length<=sizeLine/\(p==Ua)=false/\∃vs,KV a_ vs/\s.heap.DictOf (bN X.prog X.w) p vs:=I.hok p _ hx;have b9:a_.length=vs.length:=Paired.length r;exact wpAny_truthy_dict hS m KZ #[H,I.tok _,by rw[xr r];exact q]
 |_=>exact(show False from e).elim
def qd(ha:PE X a ta)(he:∀g5,isTrue a X.env g5=(do let v <-g5;UG a.pos;UH [v] (truthy v))):
  PT X a (λσ H Q=>ta σ H λx H'=>∃k,TruV X.K x H' k/\Q k H'):=by
 intro pins s σ H Q I h;exact isTrue_plain (thn (ha pins s σ H _ I h) λv s1 ⟨x,H1,I1,r1,q1⟩=>xt pins s1 σ H1 x v Q I1 r1 q1) (he _)
def xu:OpR X (T8 .Add) (λx y H Q=>∃i j,x=.str i/\y=.str j/\i.length+j.length<=sizeLine/\Q (.str (i++j)) H):=by
 intro pins s σ H x y v u Q I rx ry h;let#[i,j,rfl,rfl,hz,q]:=h;let#[t,rfl]:=rx;let#[t',rfl]:=ry;exact add_str (λt' tk=>#[.str (i++j),H,I.tok _,#[_,rfl],q]) hz
def xw:OpR X (inplaceOp .Add) (λx y H Q=>∃i j,x=.str i/\y=.str j/\i.length+j.length<=sizeLine/\Q (.str (i++j)) H):=by
 intro pins s σ H x y v u Q I rx ry h;let#[i,j,rfl,rfl,hz,q]:=h;let#[t,rfl]:=rx;let#[t',rfl]:=ry;exact iadd_str (λt' tk=>#[.str (i++j),H,I.tok _,#[_,rfl],q]) hz
variable{us:List KB}
def vals1{x:V}(r:Vals [x] us):∃u,us=[u]/\RelV x u:=by
 cases r with
 |cons r1 r2=>cases r2;exact#[_,rfl,r1]
def vals2{x y:V}(r:Vals [x,y] us):∃u w',us=[u,w']/\RelV x u/\RelV y w':=by
 cases r with
 |cons r1 r2=>
  cases r2 with
  |cons r3 r4=>cases r4;exact#[_,_,rfl,r1,r3]
def xx:bH X (.builtin "abs") (λxs H Q=>∃i,xs=[.int i]/\Q (.int (if i<0 then -i else i)) H):=by
 intro pins s σ H xs us Q I r h;let#[i,rfl,q]:=h;let#[u,rfl,t,rfl]:=vals1 r;exact call_abs_int λu tk=>#[.int (if i<0 then -i else i),H,I.tok _,#[_,rfl],q]
def xy(hc:X.calm=true):bH X (.builtin "max") (λxs H Q=>∃i j,xs=[.int i,.int j]/\Q (.int (if j>i then j else i)) H):=by
 intro pins s σ H xs us Q I r h;let#[i,j,rfl,q]:=h;let#[u,w',rfl,#[t,rfl],#[t',rfl]]:=vals2 r;refine max_two_ints (I.ok.hd hc) λh' tk k=>#[_,H,I.kept k,?_,q];by_cases hj:j>i
 .rw[if_pos hj,if_pos hj];exact#[_,rfl]
 .rw[if_neg hj,if_neg hj];exact#[_,rfl]
def xz:bH X (.type "int") (λxs H Q=>(∃i,xs=[.int i]/\Q (.int i) H)\/∃k,xs=[.bl k]/\Q (.int (if k then 1 else 0)) H):=by
 intro pins s σ H xs us Q I r h;rcases h with⟨i,rfl,q⟩|⟨k,rfl,q⟩
 .let#[u,rfl,t,rfl]:=vals1 r;exact call_int_int #[.int i,H,I,#[_,rfl],q]
 .let#[u,rfl,r1]:=vals1 r;cases r1;exact call_int_bool #[.int (if k then 1 else 0),H,I.tok _,#[_,rfl],q]
def xA:bH X (.type "str") (λxs H Q=>∃i,xs=[.int i]/\i.natAbs.log2<1920/\Q (.str (toString i)) H):=by
 intro pins s σ H xs us Q I r h;let#[i,rfl,hz,q]:=h;let#[u,rfl,t,rfl]:=vals1 r;exact PySem.P.str_of_int hz #[.str _,H,I.tok _,#[_,rfl],q]
def LenV(K:Ex)(x:V)(H:Hp)(n:Nat):Prop:=
 match x with
 |.str y=>y.length<=sizeLine/\n=y.length
 |.byt y=>y.size<=sizeLine/\n=y.size
 |.ref p=>(∃xs,SqL K H p xs/\n=xs.length)\/∃xs,SqT K H p xs/\n=xs.length
 |_=>False
def gG:bH X (.builtin "len") (λxs H Q=>∃x n,xs=[x]/\LenV X.K x H n/\Q (.int n) H):=by
 intro pins s σ H xs us Q I r h;let#[x,n,rfl,e,q]:=h;let#[u,rfl,rx]:=vals1 r;have hl:=line63;have hs:sizeLine=16777216:=UA;cases x with
 |str y=>
  let#[t,rfl]:=rx;let#[hy,e']:y.length<=sizeLine/\n=y.length:=e;subst e';exact len_str KZ #[.int _,H,I.tok _,#[_,rfl],q]
 |byt y=>
  let#[t,rfl]:=rx;let#[hy,e']:y.size<=sizeLine/\n=y.size:=e;subst e';exact len_bytes KZ #[.int _,H,I.tok _,#[_,rfl],q]
 |ref p=>
  cases rx;have e':(∃xs,SqL X.K H p xs/\n=xs.length)\/∃xs,SqT X.K H p xs/\n=xs.length:=e;rcases e' with⟨xs,hx,e'⟩|⟨xs,hx,e'⟩
  .subst e';let#[its,r',pl,hz]:=I.list hx;have b9:=r'.length;exact Calls.call_len_list pl.isList (by simp only[GC];lia) #[.int xs.length,H,I.tok _,#[_,by simp only[GC];rw[b9]],q]
  .subst e';let#[its,r',pl,hz]:=I.tuple hx;have b9:=r'.length;exact len_tuple pl (by simp only[GC];lia) #[.int xs.length,H,I.tok _,#[_,by simp only[GC];rw[b9]],q]
 |_=>exact(show False from e).elim
end
structure ObjM(h:Heap)(x dx C:KF)(mA:Str->Option KB):Prop where
 obj:h.get? x=be (instObj C dx)
 ns:h.Ns1 dx mA
 ne:dx≠x
variable{mA:J7->Option KB}
def qe{dx:KF}(n:h.Ns1 dx mA):∃od,h.get? dx=be od/\∀name,lookIn name od=be (mA name):=by
 let#[o,es,ep,ho,hd,hk,_,hm]:=n;refine#[o,ho,λname=>?_];have e:=hm name;unfold nsFind findBy at e;rw[<-Array.find?_toList]at e;unfold lookIn;rw[hd];dsimp only;split
 .rename_i y q;rw[q]at e;exact congrArg be e
 .rename_i q;rw[q]at e;have a:es.toList.any (·.refKey)=false:=by
   rw[List.any_eq_false];intro y hy;let#[z,t,q_]:=hk y (Array.mem_toList_iff.mp hy);simp[DictEntry.refKey,q_]
  have a':¬es.toList.any (·.refKey)=true:=by rw[a];exact GJ
  rw[if_neg a'];exact congrArg be e
variable{C:KF}
def ObjM.look{x dx:KF}(I:ObjM h x dx C mA):∃od,PySem.W.InstAt h x (instObj C dx) C (be od)/\∀name,lookIn name od=be (mA name):=
 let ⟨od,ho,hl⟩:=qe I.ns
 #[od,#[I.obj,rfl,rfl,ho],hl]
section
variable {prog:SB}{w:TJ}{A:TK}{E:KB->KM->Prop}{s:KM}{K:Ex}{x dx C f:KF}{mA:J7->Option KB}{name:J7}{v:KB}
def xB{y9:Bool}{Q:KB->KM->Prop}(X:K.In s.heap)(I:ObjM s.heap x dx C mA)(hg:plainGet K C name=true)(hh:hasDictIn K C=true)
  (ha:GE K (.ref C) name=be x8) (hv:mA name=be v) (Rf:IW v=true) (h:Q v {s with toks:=s.toks+1}):
  TC (SL prog w) A (Vg (.ref x) name y9) Q E s:=by
 let#[od,J,hl]:=I.look;exact get_value X J (plainGet_of hg).1 (findObj_own hh ha rfl (by rw[hl,hv])) Rf h
def xC{pl:Vj Bool}{Q:KB×List KB->KM->Prop}(X:K.In s.heap)(I:ObjM s.heap x dx C mA)(hg:plainGet K C name=true)
  (hf:GE K (.ref C) name=be (be (.ref f))) (ht:isFn K (.ref f)=true) (hv:mA name=x8) (h:Q (.ref f,[.ref x]) s):
  TC (SL prog w) A (UO (.ref x) name pl) Q E s:=by
 let#[od,J,hl]:=I.look;exact method_fn X J (plainGet_of hg).1 (plainGet_of hg).2 hf (beq_iff_eq.mp ht) (by show(lookIn name od).map (·.isSome)=be false;rw[hl,hv];rfl) h
def xD{ns:List J7}{Q:Unit->KM->Prop}(X:K.In s.heap)(I:ObjM s.heap x dx C mA)
  (hs:GE K (.ref C) "__setattr__"=be (be (.builtin "object.__setattr__"))) (hp:plainOver K C=true) (ht:takerIn K C name=be x8) (hh:hasDictIn K C=true)
  (hw:PySem.Within mA ns) (k_:ns.length<=sizeLine)
  (h:∀h',ObjM h' x dx C (λy=>if y=name then be v else mA y)->Heap.SameBut dx s.heap h'->Q () {s with heap:=h',toks:=s.toks+2}):
  TC (SL prog w) A (VB (.ref x) name v) Q E s:=by
 let#[od,J,hl]:=I.look;refine PySem.W.set_plain X J hs (osa_open (s:={s with toks:=s.toks+1}) (r:=x8) X J hp ht λb=>?_);let#[cd,hc,gt]:=any_some hh;have hx:s.heap.get? x=be #[.ref C,be dx,.plain,[].toArray]:=I.obj;refine Os (P3 (Os (Os (U2 hx (Os (PySem.W.Looks.here (s:={s with toks:=s.toks+1}) (PySem.W.looks_clsIn X hc) ?_))))));rw[gt];refine P3 (a:=be dx) (Os (P3 (Os ?_)));refine Vc (s:={s with toks:=s.toks+1}) I.ns λh' I_ m4=>?_;let#[oD,Qc,Qe,LW,LX,LY]:=I_.count (PySem.Within.cons name v hw);refine Os (UV LW (by rw[LX];exact UX (GD LY (by rw[Gy];lia))) ?_);exact P3 (h _ #[(m4.2 _ (Ne.symm I.ne)).trans I.obj,I_,I.ne] m4)
def qf{R:Result->KM->Prop}{vs:List KB}{kw:List (J7×KB)}(X:K.In s.heap)(hm:makesIn K C=true)
  (hi:GE K (.ref C) "__init__"=be (be (.ref f))) (hf:PySem.W.typeIn K (.ref f)=be (.type "function"))
  (h:UP (SL prog w) (A.under (.builtin "type.__call__" #[.ref C::vs,kw])) (.call (.ref f) #[.ref (s.heap.objs.size+1)::vs,kw]) (InitBack (s.heap.objs.size+1) R)
   {s with heap:=(s.heap.push emptyDict).push (instObj C s.heap.objs.size)}):
  UP (SL prog w) A (.call (.ref C) #[vs,kw]) R s:=by
 let#[hh,g,d,t,os]:=s;exact make_core (makes_of X hm) (PySem.W.looks_findIn X hi) (λself=>PySem.W.bind_fn X self hf) (.inl rfl) h
end
def putF(f:J7)(v:V):List (J7×V)->List (J7×V)
 |[]=>[(f,v)]
 |(g,x)::r=>if g=f then(g,v)::r else(g,x)::putF f v r
def qg(f g:J7)(v:V):∀fs:List (J7×V),(putF f v fs).lookup g=if g=f then be v else fs.lookup g
 |[]=>by
  show Hv g [(f,v)]=_;by_cases h:g=f
  .have hb:(g==f)=true:=beq_iff_eq.mpr h;simp only[Hv,hb,if_pos h]
  .have hb:(g==f)=false:=beq_eq_false_iff_ne.mpr h;simp only[Hv,hb,if_neg h]
 |(k,x)::r=>by
  have ih:=qg f g v r;rw[show putF f v ((k,x)::r)=(if k=f then(k,v)::r else(k,x)::putF f v r)from rfl];by_cases hk:k=f
  .rw[if_pos hk];by_cases h:g=k
   .have hb:(g==k)=true:=beq_iff_eq.mpr h;simp only[Hv,hb,if_pos (h.trans hk)]
   .have hb:(g==k)=false:=beq_eq_false_iff_ne.mpr h;simp only[Hv,hb,if_neg (λe:g=f=>h (e.trans hk.symm))]
  .rw[if_neg hk];by_cases h:g=k
   .have hb:(g==k)=true:=beq_iff_eq.mpr h;simp only[Hv,hb,if_neg (λe:g=f=>hk (h.symm.trans e))]
   .have hb:(g==k)=false:=beq_eq_false_iff_ne.mpr h;simp only[Hv,hb];exact ih
def ju(f:J7)(v:V):∀fs:List (J7×V),f∈(putF f v fs).map (·.1)/\∀g,g∈fs.map (·.1)->g∈(putF f v fs).map (·.1)
 |[]=>#[by simp[putF],λg h=>by simp at h]
 |(k,x)::r=>by
  let#[i1,i2]:=ju f v r;rw[show putF f v ((k,x)::r)=(if k=f then(k,v)::r else(k,x)::putF f v r)from rfl];by_cases hk:k=f
  .rw[if_pos hk];subst hk;exact#[K8,λg h=>by simpa using h]
  .rw[if_neg hk];refine#[?_,λg h=>?_]
   .rw[GK];exact Gx _ i1
   .rw[GK]at h ⊢;rcases GA.mp h with e|e
    .exact GA.mpr (.inl e)
    .exact Gx _ (i2 g e)
def qh(f:J7)(v:V):∀fs:List (J7×V),(putF f v fs).length<=fs.length+1
 |[]=>by simp[putF]
 |(k,x)::r=>by
  have ih:=qh f v r;rw[show putF f v ((k,x)::r)=(if k=f then(k,v)::r else(k,x)::putF f v r)from rfl];by_cases hk:k=f
  .rw[if_pos hk,Gy,Gy];lia
  .rw[if_neg hk,Gy,Gy];lia
def RelO.some_of{v:V}{o:Option KB}(r:RelO (be v) o):∃u,o=be u/\RelV v u:=by
 cases o with
 |none=>exact(show False from r).elim
 |some u=>exact#[u,rfl,r]
def RelO.none_of{o:Option KB}(r:RelO x8 o):o=none:=by
 cases o with
 |none=>rfl
 |some u=>exact(show False from r).elim
def qi{v:V}(r:RelV v u):IW u=true:=by
 cases v with
 |non=>cases(show u=Value.none from r);rfl
 |bl b=>cases(show u=Value.bool b from r);rfl
 |int i=>let#[t,e]:=(show ∃t,u=Value.int i t from r);cases e;rfl
 |str x=>let#[t,e]:=(show ∃t,u=Value.str x t from r);cases e;rfl
 |byt b=>let#[t,e]:=(show ∃t,u=Value.bytes b t from r);cases e;rfl
 |flt b=>let#[t,e]:=(show ∃t,u=Value.float b t from r);cases e;rfl
 |ref a=>cases(show u=Value.ref a from r);rfl
 |ty n=>cases(show u=Value.type n from r);rfl
section
variable {P:SB}{w:TJ}{H H':Hp}{h h':Heap}{a C dx:KF}{fs n9:List (J7×V)}
def gH(hok:HOk P w H h)(e:H a=be (.ins C dx fs)):∃mA,ObjM h a dx C mA/\(∀f,RelO (fs.lookup f) (mA f))/\PySem.Within mA (fs.map (·.1))/\fs.length<=1000/\H dx=be (.own a):=by
 let#[d,z,ne,ob,mA,n,r,q]:=(show ObjOk P w H h a (.ins C dx fs)from hok a _ e);exact#[mA,#[ob,n,ne],r,q,z,d]
end
structure Cls(K:Ex)(C:KF):Prop where
 pg:plainGet K C Str.empty=true
 hd:hasDictIn K C=true
 po:plainOver K C=true
 sa:GE K (.ref C) "__setattr__"=be (be (.builtin "object.__setattr__"))
def Cls.get(c:Cls K C)(f:J7):plainGet K C f=true:=c.pg
def NoAttr(K:Ex)(C:KF)(f:J7):Prop:=GE K (.ref C) f=be x8
def NoAttr.taker{f:J7}(n:NoAttr K C f):takerIn K C f=be none:=by
 unfold takerIn;rw[show GE K (.ref C) f=be x8 from n];rfl
structure Meth(K:Ex)(C:KF)(m:Str)(f:KF):Prop where
 at_:GE K (.ref C) m=be (be (.ref f))
 fn:isFn K (.ref f)=true
 kp:keepIn K (.ref f)=true
section
variable {X:Cx}{pins:List (KF×T5)}{σ:St}{H:Hp}{s:KM}{a C dx:KF}{fs:List (J7×V)}{f:J7}{v:V}{A:TK}{E:KB->KM->Prop}
variable{Q:KB->KM->Prop}
def xE{b:Bool}(I:Inv X pins σ H s)(e:H a=be (.ins C dx fs))(c:Cls X.K C)(n:NoAttr X.K C f)(l:fs.lookup f=be v)
  (h:∀u s',Inv X pins σ H s'->RelV v u->Q u s'):TC (SL X.prog X.w) A (Vg (.ref a) f b) Q E s:=by
 let#[mA,O,r,_,_,_]:=gH I.hok e;let#[u,hu,ru]:=RelO.some_of (v:=v) (o:=mA f) (by rw[<-l];exact r f);exact xB I.kIn O (c.get f) c.hd n hu (qi ru) (h u _ (I.tok _) ru)
def jv{m:J7}{g:KF}{pl:Vj Bool}{Q:KB×List KB->KM->Prop}(I:Inv X pins σ H s)(e:H a=be (.ins C dx fs))(c:Cls X.K C)(k:Meth X.K C m g)(l:fs.lookup m=x8)
  (h:Q (.ref g,[.ref a]) s):TC (SL X.prog X.w) A (UO (.ref a) m pl) Q E s:=by
 let#[mA,O,r,_,_,_]:=gH I.hok e;have hn:mA m=none:=RelO.none_of (by rw[<-l];exact r m);exact xC I.kIn O (c.get m) k.at_ k.fn hn h
def xF{y:V}{u:KB}{Q:Unit->KM->Prop}(I:Inv X pins σ H s)(e:H a=be (.ins C dx fs))(c:Cls X.K C)(n:NoAttr X.K C f)(hl:fs.length<1000)(ry:RelV y u)
  (h:∀s',Inv X pins σ (upd H a (.ins C dx (putF f y fs))) s'->Q () s'):TC (SL X.prog X.w) A (VB (.ref a) f u) Q E s:=by
 let#[mA,O,r,wi,_,ho]:=gH I.hok e;have hz:(fs.map (·.1)).length<=sizeLine:=by rw[GB,UA];lia
 refine xD I.kIn O c.sa c.po n.taker c.hd wi hz λh' O' sb=>h _ ?_;have hd:∃o,h'.get? dx=be o:=let ⟨o,_,_,e',_⟩:=O'.ns;#[o,e']
 refine I.write (x:=a) (e:=dx) (by rw[e];exact True.intro) (.inr ho) (λb q hb z=>(sb.2 b hb).trans z) hd ?_;refine#[by rw[ar O.ne];exact ho,?_,O.ne,O'.obj,_,O'.ns,λg=>?_,λg hg=>?_]
 .have:=qh f y fs;lia
 .show RelO ((putF f y fs).lookup g) (if g=f then be u else mA g);rw[qg];by_cases q:g=f
  .rw[if_pos q,if_pos q];exact ry
  .rw[if_neg q,if_neg q];exact r g
 .by_cases q:g=f
  .rw[q];exact(ju f y fs).1
  .refine(ju f y fs).2 g (wi g λz=>hg ?_);show(if g=f then be u else mA g)=x8;rw[if_neg q];exact z
def Inv.made(I:Inv X pins σ H s):Inv X pins σ (upd (upd H s.heap.objs.size (.own (s.heap.objs.size+1))) (s.heap.objs.size+1) (.ins C s.heap.objs.size []))
  {s with heap:=(s.heap.push emptyDict).push (instObj C s.heap.objs.size)}:=by
 have e1:(s.heap.push emptyDict).get? s.heap.objs.size=be emptyDict:=Heap.get?_push_size s.heap rfl;have e2:((s.heap.push emptyDict).push (instObj C s.heap.objs.size)).get? (s.heap.objs.size+1)=be (instObj C s.heap.objs.size):=by
  have:=Heap.get?_push_size (s.heap.push emptyDict) (o:=instObj C s.heap.objs.size) rfl;rwa [Heap.size_push]at this
 have e3:(s.heap.push emptyDict).Ns s.heap.objs.size (λ_=>x8):=#[emptyDict,[].toArray,_,e1,rfl,(λe he=>absurd he K8),λ_=>rfl];have I1:=I.laid (a:=s.heap.objs.size) (o:=.own (s.heap.objs.size+1)) (h':=s.heap.push emptyDict) (t':=s.toks) (λb u q=>Heap.get?_push_of_some _ q) (Gv _) #[_,e1];refine I1.laid (a:=s.heap.objs.size+1) (o:=.ins C s.heap.objs.size []) (t':=s.toks) (λb u q=>Heap.get?_push_of_some _ q) (H8 (Heap.size_push _ _)) ?_;have ne:s.heap.objs.size≠s.heap.objs.size+1:=GH (Iv _);refine#[by rw[ar ne,aB],GT _,ne,e2,λ_=>x8,(Heap.Ns1.of_empty e3).at λo q=>Heap.get?_push_of_some _ q,λ_=>True.intro,λy hy=>absurd rfl hy]
def attr_of{prog:SB}{w:TJ}{env:Uw}{e:SZ}{f:J7}{pos:TX}{s:KM}(hb:TM e f env (TR e env)=TR e env)
  (h:TC (SL prog w) A (TR e env) (λo s₁=>TC (SL prog w) A (Vg o f true) Q E s₁) E s):TC (SL prog w) A (TR (.Attribute e f pos) env) Q E s:=
 Attribute_any_ h (by rw[arm_eval_Attribute,hb])
end
def tFld(K:Ex)(ta:TE)(f:J7):TE:=λσ H Q=>ta σ H λx H1=>∃a C dx fs v,x=.ref a/\H1 a=be (.ins C dx fs)/\Cls K C/\NoAttr K C f/\fs.lookup f=be v/\Q v H1
def sFld(K:Ex)(ta tv:TE)(f:J7):TS:=λD σ H=>tv σ H λy H1=>ta σ H1 λx H2=>∃a C dx fs,x=.ref a/\H2 a=be (.ins C dx fs)/\Cls K C/\NoAttr K C f/\fs.length<1000/\
 D.nx σ (upd H2 a (.ins C dx (putF f y fs)))
section
variable {X:Cx}{o e value:SZ}{f:J7}{pos c8 LU:TX}{ta tv:TE}
def qj(he:PE X e ta)(hb:TM e f X.env (TR e X.env)=TR e X.env):PE X (.Attribute e f pos) (tFld X.K ta f):=by
 intro pins s σ H Q I h;refine attr_of hb (thn (he pins s σ H _ I h) λu s1 c7=>?_);let#[x,H1,I1,rx,a,C,dx,fs,v,ex,ea,c,n,l,q]:=c7;subst ex;obtain rfl:u=Value.ref a:=rx;exact xE I1 ea c n l λu' s2 I2 ru=>#[v,H1,I2,ru,q]
def qk(ha:PE X o ta)(hv:PE X value tv)(hs:T7 value (be (.Attribute o f c8)) pos.line X.env=pure false):PS X (.Assign [.Attribute o f c8] value pos) (sFld X.K ta tv f):=by
 intro pins s σ H D I h;refine Uj (thn (hv pins s σ H _ I h) λu s1 ⟨y,H1,I1,ry,q⟩=>thn (ha pins s1 σ H1 _ I1 q) λov s2 hh=>?_) hs;let#[x,H2,I2,rx,a,C,dx,fs,ex,ea,c,n,l,q2]:=hh;subst ex;obtain rfl:ov=Value.ref a:=rx;exact xF I2 ea c n l ry λs3 I3=>#[σ,_,I3,q2]
end
section
variable {X:Cx}{pins:List (KF×T5)}{σ:St}{H:Hp}{s:KM}{A:TK}{E:KB->KM->Prop}{Q:KB->KM->Prop}{c:KB}{b:Bool}
inductive TyOf(K:Ex)(H:Hp):V->KB->Prop where
 |non:TyOf K H .non (.type "NoneType")
 |bl (x:Bool):TyOf K H (.bl x) (.type "bool")
 |int (i:Int):TyOf K H (.int i) (.type "int")
 |str (x:Str):TyOf K H (.str x) (.type "str")
 |flt (x:UInt64):TyOf K H (.flt x) (.type "float")
 |lst {a:KF} {xs:List V} (e:H a=some (.lst xs)):TyOf K H (.ref a) (.type "list")
 |frz {a:KF} {o:T5} {xs:List V} (e:H a=some (.frz o (.lst xs))):TyOf K H (.ref a) (.type "list")
 |tup {a:KF} {xs:List V} (e:H a=some (.tup xs)):TyOf K H (.ref a) (.type "tuple")
 |dK {a:KF} {a_:List (Key×V)} (e:H a=some (.dK a_)):TyOf K H (.ref a) (.type "dict")
 |dT {a:KF} {a_:List (List Key×V)} (e:H a=some (.dT a_)):TyOf K H (.ref a) (.type "dict")
 |ins {a C dx:KF} {fs:List (Str×V)} (e:H a=some (.ins C dx fs)) (cl:Cls K C) (ha:GE K (.ref C) "__class__"=some (some (.builtin "object.__class__")))
   (hn:specialIn K (.builtin "object.__class__") "__get__"=be (be (.builtin "getset_descriptor.__get__"))) (htk:takesIn K (.builtin "object.__class__")=be true)
   (hm:Hb K C (.type "object")=be true):TyOf K H (.ref a) (.ref C)
def ql{x:V}{u t:KB}(I:Inv X pins σ H s)(rx:RelV x u)(ty:TyOf X.K H x t)(e:kitOne X.K t c=be b)(h:∀tk,Q (.bool b) {s with toks:=tk}):
  TC (SL X.prog X.w) A (call (.builtin "isinstance") [u,c]) Q E s:=by
 cases ty with
 |non=>cases(show u=Value.none from rx);exact kia_one kitx_none I.kIn True.intro e (λz=>nomatch z) h
 |bl y=>cases(show u=Value.bool y from rx);exact kia_one kitx_bool I.kIn True.intro e (λz=>nomatch z) h
 |int i=>let#[t,q]:=(show ∃t,u=Value.int i t from rx);cases q;exact kia_one kitx_int I.kIn True.intro e (λz=>nomatch z) h
 |str y=>let#[t,q]:=(show ∃t,u=Value.str y t from rx);cases q;exact kia_one kitx_str I.kIn True.intro e (λz=>nomatch z) h
 |flt y=>let#[t,q]:=(show ∃t,u=Value.float y t from rx);cases q;exact kia_one kitx_float I.kIn True.intro e (λz=>nomatch z) h
 |@lst a xs ea=>
  cases(show u=Value.ref a from rx);let#[_,_,n,_,h1]:=(show ObjOk X.prog X.w H s.heap a (.lst xs)from I.hok a _ ea);exact kia_one kitx_list I.kIn #[_,h1,rfl] e (λz=>nomatch z) h
 |@frz a ob xs ea=>
  cases(show u=Value.ref a from rx);let#[_,_,_,n,_,h1]:=(show ObjOk X.prog X.w H s.heap a (.frz ob (.lst xs))from I.hok a _ ea);exact kia_one kitx_list I.kIn #[_,h1,rfl] e (λz=>nomatch z) h
 |@tup a xs ea=>
  cases(show u=Value.ref a from rx);let#[_,_,_,p]:=(show ObjOk X.prog X.w H s.heap a (.tup xs)from I.hok a _ ea);let#[o,h1,h2,_]:=p;exact kia_one kitx_tuple I.kIn #[o,h1,h2] e (λz=>nomatch z) h
 |@dK a a_ ea=>
  cases(show u=Value.ref a from rx);let#[_,_,vs,_,p]:=(show ObjOk X.prog X.w H s.heap a (.dK a_)from I.hok a _ ea);let#[o,es,ep,h1,h2,_]:=p;exact kia_one kitx_dict I.kIn #[o,h1,h2.1] e (λz=>nomatch z) h
 |@dT a a_ ea=>
  cases(show u=Value.ref a from rx);let#[_,_,xs,_,o,es,ep,h1,h2,_]:=(show ObjOk X.prog X.w H s.heap a (.dT a_)from I.hok a _ ea);exact kia_one kitx_dict I.kIn #[o,h1,h2.1] e (λz=>nomatch z) h
 |@ins a C dx fs ea cl ha hn htk hm=>
  cases(show u=Value.ref a from rx);let#[mA,O,_]:=gH I.hok ea;let#[od,J,_]:=O.look;exact kia_one (kitx_own (cl.get _) cl.hd ha hn htk hm) I.kIn J e (λz=>nomatch z) h
end
structure Room(k:Nat)(A:TK):Prop where
 hd:A.handled=x8
 dp:A.depth+3*k+5<recursionLimit
 un:A.units+16*k+200<Ux
variable{k:Nat}
def Room.mono{j:Nat}(r:Room k A)(h:j<=k):Room j A:=#[r.hd,by have:=r.dp;lia,by have:=r.un;lia]
def Room.deeper(r:Room (k+1) A)(env:Uw):Room k (A.deeper env):=
 #[r.hd,by have:=r.dp;show A.depth+1+3*k+5<_;lia,by have:=r.un;show A.units+3+16*k+200<_;lia]
variable{kw:List (J7×KB)}
def xG:(A.under (.builtin "type.__call__" #[.ref C::us,kw])).depth=A.depth+1:=by
 first|rfl|simp[Around.under,Code.weight,Code.isCreation,Code.isGuard,Code.isCaller,Code.frames,Code.isFrame,guardIds]
def xH:(A.under (.builtin "type.__call__" #[.ref C::us,kw])).units=A.units+1:=by
 first|rfl|simp[Around.under,Code.cUnits,Code.frames,Code.isFrame]
def Room.make(r:Room (k+1) A)(C:KF)(us:List KB)(kw:List (J7×KB)):Room k (A.under (.builtin "type.__call__" #[.ref C::us,kw])):=
 #[r.hd,by have:=r.dp;rw[xG];lia,by have:=r.un;rw[xH];lia]
def Room.depth(r:Room k A):A.depth<recursionLimit:=by have:=r.dp;lia
def Room.units(r:Room k A):A.units+64<Ux:=by have:=r.un;lia
def tNil:TA:=λ_ H Q=>Q [] H
def qm(ta:TE)(tr:TA):TA:=λσ H Q=>ta σ H λx H1=>tr σ H1 λxs H2=>Q (x::xs) H2
section
variable {X:Cx}{e:SZ}{es:List SZ}{te:TE}{t:TA}{pos:TX}
def pa_nil:PA X [] tNil:=λ_ _ _ _ H Q I h=>Calls.spliced_nil #[[],H,I,.nil,h]
def bw(ha:PE X e te)(hr:PA X es t)(hs:zSE X e es\zA0):PA X (e::es) (qm te t):=by
 intro pos pins s σ H Q I h;rw[hs];show TC _ _ (spliced ((false,TR e X.env)::Uy pos (TL es X.env))) _ _ s;refine Calls.spliced_cons (thn (ha pins s σ H _ I h) λu s1 c7=>?_);let#[x,H1,I1,r1,q1]:=c7;exact thn (hr pos pins s1 σ H1 _ I1 q1) λus s2 ⟨xs,H2,I2,r2,q2⟩=>#[x::xs,H2,I2,.cons r1 r2,q2]
def tTup(t:TA):TE:=λσ H Q=>t σ H λxs H1=>xs.length<=sizeLine/\∀p,H1 p=x8->Q (.ref p) (upd H1 p (.tup xs))
def tLst(t:TA):TE:=λσ H Q=>t σ H λxs H1=>xs.length<=sizeLine/\∀p,H1 p=x8->Q (.ref p) (upd H1 p (.lst xs))
def qo{x1}(h:PA X es t):PE X (.Tuple es x1 pos) (tTup t):=by
 intro pins s σ H Q I hq;refine wpAny_Tuple_spliced (thn (h pos pins s σ H _ I hq) λus s1 ⟨xs,H1,I1,r,z,q⟩=>#[by rw[<-r.length];exact z,?_]);have hf:H1 s1.heap.objs.size=none:=I1.hok.fresh (Gv _);refine#[.ref s1.heap.objs.size,upd H1 s1.heap.objs.size (.tup xs),I1.laid (t':=s1.toks) (λb u e=>Heap.get?_push_of_some _ e) (Gv _) ?_,rfl,q _ hf];exact#[z,us,r,#[_,Heap.get?_push_size _ rfl,rfl,_,rfl]]
def jw(h:PA X es t):PE X (.List es pos) (tLst t):=by
 intro pins s σ H Q I hq;refine wpAny_List_spliced (thn (h pos pins s σ H _ I hq) λus s1 ⟨xs,H1,I1,r,z,q⟩=>#[by rw[<-r.length];exact z,?_]);have hf:H1 s1.heap.objs.size=none:=I1.hok.fresh (Gv _);refine#[.ref s1.heap.objs.size,upd H1 s1.heap.objs.size (.lst xs),I1.laid (t':=s1.toks) (λb u e=>Heap.get?_push_of_some _ e) (Gv _) ?_,rfl,q _ hf];exact#[z,us,0,r,Heap.get?_push_size _ rfl]
end
abbrev Sp:=List V->Hp->VK->XK->Prop
abbrev CXT:=List Uw->Hp->KM->XK->KB->KM->Prop
structure Env0(P:SB)(w:TJ)(K:Ex)(mg:Str->Option KB)(base:Heap)(A:TK)(outer:List Uw)(s:KM)(H:Hp):Prop where
 frames:A.frames=be outer
 mod:Mod K mg base
 bs:∀b o,base.get? b=be o->s.heap.get? b=be o/\H b=x8
 bsz:base.objs.size<=s.heap.objs.size
 funs:s.heap.FunFrames base outer
 frf:∀b∈frs outer,H b=x8
 hok:HOk P w H s.heap
 bare:UC s.gens
def CE(outer:List Uw)(P:SB)(w:TJ)(H:Hp)(s:KM)(Q:VK)(u:KB)(s':KM):Prop:=
 ∃v H',s'.os=s.os/\UC s'.gens/\Un (frs outer) [] H H' s.heap s'.heap/\HOk P w H' s'.heap/\RelV v u/\Q v H'
def CR(CX:CXT)(outer:List Uw)(P:SB)(w:TJ)(H:Hp)(s:KM)(Q:VK)(E:XK)(r:Result)(s':KM):Prop:=
 match r with
 |.ok (.ret u)=>CE outer P w H s Q u s'
 |.ok _=>False
 |.error e=>CX outer H s E e s'
structure FnOk(P:SB)(w:TJ)(K:Ex)(mg:Str->Option KB)(base:Heap)(CX:CXT)(k:Nat)(f:KF)(fd:TQ)(ps:List Str)(sp:Sp):Prop where
 len:∀vs H Q E,sp vs H Q E->vs.length=ps.length
 run:∀(A:TK) (outer:List Uw) (s:KM) (H:Hp) (args:Args) (us:List KB) (vs:List V) (Q:VK) (E:XK),Room k A->Env0 P w K mg base A outer s H->UJ s fd args (ps.zip us)->Vals vs us->sp vs H Q E->
  UP (SL P w) A (.call (.ref f) args) (CR CX outer P w H s Q E) s
variable{f:KF}{mg:J7->Option KB}{base:Heap}{CX:CXT}{fd:TQ}{ps:List J7}{sp:Sp}
def FnOk.mono{j:Nat}(F:FnOk P w K mg base CX j f fd ps sp)(h:j<=k):
  FnOk P w K mg base CX k f fd ps sp:=#[F.len,λA outer s H args us vs Q E hr=>F.run A outer s H args us vs Q E (hr.mono h)]
def FnOk.imp{Kx:Sp}(F:FnOk P w K mg base CX k f fd ps sp)
  (h:∀vs H Q E,Kx vs H Q E->sp vs H Q E):FnOk P w K mg base CX k f fd ps Kx:=
 #[λvs H Q E q=>F.len vs H Q E (h _ _ _ _ q),λA outer s H args us vs Q E hr he hb hv hs=>F.run A outer s H args us vs Q E hr he hb hv (h _ _ _ _ hs)]
variable{outer:List Uw}
def Env0.make(e:Env0 P w K mg base A outer s H)(C:KF)(us:List KB)(kw:List (J7×KB)):
  Env0 P w K mg base (A.under (.builtin "type.__call__" #[.ref C::us,kw])) outer s H:=#[by first|exact e.frames|(simpa[Around.under,Code.envs,Code.isFrame,pushEnvs]using e.frames),e.mod,e.bs,e.bsz,e.funs,e.frf,e.hok,e.bare]
section
variable {X:Cx}{pins:List (KF×T5)}{σ:St}{H:Hp}{s s':KM}
def Inv.env0(I:Inv X pins σ H s):Env0 X.prog X.w X.K X.mg X.base X.A X.stack s H:=
 #[I.ok.frames,I.ok.mod,I.bs,GD I.ok.bsz I.sz,I.stack,I.stkFree,I.hok,I.bare]
def Inv.after{Q:VK}{u:KB}(I:Inv X pins σ H s)(h:CE X.stack X.prog X.w H s Q u s'):EP X pins σ Q u s':=by
 let#[v,H',os,bare,un,hok,r,q]:=h;let#[hh,g,d,t,Rg]:=s';obtain rfl:Rg=s.os:=os;exact#[v,H',I.call (h':=hh) (g':=g) (d':=d) (t':=t) (ch:=[]) un hok bare (λb z=>absurd z K8),r,q]
end
def jx(sp:Sp)(g6:List V)(E:XK)(t:TA):TE:=λσ H Q=>t σ H λvs H1=>sp (vs++g6) H1 Q E
def xI(C:KF)(sp:Sp)(g6:List V)(E:XK)(t:TA):TE:=λσ H Q=>t σ H λvs H1=>∀x dx,H1 x=x8->H1 dx=x8->dx≠x->
 sp (.ref x::(vs++g6)) (upd (upd H1 dx (.own x)) x (.ins C dx [])) (λv H2=>v=.non/\Q (.ref x) H2) E
def Binds(K:Ex)(fd:TQ)(ps:List J7)(ds:List KB):Prop:=
 ∀(s:KM) (us:List KB),K.In s.heap->(us++ds).length=ps.length->UJ s fd #[us,[]] (ps.zip (us++ds))
def Binds.all(h:∀us:List KB,us.length=ps.length->Us fd #[us,[]]=pure (ps.zip us)):Binds K fd ps []:=λs us _ hl=>by
 rw[G1]at hl ⊢;exact .of_eq (h us hl)
def eU(CX:CXT)(X:Cx)(E:XK):Prop:=∀(pins:List (KF×T5)) (σ:St) (H:Hp) (s:KM) (e:KB) (s':KM),Inv X pins σ H s->CX X.stack H s E e s'->X.xe e s'
section
variable {X:Cx}{CX:CXT}{k:Nat}{f C:KF}{fd:TQ}{ps:List J7}{sp:Sp}{g6:List V}{ds:List KB}{E:XK}{x m:J7}{p pos b7:TX}{e o:SZ}{es:List SZ}{ta:TE}{t:TA}
variable{pins:List (KF×T5)}{us:List KB}{vs:List V}
def qp{σ:St}{H:Hp}{s:KM}{Q:VK}(F:FnOk X.prog X.w X.K X.mg X.base CX k f fd ps sp)(hr:Room k X.A)(hb:Binds X.K fd ps ds)(hd:Vals g6 ds)(hx:eU CX X E)
  (I:Inv X pins σ H s) (r:Vals vs us) (h:sp (vs++g6) H Q E):TC (SL X.prog X.w) X.A (call (.ref f) us) (EP X pins σ Q) X.xe s:=by
 have r2:Vals (vs++g6) (us++ds):=r.append hd;have hl:(us++ds).length=ps.length:=by rw[<-r2.length];exact F.len _ _ _ _ h
 refine Ue (Ub (F.run X.A X.stack s H #[us,[]] (us++ds) (vs++g6) Q E hr I.env0 (hb s us I.kIn hl) r2 h) λr s' hq=>?_);cases r with
 |error e=>exact hx pins σ H s e s' I hq
 |ok fl=>
  cases fl with
  |ret u=>exact I.after hq
  |next=>exact False.elim hq
  |brk=>exact False.elim hq
  |cont=>exact False.elim hq
def xJ(F:FnOk X.prog X.w X.K X.mg X.base CX k f fd ps sp)(hr:Room k X.A)(hg:Gl X x)(hm:X.mg x=be (.ref f))(hk:keepIn X.K (.ref f)=true)(hb:Binds X.K fd ps ds)(hd:Vals g6 ds)(hx:eU CX X E)
  (ha:PA X (e::es) t) (d9:zND x\zA1) (he:zSE X e es\zA0) (c9:zPL X pos es\zA0):
  PE X (.Call (.Name x p) (e::es) [] pos) (jx sp g6 E t):=by
 intro pins s σ H Q I h;refine TV (ck I hg hm ?_ d9);refine callWith_K (h₀:=X.base) I.ok.mod.kin hk (thn (ha pos pins s σ H _ I h) λus s1 ⟨vs,H1,I1,r,q⟩=>#[I1.kIn,?_]) he c9;exact qp F hr hb hd hx I1 r q
def xK(F:FnOk X.prog X.w X.K X.mg X.base CX k f fd ps sp)(hr:Room k X.A)(hg:Gl X x)(hm:X.mg x=be (.ref f))(hk:keepIn X.K (.ref f)=true)(hb:Binds X.K fd ps ds)(hd:Vals g6 ds)(hx:eU CX X E)
  (d9:zND x\zA1):PE X (.Call (.Name x p) [] [] pos) (jx sp g6 E tNil):=by
 intro pins s σ H Q I h;refine TV (ck I hg hm ?_ d9);exact callWith_K0 I.kIn hk (qp (us:=[]) F hr hb hd hx I .nil h)
structure Mk(K:Ex)(C f:KF):Prop where
 makes:makesIn K C=true
 init:GE K (.ref C) "__init__"=be (be (.ref f))
 fn:isFn K (.ref f)=true
 kp:keepIn K (.ref C)=true
def xL{σ:St}{H:Hp}{s:KM}{Q:VK}(M:Mk X.K C f)(F:FnOk X.prog X.w X.K X.mg X.base CX k f fd ps sp)(hr:Room (k+1) X.A)(hb:Binds X.K fd ps ds)(hd:Vals g6 ds)
  (hx:eU CX X E) (I:Inv X pins σ H s) (r:Vals vs us)
  (h:∀x dx,H x=x8->H dx=x8->dx≠x->sp (.ref x::(vs++g6)) (upd (upd H dx (.own x)) x (.ins C dx [])) (λv H2=>v=.non/\Q (.ref x) H2) E):
  TC (SL X.prog X.w) X.A (call (.ref C) us) (EP X pins σ Q) X.xe s:=by
 have hq:=h (s.heap.objs.size+1) s.heap.objs.size (I.hok.fresh (Hk _)) (I.hok.fresh (Gv _)) (GH (Iv _));have I2:=Inv.made (C:=C) I;have r2:Vals (V.ref (s.heap.objs.size+1)::(vs++g6)) (Value.ref (s.heap.objs.size+1)::(us++ds)):=.cons rfl (r.append hd);have hl:(Value.ref (s.heap.objs.size+1)::us++ds).length=ps.length:=by
  have e:=r2.length;rw[F.len _ _ _ _ hq]at e;exact e.symm
 refine Ue (qf (f:=f) I.kIn M.makes M.init (beq_iff_eq.mp M.fn) (Ub (F.run _ X.stack _ _ #[Value.ref (s.heap.objs.size+1)::us,[]] (Value.ref (s.heap.objs.size+1)::(us++ds)) _ _ E (hr.make C us [])
  (I2.env0.make C us []) (hb _ (Value.ref (s.heap.objs.size+1)::us) I2.kIn hl) r2 hq) λr s' m8=>?_))
 cases r with
 |error e=>exact hx pins σ _ _ e s' I2 m8
 |ok fl=>
  cases fl with
  |ret u=>
   let#[v,H',I3,rv,ev,q3]:=I2.after m8;subst ev;exact#[rv,#[V.ref (s.heap.objs.size+1),H',I3,rfl,q3]]
  |next=>exact False.elim m8
  |brk=>exact False.elim m8
  |cont=>exact False.elim m8
def jy(M:Mk X.K C f)(F:FnOk X.prog X.w X.K X.mg X.base CX k f fd ps sp)(hr:Room (k+1) X.A)(hg:Gl X x)(hm:X.mg x=be (.ref C))(hb:Binds X.K fd ps ds)(hd:Vals g6 ds)(hx:eU CX X E)
  (ha:PA X (e::es) t) (d9:zND x\zA1) (he:zSE X e es\zA0) (c9:zPL X pos es\zA0):
  PE X (.Call (.Name x p) (e::es) [] pos) (xI C sp g6 E t):=by
 intro pins s σ H Q I h;refine TV (ck I hg hm ?_ d9);refine callWith_K (h₀:=X.base) I.ok.mod.kin M.kp (thn (ha pos pins s σ H _ I h) λus s1 ⟨vs,H1,I1,r,q⟩=>#[I1.kIn,?_]) he c9;exact xL M F hr hb hd hx I1 r q
end
structure FnScope(N P:List Str)(sc:Uc):Prop where
 kind:sc.kind=.function
 co:sc.isCoroutine=false
 gen:sc.isGenerator=false
 nd:N.Nodup
 pre:N.take P.length=P
 par:∀x∈P,sc.names.lookup x=be .local\/sc.names.lookup x=be .cell
 nofree:∀y∈sc.names,y.2≠.free
def qq{kindOf:J7->Option Ut}{x:J7}:∀{binds:List (J7×KB)} {m:J7->Option KB},(∀v,(x,v)∉binds)->U_ kindOf binds m x=m x
 |[],_,_=>rfl
 |(n,v)::r,m,h=>by
  unfold U_;rw[qq λw hw=>h w (Gx _ hw)];split
  .have:x≠n:=by rintro rfl;exact h v Gz
   simp[this]
  .rfl
def bindC_out{kindOf:J7->Option Ut}{x:J7}:∀{binds:List (J7×KB)} {m:J7->Option KB},(∀v,(x,v)∉binds)->Va kindOf binds m x=m x
 |[],_,_=>rfl
 |(n,v)::r,m,h=>by
  unfold Va;rw[bindC_out λw hw=>h w (Gx _ hw)];split
  .rfl
  .have:x≠n:=by rintro rfl;exact h v Gz
   simp[this]
def bindL_get{kindOf:J7->Option Ut}{x:J7}{v:KB}:∀{P:List J7} {vs:List KB} {i:Nat} {m:J7->Option KB},P.Nodup->P[i]?=be x->vs[i]?=be v->kindOf x=be .local->
  U_ kindOf (P.zip vs) m x=be v
 |[],_,_,_,_,h,_,_=>by simp at h
 |_::_,[],_,_,_,_,h,_=>by simp at h
 |p::P,w::vs,0,m,nd,h1,h2,hk=>by
  simp at h1 h2;subst h1;subst h2;show U_ kindOf ((p,w)::P.zip vs) m p=_;unfold U_;rw[qq λv hv=>(G7.mp nd).1 (Iw hv).1,if_pos hk];simp
 |p::P,w::vs,i+1,m,nd,h1,h2,hk=>by
  show U_ kindOf ((p,w)::P.zip vs) m x=_;unfold U_;exact bindL_get (i:=i) (G7.mp nd).2 (by simpa using h1) (by simpa using h2) hk
def qr{kindOf:J7->Option Ut}{x:J7}{v:KB}:∀{P:List J7} {vs:List KB} {i:Nat} {m:J7->Option KB},P.Nodup->P[i]?=be x->vs[i]?=be v->kindOf x≠be .local->
  Va kindOf (P.zip vs) m x=be v
 |[],_,_,_,_,h,_,_=>by simp at h
 |_::_,[],_,_,_,_,h,_=>by simp at h
 |p::P,w::vs,0,m,nd,h1,h2,hk=>by
  simp at h1 h2;subst h1;subst h2;show Va kindOf ((p,w)::P.zip vs) m p=_;unfold Va;rw[bindC_out λv hv=>(G7.mp nd).1 (Iw hv).1,if_neg hk];simp
 |p::P,w::vs,i+1,m,nd,h1,h2,hk=>by
  show Va kindOf ((p,w)::P.zip vs) m x=_;unfold Va;exact qr (i:=i) (G7.mp nd).2 (by simpa using h1) (by simpa using h2) hk
def start(N:List J7)(vs:List V):St:=vs.map be++GI (N.length-vs.length) x8
def cxOf(CX:CXT)(P:SB)(w:TJ)(K:Ex)(mg:J7->Option KB)(base:Heap)(N:List J7)(qual:J7)(scope:Uc)(f:KF)(cd:KB)(A:TK)(outer:List Uw)(s:KM)(H:Hp)(E:XK):Cx where
 prog:=P
 w:=w
 K:=K
 mg:=mg
 base:=base
 A:=A.deeper (TY qual scope s.heap.objs.size f cd)
 N:=N
 s₀:=s
 H₀:=H
 env:=TY qual scope s.heap.objs.size f cd
 outer:=outer
 stack:=TY qual scope s.heap.objs.size f cd::outer
 ex:=[]
 calm:=true
 fn:=λ_=>true
 pn:=[]
 xe:=λe s'=>TC (SL P w) (A.deeper (TY qual scope s.heap.objs.size f cd)) (Vf (TY qual scope s.heap.objs.size f cd) e) (λ_ NN=>CX outer H s E e NN) (λe' NN=>CX outer H s E e' NN) s'
def cell_has{sc:Uc}{n:Nat}{x:J7}(h:sc.names.lookup x=be .cell):∃c,(cellsFrom n sc.names []).lookup x=be c:=by
 have q:=cellsFrom_some sc.names n [] (.inl h);exact Option.isSome_iff_exists.mp q
variable{N:List J7}{scope:Uc}
def xM{qual:J7}{cd:KB}{s1:KM}{E:XK}{vs:List V}
  (S:FnScope N ps scope) (hd:A.handled=x8) (e0:Env0 P w K mg base A outer s H) (hl:vs.length=ps.length) (r:Vals vs us)
  (x:InCallC s s.heap.objs.size (U_ (TY qual scope s.heap.objs.size f cd).kindOf (ps.zip us) λ_=>x8) (cellsFrom (s.heap.objs.size+1) scope.names []) (Va (TY qual scope s.heap.objs.size f cd).kindOf (ps.zip us) λ_=>x8) s1):
  Inv (cxOf CX P w K mg base N qual scope f cd A outer s H E) [] (start N vs) H s1:=by
 have c9:ps.length<=N.length:=by have:=congrArg HM S.pre;rw[Hl]at this;lia
 let#[h1,tk,rfl,hk]:=x.done;have LZ:∀b:KF,b∉(cxOf CX P w K mg base N qual scope f cd A outer s H E).ex:=λb z=>absurd (show b∈([]:List KF)from z) K8;refine⟨#[e0.mod,S.kind,rfl,rfl,Gv _,λy z c h1 h2=>?_,λy hy=>?_,λy c _ h=>?_,λ_=>hd,Around.frames_deeper e0.frames,.inr #[rfl,rfl],λb z=>absurd z (LZ b),e0.bs,e0.bsz,λb _ _=>LZ b,λb z=>absurd z (LZ b),e0.funs,e0.frf],
  rfl,e0.bare,Un.kept hk,#[_,x.toInCall.ns,λi y v h1 h2 h3=>?_],λy c h=>#[_,x.cell y c h],e0.hok.fresh (Gv _),λy c h=>?_,λp hp=>absurd (show p∈([]:List (KF×T5))from hp) K8,e0.hok.kept hk,?_⟩
 .exact name_of_addr x.apart (PySem.mem_of_lookup h1) (PySem.mem_of_lookup h2)
 .have hy:scope.names.lookup y=be .cell\/scope.names.lookup y=be .free:=hy;rcases hy with hy|hy
  .exact cell_has hy
  .exact absurd rfl (S.nofree _ (PySem.mem_of_lookup hy))
 .exact HY (x.above y c (PySem.mem_of_lookup h))
 .have hi:i<vs.length:=by
   unfold start at h2;by_cases hi:i<vs.length
   .exact hi
   .rw[HC (by simpa using hi)]at h2;rw[Ix]at h2;split at h2<;>cases h2
  have ha:vs[i]?=be v:=by
   unfold start at h2;rw[Hm (by simpa using hi),GU]at h2;cases e:vs[i]? with
   |none=>rw[e]at h2;cases h2
   |some a=>rw[e]at h2;cases h2;rfl
  let#[u,hu,rv]:=r.get ha;have hp:ps[i]?=be y:=by
   rw[<-S.pre,IY KZ];exact h1
  have Qf:ps.Nodup:=by rw[<-S.pre];exact S.nd.sublist (List.take_sublist _ _)
  refine#[u,rv,?_];rcases S.par y (HN hp)with k|k
  .exact .inl #[k,bindL_get Qf hp hu k]
  .let#[c,e]:=cell_has (n:=s.heap.objs.size+1) k;refine .inr #[.inl k,c,e,?_];have q:=x.cell y c e;rw[qr Qf hp hu (by show scope.names.lookup y≠_;rw[k];decide)]at q;exact q
 .exact e0.hok.fresh (HY (x.above y c (PySem.mem_of_lookup h)))
 .unfold start;show _=N.length;rw[GF,GB,IZ];lia
def xN{name qual:J7}{params:Arguments}{body:List TF}{dV kV doc pm cdv ct oc:KB}{an od:Option KF}
  {osl:Array (Option KB)}   (lk:K.lookup f=be #[oc,od,.func (fnOf name qual params body scope dV kV doc pm an cdv ct),osl]) (i8:codeIn K cdv qual=true) (S:FnScope N ps scope)
  (len:∀vs H Q E,sp vs H Q E->vs.length=ps.length)
  (a9:∀(A:TK) (outer:List Uw) (s:KM) (H:Hp) (vs:List V) (Q:VK) (E:XK),Room k (A.deeper (TY qual scope s.heap.objs.size f cdv))->sp vs H Q E->
   ∃t,PSs (cxOf CX P w K mg base N qual scope f cdv A outer s H E) body t/\t {nx:=λ_ H'=>Q .non H',rt:=Q} (start N vs) H):
  FnOk P w K mg base CX (k+1) f (fnOf name qual params body scope dV kV doc pm an cdv ct) ps sp:=by
 refine#[len,λA outer s H args us vs Q E hr e0 hb r y_=>?_];have hl:=len _ _ _ _ y_;have KX:K.In s.heap:=e0.mod.kin.keeps λb o e=>(e0.bs b o e).1;have Rh:s.heap.NoLimit:=e0.mod.nolimit.keeps λb o e=>(e0.bs b o e).1;have L4:∀y∈ps.zip us,scope.names.lookup y.1=be .local\/(scope.names.lookup y.1=be .cell/\((cellsFrom (s.heap.objs.size+1) scope.names []).lookup y.1).isSome=true):=λ⟨n,v⟩ hy=>by
  rcases S.par n (Iw hy).1 with q|q
  .exact .inl q
  .exact .inr #[q,cellsFrom_some _ _ _ (.inl q)]
 refine codeAny_call_function hr.depth (KX _ _ lk) rfl S.co S.gen rfl (codeRec_of KX i8) (hb _ _ _ _ ?_);refine wpAny_newFunctionEnv_cells S.kind L4 λenv he s1 x=>?_;subst he;refine#[Rh.keeps x.toInCall.keep,codeAny_func ?_];let#[t,ht,hq]:=a9 A outer s H vs Q E (hr.deeper _) y_;have I:Inv (cxOf CX P w K mg base N qual scope f cdv A outer s H E) [] (start N vs) H s1:=xM S hr.hd e0 hl r x;refine T1 (ht [] s1 (start N vs) H _ I hq) (λfl s' hs=>?_) λe s' hs=>hs;have c_:∀{σ':St} {H':Hp} {v:V} {u:KB},Inv (cxOf CX P w K mg base N qual scope f cdv A outer s H E) [] σ' H' s'->RelV v u->Q v H'->CE outer P w H s Q u s':=
  λ{σ' H' v u} J rv q=>#[v,H',J.os,J.bare,J.base,J.hok,rv,q]
 cases fl with
 |ret u=>
  let#[v,σ',H',J,rv,q]:=hs;exact c_ J rv q
 |next=>
  let#[σ',H',J,q]:=hs;exact c_ (v:=V.non) (u:=Value.none) J rfl q
 |brk=>
  let#[_,_,_,q]:=hs;exact False.elim q
 |cont=>
  let#[_,_,_,q]:=hs;exact False.elim q
section
variable {X:Cx}{x:J7}{p pos:TX}{e:SZ}{es:List SZ}{t:TA}{id T:String}{r:List V->Hp->VK->Prop}
def tCB(r:List V->Hp->VK->Prop)(t:TA):TE:=λσ H Q=>t σ H λvs H1=>r vs H1 Q
def dL(hc:bH X (.builtin id) r)(hg:Gl X x)(hm:X.mg x=x8)(hv:T3 x=be (.builtin id))(ha:PA X (e::es) t)(hn:(x≠"__name__")\zA1)(d9:zND x\zA1)
  (he:zSE X e es\zA0) (c9:zPL X pos es\zA0):PE X (.Call (.Name x p) (e::es) [] pos) (tCB r t):=by
 intro pins s σ H Q I h;refine TV (eN I hg hm hv ?_ hn d9);exact PyProof.Rows.callWith_builtin1 (thn (ha pos pins s σ H _ I h) λus s1 ⟨vs,H1,I1,r1,q1⟩=>hc pins s1 σ H1 vs us Q I1 r1 q1) he c9
def qt(hc:bH X (.type T) r)(hg:Gl X x)(hm:X.mg x=x8)(hv:T3 x=be (.type T))(ha:PA X (e::es) t)(hn:(x≠"__name__")\zA1)(d9:zND x\zA1)
  (he:zSE X e es\zA0) (c9:zPL X pos es\zA0):PE X (.Call (.Name x p) (e::es) [] pos) (tCB r t):=by
 intro pins s σ H Q I h;refine TV (eN I hg hm hv ?_ hn d9);exact PyProof.Rows.callWith_type1 (thn (ha pos pins s σ H _ I h) λus s1 ⟨vs,H1,I1,r1,q1⟩=>hc pins s1 σ H1 vs us Q I1 r1 q1) he c9
end
end L2
namespace HT
open PySem PyProof.Rows
section
variable {prog:SB}{w:TJ}{A:TK}{E:KB->KM->Prop}{s:KM}
variable{Q:KB->KM->Prop}
def cat_tup{t b:KF}{vs ws:List KB}(ht:IsTup s.heap t vs.toArray)(hb:IsTup s.heap b ws.toArray)(hv:vs≠[])
  (h1:ws=[]->Q (.ref t) s) (h2:ws≠[]->Q (.ref s.heap.objs.size) {s with heap:=s.heap.push {cls:=.type "tuple",data:=.seq (vs++ws).toArray} })
  (k_:vs.length+ws.length<=sizeLine):TC (SL prog w) A (T8 .Add (.ref t) (.ref b)) Q E s:=by
 let#[#[cls,dd,data,sl],ho,hc,n,hd]:=id ht;let#[#[Ri,Qg,data2,Qh],M_,Qi,n2,Lq]:=id hb;simp only at hc hd Qi Lq;subst hc hd Qi Lq;have e:vs.toArray++ws.toArray=(vs++ws).toArray:=K8
 by_cases hw:ws=[]
 .exact concat_meets #[_,ho,rfl] #[_,M_,rfl] noFill_tuple_add seq_tuple_add PySem.F.slot_tuple_add PySem.F.entry_tuple_add (PySem.F.args_tuple_add_2 _ _)
   (tuple_addW1 t b vs.toArray ws.toArray n n2 dd Qg sl Qh (by simpa using hv) (by simp[hw])) #[ho,M_,h1 hw]
 .refine concat_meets #[_,ho,rfl] #[_,M_,rfl] noFill_tuple_add seq_tuple_add PySem.F.slot_tuple_add PySem.F.entry_tuple_add (PySem.F.args_tuple_add_2 _ _)
   (tuple_addW2 t b vs.toArray ws.toArray n n2 dd Qg sl Qh (by simpa using hv) (by simpa using hw) (by rw[GC,GC];exact k_)) #[ho,M_,?_]
  rw[e];exact h2 hw
def sIx(n d:Nat):Option Int->Nat
 |none=>d
 |some v=>if v<0 then(v+(n:Int)).toNat else min v.toNat n
def sIx_none(n d:Nat):sIx n d x8=d:=rfl
def sIx_nat(n d k:Nat):sIx n d (be (k:Int))=min k n:=by
 show(if(k:Int)<0 then((k:Int)+(n:Int)).toNat else min (k:Int).toNat n)=min k n;rw[if_neg KZ,Hw]
def sIx_le(n d:Nat)(hd:d<=n)(o:Option Int):sIx n d o<=n:=by
 cases o with
 |none=>exact hd
 |some v=>
  show(if v<0 then(v+(n:Int)).toNat else min v.toNat n)<=n;by_cases hv:v<0
  .rw[if_pos hv];lia
  .rw[if_neg hv];exact Nat.min_le_right _ _
def qu(v:Int)(n d:Nat):(if v<0 then max (v+(n:Int)) 0 else min v (n:Int))=((sIx n d (be v):Nat):Int):=by
 show(if v<0 then max (v+(n:Int)) 0 else min v (n:Int))=(((if v<0 then(v+(n:Int)).toNat else min v.toNat n):Nat):Int);by_cases hv:v<0
 .simp only[if_pos hv];lia
 .simp only[if_neg hv];lia
def xO(lo hi:Option Int)(n:Nat):Builtin.Slice.sliceAdjust lo hi 1 (n:Int)=(((sIx n 0 lo:Nat):Int),((sIx n n hi:Nat):Int)):=by
 have h1:¬((1:Int)<0):=KZ
 unfold Builtin.Slice.sliceAdjust;simp only[h1,if_false];refine Prod.ext ?_ ?_
 .cases lo with
  |none=>rfl
  |some v=>exact qu v n 0
 .cases hi with
  |none=>rfl
  |some v=>exact qu v n n
def xP(i j:Nat):Builtin.Slice.slicePlaces (i:Int) (j:Int) 1=j-i:=by
 unfold Builtin.Slice.slicePlaces;have h1:(1:Int)>0:=KZ
 simp only[h1,if_true,Int.ediv_one];split<;>lia
def qv{v:KB}{o:Option Int}{Q:Option Int->KM->Prop}(p:UY v o)(h:Q o s):TC (SL prog w) A (Builtin.Slice.slicePartIndex v) Q E s:=by
 cases p with
 |none=>exact slicePart_none h
 |int i t=>exact slicePart_int h
variable{lo hi:Option Int}
def xQ{sl:KF}{vl vu:KB}{n:Nat}{Q:Int×Int×Nat->KM->Prop}(hs:s.heap.IsSliceOf sl vl vu .none)(pl:UY vl lo)(pu:UY vu hi)
  (h:Q (((sIx n 0 lo:Nat):Int),1,sIx n n hi-sIx n 0 lo) s):TC (SL prog w) A (Builtin.Slice.sliceApplied (.ref sl) (pure (n:Int))) Q E s:=by
 let#[os,K0,Qj,Na]:=id hs;unfold Builtin.Slice.sliceApplied Builtin.Slice.sliceFields;refine Os (Os (Up K0 Na (x:=vl) rfl (Os (Up K0 Na (x:=vu) rfl (Os (Up K0 Na (x:=.none) rfl (P3 ?_)))))));refine Os (slicePart_none ?_);show TC _ _ (if((1:Int)==0)=true then _ else _) _ _ s;rw[if_neg K3];refine Os (qv pl (Os (qv pu (Os (P3 ?_)))));show TC _ _ (match Builtin.Slice.sliceAdjust lo hi 1 (n:Int)with|(lo,hi)=>pure (lo,(1:Int),Builtin.Slice.slicePlaces lo hi 1)) _ _ s;rw[xO lo hi n];show TC _ _ (pure (((sIx n 0 lo:Nat):Int),(1:Int),Builtin.Slice.slicePlaces ((sIx n 0 lo:Nat):Int) ((sIx n n hi:Nat):Int) 1)) _ _ s;rw[xP];exact P3 h
def xR(xs:Array KB)(i k:Nat):((GQ k).filterMap λ(m:Nat)=>xs[((i:Int)+(m:Int)*1).toNat]?).toArray=((xs.toList.drop i).take k).toArray:=by
 have e:(λ(m:Nat)=>xs[((i:Int)+(m:Int)*1).toNat]?)=λm=>xs[i+m]?:=by
  funext m;have:((i:Int)+(m:Int)*1).toNat=i+m:=KZ
  rw[this]
 rw[e];have:=pick_run xs i k;rw[Ja]at this;have e2:((λx=>xs[x]?) ∘ λx=>i+x)=λm=>xs[i+m]?:=rfl;rw[e2]at this;rw[this]
def getItem_tuple_cut{t sl:KF}{items:Array KB}{vl vu:KB}(ht:IsTup s.heap t items)(hs:s.heap.IsSliceOf sl vl vu .none)(pl:UY vl lo)(pu:UY vu hi)
  (hw:¬(sIx items.size 0 lo=0/\sIx items.size items.size hi=items.size))
  (h:Q (.ref s.heap.objs.size) {s with heap:=s.heap.push {cls:=.type "tuple",data:=.seq ((items.toList.drop (sIx items.size 0 lo)).take (sIx items.size items.size hi-sIx items.size 0 lo)).toArray} })
  (k_:items.size<=sizeLine):TC (SL prog w) A (U1 (.ref t) (.ref sl)) Q E s:=by
 have k6:sizeOk (.seq ((items.toList.drop (sIx items.size 0 lo)).take (sIx items.size items.size hi-sIx items.size 0 lo)).toArray):=by
  show((items.toList.drop (sIx items.size 0 lo)).take (sIx items.size items.size hi-sIx items.size 0 lo)).toArray.size<=sizeLine;rw[GC,Hl,HD,Iu];lia
 have hj:sIx items.size items.size hi<=items.size:=sIx_le _ _ (Gv _) hi;let#[os,K0,Qj,Na]:=id hs;have Rj:s.TypeIs (.ref sl) "slice":=#[os,K0,Qj];unfold U1
 try with_reducible refine Ul ?_
 first|refine Os (P3 ?_)|skip
 refine Os (wpAny_sequenceKey ht.typeIs K3 ?_);refine Os (wpAny_callSpecial?_slot (name:=Str.ofString "__getitem__") ht.typeIs PyProof.Rows.slot_tuple_getitem
  (wpAny_call_entry PyProof.Rows.slot_tuple_getitem ht.typeIs entry_tuple_getitem ?_ (args_tuple_getitem _ _)))
 show TC _ _ (Builtin.Tuple.tupleItemsOf (.ref t)>>=_) _ _ s;refine Os (tupleItemsOf_ ht ?_);refine Os (wpAny_typeOf Rj ?_);rw[if_pos K3];refine Os (xQ hs pl pu ?_);have f7:¬((((sIx items.size 0 lo:Nat):Int)==0&&(1:Int)==1&&(sIx items.size items.size hi-sIx items.size 0 lo)==items.size)=true):=by
  intro q;rw[GY,GY]at q;have q1:((sIx items.size 0 lo:Nat):Int)=0:=eq_of_beq q.1.1;have q2:sIx items.size items.size hi-sIx items.size 0 lo=items.size:=eq_of_beq q.2;exact hw #[KZ,KZ]
 show TC _ _ (if(((sIx items.size 0 lo:Nat):Int)==0&&(1:Int)==1&&(sIx items.size items.size hi-sIx items.size 0 lo)==items.size)=true then _ else _) _ _ s;rw[if_neg f7,xR]
 first
  |exact Os (m:=Builtin.Tuple.tupleExact _) (TZ (P3 ⟨_,rfl,P3 h⟩) k6)
  |exact Os (m:=Builtin.Tuple.tupleExact _) (TZ (Os (P3 (P3 ⟨_,rfl,P3 h⟩))) k6)
  |exact Os (Os (m:=Builtin.Tuple.tupleExact _) (TZ (P3 (P3 ⟨_,rfl,P3 h⟩)) k6))
  |exact Os (Os (m:=Builtin.Tuple.tupleExact _) (TZ (P3 ⟨_,rfl,P3 h⟩) k6))
end
end HT
namespace L2
open PySem PySem.Spec PyProof.Rows
abbrev TO:=St->Hp->(Option Int->Hp->Prop)->Prop
def PO(X:Cx)(e:Option SZ)(t:TO):Prop:=
 ∀(pins:List (KF×T5)) (s:KM) (σ:St) (H:Hp) (Q:Option Int->Hp->Prop),Inv X pins σ H s->t σ H Q->
  TC (SL X.prog X.w) X.A (evalPart e X.env) (λu s'=>∃o H',Inv X pins σ H' s'/\UY u o/\Q o H') X.xe s
def xS:TO:=λ_ H Q=>Q x8 H
def xT(t:TE):TO:=λσ H Q=>t σ H λx H1=>∃i,x=.int i/\Q (be i) H1
section
variable {X:Cx}{e:SZ}{te:TE}{lo hi:Option SZ}{tl th:TO}{pos p2:TX}
def jz:PO X x8 xS:=by
 intro pins s σ H Q I h;rw[evalPart_none];exact P3 #[x8,H,I,.none,h]
def jA(h:PE X e te):PO X (be e) (xT te):=by
 intro pins s σ H Q I hw;rw[evalPart_some];refine thn (h pins s σ H _ I hw) λu s1 c7=>?_;let#[x,H1,I1,r1,q1]:=c7;let#[i,rfl,q]:=q1;let#[t,rfl]:=r1;exact#[be i,H1,I1,.int i t,q]
def SlR(X:Cx)(r:V->Option Int->Option Int->Hp->VK->Prop):Prop:=
 ∀(pins:List (KF×T5)) (s:KM) (σ:St) (H:Hp) (x:V) (v vl vu:KB) (lo hi:Option Int) (sl:KF) (Q:VK),Inv X pins σ H s->RelV x v->s.heap.IsSliceOf sl vl vu .none->UY vl lo->UY vu hi->r x lo hi H Q->
  ∃T id,typeLookup (.type T) "__getitem__"=pure (be (.builtin id))/\s.TypeIs v T/\TC (SL X.prog X.w) X.A (U1 v (.ref sl)) (EP X pins σ Q) X.xe s
variable{r:V->Option Int->Option Int->Hp->VK->Prop}
def SlR.or{r':V->Option Int->Option Int->Hp->VK->Prop}(h:SlR X r)(h':SlR X r'):SlR X (λx lo hi H Q=>r x lo hi H Q\/r' x lo hi H Q):=by
 intro pins s σ H x v vl vu lo hi sl Q I rx hs pl pu q;rcases q with q|q
 .exact h pins s σ H x v vl vu lo hi sl Q I rx hs pl pu q
 .exact h' pins s σ H x v vl vu lo hi sl Q I rx hs pl pu q
def tSl(r:V->Option Int->Option Int->Hp->VK->Prop)(te:TE)(tl th:TO):TE:=λσ H Q=>te σ H λx H1=>tl σ H1 λl H2=>th σ H2 λu H3=>r x l u H3 Q
def gI(hr:SlR X r)(he:PE X e te)(hl:PO X lo tl)(hu:PO X hi th):PE X (.Subscript e (.Slice lo hi x8 p2) pos) (tSl r te tl th):=by
 intro pins s σ H Q I h;refine Subscript_ (thn (he pins s σ H _ I h) λv s1 c7=>?_);let#[x,H1,I1,r1,q1]:=c7;refine wpAny_Slice (thn (hl pins s1 σ H1 _ I1 q1) λvl s2 ⟨l,H2,I2,pl,q2⟩=>thn (hu pins s2 σ H2 _ I2 q2) λvu s3 c7=>?_);let#[u,H3,I3,pu,q3]:=c7;rw[evalPart_none];refine P3 ?_;have I4:Inv X pins σ H3 {s3 with heap:=s3.heap.push {cls:=.type "slice",data:=.fields [vl,vu,.none].toArray} }:=I3.kept (t':=s3.toks) λb ob q=>Heap.get?_push_of_some _ q;let#[T,id,hT,ht,hg]:=hr pins {s3 with heap:=s3.heap.push {cls:=.type "slice",data:=.fields [vl,vu,.none].toArray} } σ H3 x v vl vu l u s3.heap.objs.size Q I4 r1 (Heap.IsSliceOf.new ..) pl pu q3;show TC (SL X.prog X.w) X.A (subscriptTail e (.Slice lo hi x8 p2) v (.ref s3.heap.objs.size)) (EP X pins σ Q) X.xe {s3 with heap:=s3.heap.push {cls:=.type "slice",data:=.fields [vl,vu,.none].toArray} };exact tail_any (ops:=[.ref s3.heap.objs.size,v]) ht hT hg (by with_unfolding_all rfl)
def cutV(xs:List V)(lo hi:Option Int):List V:=(xs.drop (HT.sIx xs.length 0 lo)).take (HT.sIx xs.length xs.length hi-HT.sIx xs.length 0 lo)
def qw(xs:List V)(lo hi:Option Int):(cutV xs lo hi).length<=xs.length:=by
 unfold cutV;rw[Hl,HD];lia
def rSlT(K:Ex):V->Option Int->Option Int->Hp->VK->Prop:=λx lo hi H Q=>∃a xs,x=.ref a/\SqT K H a xs/\
 ¬(HT.sIx xs.length 0 lo=0/\HT.sIx xs.length xs.length hi=xs.length)/\∀p,H p=x8->Q (.ref p) (upd H p (.tup (cutV xs lo hi)))
def qy:SlR X (rSlT X.K):=by
 intro pins s σ H x v vl vu lo hi sl Q I rx hs pl pu h;let#[a,xs,rfl,hx,hw,q]:=h;cases rx;let#[its,r,ht,hz]:=I.tuple hx;have b9:its.toArray.size=xs.length:=by rw[GC];exact r.length.symm
 refine#["tuple",_,PyProof.Rows.slot_tuple_getitem.lookup,ht.typeIs,?_];refine HT.getItem_tuple_cut ht hs pl pu (by rw[b9];exact hw) ?_ (by rw[b9];exact hz);rw[b9];refine#[.ref s.heap.objs.size,_,I.laid (t':=s.toks) (o:=.tup (cutV xs lo hi)) (λb ob q=>Heap.get?_push_of_some _ q) (Gv _) ?_,rfl,q _ (I.hok.fresh (Gv _))];exact#[GD (qw xs lo hi) hz,_,(r.drop (HT.sIx xs.length 0 lo)).take (HT.sIx xs.length xs.length hi-HT.sIx xs.length 0 lo),IsTup.new _ _]
def qz(K:Ex):R2:=λx y H Q=>∃a b xs ys,x=.ref a/\y=.ref b/\SqT K H a xs/\SqT K H b ys/\xs≠[]/\xs.length+ys.length<=sizeLine/\
 (ys=[]->Q (.ref a) H)/\(ys≠[]->∀p,H p=x8->Q (.ref p) (upd H p (.tup (xs++ys))))
def Vals.nil_iff{xs:List V}{us:List KB}(r:Vals xs us):us=[]↔xs=[]:=by
 cases r with
 |nil=>simp
 |cons _ _=>simp
def xU:OpR X (T8 .Add) (qz X.K):=by
 intro pins s σ H x y v u Q I rx ry h;let#[a,b,xs,ys,rfl,rfl,ha,hb,hx,hz,q1,q2]:=h;cases rx;cases ry;let#[its,r1,p1,_]:=I.tuple ha;let#[h_,r2,p2,_]:=I.tuple hb;refine HT.cat_tup p1 p2 (λz=>hx (r1.nil_iff.mp z)) (λz=>#[.ref a,H,I,rfl,q1 (r2.nil_iff.mp z)]) (λz=>?_) (by rw[<-r1.length,<-r2.length];exact hz);refine#[.ref s.heap.objs.size,_,I.laid (t':=s.toks) (o:=.tup (xs++ys)) (λb ob q=>Heap.get?_push_of_some _ q) (Gv _) ?_,rfl,q2 (λw=>z (r2.nil_iff.mpr w)) _ (I.hok.fresh (Gv _))];exact#[by rw[GF];exact hz,_,r1.append r2,IsTup.new _ _]
end
def ixN(n:Nat)(i:Int):Option Nat:=if 0<=i then(if i<n then be i.toNat else x8)else if -(n:Int)<=i then be (i+n).toNat else x8
def atI{α:Type}(xs:List α)(i:Int):Option α:=(ixN xs.length i).bind λj=>xs[j]?
def qA{n:Nat}{i:Int}{j:Nat}(h:ixN n i=be j):seqIndex? i n=be j/\j<n/\-(n:Int)<=i/\i<n:=by
 unfold ixN at h;by_cases h0:0<=i
 .rw[if_pos h0]at h;by_cases h1:i<n
  .rw[if_pos h1]at h;have e:i.toNat=j:=Option.some.inj h;exact#[by rw[Vo h0 h1,e],KZ,KZ,h1]
  .rw[if_neg h1]at h;cases h
 .rw[if_neg h0]at h;by_cases h1:-(n:Int)<=i
  .rw[if_pos h1]at h;have e:(i+n).toNat=j:=Option.some.inj h;exact#[by rw[Ve KZ h1,e],KZ,h1,KZ]
  .rw[if_neg h1]at h;cases h
def atI_get{α:Type}{xs:List α}{i:Int}{v:α}(h:atI xs i=be v):∃j,seqIndex? i xs.length=be j/\xs[j]?=be v/\j<xs.length/\-(xs.length:Int)<=i/\i<xs.length:=by
 unfold atI at h;cases e:ixN xs.length i with
 |none=>rw[e]at h;cases h
 |some j=>
  rw[e]at h;let#[h1,h2,h3,h4]:=qA e;exact#[j,h1,h,h2,h3,h4]
def dm{α:Type}{xs:List α}{j:Nat}{v:α}(h:xs[j]?=be v):atI xs (j:Int)=be v:=by
 have hj:j<xs.length:=(GO.mp h).1;have e:ixN xs.length (j:Int)=be j:=by
  unfold ixN;rw[if_pos KZ,if_pos KZ];simp
 unfold atI;rw[e];exact h
def fN(b:SZ):Prop:=∀o i,subscripted b false o i=operate [o,i] (U1 o i)
def IxR(X:Cx)(r:R2):Prop:=
 ∀(value slice:SZ) (pins:List (KF×T5)) (s:KM) (σ:St) (H:Hp) (x y:V) (v u:KB) (Q:VK),Inv X pins σ H s->RelV x v->RelV y u->r x y H Q->
  subscripted slice false v u=operate [v,u] (U1 v u)->TC (SL X.prog X.w) X.A (subscriptTail value slice v u) (EP X pins σ Q) X.xe s
def MtR(X:Cx)(id:String)(r:V->List V->Hp->VK->Prop):Prop:=
 ∀(pins:List (KF×T5)) (s:KM) (σ:St) (H:Hp) (x:V) (xs:List V) (v:KB) (us:List KB) (Q:VK),Inv X pins σ H s->RelV x v->Vals xs us->r x xs H Q->
  TC (SL X.prog X.w) X.A (call (.builtin id) (v::us)) (EP X pins σ Q) X.xe s
section
variable {X:Cx}{a b:SZ}{ta tb:TE}{pos:TX}
def IxR.or{r r':R2}(h:IxR X r)(h':IxR X r'):IxR X (λx y H Q=>r x y H Q\/r' x y H Q):=by
 intro value slice pins s σ H x y v u Q I rx ry q hs;rcases q with q|q
 .exact h value slice pins s σ H x y v u Q I rx ry q hs
 .exact h' value slice pins s σ H x y v u Q I rx ry q hs
def pe_ix{r:R2}(hr:IxR X r)(ha:PE X a ta)(hb:PE X b tb)(hs:fN b):PE X (.Subscript a b pos) (tOp r ta tb):=by
 intro pins s σ H Q I h;exact Subscript_ (binT ha hb I h λv u s2 x y H2 I2 rx ry q=>hr a b pins s2 σ H2 x y v u Q I2 rx ry q (hs _ _))
def rIxL(K:Ex):R2:=λx y H Q=>∃p xs i v,x=.ref p/\y=.int i/\SqL K H p xs/\atI xs i=be v/\Q v H
def rIxT(K:Ex):R2:=λx y H Q=>∃p xs i v,x=.ref p/\y=.int i/\SqT K H p xs/\atI xs i=be v/\Q v H
def rIxS:R2:=λx y H Q=>∃z i c,x=.str z/\y=.int i/\z.length<=sizeLine/\atI z.cps.toList i=be c/\Q (.str #[[c].toArray]) H
def ix_list:IxR X (rIxL X.K):=by
 intro value slice pins s σ H x y v u Q I rx ry h hs;let#[p,xs,i,z,rfl,rfl,hq,he,q]:=h;cases rx;let#[t,rfl]:=ry;let#[its,r,pl,hz]:=I.list hq;let#[j,h1,h2,h3,h4,h5]:=atI_get he;let#[w,ew,j_]:=r.get h2;have hl:=r.length;have hn:=line63;have c_:EP X pins σ Q w s:=#[z,H,I,j_,q];by_cases h0:0<=i
 .have hj:i.toNat=j:=by
   rw[Vo h0 h5]at h1;exact Option.some.inj h1
  exact item_listR pl.isList h0 KZ (by rw[hj];simpa using ew) c_ hs
 .have hj:(i+(its.toArray.size:Int)).toNat=j:=by
   rw[Ve KZ h4]at h1;rw[GC,<-hl];exact Option.some.inj h1
  exact Vd (x:=w) pl.isList.typeIs slot_list_getitem.lookup
   (wpAny_getItem_list_neg (Q:=λr s'=>r=w/\EP X pins σ Q r s') pl.isList KZ (by rw[GC]<;>lia) KZ (by rw[hj];simpa using ew) #[rfl,c_]) hs
def ix_tup:IxR X (rIxT X.K):=by
 intro value slice pins s σ H x y v u Q I rx ry h hs;let#[p,xs,i,z,rfl,rfl,hq,he,q]:=h;cases rx;let#[t,rfl]:=ry;let#[its,r,pl,hz]:=I.tuple hq;let#[j,h1,h2,h3,h4,h5]:=atI_get he;let#[w,ew,j_]:=r.get h2;have hl:=r.length;have hn:=line63;have c_:EP X pins σ Q w s:=#[z,H,I,j_,q];exact Vd (x:=w) pl.typeIs slot_tuple_getitem.lookup
  (getItem_tuple (j:=j) (Q:=λr s'=>r=w/\EP X pins σ Q r s') pl KZ KZ (by rw[GC,<-hl];exact h1) (by simpa using ew) #[rfl,c_]) hs
def xV:IxR X rIxS:=by
 intro value slice pins s σ H x y v u Q I rx ry h hs;let#[z,i,c,rfl,rfl,hz,he,q]:=h;let#[t,rfl]:=rx;let#[t',rfl]:=ry;let#[j,h1,h2,h3,h4,h5]:=atI_get he;have hl:z.cps.toList.length=z.length:=by simp[Str.length]
 rw[hl]at h1 h4 h5;have hn:=line63;exact tail_any (U4 s z t) slot_str_getitem.lookup (getItem_str (c:=c) (by
  have e1:decide (i< -(2^63:Int))=false:=decide_eq_false KZ;have e2:decide (i>=2^63)=false:=decide_eq_false KZ;rw[e1,e2,Bool.or_false]) (by rw[h1];simpa using h2) #[.str #[[c].toArray],H,I.tok _,#[_,rfl],q]) hs
def rIx(K:Ex):R2:=λx y H Q=>rIxL K x y H Q\/rIxT K x y H Q\/rIxS x y H Q
def qB:IxR X (rIx X.K):=ix_list.or (ix_tup.or xV)
def xW(its:List KB)(n j:Nat)(u:KB):Obj.mapSeq (·.setIfInBounds j u) {cls:=.type "list",data:=.seq its.toArray n}={cls:=.type "list",data:=.seq (its.set j u).toArray n}:=by
 simp[Obj.mapSeq]
def Inv.lst{pins:List (KF×T5)}{σ:St}{H:Hp}{s:KM}{p:KF}{xs:List V}(I:Inv X pins σ H s)(h:H p=be (.lst xs)):
  ∃(its:List KB) (n:Nat),Vals xs its/\s.heap.get? p=be {cls:=.type "list",data:=.seq its.toArray n}/\xs.length<=sizeLine:=by
 let#[z,its,n,r,e]:=I.hok p _ h;exact#[its,n,r,e,z]
variable{pins:List (KF×T5)}{s:KM}
def Inv.lstUpd{σ:St}{H:Hp}{p:KF}{xs ys:List V}{its its':List KB}{n n':Nat}{f:T5->T5}(I:Inv X pins σ H s)(h:H p=be (.lst xs))
  (ho:s.heap.get? p=be {cls:=.type "list",data:=.seq its.toArray n}) (hf:f {cls:=.type "list",data:=.seq its.toArray n}={cls:=.type "list",data:=.seq its'.toArray n'}) (r:Vals ys its') (hz:ys.length<=sizeLine) (t:Nat):
  Inv X pins σ (upd H p (.lst ys)) {s with heap:=s.heap.update p f,toks:=t}:=by
 have e:(s.heap.update p f).get? p=be {cls:=.type "list",data:=.seq its'.toArray n'}:=by
  rw[Heap.get?_update_self f ho (by rw[hf]<;>rfl),hf]
 refine I.write (x:=p) (e:=p) (by rw[h];trivial) (.inl rfl) (λb u hb q=>(Heap.get?_update_other _ _ (Ne.symm hb)).trans q) #[_,e] ?_;exact#[hz,its',n',r,e]
def xX:V->V->V->Hp->(Hp->Prop)->Prop:=λo i v H Q=>∃p xs k j,o=.ref p/\i=.int k/\H p=be (.lst xs)/\ixN xs.length k=be j/\Q (upd H p (.lst (xs.set j v)))
def xY:PSet X xX:=by
 intro pins s σ H o i v ov iv u Q I ro ri rv h;let#[p,xs,k,j,rfl,rfl,hp,hj,q]:=h;cases ro;let#[t,rfl]:=ri;let#[its,n,r,ho,hz]:=I.lst hp;let#[h1,h2,h3,h4]:=qA hj;have hl:=r.length;have hn:=line63;have I':Inv X pins σ (upd H p (.lst (xs.set j v))) {s with heap:=s.heap.update p (Obj.mapSeq (·.setIfInBounds j u))}:=
  I.lstUpd hp ho (xW its n j u) (r.set rv j) (by rw[Hc];exact hz) s.toks
 by_cases h0:0<=k
 .have hk:k.toNat=j:=by
   rw[Vo h0 h4]at h1;exact Option.some.inj h1
  exact ki_setAt ho h0 KZ (by rw[GC,<-hl];exact h4) (by rw[hk];exact#[_,I',q])
 .have hk:(k+(its.toArray.size:Int)).toNat=j:=by
   rw[Ve KZ h3]at h1;rw[GC,<-hl];exact Option.some.inj h1
  exact ki_setBack ho KZ (by rw[GC,<-hl];exact h3) KZ (by rw[hk];exact#[_,I',q])
def xZ(lo hi:Option Int)(n:Nat):(Uq lo hi x8 n).1=((HT.sIx n 0 lo:Nat):Int)/\(Uq lo hi x8 n).2.1=((HT.sIx n n hi:Nat):Int)/\(Uq lo hi x8 n).2.2=1:=by
 refine#[?_,?_,rfl]
 .cases lo with
  |none=>simp[Uq,HT.sIx]
  |some i=>
   simp only[Uq,HT.sIx,Jb,show(1:Int)>0 by decide,if_true];by_cases h:i<0
   .simp only[h,if_true]<;>lia
   .simp only[h,if_false]<;>lia
 .cases hi with
  |none=>simp[Uq,HT.sIx]
  |some i=>
   simp only[Uq,HT.sIx,Jb,show(1:Int)>0 by decide,if_true];by_cases h:i<0
   .simp only[h,if_true]<;>lia
   .simp only[h,if_false]<;>lia
def ya(its:List KB)(lo hi:Option Int):slicePick its.toArray lo hi x8=((its.drop (HT.sIx its.length 0 lo)).take (HT.sIx its.length its.length hi-HT.sIx its.length 0 lo)).toArray:=by
 let#[h1,h2,h3]:=xZ lo hi its.toArray.size;unfold slicePick;rw[h1,h2,h3];simp only[sliceRange_one,pick_run,GC]<;>rfl
def rSlL(K:Ex):V->Option Int->Option Int->Hp->VK->Prop:=λx lo hi H Q=>∃a xs,x=.ref a/\SqL K H a xs/\∀p,H p=x8->Q (.ref p) (upd H p (.lst (cutV xs lo hi)))
def gJ:SlR X (rSlL X.K):=by
 intro pins s σ H x v vl vu lo hi sl Q I rx hs pl pu h;let#[a,xs,rfl,hx,q]:=h;cases rx;let#[its,r,ht,hz]:=I.list hx;have b9:=r.length;refine#["list",_,slot_list_getitem.lookup,ht.isList.typeIs,?_];refine wpAny_getItem_list_slice ht.isList hs pl pu .none K8 ?_ (by rw[GC]<;>lia);rw[ya,<-b9];refine#[.ref s.heap.objs.size,_,I.laid (t':=s.toks) (o:=.lst (cutV xs lo hi)) (λb ob q=>Heap.get?_push_of_some _ q) (Gv _) ?_,rfl,q _ (I.hok.fresh (Gv _))];exact#[GD (qw xs lo hi) hz,_,0,(r.drop (HT.sIx xs.length 0 lo)).take (HT.sIx xs.length xs.length hi-HT.sIx xs.length 0 lo),Heap.get?_push_size _ rfl]
def bz:V->Bool
 |.non=>true
 |.bl _=>true
 |.int _=>true
 |.str _=>true
 |_=>false
def eqV:V->V->Bool
 |.non,.non=>true
 |.bl a,.bl b=>a==b
 |.bl a,.int b=>(if a then 1 else 0)==b
 |.int a,.bl b=>a==(if b then 1 else 0)
 |.int a,.int b=>a==b
 |.str a,.str b=>a==b
 |_,_=>false
variable{x:V}
def eqAt_V{A:TK}{y:V}{u v:KB}(ry:RelV y u)(rx:RelV x v)(fy:bz y=true)(fx:bz x=true):SeqAt.EqAt A s u v (eqV y x):=by
 cases y with
 |non=>
  cases ry;cases x with
  |non=>cases rx;exact SeqAt.EqAt.same _
  |bl b=>cases rx;exact SeqAt.EqAt.none_bool b
  |int b=>let#[t,rfl]:=rx;exact SeqAt.EqAt.none_int b t
  |str b=>let#[t,rfl]:=rx;exact SeqAt.EqAt.none_str b t
  |_=>exact absurd (show false=true from fx) GJ
 |bl a=>
  cases ry;cases x with
  |non=>cases rx;exact SeqAt.EqAt.bool_none a
  |bl b=>cases rx;exact SeqAt.EqAt.bool_bool a b
  |int b=>let#[t,rfl]:=rx;exact SeqAt.EqAt.bool_int a b t
  |str b=>let#[t,rfl]:=rx;exact SeqAt.EqAt.bool_str a b t
  |_=>exact absurd (show false=true from fx) GJ
 |int a=>
  let#[t',rfl]:=ry;cases x with
  |non=>cases rx;exact SeqAt.EqAt.int_none a t'
  |bl b=>cases rx;exact SeqAt.EqAt.int_bool a t' b
  |int b=>let#[t,rfl]:=rx;exact SeqAt.EqAt.int_int a t' b t
  |str b=>let#[t,rfl]:=rx;exact SeqAt.EqAt.int_str a t' b t
  |_=>exact absurd (show false=true from fx) GJ
 |str a=>
  let#[t',rfl]:=ry;cases x with
  |non=>cases rx;exact SeqAt.EqAt.str_none a t'
  |bl b=>cases rx;exact SeqAt.EqAt.str_bool a t' b
  |int b=>let#[t,rfl]:=rx;exact SeqAt.EqAt.str_int a t' b t
  |str b=>let#[t,rfl]:=rx;exact SeqAt.EqAt.str_str a t' b t
  |_=>exact absurd (show false=true from fx) GJ
 |_=>exact absurd (show false=true from fy) GJ
def eqU(x:V)(u:KB):Bool:=match u with
 |.none=>eqV .non x
 |.bool b=>eqV (.bl b) x
 |.int i _=>eqV (.int i) x
 |.str z _=>eqV (.str z) x
 |_=>false
def jB{y:V}{u:KB}(r:RelV y u)(f:bz y=true):eqU x u=eqV y x:=by
 cases y with
 |non=>cases r;rfl
 |bl b=>cases r;rfl
 |int i=>let#[t,rfl]:=r;rfl
 |str z=>let#[t,rfl]:=r;rfl
 |_=>exact absurd (show false=true from f) GJ
def fO{x:V}:∀{xs:List V} {us:List KB},Vals xs us->xs.all bz=true->us.any (eqU x)=xs.any λy=>eqV y x
 |_,_,.nil,_=>rfl
 |y::xs,u::us,.cons r t,f=>by
  rw[Hd,GY]at f;rw[HE,HE,jB r f.1,fO t f.2]
def mem_eqAt{A:TK}{s:KM}{x:V}{v:KB}(rx:RelV x v)(fx:bz x=true):∀{xs:List V} {us:List KB},Vals xs us->xs.all bz=true->∀u∈us,SeqAt.EqAt A s u v (eqU x u)
 |_,_,.nil,_=>λu hu=>by cases hu
 |y::xs,u::us,.cons r t,f=>λu' hu=>by
  rw[Hd,GY]at f;rcases GA.mp hu with rfl|hu
  .rw[jB r f.1];exact eqAt_V r rx f.1 fx
  .exact mem_eqAt rx fx t f.2 u' hu
def inV(x:V)(xs:List V):Bool:=xs.any λy=>eqV y x
def rIn(K:Ex)(neg:Bool):R2:=λx y H Q=>∃p xs,y=.ref p/\(SqL K H p xs\/SqT K H p xs)/\bz x=true/\xs.all bz=true/\Q (.bl (if neg then !inV x xs else inV x xs)) H
def yb:OpR X (TU .In) (rIn X.K false):=by
 intro pins s σ H x y v u Q I rx ry h;let#[p,xs,rfl,hq,fx,fs,q]:=h;cases ry;rcases hq with hq|hq
 .let#[its,r,pl,hz]:=I.list hq;refine SeqAt.in_listAt (eqU x) pl.isList (λw hw=>mem_eqAt rx fx r fs w (by simpa using hw)) #[.bl _,H,I,rfl,?_];rw[show its.toArray.any (eqU x)=its.any (eqU x)by simp,fO r fs];exact q
 .let#[its,r,pl,hz]:=I.tuple hq;refine SeqAt.in_tupleAt (eqU x) pl (λw hw=>mem_eqAt rx fx r fs w (by simpa using hw)) #[.bl _,H,I,rfl,?_];rw[show its.toArray.any (eqU x)=its.any (eqU x)by simp,fO r fs];exact q
def yc:OpR X (TU .NotIn) (rIn X.K true):=by
 intro pins s σ H x y v u Q I rx ry h;let#[p,xs,rfl,hq,fx,fs,q]:=h;cases ry;rcases hq with hq|hq
 .let#[its,r,pl,hz]:=I.list hq;refine SeqAt.notIn_listAt (eqU x) pl.isList (λw hw=>mem_eqAt rx fx r fs w (by simpa using hw)) #[.bl _,H,I,rfl,?_];rw[show its.toArray.any (eqU x)=its.any (eqU x)by simp,fO r fs];exact q
 .let#[its,r,pl,hz]:=I.tuple hq;refine SeqAt.notIn_tupleAt (eqU x) pl (λw hw=>mem_eqAt rx fx r fs w (by simpa using hw)) #[.bl _,H,I,rfl,?_];rw[show its.toArray.any (eqU x)=its.any (eqU x)by simp,fO r fs];exact q
def yd:OpR X (TU .NotIn) (λx y H Q=>∃i j,x=.str i/\y=.str j/\Q (.bl (!(!(Builtin.Str.occurrences j i 0 j.length 1).isEmpty))) H):=by
 intro pins s σ H x y v u Q I rx ry h;let#[i,j,rfl,rfl,q]:=h;let#[t,rfl]:=rx;let#[t',rfl]:=ry;exact notIn_str #[.bl _,H,I,rfl,q]
def ye:bH X (.type "list") (λxs H Q=>∃p ys,xs=[.ref p]/\(SqL X.K H p ys\/SqT X.K H p ys)/\∀l,H l=x8->Q (.ref l) (upd H l (.lst ys))):=by
 intro pins s σ H xs us Q I r h;let#[p,ys,rfl,hq,q]:=h;let#[u,rfl,rx]:=vals1 r;cases rx;have c_:∀(its:List KB),Vals ys its->ys.length<=sizeLine->∀(h':Heap) (c':Nat),(∀b o',s.heap.get? b=be o'->h'.get? b=be o')->
   h'.get? s.heap.objs.size=be {cls:=.type "list",dict:=x8,data:=.seq its.toArray c',slots:=[].toArray}->EP X pins σ Q (.ref s.heap.objs.size) {s with heap:=h'}:=λits r' hz h' c' kp e=>
  #[.ref s.heap.objs.size,_,I.laid (t':=s.toks) kp (Gv _) (show ObjOk X.prog X.w _ h' _ (.lst ys)from#[hz,its,c',r',e]),rfl,q _ (I.hok.fresh (Gv _))]
 rcases hq with hq|hq
 .let#[its,r',pl,hz]:=I.list hq;have b9:=r'.length;let#[o,ho,hc,n,hd]:=pl.isList;exact call_list_seq p (.inl rfl) ho hc hd (λh' c' kp e=>c_ its r' hz h' c' kp e) (by simp only[GC]<;>lia)
 .let#[its,r',pl,hz]:=I.tuple hq;have b9:=r'.length;let#[o,ho,hc,n,hd]:=pl;exact call_list_seq p (.inr rfl) ho hc hd (λh' c' kp e=>c_ its r' hz h' c' kp e) (by simp only[GC]<;>lia)
def tyV(K:Ex)(T:String)(x:V)(H:Hp):Prop:=match x with
 |.str _=>T="str"
 |.int _=>T="int"
 | .ref p=>(T="list"/\∃xs,SqL K H p xs)\/(T="tuple"/\∃o,K.lookup p=be o/\o.cls=.type "tuple"/\o.dict=x8)\/
   (T="dict"/\((∃a_,H p=be (.dK a_))\/∃a_,H p=be (.dT a_)))\/(T="set"/\∃S n,H p=be (.set S n))
 |_=>False
def qC{σ:St}{H:Hp}{T:String}{v:KB}(I:Inv X pins σ H s)(r:RelV x v)(ty:tyV X.K T x H):
  s.TypeIs v T/\∀a,v=.ref a->∃ob,s.heap.get? a=be ob/\ob.dict=none:=by
 cases x with
 |str z=>
  let#[t,rfl]:=r;cases(show T="str" from ty);exact#[U4 s z t,λ_ e=>nomatch e]
 |int i=>
  let#[t,rfl]:=r;cases(show T="int" from ty);exact#[Vx s i t,λ_ e=>nomatch e]
 |ref p=>
  cases r;rcases ty with⟨rfl,xs,hq⟩|⟨rfl,o,hk,hc,hd⟩|⟨rfl,hk⟩|⟨rfl,S,n,hk⟩
  .let#[its,_,pl,_]:=I.list hq;refine#[pl.isList.typeIs,λa e=>?_];cases e;let#[o,n,e,c,hd,_]:=pl;exact#[o,e,hd]
  .refine#[#[o,I.kIn p o hk,hc],λa e=>?_];cases e;exact#[o,I.kIn _ o hk,hd]
  .have z:∃o,s.heap.get? p=be o/\o.ExactDict:=by
    rcases hk with⟨a_,hk⟩|⟨a_,hk⟩
    .let#[_,_,_,_,o,_,_,e,ex,_]:=I.hok p _ hk;exact#[o,e,ex]
    .let#[_,_,_,_,o,_,_,e,ex,_]:=I.hok p _ hk;exact#[o,e,ex]
   let#[o,e,ex]:=z;refine#[#[o,e,ex.1],λa e2=>?_];cases e2;exact#[o,e,ex.2.1]
  .let#[o,_,_,_,e,ex,_]:=I.hok p _ hk;refine#[#[o,e,ex.1],λa e2=>?_];cases e2;exact#[o,e,ex.2.1]
 |_=>exact False.elim ty
def tBM0(K:Ex)(T:String)(r:V->List V->Hp->VK->Prop)(to:TE):TE:=λσ H Q=>to σ H λx H1=>tyV K T x H1/\r x [] H1 Q
def tBM(K:Ex)(T:String)(r:V->List V->Hp->VK->Prop)(to:TE)(t:TA):TE:=λσ H Q=>to σ H λx H1=>tyV K T x H1/\t σ H1 λxs H2=>r x xs H2 Q
variable {o e:SZ}{es:List SZ}{to:TE}{t:TA}{name:J7}{b7 a8:TX}{T id:String}{r:V->List V->Hp->VK->Prop}
def yf(pa:PlainAttrs T)(slot:Slot T name id)(L5:typeOf (.builtin id)=pure (.type "method_descriptor"))(hm:MtR X id r)(ho:PE X o to)
  (b8:(TM o name X.env (TR o X.env)=TR o X.env)\zA0) (c5:((b7.endLine==a8.line)=true)\zA0):PE X (.Call (.Attribute o name b7) [] [] a8) (tBM0 X.K T r to):=by
 intro pins s σ H Q I h;refine wpAny_Call_method0_late b8 c5 (thn (ho pins s σ H _ I h) λv s1 c7=>?_);let#[x,H1,I1,r1,ty,q1]:=c7;let#[h1,h2]:=qC I1 r1 ty;exact#[T,id,pa,slot,L5,h1,h2,Calls.callWith_builtin rfl (PySem.evalArgs_none (hm pins s1 σ H1 x [] v [] Q I1 r1 .nil q1))]
def dq(pa:PlainAttrs T)(slot:Slot T name id)(L5:typeOf (.builtin id)=pure (.type "method_descriptor"))(hm:MtR X id r)(ho:PE X o to)(ha:PA X (e::es) t)
  (b8:(TM o name X.env (TR o X.env)=TR o X.env)\zA0)
  (f6:((Uy a8 (TL (e::es) X.env)).all (λx=>!x.1)&&(UU a8 (UB [] X.env)).all (λx=>x.1.isSome)
   && decide ((e::es).length+([]:List VG).length+(if([]:List VG).isEmpty then 0 else 1)<30))=true:=by rfl)
  (c5:((b7.endLine==a8.line)=true)\zA0) (hs:zSE X e es\zA0) (k8:zPL X a8 es\zA0):
  PE X (.Call (.Attribute o name b7) (e::es) [] a8) (tBM X.K T r to t):=by
 intro pins s σ H Q I h;refine wpAny_Call_method_late b8 f6 c5 rfl (thn (ho pins s σ H _ I h) λv s1 c7=>?_);let#[x,H1,I1,r1,ty,q1]:=c7;let#[h1,h2]:=qC I1 r1 ty;refine#[T,id,pa,slot,L5,h1,h2,?_];have hA:=ha a8 pins s1 σ H1 _ I1 q1;rw[hs]at hA ⊢;refine Calls.callWith_builtin (by show(false||(Uy a8 (TL es X.env)).any (·.1))=false;rw[k8]<;>rfl) (Calls.evalArgs_plain ?_);exact thn hA λus s2 ⟨vs,H2,I2,r2,q2⟩=>hm pins s2 σ H2 x vs v us Q I2 r1 r2 q2
end
def MtM(X:Cx)(id:String)(r:V->List V->Hp->VK->Prop):Prop:=
 ∀(pins:List (KF×T5)) (s:KM) (σ:St) (H:Hp) (x:V) (xs:List V) (v:KB) (us:List KB) (Q:VK),Inv X pins σ H s->RelV x v->Vals xs us->r x xs H Q->
  TC (SL X.prog X.w) X.A (call (.builtin id) (v::us)) (EP X pins σ Q) X.xe s
def Vals.one:∀{x:V} {us:List KB},Vals [x] us->∃u,us=[u]/\RelV x u:=by
 intro x us h;cases h with
 |cons r h=>cases h;exact#[_,rfl,r]
def Vals.two:∀{x y:V} {us:List KB},Vals [x,y] us->∃u v,us=[u,v]/\RelV x u/\RelV y v:=by
 intro x y us h;cases h with
 |cons r h=>
  let#[u,rfl,q]:=Vals.one h;exact#[_,_,rfl,r,q]
def Vals.zero:∀{us:List KB},Vals [] us->us=[]
 |_,.nil=>rfl
def Vals.dropLast{xs:List V}{us:List KB}(h:Vals xs us):Vals xs.dropLast us.dropLast:=by
 induction h with
 |nil=>exact .nil
 |cons r t ih=>
  cases t with
  |nil=>exact .nil
  |cons q t'=>exact .cons r ih
def Vals.rep{xs:List V}{us:List KB}(h:Vals xs us):∀k:Nat,Vals (GI k xs).flatten (GI k us).flatten
 |0=>.nil
 |k+1=>by
  rw[G8,G8,Hn,Hn];exact Vals.append h (Vals.rep h k)
def yg{α:Type}(l:List α):l.eraseIdx (l.length-1)=l.dropLast:=by
 induction l with
 |nil=>rfl
 |cons a r ih=>
  cases r with
  |nil=>rfl
  |cons b r=>
   have e:(a::b::r).length-1=((b::r).length-1)+1:=by
    have h1:(a::b::r).length=r.length+2:=rfl;have h2:(b::r).length=r.length+1:=rfl;lia
   rw[e,List.eraseIdx_cons_succ,ih]
   all_goals rfl
def foldl_rep(its:List KB):∀(k:Nat) (g7:List KB),
  Iy (λx1 x2=>x1++x2) g7.toArray (GI k its.toArray)=(g7++(GI k its).flatten).toArray
 |0,g7=>by simp
 |k+1,g7=>by
  have e:g7.toArray++its.toArray=(g7++its).toArray:=K8
  have e2:(g7++its)++(GI k its).flatten=g7++(GI (k+1) its).flatten:=by
   rw[G8,Hn,GZ]
  rw[<-e2,<-foldl_rep its k (g7++its),<-e,G8,Jc]
section
variable {X:Cx}{pins:List (KF×T5)}{σ:St}{H:Hp}{s:KM}{l b:KF}{xs ys zs:List V}
variable{its:List KB}
def Inv.lset{its':List KB}{n:Nat}{f:Array KB->Array KB}{t':Nat}(I:Inv X pins σ H s)(hH:H l=be (.lst xs))
  (e:s.heap.get? l=be {cls:=.type "list",data:=.seq its.toArray n}) (hf:f its.toArray=its'.toArray) (hv:Vals ys its') (hz:ys.length<=sizeLine):
  Inv X pins σ (upd H l (.lst ys)) {s with heap:=s.heap.update l (Obj.mapSeq f),toks:=t'}:=by
 have q:=PySem.IsL.update e f;rw[hf]at q;refine I.write (x:=l) (e:=l) (by rw[hH];exact trivial) (.inl rfl) (λb' u hb hu=>(Heap.get?_update_other s.heap (Obj.mapSeq f) (Ne.symm hb)).trans hu) #[_,q] ?_;exact#[hz,its',_,hv,q]
def Inv.lnew{t':Nat}(I:Inv X pins σ H s)(hv:Vals ys its)(hz:ys.length<=sizeLine):
  Inv X pins σ (upd H s.heap.objs.size (.lst ys)) {s with heap:=s.heap.push {cls:=.type "list",data:=.seq its.toArray},toks:=t'}:=
 I.laid (λ_ _ q=>Heap.get?_push_of_some _ q) (Gv _) #[hz,its,0,hv,Heap.get?_push_size _ rfl]
def Inv.fresh(I:Inv X pins σ H s):H s.heap.objs.size=none:=I.hok.fresh (Gv _)
def Inv.lstM(I:Inv X pins σ H s)(hH:H l=be (.lst xs)):xs.length<=sizeLine/\∃(its:List KB) (n:Nat),Vals xs its/\xs.length=its.length/\s.heap.get? l=be {cls:=.type "list",data:=.seq its.toArray n}:=by
 let#[z,its,n,r,e]:=I.hok l _ hH;exact#[z,its,n,r,r.length,e]
def qD{n:Nat}(h:n<=sizeLine):Builtin.List.listTooLong n=false:=by
 unfold Builtin.List.listTooLong;exact decide_eq_false KZ
end
section
variable {X:Cx}
def yh:V->List V->Hp->VK->Prop:=λx vs H Q=>∃l xs y,x=.ref l/\vs=[y]/\H l=be (.lst xs)/\xs.length<sizeLine/\Q .non (upd H l (.lst (xs++[y])))
def jC:MtM X "list.append" yh:=by
 intro pins s σ H x vs v us Q I rx rv h;let#[l,xs,y,rfl,rfl,hH,hz,q]:=h;cases rx;let#[u,rfl,ru]:=rv.one;let#[z,its,n,r,hl,e]:=I.lstM hH;refine UI F.slot_list_append #[_,e,rfl] F.entry_list_append (F.args_list_append_2 _ _) (PySem.list_append l its.toArray n u (by rw[GC];lia)) #[e,?_];refine#[.non,_,I.lset (its':=its++[u]) hH e K8 (r.append (.cons ru .nil)) ?_,rfl,q];rw[GF,H9];lia
def yi:V->List V->Hp->VK->Prop:=λx vs H Q=>∃l b xs zs,x=.ref l/\vs=[.ref b]/\H l=be (.lst xs)/\H b=be (.lst zs)/\xs.length+zs.length<=sizeLine/\Q .non (upd H l (.lst (xs++zs)))
def yj:MtM X "list.extend" yi:=by
 intro pins s σ H x vs v us Q I rx rv h;let#[l,b,xs,zs,rfl,rfl,hH,hB,hz,q]:=h;cases rx;let#[u,rfl,ru]:=rv.one;cases ru;let#[z,its,n,r,hl,e]:=I.lstM hH;let#[z2,h_,n2,r2,J9,e2]:=I.lstM hB;have k_:its.toArray.size+h_.toArray.size<=sizeLine:=by rw[GC,GC];lia
 have z6:¬(!its.toArray.isEmpty&&Builtin.List.listTooLong (its.toArray.size+h_.toArray.size))=true:=by
  rw[qD k_,Bool.and_false];exact GJ
 refine UI F.slot_list_extend #[_,e,rfl] F.entry_list_extend (F.args_list_extend_2 _ _)
  (AutoSeq1.list_extend_list_list_0 l its.toArray n b h_.toArray n2 z6 (by rw[GC];lia) KZ) #[e,e2,?_]
 refine#[.non,_,I.lset (its':=its++h_) hH e K8 (r.append r2) ?_,rfl,q];rw[GF];lia
def rPop:V->List V->Hp->VK->Prop:=λx vs H Q=>∃l xs y,x=.ref l/\vs=[]/\H l=be (.lst xs)/\xs[xs.length-1]?=be y/\Q y (upd H l (.lst xs.dropLast))
def yk:MtM X "list.pop" rPop:=by
 intro pins s σ H x vs v us Q I rx rv h;let#[l,xs,y,rfl,rfl,hH,hy,q]:=h;cases rx;have Rk:=rv.zero;subst Rk;let#[z,its,n,r,hl,e]:=I.lstM hH;let#[u,hu,ru]:=r.get hy;have Rl:its.toArray[its.toArray.size-1]?=be u:=by
  show its.toArray[its.length-1]?=be u;rw[<-Jd,<-hl];exact hu
 refine UI F.slot_list_pop #[_,e,rfl] F.entry_list_pop (F.args_list_pop_1 _) (MeetsSeq.list_pop_last l its.toArray n u Rl (by rw[GC];lia)) #[e,?_];refine#[y,_,I.lset (its':=its.dropLast) hH e ?_ r.dropLast ?_,ru,q]
 .show its.toArray.eraseIdxIfInBounds (its.toArray.size-1)=its.dropLast.toArray;rw[GC,List.eraseIdxIfInBounds_toArray,yg]
 .rw[List.length_dropLast];lia
def rCat:R2:=λx y H Q=>∃l b xs zs,x=.ref l/\y=.ref b/\H l=be (.lst xs)/\H b=be (.lst zs)/\xs.length+zs.length<=sizeLine/\∀p,H p=x8->Q (.ref p) (upd H p (.lst (xs++zs)))
def qE:OpR X (T8 .Add) rCat:=by
 intro pins s σ H x y v u Q I rx ry h;let#[l,b,xs,zs,rfl,rfl,hH,hB,hz,q]:=h;cases rx;cases ry;let#[z,its,n,r,hl,e]:=I.lstM hH;let#[z2,h_,n2,r2,J9,e2]:=I.lstM hB;refine PySem.P.add_list e e2 ?_ (by rw[GC,GC];lia);have ea:its.toArray++h_.toArray=(its++h_).toArray:=K8
 rw[ea];exact#[.ref _,_,I.lnew (t':=s.toks) (r.append r2) (by rw[GF];lia),rfl,q _ I.fresh]
def rRep:R2:=λx y H Q=>∃l k xs,x=.ref l/\y=.int k/\H l=be (.lst xs)/\-(2^63)<=k/\k<2^63/\xs.length*k.toNat<=sizeLine/\
 ∀p,H p=x8->Q (.ref p) (upd H p (.lst (GI k.toNat xs).flatten))
def yl{α:Type}(xs:List α)(k:Nat):(GI k xs).flatten.length=k*xs.length:=by
 induction k with
 |zero=>simp
 |succ k ih=>rw[G8,Hn,GF,ih,Ia,Iz]
def qF:OpR X (T8 .Mult) rRep:=by
 intro pins s σ H x y v u Q I rx ry h;let#[l,k,xs,rfl,rfl,hH,h1,h2,hz,q]:=h;cases rx;let#[t,rfl]:=ry;let#[z,its,n,r,hl,e]:=I.lstM hH;have b9:its.toArray.size*k.toNat<=sizeLine:=by rw[GC,<-hl];exact hz
 have NO:¬its.toArray.size*k.toNat>(2^63-1)/8:=by
  have:(sizeLine:Nat)<=(2^63-1)/8:=by decide
  lia
 have NP:¬(!Builtin.List.listFitsIndex k)=true:=by
  rw[fitsIndex_both h1 h2];exact GJ
 have z6:¬Builtin.List.listTooLong (its.toArray.size*k.toNat)=true:=by
  rw[qD b9];exact GJ
 have NQ:Iy (λx1 x2=>x1++x2) [].toArray (GI (if its.toArray.isEmpty=true then 0 else k.toNat) its.toArray)=(GI k.toNat its).flatten.toArray:=by
  have f0:∀m:Nat,Iy (λx1 x2=>x1++x2) [].toArray (GI m its.toArray)=(GI m its).flatten.toArray:=λm=>by
   have:=foldl_rep its m [];rw[HP]at this;exact this
  rw[f0];cases its with
  |nil=>simp
  |cons a r'=>rw[if_neg K8]
 refine wpAny_binaryOp_repeat_ref (T:="list") (U:="int") K3 #[_,e,rfl] (λs'=>Vx s' k t) noFill_list_mul F.fills_int_mul F.slot_int_rmul repeat_list F.slot_int_index.lookup
  (UI F.slot_int_rmul (Vx s k t) F.entry_int_rmul (F.args_int_rmul_2 _ _) (int___rmul___int_list k t l its.toArray n)
   #[e,rfl,#[_,e,rfl],UI F.slot_list_mul #[_,e,rfl] F.entry_list_mul (F.args_list_mul_2 _ _) (AutoListH.list___mul___list_int_3 l its.toArray n k t NP NO z6) #[e,?_]])
 rw[NQ];exact#[.ref _,_,I.lnew (t':=s.toks) (r.rep k.toNat) (by rw[yl,IA];exact hz),rfl,q _ I.fresh]
end
end L2
namespace Qk
open PySem PySem.W PySem.Calls PyProof.Rows
variable{P:Params}
def ym{h:Heap}:∀(ns:List Int) (vs:List KB),WellAll P h vs (ns.map WData.int)->Vk vs ns:=by
 intro ns;induction ns with
 |nil=>
  intro vs w;rw[HF]at w;cases w;exact .nil
 |cons n ns ih=>
  intro vs w;rw[GK]at w;cases w with
  |cons a b=>
   cases a;exact .cons _ _ (ih _ b)
variable{l:OpenLaw}
def yn{n:Nat}(hn:l.most=be n){h:Heap}{args:List WData}{K1:List KB}
  (J_:l.row.toRowW.claim.pre args=true) (NR:WellAll P h K1 args):
  ∃a vs ns,K1=[Value.ref a]/\args=[WData.list (ns.map WData.int)]/\h.get? a=be {cls:=.type "list",data:=.seq vs.toArray}/\Vk vs ns/\ns.length<=n:=by
 have Rm:WShape.hasAll [] args [.list .int]=true:=(pre_splitW J_).1;have hc:l.pre.holds [] {args:=args}=true:=(pre_splitW J_).2;let#[d,r,rfl,h1,h2]:=hasAllW_cons Rm;obtain rfl:=hasAllW_nil h2;let#[xs,rfl,h3]:=hasW_list h1;let#[ns,rfl]:=items_int h3;have b9:ns.length<=n:=by
  unfold OpenLaw.pre at hc;have h4:(WTm.not (.lt (.lit (.int (n:Int))) (.len (.arg 0)))).holds [] {args:=[.list (ns.map .int)]}=true:=by
   have h4:=(holds_andW hc).1;rw[hn]at h4;exact h4
  have h5:=condW_of h4 (w_not (w_lt w_lit (w_len_list (w_arg rfl))));rw[GB]at h5;refine Ib λq=>?_;have q':(n:Int)<((ns.length:Nat):Int):=KZ
  first
   |(rw[decide_eq_true q']at h5;exact absurd h5 K3)
   |(simp at h5;lia)
 cases NR with
 |cons w1 w2=>
  cases w2;cases w1 with
  |list ho Ka=>exact#[_,_,ns,rfl,rfl,ho,ym ns _ Ka,b9]
def yo(l:OpenLaw)(args:List WData):l.row.toRowW.claim.post args (.bool true) args=true:=
 postW_of (r:=l.row.toRowW) (X:=(true==true))
  (show WShape.has [] (.bool true) .bool=true by first|rfl|decide|simp[WShape.has,WShape.arms,WShape.armsAll])
  (show(WTm.eq .res (.lit (.bool true))).value [] {args:=args,res:=be (.bool true),after:=args}=be (.bool (true==true))from w_eq_bool (w_res rfl) w_lit) rfl
def attach_call{n:Nat}{q:SB}{m5:List J7}{XP:(J7->Option KB)->Heap->Prop}{YP:TJ->Heap->Prop}{d:DefRec}
  (hn:l.most=be n) (L6:d.params.defaults=[])
  (call:∀(w:TJ) (s₀ s₁:KM) (mg mb:J7->Option KB) (fa:KF) (o:T5) (pm cd doc:KB) (a:KF) (vs:List KB) (ns:List Int),
   Ground q m5 [] XP w s₀ mg mb s₁.heap->YP w s₁.heap->
   s₁.heap.get? fa=be o->o.data=.func (docDef d.name d.params d.body d.scope pm cd doc)->s₁.heap.CodeRec cd d.name->mg d.name=be (.ref fa)->
   s₁.heap.get? a=be {cls:=.type "list",data:=.seq vs.toArray}->Vk vs ns->ns.length<=n->s₁.gens=[].toArray->
   UP (SL l.prog w) UT (.call (.ref fa) #[[.ref a],[]]) (λr s'=>r=.ok (.ret (.bool true))/\OldK s₁.heap s'.heap/\s'.os=s₁.os/\UC s'.gens) s₁):
  WalkO q m5 XP YP l.row.toRowW d [] (λf vs=>PySem.call f vs):=by
 intro w s₀ s₁ mg mb G Y fa o pm cd doc dV kV ho hd i8 hD l9 hg args K1 as J_ Rn S3 NR S4;obtain rfl:dV=.none:=Dflts.none hD L6;obtain rfl:kV=.none:=Dflts.noKw hD;let#[a,vs,ns,rfl,rfl,K2,z7,b9]:=yn hn J_ NR;refine enter_call (Ub (call w s₀ s₁ mg mb fa o pm cd doc a vs ns G Y ho (fd_plain hd) i8 l9 K2 z7 b9 hg) λr s' hq=>?_);let#[rfl,h2,h3,h4]:=hq;exact#[.inl #[.bool true,.bool true,[],rfl,λ_=>rfl,.bool true,yo l _,λ_=>#[List.Pairwise.nil,λ_ hm=>(nomatch hm)]],h2,h3,h4]
end Qk
namespace L2
open PySem PySem.Spec PyProof.Rows
def qG:∀{vs:List KB} {ns:List Int},Vk vs ns->Vals (ns.map V.int) vs
 |_,_,.nil=>.nil
 |_,_,.cons n t h=>.cons #[t,rfl] (qG h)
def Only(H:Hp):Prop:=∀b,H b=x8\/∃o xs,H b=be (.frz o (.lst xs))
variable{k:Nat}
def yp{P:SB}{w:TJ}{K:Ex}{mg mb:J7->Option KB}{CX:CXT}{fa a:KF}{fd:TQ}{x:J7}{sp:Sp}{s₁:KM}{vs:List KB}{ns:List Int}
  (KX:K.In s₁.heap) (hns:s₁.heap.Ns Pi mg) (hb:s₁.heap.Ns Vz mb) (Ro:∀x:J7,x≠"__name__"->mb x=T3 x) (NS:s₁.heap.NoLimit) (hg:s₁.gens=[].toArray)
  (ha:s₁.heap.get? a=be {cls:=.type "list",data:=.seq vs.toArray}) (hi:Vk vs ns) (hl:ns.length<=sizeLine) (hr:Room k UT)
  (F:∀base:Heap,K.In base->base.Ns Pi mg->FnOk P w K mg base CX k fa fd [x] sp) (L7:∀(s:KM) (u:KB),UJ s fd #[[u],[]] [(x,u)])
  (y_:∀H:Hp,Only H->SqL K H a (ns.map V.int)->sp [.ref a] H (λv _=>v=.bl true) λ_ _ _=>False)
  (NT:∀H e s',CX [] H s₁ (λ_ _ _=>False) e s'->False):
  UP (SL P w) UT (.call (.ref fa) #[[.ref a],[]]) (λr s'=>r=.ok (.ret (.bool true))/\OldK s₁.heap s'.heap/\s'.os=s₁.os/\UC s'.gens) s₁:=by
 have rv:=qG hi;have NU:=hi.length;have L9:∀H:Hp,Only H->SqL K H a (ns.map V.int)->HOk P w H s₁.heap->(∀b,H b≠x8->b=a)->(H a≠x8->K.lookup a=x8)->
   UP (SL P w) UT (.call (.ref fa) #[[.ref a],[]]) (λr s'=>r=.ok (.ret (.bool true))/\OldK s₁.heap s'.heap/\s'.os=s₁.os/\UC s'.gens) s₁:=by
  intro H hO hS hok hA hK;have t8:∀{b:KF} {o:T5},s₁.heap.get? b=be o->H b=x8->(hidT s₁.heap H).get? b=be o:=λe n=>wB e n;have LZ:∀{b:KF} {o:T5} {es:Array DictEntry} {ep:Nat},s₁.heap.get? b=be o->o.data=.dict es ep->H b=none:=λ{b o es ep} e d=>by
   cases q:H b with
   |none=>rfl
   |some u=>
    have e':b=a:=hA b (by rw[q];simp);subst e';rw[ha]at e;cases e;have d':Data.seq vs.toArray _=Data.dict es ep:=d;cases d'
  have Nd:∀{b:KF} {m:J7->Option KB},s₁.heap.Ns b m->(hidT s₁.heap H).Ns b m:=λ{b m} ⟨o,es,ep,e,d,r⟩=>#[o,es,ep,t8 e (LZ e d),d,r];have Qm:K.In (hidT s₁.heap H):=λb o e=>t8 (KX b o e) (by
   cases q:H b with
   |none=>rfl
   |some u=>
    have e':b=a:=hA b (by rw[q];simp);subst e';rw[hK (by rw[q];simp)]at e;cases e)
  have hM:Mod K mg (hidT s₁.heap H):=#[Qm,Nd hns,#[mb,Nd hb,Ro],let ⟨mc,h1,h2⟩:=NS;#[mc,Nd h1,h2]];have e0:Env0 P w K mg (hidT s₁.heap H) UT [] s₁ H:=#[rfl,hM,λb o e=>wC e,H8 (wA _ _),trivial,λb hb=>absurd (show b∈([]:List KF)from hb) K8,hok,.of_eq hg];refine Ub ((F _ Qm (Nd hns)).run UT [] s₁ H #[[.ref a],[]] [.ref a] [.ref a] _ _ hr e0 (L7 s₁ (.ref a)) (.cons rfl .nil) (y_ H hO hS)) λr s' h=>?_;cases r with
  |error e=>exact(NT H e s' h).elim
  |ok fl=>
   cases fl with
   |next=>exact False.elim h
   |brk=>exact False.elim h
   |cont=>exact False.elim h
   |ret u=>
    let#[v,H',os,bare,un,NV,r',q]:=h;have q':v=.bl true:=q;subst q';obtain rfl:u=Value.bool true:=r';refine#[rfl,OldK.of_keep λb o e=>?_,os,bare];cases q:H b with
    |none=>exact un.keep b o e q (by intro z;exact absurd (show b∈([]:List KF)from z) K8) K8
    |some u=>
     rcases hO b with z|⟨ob,xs,z⟩
     .rw[q]at z;cases z
     .have z2:=un.frzs b ob _ z;let#[e1,_]:=hok b _ z;let#[e2,_]:=NV b _ z2;rw[e]at e1;cases e1;exact e2
 cases hk:K.lookup a with
 |some o=>
  have e:=KX a o hk;rw[ha]at e;cases e;refine L9 (λ_=>x8) (λ_=>.inl rfl) (.inr #[_,vs.toArray,_,hk,rfl,rfl,rfl,by rw[GC,NU];exact hl,by simpa using rv]) (λb u z=>by have z':(x8:Option HO)=be u:=z;cases z') (λb z=>absurd rfl z) λz=>absurd rfl z
 |none=>
  refine L9 (λb=>if b=a then be (.frz {cls:=.type "list",data:=.seq vs.toArray} (.lst (ns.map V.int)))else x8) (λb=>?_) (.inl (.inr #[{cls:=.type "list",data:=.seq vs.toArray},if_pos rfl])) (λb u z=>?_) (λb z=>?_) λ_=>hk
  .by_cases hb:b=a
   .exact .inr #[_,_,if_pos hb]
   .exact .inl (if_neg hb)
  .by_cases hb:b=a
   .have z':=(if_pos hb).symm.trans z;cases z';subst hb;exact#[ha,by rw[GB];exact hl,vs,_,rv,ha]
   .have z':=(if_neg hb).symm.trans z;cases z'
  .by_cases hb:b=a
   .exact hb
   .exact absurd (if_neg hb) z
def walk_of{l:IB}{n:Nat}{q:SB}{m5:List J7}{XP:(J7->Option KB)->Heap->Prop}{YP:TJ->Heap->Prop}{d:DefRec}{K:Params->Ex}{CX:TJ->CXT}{sp:TJ->Sp}{x:J7}
  (hn:l.most=be n) (I_:n<=sizeLine) (L6:d.params.defaults=[]) (hr:Room k UT)
  (hY:∀(w:TJ) (h:Heap),YP w h->(K w.params).In h)
  (F:∀(w:TJ) (mg:J7->Option KB) (fa:KF) (h:Heap),(K w.params).In h->h.Ns Pi mg->mg d.name=be (.ref fa)->
   ∃fd:TQ,(∀(s:KM) (u:KB),UJ s fd #[[u],[]] [(x,u)])/\
    ∀base:Heap,(K w.params).In base->base.Ns Pi mg->FnOk l.prog w (K w.params) mg base (CX w) k fa fd [x] (sp w))
  (y_:∀(w:TJ) (H:Hp) (a:KF) (ns:List Int),ns.length<=n->Only H->SqL (K w.params) H a (ns.map V.int)->sp w [.ref a] H (λv _=>v=.bl true) λ_ _ _=>False)
  (NT:∀(w:TJ) (H:Hp) (s:KM) (e:KB) (s':KM),CX w [] H s (λ_ _ _=>False) e s'->False):
  Je q m5 XP YP l.row.toRowW d [] (λf vs=>PySem.call f vs):=by
 refine Qk.attach_call hn L6 λw s₀ s₁ mg mb fa o pm cd doc a vs ns G Y ho hd i8 l9 K2 z7 b9 hg=>?_;have KX:=hY w _ Y;let#[fd,hb,hF]:=F w mg fa _ KX G.T.g l9;exact yp KX G.T.g G.T.b G.T.builtins G.T.nolimit hg K2 z7 (GD b9 I_) hr hF hb (λH hO hS=>y_ w H a ns b9 hO hS) λH e s'=>NT w H s₁ e s'
def aY(s:TF)(j:Nat):TF:=match s with
 |.ClassDef _ _ _ body _ _ _ _ _ _ _=>body.getD j (.Pass #[0,0,0,0])
 |_=>.Pass #[0,0,0,0]
def bC(s:TF):Arguments:=match s with
 |.FunctionDef _ a _ _ _ _ _ _ _ _=>a
 |_=>{posonlyargs:=[],args:=[],vararg:=x8,kwonlyargs:=[],kw_defaults:=[],kwarg:=x8,defaults:=[]}
def aL(s:TF):List TF:=match s with
 |.FunctionDef _ _ b _ _ _ _ _ _ _=>b
 |_=>[]
def ah(s:TF):Uc:=match s with
 |.FunctionDef _ _ _ _ _ _ sc _ _ _=>sc
 |_=>{kind:=.function,names:=[],isGenerator:=false,isCoroutine:=false}
abbrev E0:XK:=λ_ _ _=>False
structure FunG(K:Ex)(dV:KB)(x qual:Str)(st:TF)(f:KF)(fd:TQ):Prop where
 ex:∃(oc:KB) (od:Option KF) (kV doc pm:KB) (an:Option KF) (cdv ct:KB) (osl:Array (Option KB)),
  fd=fnOf x qual (bC st) (aL st) (ah st) dV kV doc pm an cdv ct/\K.lookup f=be #[oc,od,.func fd,osl]/\codeIn K cdv qual=true
 kp:keepIn K (.ref f)=true
abbrev Fun(K:Ex):J7->J7->TF->KF->TQ->Prop:=FunG K .none
section
variable {P:SB}{w:TJ}{K:Ex}{mg:J7->Option KB}{base:Heap}
def Fun.binds{x qual:J7}{st:TF}{f:KF}{fd:TQ}{ps:List J7}(F:Fun K x qual st f fd)
  (h:∀(kV doc pm:KB) (an:Option KF) (cdv ct:KB) (us:List KB),us.length=ps.length->Us (fnOf x qual (bC st) (aL st) (ah st) .none kV doc pm an cdv ct) #[us,[]]=pure (ps.zip us)):Binds K fd ps []:=by
 let#[oc,od,kV,doc,pm,an,cdv,ct,osl,rfl,lk,i8]:=F.ex;exact .all (h kV doc pm an cdv ct)
def gK{x qual:J7}{st:TF}{f:KF}{oc:KB}{od an:Option KF}{osl:Array (Option KB)}{kV doc pm cdv ct:KB}(l:K.lookup f=be #[oc,od,.func (fnOf x qual (bC st) (aL st) (ah st) .none kV doc pm an cdv ct),osl])
  (c:codeIn K cdv qual=true) (k:keepIn K (.ref f)=true):Fun K x qual st f (fnOf x qual (bC st) (aL st) (ah st) .none kV doc pm an cdv ct):=#[#[oc,od,kV,doc,pm,an,cdv,ct,osl,rfl,l,c],k]
end
def du{A:TK}(hr:Room k A):A.units+1<Ux:=Jf (Nat.add_le_add_left (K3:1<=64) _) hr.units
def yq{n:Nat}(h:n<=1000):n<sizeLine:=Jf h K3
variable{A B:Prop}
def iteF(h:B):if false=true then A else B:=by
 rw[if_neg GJ];exact h
def iteT(h:A):if true=true then A else B:=by
 rw[if_pos rfl];exact h
def ite2{c:Prop}[Decidable c](h1:c->A)(h2:¬c->B):if c then A else B:=by
 by_cases h:c
 .rw[if_pos h];exact h1 h
 .rw[if_neg h];exact h2 h
def Same(H H':Hp):Prop:=∀b o,H b=be o->H' b=be o
def Same.refl(H:Hp):Same H H:=λ_ _ h=>h
variable{H:Hp}
def Same.trans{H1 H2:Hp}(a:Same H H1)(b:Same H1 H2):Same H H2:=λc o h=>b c o (a c o h)
def Same.free{H':Hp}(e:Same H H'){l:KF}(h:H' l=Option.none):H l=Option.none:=by
 cases q:H l with
 |none=>rfl
 |some o=>
  rw[e l o q]at h;cases h
def Same.seq{K:Ex}{H':Hp}{a:KF}{xs:List V}(e:Same H H')(h:SqL K H a xs):SqL K H' a xs:=by
 rcases h with(h|⟨o,h⟩)|h
 .exact .inl (.inl (e _ _ h))
 .exact .inl (.inr #[o,e _ _ h])
 .exact .inr h
end L2
end
section
open PySem PySem.Spec PyProof.Rows L2
namespace Exc
open PySem PySem.Spec PyProof.Rows PySem.W L2
def aS:List KB->Bool
 |.ref _::r=>aS r
 |l=>l==[.type "ValueError",.type "Exception",.type "BaseException",.type "object"]
def jD(self:KB):∀{l:List KB},aS l=true->refuseLoop self "__setattr__" l=pure ()
 |.ref c::r,e=>by rw[refuseLoop_ref];exact jD self (by unfold aS at e;exact e)
 |[],e=>by simp[aS]at e
 |.type n::r,e=>by
  have e':(Value.type n::r)=[.type "ValueError",.type "Exception",.type "BaseException",.type "object"]:=by simpa[aS]using e
  rw[e'];exact PySem.F.store_ValueError.passes self
 |.none::r,e=>by simp[aS]at e
 |.bool _::r,e=>by simp[aS]at e
 |.int _ _::r,e=>by simp[aS]at e
 |.float _ _::r,e=>by simp[aS]at e
 |.str _ _::r,e=>by simp[aS]at e
 |.bytes _ _::r,e=>by simp[aS]at e
 |.builtin _::r,e=>by simp[aS]at e
def eV{T:String}(hT:[Value.type "ValueError",.type "Exception",.type "BaseException",.type "object"].contains (.type T)=true):∀{l:List KB},aS l=true->l.contains (.type T)=true
 |.ref c::r,e=>by rw[IC,eV hT (l:=r) (by unfold aS at e;exact e),Ic]
 |[],e=>by simp[aS]at e
 |.type n::r,e=>by
  have e':(Value.type n::r)=[.type "ValueError",.type "Exception",.type "BaseException",.type "object"]:=by simpa[aS]using e
  rw[e'];exact hT
 |.none::r,e=>by simp[aS]at e
 |.bool _::r,e=>by simp[aS]at e
 |.int _ _::r,e=>by simp[aS]at e
 |.float _ _::r,e=>by simp[aS]at e
 |.str _ _::r,e=>by simp[aS]at e
 |.bytes _ _::r,e=>by simp[aS]at e
 |.builtin _::r,e=>by simp[aS]at e
section
variable {prog:SB}{w:TJ}{A:TK}{E:KB->KM->Prop}{s:KM}{K:Ex}{x C:KF}{ox:T5}{cd:Vb}{name:J7}{v:KB}{vs:Array KB}
def yr{Q:Unit->KM->Prop}(X:K.In s.heap)(hx:s.heap.get? x=be ox)(j5:ox.cls=.ref C)(z8:ox.data=.fields vs)(hd:ox.dict=x8)(hc:clsIn K C=be cd)(hm:aS cd.mro=true)(hh:cd.hasDict=true)
  (hs:findIn K (.ref C) "__setattr__"=be (be (.builtin "object.__setattr__"))) (hf:findIn K (.ref C) name=be x8)
  (h:∀h',h'.get? x=be {ox with dict:=be s.heap.objs.size}->h'.Ns1 s.heap.objs.size (λy=>if y=name then be v else x8)->(∀b o,b≠x->s.heap.get? b=be o->h'.get? b=be o)->∀tk,Q () {s with heap:=h',toks:=tk}):
  TC (SL prog w) A (VB (.ref x) name v) Q E s:=by
 have hn:notCls ox=true:=by unfold notCls;rw[z8]
 have I:InstAt s.heap x ox C none:=#[hx,j5,hn,by rw[hd];trivial];refine set_plain X I hs ?_;have SF:=PySem.F.store_object;have ne:cd.mro.isEmpty=false:=Qa
 have sub:Looks (SL prog w) s.heap (UQ (.ref x) (.type "object")) true:=I.type.andThen (looks_mroIn X Qt);refine Ur SF.slot.plain SF.entry (@check_slot (SL prog w) _ _ _ "object.__setattr__" "object" "__setattr__" (.ref x) [.str name s.toks,v] [] _ SF.kind SF.split sub (SF.args (.ref x) (.str name s.toks) v) ?_);have K4:Looks (SL prog w) s.heap (mroOf (.ref C)) cd.mro:=(looks_clsIn X hc).andThen .now;rw[osa_eq,refuse_eq];refine Os (Os (I.type.here (s:={s with toks:=s.toks+1}) (Os (K4.here (s:={s with toks:=s.toks+1}) ?_))));rw[jD _ hm];refine P3 (Os (I.type.here (s:={s with toks:=s.toks+1}) (Os ((looks_findIn X hf).here (s:={s with toks:=s.toks+1}) (Os (Looks.now.here (s:={s with toks:=s.toks+1}) ?_))))));let#[oc,Qn,Qo,osl]:=ox;dsimp only at j5 hd z8;subst j5 hd z8;refine Os (P3 (Os (Os (U2 hx (Os ((looks_clsIn X hc).here (s:={s with toks:=s.toks+1}) ?_))))));rw[hh];rw[if_neg K3];have hx₁:(s.heap.push {cls:=.type "dict",data:=.dict [].toArray}).get? x=be #[.ref C,x8,.fields vs,osl]:=Heap.get?_push_of_some _ hx;have Qp:x≠s.heap.objs.size:=GH (Heap.lt_size hx);show TC _ _ (do
  let d <-alloc {cls:=Value.type "dict",data:=Data.dict [].toArray}
  update x λo=>{cls:=o.cls,dict:=be d,data:=o.data,slots:=o.slots}
  dictMade (.ref C) x d) _ _ _
 refine Os (wpAny_alloc' ?_);refine Os (wpAny_update' hx₁ ?_);refine P3 ?_;have Rp:((s.heap.push {cls:=.type "dict",data:=.dict [].toArray}).update x λo=>{cls:=o.cls,dict:=be s.heap.objs.size,data:=o.data,slots:=o.slots}).get? s.heap.objs.size
   =be {cls:=.type "dict",data:=.dict [].toArray}:=
  (Heap.get?_update_ne _ _ _ _ Qp.symm).trans (Heap.get?_push_at rfl rfl)
 have Rq:((s.heap.push {cls:=.type "dict",data:=.dict [].toArray}).update x λo=>{cls:=o.cls,dict:=be s.heap.objs.size,data:=o.data,slots:=o.slots}).Ns s.heap.objs.size (λ_=>x8):=
  #[_,[].toArray,_,Rp,rfl,λe he=>absurd he K8,λ_=>rfl]
 show TC _ _ (Builtin.ObjectAttr.storeInDict s.heap.objs.size (.str name s.toks) name v) _ _ _;unfold Builtin.ObjectAttr.storeInDict Builtin.ObjectAttr.newKeyGuard;refine Os (P3 (Os (Vc (Heap.Ns1.of_empty Rq) λh' g_ hs=>?_)));let#[oD,Qc,Qe,LW,LX,LY]:=g_.count (Within.cons name v Within.nil);refine Os (UV LW (by rw[LX];exact UX (GD LY (by rw[Gy,HR,UA];lia))) ?_);refine P3 (h h' ?_ g_ (λb o hb q=>?_) _)
 .exact(hs.2 x Qp).trans (Heap.get?_update_self _ hx₁ rfl)
 .exact(hs.2 b (GH (Heap.lt_size q))).trans ((Heap.get?_update_ne _ _ _ _ hb).trans (Heap.get?_push_of_some _ q))
variable{Q:KB->KM->Prop}
def yt{od:T5}{y9:Bool}(X:K.In s.heap)(I:InstAt s.heap x ox C (be od))(hc:clsIn K C=be cd)(hm:aS cd.mro=true)
  (Rr:findIn K (.ref C) "__getattribute__"=be (be (.builtin "BaseException.__getattribute__"))) (Rs:findIn K (.ref C) "__getattr__"=be x8)
  (hf:findObj K C (be od) name=be (.value v)) (hh:handedIn v=true) (h:∀tk,Q v {s with toks:=tk}):TC (SL prog w) A (Vg (.ref x) name y9) Q E s:=by
 have FB:=PySem.F.attr_ValueError;let#[hp,g,d,t,os]:=s;have L0:=I.type (M:=SL prog w);have L1:=looks_findIn (M:=SL prog w) X Rr;have L2:=looks_findIn (M:=SL prog w) X Rs;have L3:=looks_find (M:=SL prog w) X I hf;have f3:=FB.ga.bind (.ref x);have ne:cd.mro.isEmpty=false:=Qa
 have sub:Looks (SL prog w) hp (UQ (.ref x) (.type "BaseException")) true:=I.type.andThen (looks_mroIn X Qt);unfold Vg getAttrBy;refine Os (wpAny_mkText (Ul (Os (L0.at (Os (L1.at ?_))))));dsimp only;have Lr:(onTheHeap (Value.ref C)&&Value.builtin "BaseException.__getattribute__"==Value.builtin "object.__getattribute__")=false:=by
  have t9:(Value.builtin "BaseException.__getattribute__"==Value.builtin "object.__getattribute__")=false:=KK
  rw[t9];rfl
 have Rt:(y9&&onTheHeap (Value.builtin "BaseException.__getattribute__"))=false:=by cases y9<;>rfl
 rw[Lr,if_neg GJ];unfold getAttrByItsOwn hookBefore;rw[show onTheHeap (Value.ref C)=true from rfl,if_pos rfl];refine Os (L2.at ?_);unfold callGetattribute;rw[Rt,if_neg GJ];unfold boundAndCalled;refine Os (wpAny_attempt (Ul (Os (Vm f3 ?_))));refine Ue (Ur FB.ga.plain PySem.F.entry_bexc_ga (@check_slot (SL prog w) _ _ _ "BaseException.__getattribute__" "BaseException" "__getattribute__" (.ref x) [.str name t] [] _ KK KK sub (PySem.F.args_bexc_ga _ _) ?_));unfold Builtin.«object.__getattribute__»;refine Os (Vm (a:=(Value.ref x,[Value.str name t])) rfl ?_);refine Os (Vm (a:=name) rfl ?_);refine Os (L0.at (Os (L3.at ?_)));refine P3 ?_;show TC _ _ (handedOut v) _ _ _;rw[handedOut_of hh];exact P3 (h _)
def yu{rest:List KB}{t0:KF}{a1 a2 a3 a4 a5:KB}(X:K.In s.heap)(hx:s.heap.get? x=be ox)(j5:ox.cls=.ref C)(z8:ox.data=.fields [.ref t0,a1,a2,a3,a4,a5].toArray)(hc:clsIn K C=be cd)(hm:aS cd.mro=true)(hl:rest.length<=sizeLine)
  (h:∀h',h'.get? x=be {ox with data:=.fields [.ref s.heap.objs.size,a1,a2,a3,a4,a5].toArray}->(∀b o,b≠x->s.heap.get? b=be o->h'.get? b=be o)->Q .none {s with heap:=h'}):
  TC (SL prog w) A (call (.builtin "ValueError.__init__") (.ref x::rest)) Q E s:=by
 have F:=PySem.F.excBase_ValueError;have hn:notCls ox=true:=by unfold notCls;rw[z8]
 have ht:Looks (SL prog w) s.heap (typeOf (.ref x)) (.ref C):=j5 ▸ (Looks.ld hx).andThen .now;have ne:cd.mro.isEmpty=false:=Qa
 have sub:Looks (SL prog w) s.heap (UQ (.ref x) (.type "ValueError")) true:=ht.andThen (looks_mroIn X Qt);have Ru:∀{Q:Unit->KM->Prop} {E:KB->KM->Prop} {A:TK},Q () s->TC (SL prog w) A (checkBuiltinCall "ValueError.__init__" #[.ref x::rest,[]]) Q E s:=λ{Q E A} hq=>by
  have NW:=F.noStar;simp only[checkBuiltinCall,F.initKind,F.initSplit,F.initRow];refine Os (sub.here ?_);let#[hp,g,d,t,os]:=s;have Lc:=looks_clsIn (M:=SL prog w) X hc
  repeat(first|(with_reducible refine T6 hx ?_;rw[j5])|(with_reducible refine Lc.here ?_)|wp_step)
  refine wpAny_onRaise ?_;rw[show ∀(a b:String) (n:Nat),Bind.check #[.positional,"*","ValueError",.self,[#["args",.varPos,false]]] a b n (ID (λx=>x.fst) ({pos:=Value.ref x::rest}:Args).kw)=pure ()from
   λa b n=>check_star_args _ _ _ _ _ _]
  exact P3 hq
 refine Ue (Ur F.init.plain F.initEntry (Ru ?_));let#[hp,g,d,t,os]:=s;let#[oc,Qn,Qo,osl]:=ox;dsimp only at j5 z8 hx h;subst j5 z8
 wp_walk
 have hx₁:=Heap.get?_push_of_some {cls:=Value.type "tuple",data:=Data.seq rest.toArray} hx;refine h _ ?_ (λb o hb q=>?_)
 .rw[Heap.get?_update_self _ hx₁ rfl];rfl
 .rw[Heap.get?_update_other _ _ (Ne.symm hb)];exact Heap.get?_push_of_some _ q
end
abbrev veLine:List KB:=[.type "ValueError",.type "Exception",.type "BaseException",.type "object"]
section
variable {prog:SB}{w:TJ}{A:TK}{E:KB->KM->Prop}{h:Heap}{g:Array Vr}{d:Drawn}{t:Nat}{os:OsState}{K:Ex}
variable {nm q:J7}{C N fI:KF}{bs bm:List KB}{hdct:Bool}{sn:List J7}{sub:List KB}{ab:Bool}{col:Option Bool}{dd:Option KF}{k0 k1 k2 k3 k5:Option KB}{rest:List KB}
def yw{Q:Fin->KM->Prop}(X:K.In h)(T:OwnTail h veLine bm)(hC:h.get? C=be (T9 nm q C N bs bm hdct sn sub ab col dd k0 k1 k2 k3 k5 "ValueError.__new__"))
  (hi:findIn K (.ref C) "__init__"=be (be (.ref fI))) (hf:typeIn K (.ref fI)=be (.type "function"))
  (hq:∀h' e,Heap.MadeExcOf h h' e (.ref C) rest->TC (SL prog w) A (call (.ref fI) (.ref e::rest)) (λr s'=>r=.none/\Q (.done (.ret (.ref e))) s') E #[h',g,d,t,os]) (hl:rest.length<=sizeLine):
  TC (SL prog w) A (Builtin.«type.__call__» #[.ref C::rest,[]]) Q E #[h,g,d,t,os]:=by
 have F:=PySem.F.excBase_ValueError
 repeat(first|(with_reducible refine T6 hC ?_)|(with_reducible refine wpAny_madeBy_exc hC ?_)|wp_step)
 refine codeAny_call_builtin_code (Code.quiet_builtin _ F.quiet) (wpAny_check_new_subT F T hC (codeAny_exc_new_subT F T hC ?_ hl));have kp:∀b o,h.get? b=be o->((h.push {cls:=.type "tuple",data:=.seq rest.toArray}).push {cls:=.ref C,data:=.fields [.ref h.objs.size,.none,.none,.none,.bool false,.none].toArray}).get? b=be o:=λb o e=>Heap.get?_push_of_some _ (Heap.get?_push_of_some _ e);have Rv:=kp _ _ hC;have X1:K.In _:=X.keeps kp;have he:((h.push {cls:=.type "tuple",data:=.seq rest.toArray}).push {cls:=.ref C,data:=.fields [.ref h.objs.size,.none,.none,.none,.bool false,.none].toArray}).get? (h.objs.size+1)=be {cls:=.ref C,data:=.fields [.ref h.objs.size,.none,.none,.none,.bool false,.none].toArray}:=by heap_get
 have Rw:(Value.ref C::bm).contains (.ref C)=true:=K8
 have L1:=looks_findIn (M:=SL prog w) X1 hi;have L2:=bind_fn (M:=SL prog w) X1 (.ref (h.objs.size+1)) hf;show TC _ _ _ _ _ _;unfold UQ
 repeat(first|(with_reducible refine T6 he ?_)|(with_reducible refine Uv Rv ?_;rw[Rw])|wp_step)
 refine L1.at ?_;refine Ul (Os (L2.at ?_));refine Os (T1 (hq _ (h.objs.size+1) #[kp,Heap.get?_none_of_le (Hk _),h.objs.size,he,Heap.get?_none_of_le (Gv _),Heap.get?_push_of_some _ (Heap.get?_push_at rfl rfl)]) (λr s' hr=>?_) λ_ _ x=>x);let#[rfl,hQ]:=hr;refine P3 ?_;exact P3 hQ
def yx{Q:KB->KM->Prop}(X:K.In h)(T:OwnTail h veLine bm)(hC:h.get? C=be (T9 nm q C N bs bm hdct sn sub ab col dd k0 k1 k2 k3 k5 "ValueError.__new__"))
  (hi:findIn K (.ref C) "__init__"=be (be (.ref fI))) (hf:typeIn K (.ref fI)=be (.type "function"))
  (hq:∀h' e,Heap.MadeExcOf h h' e (.ref C) rest->TC (SL prog w) (A.under (.builtin "type.__call__" #[.ref C::rest,[]])) (call (.ref fI) (.ref e::rest)) (λr s'=>r=.none/\Q (.ref e) s') E #[h',g,d,t,os]) (hl:rest.length<=sizeLine):
  TC (SL prog w) A (call (.ref C) rest) Q E #[h,g,d,t,os]:=by
 have f1:=tc_lookup;have f2:=tc_bind (.ref C);have hT:(#[h,g,d,t,os]:KM).TypeIs (.ref C) "type":=#[_,hC,rfl];refine Ue (codeAny_of_tree ?_);show TC _ _ (callAny (.ref C) _) _ _ _
 repeat(any_goals (first|(with_reducible refine T6 hC ?_)|assumption|wp_step))
 exact#[rfl,codeAny_call_builtin_at (Code.quiet_builtin _ KK) entry_typeCall (wpAny_check_type_call_sub hC (yw X T hC hi hf (λh' e hm=>hq h' e hm) hl))]
end
section
variable {prog:SB}{w:TJ}{A:TK}{E:KB->KM->Prop}{s:KM}{env:Uw}
variable {nm q:J7}{C N:KF}{bs bm:List KB}{hdct:Bool}{sn:List J7}{sub:List KB}{ab:Bool}{col:Option Bool}{dd:Option KF}{k0 k1 k2 k3 k5:Option KB}{newId:String}
variable{Q:Flow->KM->Prop}
def yy{x:Vj KB}(b8:bm.contains (.type "BaseException")=true)(hh:A.handled=x8)
  (h:TC (SL prog w) A x (λv s₁=>∃e t od sl,v=.ref e/\s₁.heap.get? C=be (T9 nm q C N bs bm hdct sn sub ab col dd k0 k1 k2 k3 k5 newId)/\
   s₁.heap.get? e=be #[.ref C,od,.fields [.ref t,.none,.none,.none,.bool false,.none].toArray,sl]/\E (.ref e) s₁) E s):
  TC (SL prog w) A (raiseStmt env (be x) x8) Q E s:=by
 have NY:(Value.ref C::bm).contains (.type "BaseException")=true:=by rw[IC,b8,Ic]
 unfold raiseStmt;refine Os (T1 h (λv s₁ h₁=>?_) λ_ _ x=>x);let#[e,t,od,sl,rfl,hC,he,hE]:=h₁;let#[hp,g,d,tk,os]:=s₁
 repeat(first|(with_reducible refine T6 he ?_)|(with_reducible refine T6 hC ?_)|(with_reducible refine Uv hC ?_;rw[NY])|wp_step)
 exact wpAny_raiseNew_none hh hE
def jE{x:SZ}{pos:TX}(b8:bm.contains (.type "BaseException")=true)(hh:A.handled=x8)
  (h:TC (SL prog w) A (TR x env) (λv s₁=>∃e t od sl,v=.ref e/\s₁.heap.get? C=be (T9 nm q C N bs bm hdct sn sub ab col dd k0 k1 k2 k3 k5 newId)/\
   s₁.heap.get? e=be #[.ref C,od,.fields [.ref t,.none,.none,.none,.bool false,.none].toArray,sl]/\E (.ref e) s₁) E s):
  TC (SL prog w) A (exec (.Raise (be x) x8 pos) env) Q E s:=by
 rw[arm_exec_Raise];show TC (SL prog w) A (do UG pos;raiseStmt env (be (do let v <-TR x env;UG pos;pure v)) x8) Q E s;exact Os (Uk (yy b8 hh (Os (T1 h (λv s₁ h₁=>Os (Uk (P3 h₁))) λ_ _ x=>x))))
end
def ExAt(h:Heap)(e C:KF)(od:Option KF)(T:KF)(fl:KB):Prop:=
 ∃sl vs oT ts,h.get? e=be #[.ref C,od,.fields vs,sl]/\vs[1]?=be (.ref T)/\T≠e/\h.get? T=be oT/\oT.data=.fields ts/\ts[3]?=be fl
structure Stay(fs ex:List KF)(h h':Heap):Prop where
 keep:∀b o,h.get? b=be o->b∉ex->b∉fs->h'.get? b=be o
 slot:∀b o,h.get? b=be o->b∉ex->∃sl,h'.get? b=be {o with slots:=sl}
 there:∀b o,h.get? b=be o->∃o',h'.get? b=be o'
variable{fs ex:List KF}{h:Heap}
def Stay.refl:Stay fs ex h h:=#[λ_ _ e _ _=>e,λ_ o e _=>#[o.slots,e],λ_ o e=>#[o,e]]
section
variable {M:Vq}{A:TK}{E:KB->KM->Prop}{s:KM}{env:Uw}{outer:List Uw}{base:Heap}{L e C T:KF}{od:Option KF}
variable{Q:Unit->KM->Prop}
def qH{sl:Array (Option KB)}{vs:Array KB}(n_:A.frames=be (env::outer))(hl:s.heap.FunFrames base (env::outer))(hf:env.frame=be L)
  (he:s.heap.get? e=be #[.ref C,od,.fields vs,sl]) (h1:vs[1]?=be .none)
  (h:∀h' T,ExAt h' e C od T (UN L)->s.heap.objs.size<=T->Stay (frs (env::outer)) [e] s.heap h'->Q () {s with heap:=h'}):TC M A (UF (.ref e) env) Q E s:=by
 have k_:1<vs.size:=(Ie.mp h1).1;have K5:e∉(env::outer).filterMap (·.frame):=λhm=>by
  let#[_,o,ho,hnf]:=hl.mem hm;rw[he]at ho;injection ho with ho;subst ho;exact hnf vs rfl
 unfold UF;simp only[hf];refine Os (Up he rfl h1 ?_);rw[if_neg K3];refine Os (VA n_ hl hf λh₁ hs₁=>Os (Vv λpl c9=>?_));unfold EntryCells.newEntry newFields;refine Os (TZ ?_ (c9.sizeOk5 _ _ _ _ _));have he₁:h₁.get? e=be #[.ref C,od,.fields vs,sl]:=(hs₁.2.1 e K5).trans he;have fresh:h₁.get? h₁.objs.size=none:=Heap.get?_none_of_le (Gv _);generalize Ma:({cls:=.type "traceback",dict:=x8,data:=.fields ([Value.none,.ref L,.none,UN L,.none]++(if pl.isEmpty then GI 6 Value.none else pl)).toArray}:T5)=oT;have he₂:=Heap.get?_push_of_some (h:=h₁) oT he₁;have u_:h₁.objs.size≠e:=Hi (Heap.lt_size he₁);refine UM he₂ rfl k_ (h _ h₁.objs.size ?_ ?_ ?_)
 .refine#[sl,vs.setIfInBounds 1 (.ref h₁.objs.size),oT,([Value.none,.ref L,.none,UN L,.none]++(if pl.isEmpty then GI 6 Value.none else pl)).toArray,?_,by simp[k_],u_,?_,by rw[<-Ma],K8]
  .rw[Heap.get?_update_self _ he₂ rfl];rfl
  .rw[Heap.get?_update_other _ _ (Ne.symm u_)];exact Heap.get?_push_size h₁ (by rw[<-Ma];rfl)
 .exact H8 hs₁.1.symm
 .have kp:∀b o,b≠e->h₁.get? b=be o->((h₁.push oT).update e (Obj.mapFields (·.setIfInBounds 1 (Value.ref h₁.objs.size)))).get? b=be o:=λb o hb z=>by
   rw[Heap.get?_update_other _ _ (Ne.symm hb)];exact Heap.get?_push_of_some _ z
  refine#[λb o q n m=>kp b o (λz=>n (by simp[z])) ((hs₁.2.1 b m).trans q),λb o q n=>?_,λb o q=>?_]
  .let#[w9,z]:=hs₁.2.2 b o q;exact#[w9,kp b _ (λz=>n (by simp[z])) z]
  .by_cases hb:b=e
   .subst hb;exact#[_,Heap.get?_update_self _ he₂ rfl]
   .let#[w9,z]:=hs₁.2.2 b o q;exact#[_,kp b _ hb z]
def qI{fl:KB}(n_:A.frames=be (env::outer))(hl:s.heap.FunFrames base (env::outer))(hf:env.frame=be L)(hx:ExAt s.heap e C od T fl)
  (h:∀h' T',ExAt h' e C od T' (UN L)->T'=T\/s.heap.objs.size<=T'->Stay (frs (env::outer)) [T,e] s.heap h'->Q () {s with heap:=h'}):TC M A (UF (.ref e) env) Q E s:=by
 let#[sl,vs,oT,ts,he,h1,u_,hT,m6,h3]:=hx;have k_:1<vs.size:=(Ie.mp h1).1;have Nf:3<ts.size:=(Ie.mp h3).1;have K5:e∉(env::outer).filterMap (·.frame):=λhm=>by
  let#[_,o,ho,hnf]:=hl.mem hm;rw[he]at ho;injection ho with ho;subst ho;exact hnf vs rfl
 unfold UF;simp only[hf];refine Os (Up he rfl h1 ?_);rw[if_pos (show(Value.ref T !=Value.none)=true from K8)];refine Os (Up hT m6 h3 ?_);by_cases hq:(fl==UN L)=true
 .rw[if_pos hq];exact P3 (h s.heap T #[sl,vs,oT,ts,he,h1,u_,hT,m6,by rw[<-eq_of_beq hq];exact h3] (.inl rfl) Stay.refl)
 rw[if_neg hq];refine Os (UM hT m6 Nf ?_);have other:∀b,b≠T->(s.heap.update T (Obj.mapFields (·.setIfInBounds 3 Value.none))).get? b=s.heap.get? b:=λb hb=>Heap.get?_update_other _ _ (Ne.symm hb);have nT:∀b o,s.heap.get? b=be o->(∀vs,o.data≠.fields vs)->b≠T:=λb o hb hnf q=>by
  rw[q,hT]at hb;injection hb with hb;subst hb;exact hnf ts m6
 have NZ:(s.heap.update T (Obj.mapFields (·.setIfInBounds 3 Value.none))).FunFrames base (env::outer):=hl.of_keeps λb o hb hnf=>#[o,(other b (nT b o hb hnf)).trans hb,rfl];have Rx:∃o',(s.heap.update T (Obj.mapFields (·.setIfInBounds 3 Value.none))).get? T=be o':=#[_,Heap.get?_update_self _ hT (Obj.isFreed_of_fields (Obj.data_mapFields m6 _))];refine Os (VA n_ NZ hf λh₁ hs₁=>Os (Vv λpl c9=>?_));unfold EntryCells.newEntry newFields;refine Os (TZ ?_ (c9.sizeOk5 _ _ _ _ _));have he₁:h₁.get? e=be #[.ref C,od,.fields vs,sl]:=(hs₁.2.1 e K5).trans ((other e (Ne.symm u_)).trans he);have fresh:h₁.get? h₁.objs.size=none:=Heap.get?_none_of_le (Gv _);generalize Ma:({cls:=.type "traceback",dict:=x8,data:=.fields ([Value.ref T,.ref L,.none,UN L,.none]++(if pl.isEmpty then GI 6 Value.none else pl)).toArray}:T5)=N1;have he₂:=Heap.get?_push_of_some (h:=h₁) N1 he₁;have Mb:h₁.objs.size≠e:=Hi (Heap.lt_size he₁);refine UM he₂ rfl k_ (h _ h₁.objs.size ?_ (.inr ?_) ?_)
 .refine#[sl,vs.setIfInBounds 1 (.ref h₁.objs.size),N1,([Value.ref T,.ref L,.none,UN L,.none]++(if pl.isEmpty then GI 6 Value.none else pl)).toArray,?_,by simp[k_],Mb,?_,by rw[<-Ma],K8]
  .rw[Heap.get?_update_self _ he₂ rfl];rfl
  .rw[Heap.get?_update_other _ _ (Ne.symm Mb)];exact Heap.get?_push_size h₁ (by rw[<-Ma];rfl)
 .exact H8 (hs₁.1.trans (Heap.size_after_update _ _ _)).symm
 .have kp:∀b o,b≠e->h₁.get? b=be o->((h₁.push N1).update e (Obj.mapFields (·.setIfInBounds 1 (Value.ref h₁.objs.size)))).get? b=be o:=λb o hb z=>by
   rw[Heap.get?_update_other _ _ (Ne.symm hb)];exact Heap.get?_push_of_some _ z
  refine#[λb o q n m=>kp b o (λz=>n (by simp[z])) ((hs₁.2.1 b m).trans ((other b (λz=>n (by simp[z]))).trans q)),λb o q n=>?_,λb o q=>?_]
  .let#[w9,z]:=hs₁.2.2 b o ((other b (λz=>n (by simp[z]))).trans q);exact#[w9,kp b _ (λz=>n (by simp[z])) z]
  .by_cases hb:b=e
   .subst hb;exact#[_,Heap.get?_update_self _ he₂ rfl]
   .have:∃o',(s.heap.update T (Obj.mapFields (·.setIfInBounds 3 Value.none))).get? b=be o':=by
     by_cases hb:b=T
     .rw[hb];exact Rx
     .exact#[o,(other _ hb).trans q]
    let#[o',q']:=this;let#[w9,z]:=hs₁.2.2 b o' q';exact#[_,kp b _ hb z]
def fP{fl:KB}(hx:ExAt s.heap e C od T fl)(h:∀h',ExAt h' e C od T .none->Stay [] [T] s.heap h'->Q () {s with heap:=h'}):TC M A (UW (.ref e) x8) Q E s:=by
 let#[sl,vs,oT,ts,he,h1,u_,hT,m6,h3]:=hx;have Nf:3<ts.size:=(Ie.mp h3).1;unfold UW;refine Os (Up he rfl h1 ?_);rw[if_pos (show(Value.ref T !=Value.none)=true from K8)];refine UM hT m6 Nf (h _ ?_ ?_)
 .exact#[sl,vs,_,_,(Heap.get?_update_other _ _ u_).trans he,h1,u_,Heap.get?_update_self _ hT (Obj.isFreed_of_fields (Obj.data_mapFields m6 _)),Obj.data_mapFields m6 _,by simp[Nf]]
 .have other:∀b o,b∉[T]->s.heap.get? b=be o->(s.heap.update T (Obj.mapFields (·.setIfInBounds 3 ((x8:Option KF).elim Value.none λf=>UN f)))).get? b=be o:=λb o hb q=>(Heap.get?_update_other _ _ (λz=>hb (by simp[z]))).trans q;refine#[λb o q n _=>other b o n q,λb o q n=>#[o.slots,other b o n q],λb o q=>?_];by_cases hb:b=T
  .subst hb;exact#[_,Heap.get?_update_self _ hT (Obj.isFreed_of_fields (Obj.data_mapFields m6 _))]
  .exact#[o,other b o (by simp[hb]) q]
end
def CX1(P:SB)(w:TJ):CXT:=λouter H s E ev s'=>∃e C od T H',ev=.ref e/\s'.os=s.os/\UC s'.gens/\Un (frs outer) [] H H' s.heap s'.heap/\HOk P w H' s'.heap/\ExAt s'.heap e C od T .none/\s.heap.get? e=x8/\s.heap.get? T=x8/\H' e=x8/\H' T=x8/\E (.ref C) od H'
def fQ{P:SB}{w:TJ}{H:Hp}{h':Heap}(x:HOk P w H h)(st:Stay fs ex h h')(hf:∀b∈fs,H b=x8)(he:∀b∈ex,H b=x8):HOk P w H h':=λa o q=>
 (x a o q).stay (λb u hb r=>by
  have hn:H b≠none:=by
   rcases hb with rfl|hb
   .rw[q];exact λz=>nomatch z
   .rw[hb];exact λz=>nomatch z
  exact st.keep b u r (λz=>hn (he b z)) (λz=>hn (hf b z))) (λ_ q=>q) λ_ _ q=>q
def gL{n9:List KF}{H H':Hp}{h1 h2:Heap}(u:Un fs [] H H' h h1)(st:Stay n9 ex h1 h2)(f_:∀b∈ex,h.get? b=x8)(JZ:∀b∈n9,b∈fs\/h.get? b=x8):Un fs [] H H' h h2 where
 keep:=λb o q n hb hx=>st.keep b o (u.keep b o q n hb hx) (λz=>by rw[f_ b z]at q;cases q) (λz=>(JZ b z).elim hb λy=>by rw[y]at q;cases q)
 slot:=λb o q n hb hx=>by
  let#[sl,e1]:=u.slot b o q n hb hx;let#[w9,e2]:=st.slot b _ e1 (λz=>by rw[f_ b z]at q;cases q);exact#[w9,e2]
 free:=u.free
 there:=λb o q hx=>by
  let#[o1,e1]:=u.there b o q hx;exact st.there b o1 e1
 tups:=u.tups
 frzs:=u.frzs
 tbls:=u.tbls
section
variable {P:SB}{w:TJ}{K:Ex}{mg:J7->Option KB}{base:Heap}{N:List J7}{qual:J7}{scope:Uc}{f:KF}{cd:KB}{A:TK}{outer:List Uw}{s:KM}{H:Hp}{E E':XK}
def qJ{b:KF}(hb:b∈frs (TY qual scope s.heap.objs.size f cd::outer)):b∈frs outer\/s.heap.get? b=none:=by
 unfold frs at hb;rw[HZ]at hb;rcases GA.mp (show b∈s.heap.objs.size::outer.filterMap (·.frame)from hb)with e|e
 .rw[e];exact .inr (Heap.get?_none_of_le (Gv _))
 .exact .inl e
def jF{pins:List (KF×T5)}{σ:L2.St}{H1:Hp}{s1:KM}{e C:KF}{od:Option KF}{sl:Array (Option KB)}{vs:Array KB}(I:Inv (cxOf (CX1 P w) P w K mg base N qual scope f cd A outer s H E') pins σ H1 s1)
  (he:s1.heap.get? e=be #[.ref C,od,.fields vs,sl]) (h1:vs[1]?=be .none) (He:H1 e=x8) (ne:s.heap.get? e=x8) (hE:E' (.ref C) od H1):(cxOf (CX1 P w) P w K mg base N qual scope f cd A outer s H E').xe (.ref e) s1:=by
 show TC _ _ (Vf _ _) _ _ _;unfold Vf;refine Os (qH I.ok.frames I.stack rfl he h1 λh2 T2 t9 J0 u8=>fP (s:={s1 with heap:=h2}) t9 λh3 Mc H_=>?_);have Ls:s1.heap.get? T2=none:=Heap.get?_none_of_le J0;have f1:∀b,s1.heap.get? b=x8->s.heap.get? b=none:=λb q=>by
  cases z:s.heap.get? b with
  |none=>rfl
  |some o=>
   let#[o',z']:=I.base.there b o z (by exact λy=>absurd (show b∈([]:List KF)from y) K8);rw[q]at z';cases z'
 have hok:HOk P w H1 s1.heap:=I.hok;have Md:H1 T2=none:=hok.fresh J0;have u2:Un (frs outer) [] H H1 s.heap h2:=gL (show Un (frs outer) [] H H1 s.heap s1.heap from I.base) u8 (λb hb=>by rw[Gu.mp hb];exact ne) λb hb=>qJ hb;have u3:Un (frs outer) [] H H1 s.heap h3:=gL u2 H_ (λb hb=>by rw[Gu.mp hb];exact f1 T2 Ls) λb hb=>by cases hb
 have k2:=fQ hok u8 (λb hb=>I.stkFree b hb) (λb hb=>by rw[Gu.mp hb];exact He);have k3:=fQ k2 H_ (λb hb=>by cases hb) (λb hb=>by rw[Gu.mp hb];exact Md);exact#[e,C,od,T2,H1,rfl,I.os,I.bare,u3,k3,Mc,ne,f1 T2 Ls,He,Md,hE]
end
end Exc
namespace L2
def Same.tup{K:Ex}{H H':Hp}{a:KF}{xs:List V}(e:Same H H')(h:SqT K H a xs):SqT K H' a xs:=by
 rcases h with(h|⟨o,h⟩)|h
 .exact .inl (.inl (e _ _ h))
 .exact .inl (.inr #[o,e _ _ h])
 .exact .inr h
end L2
namespace My
def le_b{a b:Nat}(h:Nat.ble a b=true):a<=b:=Gw h
def eX{X:Cx}:eU (Exc.CX1 X.prog X.w) X E0:=λ_ _ _ _ _ _ _ h=>by
 let#[e,C,od,T,H',_,_,_,_,_,_,_,_,_,_,h]:=h;exact h.elim
def Fun.okC{P:SB}{w:TJ}{K:Ex}{mg:J7->Option KB}{base:Heap}{CX:CXT}{x qual:J7}{st:TF}{f:KF}{fd:TQ}{N ps:List J7}{k:Nat}{sp:Sp}{dV:KB}(F:FunG K dV x qual st f fd)(S:FnScope N ps (ah st))(len:∀vs H Q E,sp vs H Q E->vs.length=ps.length)
  (a9:∀(cdv:KB) (A:TK) (outer:List Uw) (s:KM) (H:Hp) (vs:List V) (Q:VK) (E:XK),Room k (A.deeper (TY qual (ah st) s.heap.objs.size f cdv))->sp vs H Q E->
   ∃t,PSs (cxOf CX P w K mg base N qual (ah st) f cdv A outer s H E) (aL st) t/\t {nx:=λ_ H'=>Q .non H',rt:=Q} (start N vs) H):FnOk P w K mg base CX (k+1) f fd ps sp:=by
 let#[oc,od,kV,doc,pm,an,cdv,ct,osl,rfl,lk,i8]:=F.ex;refine xN lk i8 S len λA outer s H vs Q E hr y_=>?_;exact a9 cdv A outer s H vs Q E hr y_
def Cal(P:SB)(w:TJ)(K:Ex)(mg:J7->Option KB)(base:Heap)(n:Nat)(x:J7)(ps:List J7)(sp:Sp):Prop:=
 ∃f fd,FnOk P w K mg base (Exc.CX1 P w) n f fd ps sp/\Binds K fd ps []/\keepIn K (.ref f)=true/\mg x=be (.ref f)
def Tx(K:Ex)(mg:J7->Option KB)(x:J7)(st:TF)(ps:List J7):Prop:=
 ∃f fd,Fun K x x st f fd/\Binds K fd ps []/\mg x=be (.ref f)
section
variable {X:Cx}{n m:Nat}{ps:List J7}{sp:Sp}{x:J7}{p pos:TX}{e:SZ}{es:List SZ}{t:TA}
def yz(C:Cal X.prog X.w X.K X.mg X.base n x ps sp)(hr:Room m X.A)(ha:PA X (e::es) t)(hg:Gl X x\zA0)(hn:(n<=m)\zA1)(d9:zND x\zA1)
  (he:zSE X e es\zA0) (c9:zPL X pos es\zA0):
  PE X (.Call (.Name x p) (e::es) [] pos) (jx sp [] E0 t):=by
 let#[f,fd,F,hb,hk,hm]:=C;exact xJ F (hr.mono hn) hg hm hk hb .nil eX ha d9 he c9
end
def aQ{H:Hp}{p:KF}(h:H p=x8)(o:HO):Same H (upd H p o):=λb u q=>by rw[ar (bG q h)];exact q
def sz{n:Nat}(h:n<=1000):n<=sizeLine:=HY (yq h)
end My
namespace L2
section
variable {X:Cx}
variable{e:SZ}
def PE.anti{t t':TE}(h:PE X e t)(a:∀s H Q,t' s H Q->t s H Q):PE X e t':=λpins s σ H Q I q=>h pins s σ H Q I (a _ _ _ q)
def PT.anti{t t':TT}(h:PT X e t)(a:∀s H Q,t' s H Q->t s H Q):PT X e t':=λpins s σ H Q I q=>h pins s σ H Q I (a _ _ _ q)
def PW.anti{t t':TT}(h:PW X e t)(a:∀s H Q,t' s H Q->t s H Q):PW X e t':=λwh pins s σ H Q I q=>h wh pins s σ H Q I (a _ _ _ q)
def PA.anti{e:List SZ}{t t':TA}(h:PA X e t)(a:∀s H Q,t' s H Q->t s H Q):PA X e t':=λp pins s σ H Q I q=>h p pins s σ H Q I (a _ _ _ q)
def PS.anti{e:TF}{t t':TS}(h:PS X e t)(a:∀E s H,t' E s H->t E s H):PS X e t':=λpins s σ H Q I q=>h pins s σ H Q I (a _ _ _ q)
def PSs.anti{e:List TF}{t t':TS}(h:PSs X e t)(a:∀E s H,t' E s H->t E s H):PSs X e t':=λpins s σ H Q I q=>h pins s σ H Q I (a _ _ _ q)
end
end L2
namespace My
inductive D where
 |non|bl (b:Bool)|int (i:Int)|str (x:Str)|tup (xs:List D)|lst (xs:List D)
  |rol (xs:List D)
  |obj (x:J7) (fs:List (J7×D))
  |exc (x:J7) (fs:List (J7×D))
  |own (xs:List D)
  |ptr (a:KF)
  |dti (a_:List ((Int×Int)×Int))
def dtiV(a_:List ((Int×Int)×Int)):List (List Key×V):=a_.map λe=>([.inl e.1.1,.inl e.1.2],.int e.2)
def XO(e C:KF)(od:Option KF):HO:=.ext λh=>∃vs sl,h.get? e=be #[.ref C,od,.fields vs,sl]
mutual
def Rep(K:Ex)(H:Hp):D->V->Prop
 |.non,v=>v=.non
 |.bl b,v=>v=.bl b
 |.int i,v=>v=.int i
 |.str x,v=>v=.str x
 |.tup ds,v=>∃a vs,v=.ref a/\H a=be (.tup vs)/\Reps K H ds vs
 |.lst ds,v=>∃a vs,v=.ref a/\H a=be (.lst vs)/\Reps K H ds vs
 |.rol ds,v=>∃a vs,v=.ref a/\SqL K H a vs/\Reps K H ds vs
 |.obj x fs,v=>∃a C dx vs,v=.ref a/\nsIn K Pi x=be (be (.ref C))/\H a=be (.ins C dx vs)/\RepF K H fs vs
 |.exc x fs,v=>∃a C od vs,v=.ref a/\nsIn K Pi x=be (be (.ref C))/\H a=be (XO a C od)/\RepF K H fs vs/\((od=x8/\vs=[])\/∃b,od=be b/\H b=be (.xd vs))
 |.own _,_=>False
 |.ptr a,v=>v=.ref a
 |.dti a_,v=>∃a,v=.ref a/\H a=be (.dT (dtiV a_))
def RepF(K:Ex)(H:Hp):List (J7×D)->List (J7×V)->Prop
 |[],vs=>vs=[]
 |(f,d)::ds,vs=>∃v r,vs=(f,v)::r/\Rep K H d v/\RepF K H ds r
def Reps(K:Ex)(H:Hp):List D->List V->Prop
 |[],vs=>vs=[]
 |d::ds,vs=>∃v r,vs=v::r/\Rep K H d v/\Reps K H ds r
end
mutual
def Rep.mono{K:Ex}{H H':Hp}(g:Same H H'):∀(d:D) (v:V),Rep K H d v->Rep K H' d v
 |.non,v,h=>by unfold Rep at h ⊢;exact h
 |.bl b,v,h=>by unfold Rep at h ⊢;exact h
 |.int b,v,h=>by unfold Rep at h ⊢;exact h
 |.str b,v,h=>by unfold Rep at h ⊢;exact h
 |.tup ds,v,h=>by
  unfold Rep at h ⊢;let#[a,vs,e,q,r]:=h;exact#[a,vs,e,g _ _ q,Reps.mono g ds vs r]
 |.lst ds,v,h=>by
  unfold Rep at h ⊢;let#[a,vs,e,q,r]:=h;exact#[a,vs,e,g _ _ q,Reps.mono g ds vs r]
 |.rol ds,v,h=>by
  unfold Rep at h ⊢;let#[a,vs,e,q,r]:=h;exact#[a,vs,e,g.seq q,Reps.mono g ds vs r]
 |.obj C fs,v,h=>by
  unfold Rep at h ⊢;let#[a,C,dx,vs,e,n,q,r]:=h;exact#[a,C,dx,vs,e,n,g _ _ q,RepF.mono g fs vs r]
 |.exc C fs,v,h=>by
  unfold Rep at h ⊢;let#[a,C,od,vs,e,n,q,r,d]:=h;exact#[a,C,od,vs,e,n,g _ _ q,RepF.mono g fs vs r,d.imp id λ⟨b,h1,h2⟩=>#[b,h1,g _ _ h2]]
 |.own ds,v,h=>by
  unfold Rep at h ⊢;exact h
 |.ptr a,v,h=>by unfold Rep at h ⊢;exact h
 |.dti a_,v,h=>by
  unfold Rep at h ⊢;let#[a,e,q]:=h;exact#[a,e,g _ _ q]
def RepF.mono{K:Ex}{H H':Hp}(g:Same H H'):∀(ds:List (J7×D)) (vs:List (J7×V)),RepF K H ds vs->RepF K H' ds vs
 |[],vs,h=>by unfold RepF at h ⊢;exact h
 |(f,d)::ds,vs,h=>by
  unfold RepF at h ⊢;let#[v,r,e,q1,q2]:=h;exact#[v,r,e,Rep.mono g d v q1,RepF.mono g ds r q2]
def Reps.mono{K:Ex}{H H':Hp}(g:Same H H'):∀(ds:List D) (vs:List V),Reps K H ds vs->Reps K H' ds vs
 |[],vs,h=>by unfold Reps at h ⊢;exact h
 |d::ds,vs,h=>by
  unfold Reps at h ⊢;let#[v,r,e,q1,q2]:=h;exact#[v,r,e,Rep.mono g d v q1,Reps.mono g ds r q2]
end
section
variable {K:Ex}{H:Hp}
variable{v:V}
def rep_non:Rep K H .non v↔v=.non:=by unfold Rep;exact Iff.rfl
def rep_bl{b:Bool}:Rep K H (.bl b) v↔v=.bl b:=by unfold Rep;exact Iff.rfl
def rep_int{i:Int}:Rep K H (.int i) v↔v=.int i:=by unfold Rep;exact Iff.rfl
variable{x:J7}
def rep_str:Rep K H (.str x) v↔v=.str x:=by unfold Rep;exact Iff.rfl
variable{ds:List My.D}
def rep_tupS:Rep K H (.tup ds) v↔∃a vs,v=.ref a/\H a=be (.tup vs)/\Reps K H ds vs:=by
 constructor
 .intro h;unfold Rep at h;exact h
 .intro h;unfold Rep;exact h
def rep_tup_mp(h:Rep K H (.tup ds) v):∃a vs,v=.ref a/\SqT K H a vs/\Reps K H ds vs:=by
 let#[a,vs,e,q,r]:=rep_tupS.mp h;exact#[a,vs,e,SqT.of q,r]
def rep_ptr{a:KF}:Rep K H (.ptr a) v↔v=.ref a:=by unfold Rep;exact Iff.rfl
def rep_dti{a_:List ((Int×Int)×Int)}:Rep K H (.dti a_) v↔∃a,v=.ref a/\H a=be (.dT (dtiV a_)):=by
 constructor
 .intro h;unfold Rep at h;exact h
 .intro h;unfold Rep;exact h
def rep_lst:Rep K H (.lst ds) v↔∃a vs,v=.ref a/\H a=be (.lst vs)/\Reps K H ds vs:=by
 constructor
 .intro h;unfold Rep at h;exact h
 .intro h;unfold Rep;exact h
def rep_rol:Rep K H (.rol ds) v↔∃a vs,v=.ref a/\SqL K H a vs/\Reps K H ds vs:=by
 constructor
 .intro h;unfold Rep at h;exact h
 .intro h;unfold Rep;exact h
variable{fs:List (J7×My.D)}
def rep_obj:Rep K H (.obj x fs) v↔∃a C dx vs,v=.ref a/\nsIn K Pi x=be (be (.ref C))/\H a=be (.ins C dx vs)/\RepF K H fs vs:=by
 constructor
 .intro h;unfold Rep at h;exact h
 .intro h;unfold Rep;exact h
def rep_exc:Rep K H (.exc x fs) v↔∃a C od vs,v=.ref a/\nsIn K Pi x=be (be (.ref C))/\H a=be (XO a C od)/\RepF K H fs vs/\((od=x8/\vs=[])\/∃b,od=be b/\H b=be (.xd vs)):=by
 constructor
 .intro h;unfold Rep at h;exact h
 .intro h;unfold Rep;exact h
def rep_own:¬Rep K H (.own ds) v:=by intro h;unfold Rep at h;exact h
variable{vs:List (J7×V)}
def repf_nil:RepF K H [] vs↔vs=[]:=by unfold RepF;exact Iff.rfl
def repf_cons{f:J7}{d:D}{ds:List (J7×D)}:RepF K H ((f,d)::ds) vs↔∃v r,vs=(f,v)::r/\Rep K H d v/\RepF K H ds r:=by
 constructor
 .intro h;unfold RepF at h;exact h
 .intro h;unfold RepF;exact h
def RepF.look{f:J7}{d:D}:∀{fs:List (J7×D)} {vs:List (J7×V)},RepF K H fs vs->fs.lookup f=be d->∃v,vs.lookup f=be v/\Rep K H d v
 |[],_,_,e=>by cases e
 |(g,x)::fs,vs,h,e=>by
  let#[v,r,rfl,h1,h2]:=repf_cons.mp h;rw[GM]at e ⊢;split at e
  .cases e;exact#[v,rfl,h1]
  .exact RepF.look h2 e
def RepF.none{f:J7}:∀{fs:List (J7×D)} {vs:List (J7×V)},RepF K H fs vs->fs.lookup f=Option.none->vs.lookup f=Option.none
 |[],vs,h,_=>by rw[repf_nil.mp h];rfl
 |(g,x)::fs,vs,h,e=>by
  let#[v,r,rfl,h1,h2]:=repf_cons.mp h;rw[GM]at e ⊢;split at e
  .cases e
  .exact RepF.none h2 e
def reps_nil{vs:List V}:Reps K H [] vs↔vs=[]:=by unfold Reps;exact Iff.rfl
def reps_cons{d:D}{vs:List V}:Reps K H (d::ds) vs↔∃v r,vs=v::r/\Rep K H d v/\Reps K H ds r:=by
 constructor
 .intro h;unfold Reps at h;exact h
 .intro h;unfold Reps;exact h
def Reps.length:∀{ds:List D} {vs:List V},Reps K H ds vs->vs.length=ds.length
 |[],vs,h=>by rw[reps_nil.mp h];rfl
 |d::ds,vs,h=>by
  let#[v,r,rfl,_,h2]:=reps_cons.mp h;rw[Gy,Gy,Reps.length h2]
def Reps.get:∀{ds:List D} {vs:List V} {i:Nat} {d:D},Reps K H ds vs->ds[i]?=be d->∃v,vs[i]?=be v/\Rep K H d v
 |[],_,_,_,_,e=>by simp at e
 |x::ds,vs,0,d,h,e=>by
  let#[v,r,rfl,h1,_]:=reps_cons.mp h;simp at e;subst e;exact#[v,rfl,h1]
 |x::ds,vs,i+1,d,h,e=>by
  let#[v,r,rfl,_,h2]:=reps_cons.mp h;let#[u,q1,q2]:=Reps.get (i:=i) h2 (by simpa using e);exact#[u,by simpa using q1,q2]
def Reps.ints:∀{ns:List Int} {vs:List V},Reps K H (ns.map D.int) vs↔vs=ns.map V.int
 |[],vs=>reps_nil
 |n::ns,vs=>by
  rw[GK,reps_cons,GK];constructor
  .rintro⟨v,r,rfl,h1,h2⟩;rw[rep_int.mp h1,Reps.ints.mp h2]
  .rintro rfl;exact#[_,_,rfl,rep_int.mpr rfl,Reps.ints.mpr rfl]
end
abbrev SD:=List (Option D)
def gM:D->Bool|.own _=>true|_=>false
structure RepS(K:Ex)(B F H:Hp)(t:SD)(s:L2.St):Prop where
 len:s.length=t.length
 val:∀(i:Nat) d,t[i]?=be (be d)->gM d=false->∃v,s[i]?=be (be v)/\Rep K F d v
 own:∀(i:Nat) ds,t[i]?=be (be (.own ds))->∃a vs,s[i]?=be (be (.ref a))/\H a=be (.lst vs)/\B a=x8/\F a=x8/\Reps K F ds vs
 apart:∀(i j:Nat) di dj a,t[i]?=be (be (.own di))->t[j]?=be (be (.own dj))->s[i]?=be (be (.ref a))->s[j]?=be (be (.ref a))->i=j
structure Grow(F H F' H':Hp):Prop where
 ff:Same F F'
 fh:Same F' H'
 hh:Same H H'
 out:∀b,F b=x8->H b≠x8->F' b=x8
variable{F H:Hp}
def Grow.refl(h:Same F H):Grow F H F H:=#[Same.refl F,h,Same.refl H,λ_ h _=>h]
def Grow.trans{F1 H1 F2 H2:Hp}(g:Grow F H F1 H1)(k:Grow F1 H1 F2 H2):Grow F H F2 H2:=
 ⟨g.ff.trans k.ff,k.fh,g.hh.trans k.hh,λb h1 h2=>k.out b (g.out b h1 h2) (by
  cases e:H b with
  |none=>exact absurd e h2
  |some o=>rw[g.hh b o e];exact λz=>nomatch z)⟩
def Grow.new{p:KF}(h:Same F H)(hp:H p=x8)(o:HO):Grow F H (upd F p o) (upd H p o):=by
 have fp:F p=none:=h.free hp;refine#[aQ fp o,λb u e=>?_,aQ hp o,λb h1 h2=>?_]
 .by_cases hb:b=p
  .subst hb;rw[aB]at e ⊢;exact e
  .rw[ar hb]at e ⊢;exact h b u e
 .by_cases hb:b=p
  .subst hb;exact absurd hp h2
  .rw[ar hb];exact h1
class Jx where
 B:Hp
 F0:Hp
 RX:SD->J7->List (J7×D)->Prop
structure Kept[J:Jx](B F0 F H:Hp):Prop where
 bh:Same B H
 fh:Same F H
 f0:Same F0 F
 out:∀b,F0 b=x8->B b≠x8->F b=x8
 eb:B=J.B
 jf:Same J.F0 F0
 jo:∀b,J.F0 b=x8->B b≠x8->F0 b=x8
variable{B:Hp}
def Kept.kf[J:Jx]{F0:Hp}(k:Kept B F0 F H):Kept B J.F0 F H:=#[k.bh,k.fh,k.jf.trans k.f0,λb h1 h2=>k.out b (k.jo b h1 h2) h2,k.eb,Same.refl _,λ_ h _=>h]
def Kept.grow[Jx]{F0 F' H':Hp}(k:Kept B F0 F H)(g:Grow F H F' H'):Kept B F0 F' H':=
 ⟨k.bh.trans g.hh,g.fh,k.f0.trans g.ff,λb h1 h2=>g.out b (k.out b h1 h2) (by
  cases e:B b with
  |none=>exact absurd e h2
  |some o=>rw[k.bh b o e];exact λz=>nomatch z),k.eb,k.jf,k.jo⟩
section
variable {K:Ex}{B F H F' H':Hp}{t:SD}{s:L2.St}
def RepS.grow(g:Grow F H F' H')(h:RepS K B F H t s):RepS K B F' H' t s where
 len:=h.len
 val:=λi d e no=>let ⟨v,q1,q2⟩:=h.val i d e no;#[v,q1,q2.mono g.ff]
 own:=λi ds e=>by
  let#[a,vs,q1,q2,q3,q4,q5]:=h.own i ds e;exact#[a,vs,q1,g.hh a _ q2,q3,g.out a q4 (by rw[q2];exact λz=>nomatch z),q5.mono g.ff]
 apart:=h.apart
variable{i:Nat}
def RepS.set{d:D}{v:V}(h:RepS K B F H t s)(r:Rep K F d v):RepS K B F H (t.set i (be d)) (s.set i (be v)):=by
 have no:gM d=false:=by
  cases d with
  |own ds=>exact absurd r rep_own
  |_=>rfl
 have get:∀{j:Nat} {x:D},(t.set i (be d))[j]?=be (be x)->(j=i/\x=d/\i<t.length)\/(j≠i/\t[j]?=be (be x)):=λ{j x} e=>by
  by_cases hj:i=j
  .subst hj;rw[HG]at e;simp at e;exact .inl #[rfl,e.2.symm,e.1]
  .rw[GL hj]at e;exact .inr #[λz=>hj z.symm,e]
 refine#[by rw[Hc,Hc];exact h.len,λj x e nx=>?_,λj ds e=>?_,λj k dj dk a e1 e2 e3 e4=>?_]
 .rcases get e with⟨rfl,rfl,hl⟩|⟨hj,e⟩
  .exact#[v,by rw[G6 (by rw[h.len];exact hl)],r]
  .let#[u,q1,q2]:=h.val j x e nx;exact#[u,by rw[GL (λz=>hj z.symm)];exact q1,q2]
 .rcases get e with⟨rfl,rfl,hl⟩|⟨hj,e⟩
  .cases no
  .let#[a,vs,q1,q]:=h.own j ds e;exact#[a,vs,by rw[GL (λz=>hj z.symm)];exact q1,q]
 .rcases get e1 with⟨rfl,rfl,hl⟩|⟨hj,e1⟩
  .cases no
  .rcases get e2 with⟨rfl,rfl,hl⟩|⟨hk,e2⟩
   .cases no
   .rw[GL (λz=>hj z.symm)]at e3;rw[GL (λz=>hk z.symm)]at e4;exact h.apart j k dj dk a e1 e2 e3 e4
variable{ds:List My.D}
def RepS.setOwn{a:KF}{vs:List V}(h:RepS K B F H t s)(hB:B a=x8)(hF:F a=x8)(r:Reps K F ds vs)
  (free:∀(j:Nat) dj,j≠i->t[j]?=be (be (.own dj))->s[j]?≠be (be (.ref a))):RepS K B F (upd H a (.lst vs)) (t.set i (be (.own ds))) (s.set i (be (.ref a))):=by
 have get:∀{j:Nat} {x:D},(t.set i (be (.own ds)))[j]?=be (be x)->(j=i/\x=.own ds/\i<t.length)\/(j≠i/\t[j]?=be (be x)):=λ{j x} e=>by
  by_cases hj:i=j
  .subst hj;rw[HG]at e;simp at e;exact .inl #[rfl,e.2.symm,e.1]
  .rw[GL hj]at e;exact .inr #[λz=>hj z.symm,e]
 refine#[by rw[Hc,Hc];exact h.len,λj x e nx=>?_,λj dj e=>?_,λj k dj dk b e1 e2 e3 e4=>?_]
 .rcases get e with⟨rfl,rfl,hl⟩|⟨hj,e⟩
  .cases nx
  .let#[u,q1,q2]:=h.val j x e nx;exact#[u,by rw[GL (λz=>hj z.symm)];exact q1,q2]
 .rcases get e with⟨rfl,e,hl⟩|⟨hj,e⟩
  .cases e;exact#[a,vs,by rw[G6 (by rw[h.len];exact hl)],aB,hB,hF,r]
  .let#[b,us,q1,q2,q]:=h.own j dj e;have ne:b≠a:=λz=>free j dj hj e (z ▸ q1);exact#[b,us,by rw[GL (λz=>hj z.symm)];exact q1,by rw[ar ne];exact q2,q]
 .rcases get e1 with⟨hj,c1,hl⟩|⟨hj,f1⟩
  .rcases get e2 with⟨hk,c2,J9⟩|⟨hk,f2⟩
   .rw[hj,hk]
   .rw[hj,G6 (by rw[h.len];exact hl)]at e3;rw[GL (λz=>hk z.symm)]at e4;cases e3;exact absurd e4 (free k dk hk f2)
  .rcases get e2 with⟨hk,c2,J9⟩|⟨hk,f2⟩
   .rw[hk,G6 (by rw[h.len];exact J9)]at e4;rw[GL (λz=>hj z.symm)]at e3;cases e4;exact absurd e3 (free j dj hj f1)
   .rw[GL (λz=>hj z.symm)]at e3;rw[GL (λz=>hk z.symm)]at e4;exact h.apart j k dj dk b f1 f2 e3 e4
def RepS.freeze[Jx]{F0:Hp}(h:RepS K B F H t s)(k:Kept B F0 F H)(e:t[i]?=be (be (.own ds))):∃F',Kept B F0 F' H/\RepS K B F' H (t.set i (be (.lst ds))) s:=by
 let#[a,vs,q1,q2,q3,q4,q5]:=h.own i ds e;have hl:i<t.length:=(GO.mp e).1;have g:Same F (upd F a (.lst vs)):=aQ q4 _;have get:∀{j:Nat} {x:D},(t.set i (be (.lst ds)))[j]?=be (be x)->(j=i/\x=.lst ds)\/(j≠i/\t[j]?=be (be x)):=λ{j x} e=>by
  by_cases hj:i=j
  .subst hj;rw[HG]at e;simp at e;exact .inl #[rfl,e.2.symm]
  .rw[GL hj]at e;exact .inr #[λz=>hj z.symm,e]
 refine#[upd F a (.lst vs),#[k.bh,λb o z=>?_,k.f0.trans g,λb h1 h2=>?_,k.eb,k.jf,k.jo],#[by rw[Hc];exact h.len,λj x e' nx=>?_,λj dj e'=>?_,λj l dj dl b e1 e2 e3 e4=>?_]]
 .by_cases hb:b=a
  .subst hb;rw[aB]at z;cases z;exact q2
  .rw[ar hb]at z;exact k.fh b o z
 .by_cases hb:b=a
  .subst hb;exact absurd q3 h2
  .rw[ar hb];exact k.out b h1 h2
 .rcases get e' with⟨rfl,rfl⟩|⟨hj,e'⟩
  .exact#[.ref a,q1,rep_lst.mpr #[a,vs,rfl,aB,q5.mono g]]
  .let#[u,p1,p2]:=h.val j x e' nx;exact#[u,p1,p2.mono g]
 .rcases get e' with⟨rfl,c⟩|⟨hj,e'⟩
  .cases c
  .let#[b,us,p1,p2,p3,p4,p5]:=h.own j dj e';have ne:b≠a:=λz=>hj (h.apart j i dj ds a e' e (z ▸ p1) q1);exact#[b,us,p1,p2,p3,by rw[ar ne];exact p4,p5.mono g]
 .rcases get e1 with⟨rfl,c⟩|⟨hj,e1⟩
  .cases c
  .rcases get e2 with⟨rfl,c⟩|⟨hk,e2⟩
   .cases c
   .exact h.apart j l dj dl b e1 e2 e3 e4
end
def startD(N:List J7)(ds:List D):SD:=ds.map be++GI (N.length-ds.length) x8
variable{K:Ex}
def Rep.noown{d:D}{v:V}(r:Rep K F d v):gM d=false:=by
 cases d with
 |own ds=>exact absurd r rep_own
 |_=>rfl
def dM{N:List J7}{ds:List D}{vs:List V}(h:Reps K F ds vs):RepS K B F H (startD N ds) (L2.start N vs):=by
 have hl:=h.length;have get:∀(i:Nat) d,(startD N ds)[i]?=be (be d)->∃v,(L2.start N vs)[i]?=be (be v)/\Rep K F d v:=λi d e=>by
  unfold startD at e;unfold L2.start;by_cases hi:i<ds.length
  .rw[Hm (by simpa using hi),GU]at e;cases q:ds[i]? with
   |none=>rw[q]at e;cases e
   |some x=>
    rw[q]at e;cases e;let#[v,q1,q2]:=h.get q;exact#[v,by rw[Hm (by simpa[hl]using hi),GU,q1];rfl,q2]
  .rw[HC (by simpa using hi),Ix]at e;split at e<;>cases e
 refine#[by unfold startD L2.start;simp[hl],λi d e _=>get i d e,λi d e=>?_,λi j di dj a e=>?_]
 .let#[v,_,r]:=get i _ e;exact absurd r rep_own
 .let#[v,_,r]:=get i _ e;exact absurd r rep_own
abbrev TD:=SD->(D->Prop)->Prop
abbrev TDT:=SD->(Bool->Prop)->Prop
abbrev TDA:=SD->(List D->Prop)->Prop
structure EndsD where
 nx:SD->Prop
 rt:D->Prop
 bk:SD->Prop:=λ_=>False
 ct:SD->Prop:=λ_=>False
abbrev TSD:=EndsD->SD->Prop
def lE(K:Ex)[J:Jx](t:TD):TE:=λs H Q=>∃B F z,Kept B J.F0 F H/\RepS K B F H z s/\∃R:D->Prop,t z R/\∀d v F' H',Grow F H F' H'->R d->Rep K F' d v->Q v H'
def lT(K:Ex)[J:Jx](t:TDT):TT:=λs H Q=>∃B F z,Kept B J.F0 F H/\RepS K B F H z s/\∃R:Bool->Prop,t z R/\∀b F' H',Grow F H F' H'->R b->Q b H'
def lA(K:Ex)[J:Jx](t:TDA):TA:=λs H Q=>∃B F z,Kept B J.F0 F H/\RepS K B F H z s/\∃R:List D->Prop,t z R/\∀ds vs F' H',Grow F H F' H'->R ds->Reps K F' ds vs->Q vs H'
structure EndsOk[Jx](K:Ex)(B F0:Hp)(ED:EndsD)(E:Ends):Prop where
 nx:∀z' s' F' H',Kept B F0 F' H'->ED.nx z'->RepS K B F' H' z' s'->E.nx s' H'
 rt:∀d v F' H',Kept B F0 F' H'->ED.rt d->Rep K F' d v->E.rt v H'
 bk:∀z' s' F' H',Kept B F0 F' H'->ED.bk z'->RepS K B F' H' z' s'->E.bk s' H'
 ct:∀z' s' F' H',Kept B F0 F' H'->ED.ct z'->RepS K B F' H' z' s'->E.ct s' H'
def lS(K:Ex)[Jx](t:TSD):TS:=λE s H=>∃B F0 F z,Kept B F0 F H/\RepS K B F H z s/\∃ED:EndsD,t ED z/\EndsOk K B F0 ED E
abbrev DE(X:Cx)[Jx](e:SZ)(t:TD):Prop:=PE X e (lE X.K t)
abbrev DT(X:Cx)[Jx](e:SZ)(t:TDT):Prop:=PT X e (lT X.K t)
abbrev DW(X:Cx)[Jx](e:SZ)(t:TDT):Prop:=PW X e (lT X.K t)
abbrev DA(X:Cx)[Jx](es:List SZ)(t:TDA):Prop:=PA X es (lA X.K t)
abbrev DS(X:Cx)[Jx](st:TF)(t:TSD):Prop:=PS X st (lS X.K t)
abbrev DSs(X:Cx)[Jx](st:List TF)(t:TSD):Prop:=PSs X st (lS X.K t)
structure WDE(X:Cx)[Jx](e:SZ)(t:TD):Prop where
 out:DE X e t
structure WDT(X:Cx)[Jx](e:SZ)(t:TDT):Prop where
 out:DT X e t
structure WDW(X:Cx)[Jx](e:SZ)(t:TDT):Prop where
 out:DW X e t
structure WDA(X:Cx)[Jx](es:List SZ)(t:TDA):Prop where
 out:DA X es t
structure WDS(X:Cx)[Jx](st:TF)(t:TSD):Prop where
 out:DS X st t
structure WDSs(X:Cx)[Jx](st:List TF)(t:TSD):Prop where
 out:DSs X st t
section
variable {X:Cx}
def okR(R:D->Prop):D->Prop|.own _=>False|d=>R d
def dVar(i:Nat):TD:=λz R=>match z[i]? with|some (be d)=>okR R d|_=>False
def dC(d:D):TD:=λ_ R=>R d
variable{x:J7}
def aa[Jx](i:Nat){pos:TX}(hN:(X.N[i]?=be x)\zA0)(hv:Vis X.env.scope x\zA5)(hd:zND x\zA1)
  (i8:zNC x\zA1):WDE X (.Name x pos) (dVar i):=⟨(dh hN hv hd i8).anti λs H Q h=>by
 let#[B,F,z,kf,r,R,h1,h2]:=h;have fh:=kf.fh;unfold dVar at h1;split at h1
 .rename_i d e;have no:gM d=false:=by
   cases d with
   |own ds=>exact False.elim h1
   |_=>rfl
  have Ry:R d:=by
   cases d with
   |own ds=>exact False.elim h1
   |_=>exact h1
  let#[v,q1,q2]:=r.val i d e no;exact#[v,q1,h2 d v F H (Grow.refl fh) Ry q2]
 .exact h1.elim⟩
variable{e:SZ}{d:My.D}
def de_c[Jx]{v:V}(h:PE X e (tC v))(r:∀H,Rep X.K H d v):DE X e (dC d):=h.anti λs H Q q=>by
 let#[B,F,z,kf,_,R,h1,h2]:=q;have fh:=kf.fh;exact h2 d v F H (Grow.refl fh) h1 (r F)
def ad[Jx]{i j pos}:WDE X (.Constant (.int i) j pos) (dC (.int i)):=#[de_c wE λ_=>rep_int.mpr rfl]
def bW[Jx]{b j pos}:WDE X (.Constant (.bool b) j pos) (dC (.bl b)):=#[de_c wF λ_=>rep_bl.mpr rfl]
def cm[Jx]{j pos}:WDE X (.Constant .none j pos) (dC .non):=#[de_c wG λ_=>rep_non.mpr rfl]
def ai[Jx]{x j pos}:WDE X (.Constant (.str x) j pos) (dC (.str x)):=#[de_c pB λ_=>rep_str.mpr rfl]
abbrev RD2:=D->D->(D->Prop)->Prop
def dOp(r:RD2)(ta tb:TD):TD:=λz R=>ta z λx=>tb z λy=>r x y R
def bb(K:Ex)(r:R2)(rd:RD2):Prop:=∀x y u v F H R Q,Same F H->rd x y R->Rep K F x u->Rep K F y v->(∀d w F' H',Grow F H F' H'->R d->Rep K F' d w->Q w H')->r u v H Q
variable{r:R2}{rd:RD2}
def jG[Jx]{ta tb:TD}(L:bb X.K r rd)(h:PE X e (tOp r (lE X.K ta) (lE X.K tb))):DE X e (dOp rd ta tb):=h.anti λs H Q q=>by
 let#[B,F,z,kf,rs,R,h1,h2]:=q;have fh:=kf.fh;refine#[B,F,z,kf,rs,_,h1,λx u F1 H1 g1 hx rx=>?_];refine#[B,F1,z,kf.grow g1,rs.grow g1,_,hx,λy v F2 H2 g2 hy ry=>?_];exact L x y u v F2 H2 R Q g2.fh hy (rx.mono g2.ff) ry λd w F' H' g3=>h2 d w F' H' (g1.trans (g2.trans g3))
variable {a b c:SZ}{ta tb tc:TD}{pos:TX}
def dv[Jx]{op:U8}(ho:OpR X (T8 op) r)(L:bb X.K r rd)(ha:DE X a ta)(hb:DE X b tb):DE X (.BinOp a op b pos) (dOp rd ta tb):=jG L (gD ho ha hb)
def gN[Jx]{op:VH}(ho:OpR X (TU op) r)(L:bb X.K r rd)(ha:DE X a ta)(hb:DE X b tb)(hm:T4 op b=false):DE X (.Compare a [op] [b] pos) (dOp rd ta tb):=jG L (xp ho ha hb hm)
def yB[Jx](hr:IxR X r)(L:bb X.K r rd)(ha:DE X a ta)(hb:DE X b tb)(hs:fN b\zA6):DE X (.Subscript a b pos) (dOp rd ta tb):=jG L (pe_ix hr ha hb hs)
def kdI(d:D)(k:Int->Prop):Prop:=match d with|.int i=>k i|_=>False
def kdB(d:D)(k:Bool->Prop):Prop:=match d with|.bl i=>k i|_=>False
def kdS(d:D)(k:J7->Prop):Prop:=match d with|.str i=>k i|_=>False
def kdL(d:D)(k:List D->Prop):Prop:=match d with|.lst i=>k i|_=>False
def kdT(d:D)(k:List D->Prop):Prop:=match d with|.tup i=>k i|_=>False
def kdN(d:D)(p:Prop):Prop:=match d with|.non=>p|_=>False
def kd1(ds:List D)(k:D->Prop):Prop:=match ds with|[x]=>k x|_=>False
def kd2(ds:List D)(k:D->D->Prop):Prop:=match ds with|[x,y]=>k x y|_=>False
def kdI.of{k:Int->Prop}(h:kdI d k):∃i,d=.int i/\k i:=N3
def kdB.of{k:Bool->Prop}(h:kdB d k):∃i,d=.bl i/\k i:=N3
def kdS.of{k:J7->Prop}(h:kdS d k):∃i,d=.str i/\k i:=N3
variable{k:List My.D->Prop}
def kdL.of(h:kdL d k):∃i,d=.lst i/\k i:=N3
def kdT.of(h:kdT d k):∃i,d=.tup i/\k i:=N3
def kdP(d:D)(k:KF->Prop):Prop:=match d with|.ptr i=>k i|_=>False
def kdP.of{k:KF->Prop}(h:kdP d k):∃i,d=.ptr i/\k i:=N3
def kdN.of{p:Prop}(h:kdN d p):d=.non/\p:=by cases d<;>first|exact#[rfl,h]|exact False.elim h
variable{ds:List My.D}
def kd1.of{k:D->Prop}(h:kd1 ds k):∃x,ds=[x]/\k x:=by
 cases ds with
 |nil=>exact False.elim h
 |cons x r=>cases r with
  |nil=>exact#[x,rfl,h]
  |cons=>exact False.elim h
def kd2.of{k:D->D->Prop}(h:kd2 ds k):∃x y,ds=[x,y]/\k x y:=by
 cases ds with
 |nil=>exact False.elim h
 |cons x r=>cases r with
  |nil=>exact False.elim h
  |cons y r=>cases r with
   |nil=>exact#[x,y,rfl,h]
   |cons=>exact False.elim h
def rdI0(f:Int->Int->D):RD2:=λx y R=>kdI x λi=>kdI y λj=>R (f i j)
def rdI1(C:Int->Int->Prop)(f:Int->Int->D):RD2:=λx y R=>kdI x λi=>kdI y λj=>C i j/\R (f i j)
variable{K:Ex}{f:Int->Int->My.D}{g:Int->Int->V}
def fR(k:∀F i j,Rep K F (f i j) (g i j)):bb K (rI0 g) (rdI0 f):=by
 intro x y u v F H R Q fh h rx ry q;replace h:=kdI.of h;let#[i,rfl,h]:=h;replace h:=kdI.of h;let#[j,rfl,h]:=h;exact#[i,j,rep_int.mp rx,rep_int.mp ry,q _ _ F H (Grow.refl fh) h (k F i j)]
def fS{C:Int->Int->Prop}(k:∀F i j,Rep K F (f i j) (g i j)):bb K (rI C g) (rdI1 C f):=by
 intro x y u v F H R Q fh h rx ry q;replace h:=kdI.of h;let#[i,rfl,h]:=h;replace h:=kdI.of h;let#[j,rfl,h]:=h;exact#[i,j,rep_int.mp rx,rep_int.mp ry,h.1,q _ _ F H (Grow.refl fh) h.2 (k F i j)]
def jH:RD2:=λx y R=>match x with
 |.int i=>kdI y λj=>R (.int (i+j))
 |.str i=>kdS y λj=>i.length+j.length<=1000000/\R (.str (i++j))
 |.lst xs=>kdL y λys=>xs.length+ys.length<=1000000/\R (.lst (xs++ys))
 |.tup xs=>kdT y λys=>(xs≠[]/\ys≠[]/\xs.length+ys.length<=1000000)/\R (.tup (xs++ys))
 |_=>False
def qK(K:Ex):R2:=λx y H Q=>rI0 (λi j=>.int (i+j)) x y H Q\/((λx y H Q=>∃i j,x=.str i/\y=.str j/\i.length+j.length<=sizeLine/\Q (.str (i++j)) H) x y H Q\/(rCat x y H Q\/qz K x y H Q))
def qL:OpR X (T8 .Add) (qK X.K):=OpR.or xc (OpR.or xu (OpR.or qE xU))
def Reps.append{K:Ex}{F:Hp}:∀{xs ys:List D} {us vs:List V},Reps K F xs us->Reps K F ys vs->Reps K F (xs++ys) (us++vs)
 |[],ys,us,vs,r1,r2=>by rw[reps_nil.mp r1];exact r2
 |x::xs,ys,us,vs,r1,r2=>by
  let#[u,ur,rfl,a1,a2]:=reps_cons.mp r1;exact reps_cons.mpr #[u,ur++vs,rfl,a1,Reps.append a2 r2]
def Reps.ne_nil{F:Hp}{xs:List D}{us:List V}(r:Reps K F xs us)(h:xs≠[]):us≠[]:=by
 cases xs with
 |nil=>exact absurd rfl h
 |cons x xs=>let#[u,ur,rfl,_]:=reps_cons.mp r;exact λz=>nomatch z
def qM:bb K (qK K) jH:=by
 intro x y u v F H R Q fh h rx ry q;cases x with
 |int i=>
  replace h:=kdI.of h;let#[j,rfl,h]:=h;exact .inl #[_,_,rep_int.mp rx,rep_int.mp ry,q _ _ F H (Grow.refl fh) h (rep_int.mpr rfl)]
 |str i=>
  replace h:=kdS.of h;let#[j,rfl,h]:=h;exact .inr (.inl #[_,_,rep_str.mp rx,rep_str.mp ry,GD h.1 K3,q _ _ F H (Grow.refl fh) h.2 (rep_str.mpr rfl)])
 |lst xs=>
  replace h:=kdL.of h;let#[ys,rfl,h]:=h;let#[a,us,rfl,hq,rr]:=rep_lst.mp rx;let#[b,vs,rfl,m8,x9]:=rep_lst.mp ry;refine .inr (.inr (.inl #[a,b,us,vs,rfl,rfl,fh _ _ hq,fh _ _ m8,by rw[rr.length,x9.length];exact GD h.1 K3,λp hp=>?_]));exact q _ _ _ _ (Grow.new fh hp _) h.2 (rep_lst.mpr #[p,_,rfl,aB,(rr.append x9).mono (aQ (fh.free hp) _)])
 |tup xs=>
  replace h:=kdT.of h;let#[ys,rfl,h]:=h;let#[a,us,rfl,hq,rr]:=rep_tup_mp rx;let#[b,vs,rfl,m8,x9]:=rep_tup_mp ry;let#[#[n1,n2,hz],h]:=h;refine .inr (.inr (.inr #[a,b,us,vs,rfl,rfl,fh.tup hq,fh.tup m8,rr.ne_nil n1,by rw[rr.length,x9.length];exact GD hz K3,λz=>absurd z (x9.ne_nil n2),λ_ p hp=>?_]));exact q _ _ _ _ (Grow.new fh hp _) h (rep_tupS.mpr #[p,_,rfl,aB,(rr.append x9).mono (aQ (fh.free hp) _)])
 |_=>exact False.elim h
def am[Jx](ha:WDE X a ta)(hb:WDE X b tb):WDE X (.BinOp a .Add b pos) (dOp jH ta tb):=#[dv qL qM ha.out hb.out]
def jI:RD2:=rdI0 λi j=>.int (i-j)
def qN:bb K (rI0 λi j=>.int (i-j)) jI:=fR λ_ _ _=>rep_int.mpr rfl
def bA[Jx](ha:WDE X a ta)(hb:WDE X b tb):WDE X (.BinOp a .Sub b pos) (dOp jI ta tb):=#[dv pT qN ha.out hb.out]
def qO:RD2:=λx y R=>kdI x λi=>kdI y λj=>CMul i j/\R (.int (i*j))
def yD:bb K (rI CMul λi j=>.int (i*j)) qO:=fS λ_ _ _=>rep_int.mpr rfl
def aD[Jx](ha:WDE X a ta)(hb:WDE X b tb):WDE X (.BinOp a .Mult b pos) (dOp qO ta tb):=#[dv pU yD ha.out hb.out]
def qP:RD2:=λx y R=>kdI x λi=>kdI y λj=>(0<j/\j<1073741824)/\R (.int (i/j))
def yF:bb K (rI CDiv λi j=>.int (i/j)) qP:=fS λ_ _ _=>rep_int.mpr rfl
def bq[Jx](ha:WDE X a ta)(hb:WDE X b tb):WDE X (.BinOp a .FloorDiv b pos) (dOp qP ta tb):=#[dv xg yF ha.out hb.out]
def qQ(i j:Int):Prop:=j≠0/\j.natAbs<4611686018427387904
def yG:OpR X (T8 .FloorDiv) (rI qQ λi j=>.int (i.fdiv j)):=opI λ_ j _ _ _ _ _ hc q=>floordiv_int hc.1 q (.inl (PyProof.noPylong_of_log2 (Jg ((Jh (λz=>hc.1 (Ji.mp z))).mpr (show j.natAbs<2^62 from hc.2)) K3)))
def qR:RD2:=λx y R=>kdI x λi=>kdI y λj=>(j≠0/\j.natAbs<4611686018427387904)/\R (.int (i.fdiv j))
def yH:bb K (rI qQ λi j=>.int (i.fdiv j)) qR:=fS λ_ _ _=>rep_int.mpr rfl
def yI[Jx](ha:WDE X a ta)(hb:WDE X b tb):WDE X (.BinOp a .FloorDiv b pos) (dOp qR ta tb):=#[dv yG yH ha.out hb.out]
def qS:RD2:=λx y R=>kdI x λi=>kdI y λj=>0<j/\R (.int (i%j))
def yJ:bb K (rI (λ_ j=>0<j) λi j=>.int (i%j)) qS:=fS λ_ _ _=>rep_int.mpr rfl
def aC[Jx](ha:WDE X a ta)(hb:WDE X b tb):WDE X (.BinOp a .Mod b pos) (dOp qS ta tb):=#[dv xh yJ ha.out hb.out]
def qT:RD2:=λx y R=>kdI x λi=>kdI y λj=>j≠0/\R (.int (i.fmod j))
def yL:bb K (rI (λ_ j=>j≠0) λi j=>.int (i.fmod j)) qT:=fS λ_ _ _=>rep_int.mpr rfl
def qU[Jx](ha:WDE X a ta)(hb:WDE X b tb):WDE X (.BinOp a .Mod b pos) (dOp qT ta tb):=#[dv xi yL ha.out hb.out]
def rdLt:RD2:=rdI0 λi j=>.bl (decide (i<j))
def jJ:bb K (rI0 λi j=>.bl (decide (i<j))) rdLt:=fR λ_ _ _=>rep_bl.mpr rfl
def qV[Jx](ha:WDE X a ta)(hb:WDE X b tb):WDE X (.Compare a [.Lt] [b] pos) (dOp rdLt ta tb):=#[gN js jJ ha.out hb.out (nomark _)]
def rdLe:RD2:=rdI0 λi j=>.bl (decide (i<=j))
def yM:bb K (rI0 λi j=>.bl (decide (i<=j))) rdLe:=fR λ_ _ _=>rep_bl.mpr rfl
def rdGt:RD2:=rdI0 λi j=>.bl (decide (j<i))
def jK:bb K (rI0 λi j=>.bl (decide (j<i))) rdGt:=fR λ_ _ _=>rep_bl.mpr rfl
def qW[Jx](ha:WDE X a ta)(hb:WDE X b tb):WDE X (.Compare a [.Gt] [b] pos) (dOp rdGt ta tb):=#[gN jt jK ha.out hb.out (nomark _)]
def rdGe:RD2:=rdI0 λi j=>.bl (decide (j<=i))
def yO:bb K (rI0 λi j=>.bl (decide (j<=i))) rdGe:=fR λ_ _ _=>rep_bl.mpr rfl
def rdEq:RD2:=λx y R=>match x with
 |.int i=>kdI y λj=>R (.bl (decide (i=j)))
 |.bl i=>kdB y λj=>R (.bl (decide (i=j)))
 |.str i=>kdS y λj=>R (.bl (decide (i=j)))
 |.non=>kdN y (R (.bl true))
 |_=>False
def rdNe:RD2:=λx y R=>match x with
 |.int i=>kdI y λj=>R (.bl (!decide (i=j)))
 |.bl i=>kdB y λj=>R (.bl (!decide (i=j)))
 |.str i=>kdS y λj=>R (.bl (!decide (i=j)))
 |.non=>kdN y (R (.bl false))
 |_=>False
def jL:bb K rEq rdEq:=by
 intro x y u v F H R Q fh h rx ry q;cases x with
 |int i=>
  replace h:=kdI.of h;let#[j,rfl,h]:=h;rw[rep_int.mp rx,rep_int.mp ry];exact#[rfl,q _ _ F H (Grow.refl fh) h (rep_bl.mpr K8)]
 |bl i=>
  replace h:=kdB.of h;let#[j,rfl,h]:=h;rw[rep_bl.mp rx,rep_bl.mp ry];exact#[rfl,q _ _ F H (Grow.refl fh) h (rep_bl.mpr K8)]
 |str i=>
  replace h:=kdS.of h;let#[j,rfl,h]:=h;rw[rep_str.mp rx,rep_str.mp ry];exact#[rfl,q _ _ F H (Grow.refl fh) h (rep_bl.mpr K8)]
 |non=>
  replace h:=kdN.of h;let#[rfl,h]:=h;rw[rep_non.mp rx,rep_non.mp ry];exact#[rfl,q _ _ F H (Grow.refl fh) h (rep_bl.mpr K8)]
 |_=>exact False.elim h
def qX:bb K rNe rdNe:=by
 intro x y u v F H R Q fh h rx ry q;cases x with
 |int i=>
  replace h:=kdI.of h;let#[j,rfl,h]:=h;rw[rep_int.mp rx,rep_int.mp ry];exact#[rfl,q _ _ F H (Grow.refl fh) h (rep_bl.mpr K8)]
 |bl i=>
  replace h:=kdB.of h;let#[j,rfl,h]:=h;rw[rep_bl.mp rx,rep_bl.mp ry];exact#[rfl,q _ _ F H (Grow.refl fh) h (rep_bl.mpr K8)]
 |str i=>
  replace h:=kdS.of h;let#[j,rfl,h]:=h;rw[rep_str.mp rx,rep_str.mp ry];exact#[rfl,q _ _ F H (Grow.refl fh) h (rep_bl.mpr K8)]
 |non=>
  replace h:=kdN.of h;let#[rfl,h]:=h;rw[rep_non.mp rx,rep_non.mp ry];exact#[rfl,q _ _ F H (Grow.refl fh) h (rep_bl.mpr K8)]
 |_=>exact False.elim h
def cn[Jx](ha:WDE X a ta)(hb:WDE X b tb):WDE X (.Compare a [.Eq] [b] pos) (dOp rdEq ta tb):=#[gN jr jL ha.out hb.out (nomark _)]
def qY:D->Bool|.non=>true|_=>false
def rdIs(f:Bool->Bool):RD2:=λx y R=>kdN y (R (.bl (f (qY x))))
def qZ{H:Hp}{x:D}{u:V}(r:Rep K H x u):decide (u=.non)=qY x:=by
 cases x with
 |non=>rw[rep_non.mp r];rfl
 |bl b=>rw[rep_bl.mp r];rfl
 |int b=>rw[rep_int.mp r];rfl
 |str b=>rw[rep_str.mp r];rfl
 |tup b=>let#[a,vs,rfl,_]:=rep_tup_mp r;rfl
 |lst b=>let#[a,vs,rfl,_]:=rep_lst.mp r;rfl
 |rol b=>let#[a,vs,rfl,_]:=rep_rol.mp r;rfl
 |obj C b=>let#[a,C,dx,vs,rfl,_]:=rep_obj.mp r;rfl
 |exc C b=>let#[a,C,od,vs,rfl,_]:=rep_exc.mp r;rfl
 |own b=>exact absurd r rep_own
 |ptr b=>rw[rep_ptr.mp r];rfl
 |dti b=>let#[a,rfl,_]:=rep_dti.mp r;rfl
def ra:bb K (λx y H Q=>y=.non/\Q (.bl (decide (x=.non))) H) (rdIs id):=by
 intro x y u v F H R Q fh h rx ry q;replace h:=kdN.of h;let#[rfl,h]:=h;exact#[rep_non.mp ry,q _ _ F H (Grow.refl fh) h (rep_bl.mpr (by rw[qZ rx];rfl))]
def yQ:bb K (λx y H Q=>y=.non/\Q (.bl (!decide (x=.non))) H) (rdIs not):=by
 intro x y u v F H R Q fh h rx ry q;replace h:=kdN.of h;let#[rfl,h]:=h;exact#[rep_non.mp ry,q _ _ F H (Grow.refl fh) h (rep_bl.mpr (by rw[qZ rx]))]
def rdIx:RD2:=λx y R=>kdI y λi=>match x with
 |.tup ds=>∃d,atI ds i=be d/\R d
 |.lst ds=>∃d,atI ds i=be d/\R d
 |.rol ds=>∃d,atI ds i=be d/\R d
 |.str x=>∃c,(x.length<=1000000/\atI x.cps.toList i=be c)/\R (.str #[[c].toArray])
 |_=>False
def Reps.at{H:Hp}{vs:List V}{i:Int}(r:Reps K H ds vs)(e:atI ds i=be d):∃v,atI vs i=be v/\Rep K H d v:=by
 unfold atI at e ⊢;rw[r.length];cases q:ixN ds.length i with
 |none=>rw[q]at e;cases e
 |some j=>
  rw[q]at e;exact r.get e
def rb:bb K (rIx K) rdIx:=by
 intro x y u v F H R Q fh h rx ry q;replace h:=kdI.of h;let#[i,rfl,h]:=h;cases x with
 |tup ds=>
  let#[d,e,h]:=h;let#[a,vs,e1,hq,rs]:=rep_tup_mp rx;let#[w,e2,j_]:=rs.at e;exact .inr (.inl #[a,vs,_,w,e1,rep_int.mp ry,fh.tup hq,e2,q d w F H (Grow.refl fh) h j_])
 |lst ds=>
  let#[d,e,h]:=h;let#[a,vs,e1,hq,rs]:=rep_lst.mp rx;let#[w,e2,j_]:=rs.at e;exact .inl #[a,vs,_,w,e1,rep_int.mp ry,fh.seq (SqL.of hq),e2,q d w F H (Grow.refl fh) h j_]
 |rol ds=>
  let#[d,e,h]:=h;let#[a,vs,e1,hq,rs]:=rep_rol.mp rx;let#[w,e2,j_]:=rs.at e;exact .inl #[a,vs,_,w,e1,rep_int.mp ry,fh.seq hq,e2,q d w F H (Grow.refl fh) h j_]
 |str x=>
  let#[c,#[hz,e],h]:=h;exact .inr (.inr #[_,_,c,rep_str.mp rx,rep_int.mp ry,GD hz K3,e,q _ _ F H (Grow.refl fh) h (rep_str.mpr rfl)])
 |_=>exact False.elim h
def ag[Jx](ha:WDE X a ta)(hb:WDE X b tb)(hs:fN b\zA6):WDE X (.Subscript a b pos) (dOp rdIx ta tb):=#[yB qB rb ha.out hb.out hs]
def dUn(r:D->(D->Prop)->Prop)(ta:TD):TD:=λz R=>ta z λx=>r x R
def re:D->(D->Prop)->Prop:=λx R=>match x with|.int i=>R (.int (-i))|_=>False
def bO[Jx](ha:WDE X a ta):WDE X (.UnaryOp .USub a pos) (dUn re ta):=⟨(xb xj ha.out).anti λs H Q h=>by
 let#[B,F,z,kf,rs,R,h1,h2]:=h;have fh:=kf.fh;refine#[B,F,z,kf,rs,_,h1,λx u F1 H1 g1 hx rx=>?_];unfold re at hx;split at hx
 .exact#[_,rep_int.mp rx,h2 _ _ F1 H1 g1 hx (rep_int.mpr rfl)]
 .exact hx.elim⟩
def dNil:TDA:=λ_ R=>R []
def yR(ta:TD)(tr:TDA):TDA:=λz R=>ta z λx=>tr z λxs=>R (x::xs)
def ae[Jx]:WDA X [] dNil:=⟨pa_nil.anti λs H Q h=>by
 let#[B,F,z,kf,rs,R,h1,h2]:=h;have fh:=kf.fh;exact h2 [] [] F H (Grow.refl fh) h1 (reps_nil.mpr rfl)⟩
variable{es:List SZ}{t:TDA}
def ac[Jx]{te:TD}(ha:WDE X e te)(hr:WDA X es t)(hs:zSE X e es\zA0):WDA X (e::es) (yR te t):=⟨(bw ha.out hr.out hs).anti λs H Q h=>by
 let#[B,F,z,kf,rs,R,h1,h2]:=h;have fh:=kf.fh;refine#[B,F,z,kf,rs,_,h1,λx u F1 H1 g1 hx rx=>?_];refine#[B,F1,z,kf.grow g1,rs.grow g1,_,hx,λxs us F2 H2 g2 hy ry=>?_];exact h2 _ _ F2 H2 (g1.trans g2) hy (reps_cons.mpr #[_,_,rfl,rx.mono g2.ff,ry])⟩
def dTup(t:TDA):TD:=λz R=>t z λxs=>xs.length<=1000/\R (.tup xs)
def dLst(t:TDA):TD:=λz R=>t z λxs=>xs.length<=1000/\R (.lst xs)
def az[Jx]{x1}(h:WDA X es t):WDE X (.Tuple es x1 pos) (dTup t):=⟨(qo h.out).anti λs H Q q=>by
 let#[B,F,z,kf,rs,R,h1,h2]:=q;have fh:=kf.fh;refine#[B,F,z,kf,rs,_,h1,λds vs F1 H1 g1 hx rx=>?_];have hl:=rx.length;refine#[sz (by rw[hl];exact hx.1),λp hp=>?_];exact h2 _ _ _ _ (g1.trans (Grow.new g1.fh hp _)) hx.2 (rep_tupS.mpr #[p,vs,rfl,aB,rx.mono (aQ (g1.fh.free hp) _)])⟩
def bn[Jx](h:WDA X es t):WDE X (.List es pos) (dLst t):=⟨(jw h.out).anti λs H Q q=>by
 let#[B,F,z,kf,rs,R,h1,h2]:=q;have fh:=kf.fh;refine#[B,F,z,kf,rs,_,h1,λds vs F1 H1 g1 hx rx=>?_];have hl:=rx.length;refine#[sz (by rw[hl];exact hx.1),λp hp=>?_];exact h2 _ _ _ _ (g1.trans (Grow.new g1.fh hp _)) hx.2 (rep_lst.mpr #[p,vs,rfl,aB,rx.mono (aQ (g1.fh.free hp) _)])⟩
abbrev SpD:=List D->(D->Prop)->Prop
def lSp(K:Ex)(S:SpD):Sp:=λvs H Q _=>∃F ds,Same F H/\Reps K F ds vs/\∃R:D->Prop,S ds R/\∀d v F' H',Grow F H F' H'->R d->Rep K F' d v->Q v H'
def rg(S:SpD)(t:TDA):TD:=λz R=>t z λds=>S ds R
abbrev CalD(P:SB)(w:TJ)(K:Ex)(mg:J7->Option KB)(base:Heap)(n:Nat)(x:J7)(ps:List J7)(S:SpD):Prop:=Cal P w K mg base n x ps (lSp K S)
variable{p:TX}
def aK[Jx]{n m:Nat}{ps:List J7}{S:SpD}(C:CalD X.prog X.w X.K X.mg X.base n x ps S)(hr:Room m X.A)(ha:WDA X (e::es) t)(hg:Gl X x\zA0)(hn:(n<=m)\zA1)(d9:zND x\zA1)
  (he:zSE X e es\zA0) (c9:zPL X pos es\zA0):WDE X (.Call (.Name x p) (e::es) [] pos) (rg S t):=⟨(yz C hr ha.out hg hn d9 he c9).anti λs H Q h=>by
 let#[B,F,z,kf,rs,R,h1,h2]:=h;have fh:=kf.fh;refine#[B,F,z,kf,rs,_,h1,λds vs F1 H1 g1 hx rx=>?_];exact#[F1,ds,g1.fh,by rw[G1];exact rx,R,hx,λd v F' H' g=>h2 d v F' H' (g1.trans g)]⟩
abbrev RDn:=List D->(D->Prop)->Prop
def cA(K:Ex)(r:List V->Hp->VK->Prop)(rd:RDn):Prop:=∀ds vs F H R Q,Same F H->rd ds R->Reps K F ds vs->(∀d w F' H',Grow F H F' H'->R d->Rep K F' d w->Q w H')->r vs H Q
def dCB(r:RDn)(t:TDA):TD:=λz R=>t z λds=>r ds R
def jM[Jx]{id:String}{r:List V->Hp->VK->Prop}{rd:RDn}(hc:bH X (.builtin id) r)(L:cA X.K r rd)(hm:X.mg x=x8)(hv:T3 x=be (.builtin id))(ha:DA X (e::es) t)(hg:Gl X x\zA0)(hn:(x≠"__name__")\zA1)(d9:zND x\zA1)
  (he:zSE X e es\zA0) (c9:zPL X pos es\zA0):DE X (.Call (.Name x p) (e::es) [] pos) (dCB rd t):=(dL hc hg hm hv ha hn d9 he c9).anti λs H Q h=>by
 let#[B,F,z,kf,rs,R,h1,h2]:=h;have fh:=kf.fh;refine#[B,F,z,kf,rs,_,h1,λds vs F1 H1 g1 hx rx=>?_];exact L ds vs F1 H1 R Q g1.fh hx rx λd w F' H' g=>h2 d w F' H' (g1.trans g)
def jN:RDn:=λds R=>kd1 ds λx=>match x with
 |.tup xs=>R (.int xs.length)
 |.lst xs=>R (.int xs.length)
 |.rol xs=>R (.int xs.length)
 |.str x=>x.length<=1000000/\R (.int x.length)
 |_=>False
def rh:cA K (λxs H Q=>∃x n,xs=[x]/\LenV K x H n/\Q (.int n) H) jN:=by
 intro ds vs F H R Q fh h rx q;replace h:=kd1.of h;let#[x,rfl,h]:=h;let#[v,r,rfl,h1,h2]:=reps_cons.mp rx;rw[reps_nil.mp h2];cases x with
 |tup xs=>
  let#[a,us,rfl,hq,rs]:=rep_tup_mp h1;exact#[.ref a,us.length,rfl,.inr #[us,fh.tup hq,rfl],q _ _ F H (Grow.refl fh) h (rep_int.mpr (by rw[rs.length]))]
 |lst xs=>
  let#[a,us,rfl,hq,rs]:=rep_lst.mp h1;exact#[.ref a,us.length,rfl,.inl #[us,fh.seq (SqL.of hq),rfl],q _ _ F H (Grow.refl fh) h (rep_int.mpr (by rw[rs.length]))]
 |rol xs=>
  let#[a,us,rfl,hq,rs]:=rep_rol.mp h1;exact#[.ref a,us.length,rfl,.inl #[us,fh.seq hq,rfl],q _ _ F H (Grow.refl fh) h (rep_int.mpr (by rw[rs.length]))]
 |str x=>
  rw[rep_str.mp h1];exact#[.str _,_,rfl,#[GD h.1 K3,rfl],q _ _ F H (Grow.refl fh) h.2 (rep_int.mpr rfl)]
 |_=>exact False.elim h
def cB[Jx](hm:X.mg "len"=x8)(ha:WDA X [e] t)(hg:Gl X "len"\zA0)(he:zSE X e []\zA0):WDE X (.Call (.Name "len" p) [e] [] pos) (dCB jN t):=#[jM gG rh hm PySem.boot_len ha.out hg K3 K3 he]
def rj:RDn:=λds R=>kd1 ds λx=>kdI x λi=>R (.int (if i<0 then -i else i))
def yT:cA K (λxs H Q=>∃i,xs=[.int i]/\Q (.int (if i<0 then -i else i)) H) rj:=by
 intro ds vs F H R Q fh h rx q;replace h:=kd1.of h;let#[x,rfl,h]:=h;replace h:=kdI.of h;let#[i,rfl,h]:=h;let#[v,r,rfl,h1,h2]:=reps_cons.mp rx;rw[reps_nil.mp h2,rep_int.mp h1];exact#[_,rfl,q _ _ F H (Grow.refl fh) h (rep_int.mpr rfl)]
def eY[Jx](hm:X.mg "abs"=x8)(ha:WDA X [e] t)(hg:Gl X "abs"\zA0)(he:zSE X e []\zA0):WDE X (.Call (.Name "abs" p) [e] [] pos) (dCB rj t):=#[jM xx yT hm PyProof.Rows.boot_abs ha.out hg K3 K3 he]
end
section
variable {X:Cx}{a b c e:SZ}{ta tb tc te:TD}{pos:TX}
def dTst(t:TD):TDT:=λz R=>t z λx=>match x with|.bl k=>R k|_=>False
def cq[Jx]{op:VH}{r:R2}{rd:RD2}(ho:OpR X (TU op) r)(L:bb X.K r rd)(ha:DE X a ta)(hb:DE X b tb)(hm:T4 op b=false):DT X (.Compare a [op] [b] pos) (dTst (dOp rd ta tb)):=(gE ho ha hb hm).anti λs H Q q=>by
 let#[B,F,z,kf,rs,R,h1,h2]:=q;have fh:=kf.fh;refine#[B,F,z,kf,rs,_,h1,λx u F1 H1 g1 hx rx=>?_];refine#[B,F1,z,kf.grow g1,rs.grow g1,_,hx,λy v F2 H2 g2 hy ry=>?_];refine L x y u v F2 H2 _ _ g2.fh hy (rx.mono g2.ff) ry λd w F' H' g3 hd rd=>?_;split at hd
 .exact#[_,rep_bl.mp rd,h2 _ F' H' (g1.trans (g2.trans g3)) hd]
 .exact hd.elim
def eZ[Jx](ha:WDE X a ta)(hb:WDE X b tb):WDT X (.Compare a [.Lt] [b] pos) (dTst (dOp rdLt ta tb)):=#[cq js jJ ha.out hb.out (nomark _)]
def yU[Jx](ha:WDE X a ta)(hb:WDE X b tb):WDT X (.Compare a [.LtE] [b] pos) (dTst (dOp rdLe ta tb)):=#[cq xk yM ha.out hb.out (nomark _)]
def jO[Jx](ha:WDE X a ta)(hb:WDE X b tb):WDT X (.Compare a [.Gt] [b] pos) (dTst (dOp rdGt ta tb)):=#[cq jt jK ha.out hb.out (nomark _)]
def yV[Jx](ha:WDE X a ta)(hb:WDE X b tb):WDT X (.Compare a [.GtE] [b] pos) (dTst (dOp rdGe ta tb)):=#[cq xm yO ha.out hb.out (nomark _)]
def aI[Jx](ha:WDE X a ta)(hb:WDE X b tb):WDT X (.Compare a [.Eq] [b] pos) (dTst (dOp rdEq ta tb)):=#[cq jr jL ha.out hb.out (nomark _)]
def fb[Jx](ha:WDE X a ta)(hb:WDE X b tb):WDT X (.Compare a [.NotEq] [b] pos) (dTst (dOp rdNe ta tb)):=#[cq pZ qX ha.out hb.out (nomark _)]
def jP[Jx](ha:WDE X a ta)(hb:WDE X b tb):WDT X (.Compare a [.Is] [b] pos) (dTst (dOp (rdIs id) ta tb)):=#[cq qc ra ha.out hb.out (nomark _)]
def yY[Jx](ha:WDE X a ta)(hb:WDE X b tb):WDT X (.Compare a [.IsNot] [b] pos) (dTst (dOp (rdIs not) ta tb)):=#[cq xo yQ ha.out hb.out (nomark _)]
def dTru(t:TD):TDT:=λz R=>t z λx=>match x with
 |.non=>R false
 |.bl k=>R k
 |.int i=>R (i !=0)
 |.str y=>y.length<=1000/\R ((y.length:Int) !=0)
 |.tup xs=>R (!xs.isEmpty)
 |.lst xs=>R (!xs.isEmpty)
 |.rol xs=>R (!xs.isEmpty)
 |_=>False
variable{K:Ex}
def Reps.isEmpty{H:Hp}{ds:List D}{vs:List V}(r:Reps K H ds vs):vs.isEmpty=ds.isEmpty:=by
 cases ds with
 |nil=>rw[reps_nil.mp r];rfl
 |cons d ds=>let#[v,r',rfl,_]:=reps_cons.mp r;rfl
def dN[Jx](ha:WDE X a ta)(he:(∀g5,isTrue a X.env g5=(do let v <-g5;UG a.pos;UH [v] (truthy v)))\zA3):WDT X a (dTru ta):=⟨(qd ha.out he).anti λs H Q q=>by
 let#[B,F,z,kf,rs,R,h1,h2]:=q;have fh:=kf.fh;refine#[B,F,z,kf,rs,_,h1,λx u F1 H1 g1 hx rx=>?_];split at hx
 .rw[rep_non.mp rx];exact#[false,rfl,h2 _ F1 H1 g1 hx]
 .rw[rep_bl.mp rx];exact#[_,rfl,h2 _ F1 H1 g1 hx]
 .rw[rep_int.mp rx];exact#[_,rfl,h2 _ F1 H1 g1 hx]
 .rw[rep_str.mp rx];exact#[_,#[sz hx.1,rfl],h2 _ F1 H1 g1 hx.2]
 .let#[p,vs,rfl,hq,rr]:=rep_tup_mp rx;exact#[_,.inr (.inl #[vs,g1.fh.tup hq,by rw[rr.isEmpty]]),h2 _ F1 H1 g1 hx]
 .let#[p,vs,rfl,hq,rr]:=rep_lst.mp rx;exact#[_,.inl #[vs,g1.fh.seq (SqL.of hq),by rw[rr.isEmpty]],h2 _ F1 H1 g1 hx]
 .let#[p,vs,rfl,hq,rr]:=rep_rol.mp rx;exact#[_,.inl #[vs,g1.fh.seq hq,by rw[rr.isEmpty]],h2 _ F1 H1 g1 hx]
 .exact hx.elim⟩
variable {tA J4:TDT}{rest:List SZ}
def dAnd(t u:TDT):TDT:=λz R=>t z λc=>if c=true then u z R else R false
def dOr(t u:TDT):TDT:=λz R=>t z λc=>if c=true then R true else u z R
def dNot(t:TDT):TDT:=λz R=>t z λc=>R (!c)
def gO[Jx](ha:WDT X a tA):WDW X (.BoolOp .And [a] pos) tA:=#[pE ha.out]
def jQ[Jx](ha:WDT X a tA):WDW X (.BoolOp .Or [a] pos) tA:=#[pF ha.out]
def gP[Jx](ha:WDT X a tA)(hb:WDW X (.BoolOp .And (b::rest) pos) J4):WDW X (.BoolOp .And (a::b::rest) pos) (dAnd tA J4):=⟨(pG ha.out hb.out).anti λs H Q q=>by
 let#[B,F,z,kf,rs,R,h1,h2]:=q;have fh:=kf.fh;refine#[B,F,z,kf,rs,_,h1,λk F1 H1 g1 hx=>?_];cases k with
 |true=>exact#[B,F1,z,kf.grow g1,rs.grow g1,R,hx,λb F' H' g=>h2 b F' H' (g1.trans g)]
 |false=>exact h2 _ F1 H1 g1 hx⟩
def jR[Jx](ha:WDT X a tA)(hb:WDW X (.BoolOp .Or (b::rest) pos) J4):WDW X (.BoolOp .Or (a::b::rest) pos) (dOr tA J4):=⟨(pH ha.out hb.out).anti λs H Q q=>by
 let#[B,F,z,kf,rs,R,h1,h2]:=q;have fh:=kf.fh;refine#[B,F,z,kf,rs,_,h1,λk F1 H1 g1 hx=>?_];cases k with
 |false=>exact#[B,F1,z,kf.grow g1,rs.grow g1,R,hx,λb F' H' g=>h2 b F' H' (g1.trans g)]
 |true=>exact h2 _ F1 H1 g1 hx⟩
def dO[Jx](h:WDW X a tA):WDT X a tA:=#[PW.pt h.out]
def fT[Jx](ha:WDT X a tA):WDT X (.UnaryOp .Not a pos) (dNot tA):=⟨(pI ha.out).anti λs H Q q=>by
 let#[B,F,z,kf,rs,R,h1,h2]:=q;have fh:=kf.fh;exact#[B,F,z,kf,rs,_,h1,λk F1 H1 g1 hx=>h2 _ F1 H1 g1 hx]⟩
def yZ(ta tb:TD):TD:=λz R=>ta z λx=>match x with|.bl k=>if k=true then tb z R else R (.bl false)|_=>False
def dOrV(ta tb:TD):TD:=λz R=>ta z λx=>match x with|.bl k=>if k=true then R (.bl true)else tb z R|_=>False
def za(ta:TD):TD:=λz R=>ta z λx=>match x with|.bl k=>R (.bl (!k))|_=>False
def fg[Jx]{op}(h:WDE X a ta):WDE X (.BoolOp op [a] pos) ta:=#[wJ h.out]
def fU[Jx](ha:WDE X a ta)(hb:WDE X (.BoolOp .And (b::rest) pos) tb):WDE X (.BoolOp .And (a::b::rest) pos) (yZ ta tb):=⟨(wK ha.out hb.out).anti λs H Q q=>by
 let#[B,F,z,kf,rs,R,h1,h2]:=q;have fh:=kf.fh;refine#[B,F,z,kf,rs,_,h1,λx u F1 H1 g1 hx rx=>?_];split at hx
 .rename_i k;refine#[k,rep_bl.mp rx,?_];cases k with
  |true=>exact#[B,F1,z,kf.grow g1,rs.grow g1,R,hx,λd v F' H' g=>h2 d v F' H' (g1.trans g)]
  |false=>exact h2 _ _ F1 H1 g1 hx (rep_bl.mpr rfl)
 .exact hx.elim⟩
def zb[Jx](ha:WDE X a ta)(hb:WDE X (.BoolOp .Or (b::rest) pos) tb):WDE X (.BoolOp .Or (a::b::rest) pos) (dOrV ta tb):=⟨(wL ha.out hb.out).anti λs H Q q=>by
 let#[B,F,z,kf,rs,R,h1,h2]:=q;have fh:=kf.fh;refine#[B,F,z,kf,rs,_,h1,λx u F1 H1 g1 hx rx=>?_];split at hx
 .rename_i k;refine#[k,rep_bl.mp rx,?_];cases k with
  |false=>exact#[B,F1,z,kf.grow g1,rs.grow g1,R,hx,λd v F' H' g=>h2 d v F' H' (g1.trans g)]
  |true=>exact h2 _ _ F1 H1 g1 hx (rep_bl.mpr rfl)
 .exact hx.elim⟩
def zc[Jx](ha:WDE X a ta):WDE X (.UnaryOp .Not a pos) (za ta):=⟨(wM ha.out).anti λs H Q q=>by
 let#[B,F,z,kf,rs,R,h1,h2]:=q;have fh:=kf.fh;refine#[B,F,z,kf,rs,_,h1,λx u F1 H1 g1 hx rx=>?_];split at hx
 .exact#[_,rep_bl.mp rx,h2 _ _ F1 H1 g1 hx (rep_bl.mpr rfl)]
 .exact hx.elim⟩
def tyD:D->String
 |.non=>"NoneType"|.bl _=>"bool"|.int _=>"int"|.str _=>"str"|.tup _=>"tuple"|.lst _=>"list"|.rol _=>"list"|.obj _ _=>"object"|.exc _ _=>"object"|.own _=>"list"|.ptr _=>"object"|.dti _=>"dict"
def cP(t:String)(x:D):Bool:=tyD x==t||(tyD x=="bool" && t=="int")
def TyQ(K:Ex)(H:Hp)(x:V)(t:String):Prop:=TyOf K H x (.type t)\/(t="tuple"/\∃a xs,x=.ref a/\SqT K H a xs)\/(t="list"/\∃a xs,x=.ref a/\SqL K H a xs)
def rk:bH X (.builtin "isinstance") (λxs H Q=>∃x t c k,xs=[x,.ty c]/\TyQ X.K H x t/\kitOne X.K (.type t) (.type c)=be k/\Q (.bl k) H):=by
 intro pins s σ H xs us Q I r h;let#[x,t,c,k,rfl,ty,e,q]:=h;let#[u,u',rfl,rx,rc]:=vals2 r;cases(show u'=Value.type c from rc);rcases ty with ty|⟨rfl,a,ys,rfl,hq⟩|⟨rfl,a,ys,rfl,hq⟩
 .exact ql I rx ty e λtk=>#[.bl k,H,I.tok _,rfl,q]
 .cases(show u=Value.ref a from rx);let#[its,_,#[o,h1,h2,_],_]:=I.tuple hq;exact kia_one kitx_tuple I.kIn #[o,h1,h2] e (λz=>nomatch z) λtk=>#[.bl k,H,I.tok _,rfl,q]
 .cases(show u=Value.ref a from rx);let#[its,_,pl,_]:=I.list hq;let#[o,n,h1,h2,_]:=pl;exact kia_one kitx_list I.kIn #[o,h1,h2] e (λz=>nomatch z) λtk=>#[.bl k,H,I.tok _,rfl,q]
def cQ:D->Bool|.obj _ _=>false|.exc _ _=>false|.ptr _=>false|.dti _=>false|_=>true
def rl{F H:Hp}{x:D}{u:V}(fh:Same F H)(r:Rep K F x u)(no:cQ x=true):TyQ K H u (tyD x):=by
 cases x with
 |non=>rw[rep_non.mp r];exact .inl .non
 |bl b=>rw[rep_bl.mp r];exact .inl (.bl b)
 |int b=>rw[rep_int.mp r];exact .inl (.int b)
 |str b=>rw[rep_str.mp r];exact .inl (.str b)
 |tup b=>let#[a,vs,rfl,hq,_]:=rep_tup_mp r;exact .inr (.inl #[rfl,a,vs,rfl,fh.tup hq])
 |lst b=>let#[a,vs,rfl,hq,_]:=rep_lst.mp r;exact .inr (.inr #[rfl,a,vs,rfl,fh.seq (SqL.of hq)])
 |rol b=>let#[a,vs,rfl,hq,_]:=rep_rol.mp r;exact .inr (.inr #[rfl,a,vs,rfl,fh.seq hq])
 |obj C b=>cases no
 |exc C b=>cases no
 |ptr b=>cases no
 |dti b=>cases no
 |own b=>exact absurd r rep_own
def rn(t:String):D->(D->Prop)->Prop:=λx R=>match x with|.obj _ _=>False|.exc _ _=>False|.ptr _=>False|.dti _=>False|x=>R (.bl (cP t x))
def jS[Jx]{p p2:TX}{y:J7}{t:String}(hm:X.mg "isinstance"=x8)(N2:X.mg y=x8)(ha:WDE X a ta)(hv:T3 y=be (.type t))
  (hk:∀x:D,cQ x=true->kitOne X.K (.type (tyD x)) (.type t)=be (cP t x)) (hg:Gl X "isinstance"\zA0) (Me:Gl X y\zA0) (hn:(y≠"__name__")\zA1) (d9:zND y\zA1)
  (j8:(TL [a,.Name y p2] X.env=(false,TR a X.env)::TL [.Name y p2] X.env)\zA0) (m4:(TL [.Name y p2] X.env=(false,TR (.Name y p2) X.env)::TL [] X.env)\zA0) (c9:((Uy pos (TL [.Name y p2] X.env)).any (·.1)=false)\zA0):WDE X (.Call (.Name "isinstance" p) [a,.Name y p2] [] pos) (dUn (rn t) ta):=⟨(dL rk hg hm PyProof.Rows.boot_isinstance (bw ha.out (bw (pD (v:=.ty t) Me N2 hv rfl hn d9) pa_nil m4) j8) K3 K3 j8 c9).anti λs H Q q=>by
 let#[B,F,z,kf,rs,R,h1,h2]:=q;have fh:=kf.fh;refine#[B,F,z,kf,rs,_,h1,λx u F1 H1 g1 hx rx=>?_];have no:cQ x=true:=by
  cases x with
  |obj C b=>exact False.elim hx
  |exc C b=>exact False.elim hx
  |ptr b=>exact False.elim hx
  |dti b=>exact False.elim hx
  |_=>rfl
 have i_:R (.bl (cP t x)):=by
  cases x with
  |obj C b=>exact False.elim hx
  |exc C b=>exact False.elim hx
  |ptr b=>exact False.elim hx
  |dti b=>exact False.elim hx
  |_=>exact hx
 exact#[u,tyD x,t,_,rfl,rl g1.fh rx no,hk x no,h2 _ _ F1 H1 g1 i_ (rep_bl.mpr rfl)]⟩
def zd:∀x:D,cQ x=true->kitOne K (.type (tyD x)) (.type "int")=be (cP "int" x):=by intro x no;cases x<;>first|rfl|cases no
def kit_bool:∀x:D,cQ x=true->kitOne K (.type (tyD x)) (.type "bool")=be (cP "bool" x):=by intro x no;cases x<;>first|rfl|cases no
def kit_tuple:∀x:D,cQ x=true->kitOne K (.type (tyD x)) (.type "tuple")=be (cP "tuple" x):=by intro x no;cases x<;>first|rfl|cases no
def kit_str:∀x:D,cQ x=true->kitOne K (.type (tyD x)) (.type "str")=be (cP "str" x):=by intro x no;cases x<;>first|rfl|cases no
def toV:D->Option V
 |.non=>be .non|.bl b=>be (.bl b)|.int i=>be (.int i)|.str x=>be (.str x)|_=>x8
def bo(d:D):Bool:=(toV d).isSome
def eqF:D->D->Bool
 |.non,.non=>true
 |.bl a,.bl b=>a==b
 |.bl a,.int b=>(if a then 1 else 0)==b
 |.int a,.bl b=>a==(if b then 1 else 0)
 |.int a,.int b=>a==b
 |.str a,.str b=>a==b
 |_,_=>false
def eqFs:List D->List D->Bool
 |[],[]=>true
 |x::xs,y::ys=>eqF x y&&eqFs xs ys
 |_,_=>false
end
section
variable {X:Cx}{a b:SZ}{ta tb:TD}{pos:TX}
def eqVs:List V->List V->Bool
 |[],[]=>true
 |x::xs,y::ys=>eqV x y&&eqVs xs ys
 |_,_=>false
def jT:∀(xs ys:List V),((GQ (min xs.length ys.length)).all (λj=>eqV (xs.getD j .non) (ys.getD j .non))&&xs.length==ys.length)=eqVs xs ys
 |[],[]=>rfl
 |[],_::_=>by simp[eqVs]
 |_::_,[]=>by simp[eqVs]
 |x::xs,y::ys=>by
  have ih:=jT xs ys;rw[eqVs,<-ih];have e:min (x::xs).length (y::ys).length=min xs.length ys.length+1:=by simp only[Gy];lia
  rw[e,List.range_succ_eq_map,Hd,List.all_map];have e2:((x::xs).length==(y::ys).length)=(xs.length==ys.length):=K8
  rw[e2,Bool.and_assoc];rfl
variable{xs:List V}
def Vals.getD{us:List KB}{j:Nat}(r:Vals xs us)(h:j<us.length):RelV (xs.getD j .non) us[j]:=by
 have hl:=L2.Vals.length r;let#[u,q1,q2]:=L2.Vals.get (i:=j) (x:=xs.getD j .non) r (by rw[GP KZ];simp[G9,GP (show j<xs.length by lia)]);rw[GP h]at q1;cases q1;exact q2
def flat_getD{j:Nat}(h:xs.all bz=true):bz (xs.getD j .non)=true:=by
 by_cases hj:j<xs.length
 .have q:=Ho.mp h xs[j] (Hf hj);simpa[G9,GP hj]using q
 .simp[G9,Hq (Ib hj),bz]
def rEqT(K:Ex):R2:=λx y H Q=>∃a b xs ys,x=.ref a/\y=.ref b/\SqT K H a xs/\SqT K H b ys/\xs.all bz=true/\ys.all bz=true/\Q (.bl (eqVs xs ys)) H
def rq(hu:X.A.units+1<Ux):OpR X (TU .Eq) (rEqT X.K):=by
 intro pins s σ H x y v u Q I rx ry h;let#[a,b,xs,ys,rfl,rfl,ha,hb,fx,fy,q]:=h;cases rx;cases ry;let#[its,r1,p1,_]:=I.tuple ha;let#[h_,r2,p2,_]:=I.tuple hb;refine SeqAt.eq_tupleAt (e:=λj=>eqV (xs.getD j .non) (ys.getD j .non)) p1 p2 KZ (λj h1 h2=>?_) #[.bl (eqVs xs ys),H,I,?_,q]
 .rw[GC]at h1 h2;simp only[Jj];exact eqAt_V (Vals.getD r1 h1) (Vals.getD r2 h2) (flat_getD fx) (flat_getD fy)
 .rw[<-jT,GC,GC,<-L2.Vals.length r1,<-L2.Vals.length r2];rfl
variable{K:Ex}
def jU{H:Hp}{x y:D}{u v:V}(rx:Rep K H x u)(ry:Rep K H y v)(fx:bo x=true)(fy:bo y=true):eqV u v=eqF x y:=by
 cases x with
 |tup _=>cases fx
 |lst _=>cases fx
 |rol _=>cases fx
 |obj _ _=>cases fx
 |exc _ _=>cases fx
 |ptr _=>cases fx
 |dti _=>cases fx
 |own _=>cases fx
 |non=>rw[rep_non.mp rx];cases y with
  |tup _=>cases fy
  |lst _=>cases fy
  |rol _=>cases fy
  |obj _ _=>cases fy
  |exc _ _=>cases fy
  |ptr _=>cases fy
  |dti _=>cases fy
  |own _=>cases fy
  |non=>rw[rep_non.mp ry];rfl
  |bl _=>rw[rep_bl.mp ry];rfl
  |int _=>rw[rep_int.mp ry];rfl
  |str _=>rw[rep_str.mp ry];rfl
 |bl _=>rw[rep_bl.mp rx];cases y with
  |tup _=>cases fy
  |lst _=>cases fy
  |rol _=>cases fy
  |obj _ _=>cases fy
  |exc _ _=>cases fy
  |ptr _=>cases fy
  |dti _=>cases fy
  |own _=>cases fy
  |non=>rw[rep_non.mp ry];rfl
  |bl _=>rw[rep_bl.mp ry];rfl
  |int _=>rw[rep_int.mp ry];rfl
  |str _=>rw[rep_str.mp ry];rfl
 |int _=>rw[rep_int.mp rx];cases y with
  |tup _=>cases fy
  |lst _=>cases fy
  |rol _=>cases fy
  |obj _ _=>cases fy
  |exc _ _=>cases fy
  |ptr _=>cases fy
  |dti _=>cases fy
  |own _=>cases fy
  |non=>rw[rep_non.mp ry];rfl
  |bl _=>rw[rep_bl.mp ry];rfl
  |int _=>rw[rep_int.mp ry];rfl
  |str _=>rw[rep_str.mp ry];rfl
 |str _=>rw[rep_str.mp rx];cases y with
  |tup _=>cases fy
  |lst _=>cases fy
  |rol _=>cases fy
  |obj _ _=>cases fy
  |exc _ _=>cases fy
  |ptr _=>cases fy
  |dti _=>cases fy
  |own _=>cases fy
  |non=>rw[rep_non.mp ry];rfl
  |bl _=>rw[rep_bl.mp ry];rfl
  |int _=>rw[rep_int.mp ry];rfl
  |str _=>rw[rep_str.mp ry];rfl
def fV{H:Hp}{x:D}{u:V}(rx:Rep K H x u)(fx:bo x=true):bz u=true:=by
 cases x with
 |tup _=>cases fx
 |lst _=>cases fx
 |rol _=>cases fx
 |obj _ _=>cases fx
 |exc _ _=>cases fx
 |ptr _=>cases fx
 |dti _=>cases fx
 |own _=>cases fx
 |non=>rw[rep_non.mp rx];rfl
 |bl _=>rw[rep_bl.mp rx];rfl
 |int _=>rw[rep_int.mp rx];rfl
 |str _=>rw[rep_str.mp rx];rfl
def cR{K:Ex}{H:Hp}:∀{xs:List D} {us:List V},Reps K H xs us->xs.all bo=true->us.all bz=true
 |[],us,r,_=>by rw[reps_nil.mp r];rfl
 |x::xs,us,r,f=>by
  let#[v,vr,rfl,r1,r2]:=reps_cons.mp r;rw[Hd,GY]at f ⊢;exact#[fV r1 f.1,cR r2 f.2]
def jV{K:Ex}{H:Hp}:∀{xs ys:List D} {us vs:List V},Reps K H xs us->Reps K H ys vs->xs.all bo=true->ys.all bo=true->eqVs us vs=eqFs xs ys
 |[],[],us,vs,r1,r2,_,_=>by rw[reps_nil.mp r1,reps_nil.mp r2];rfl
 |[],y::ys,us,vs,r1,r2,_,_=>by
  let#[v,vr,rfl,_,_]:=reps_cons.mp r2;rw[reps_nil.mp r1];rfl
 |x::xs,[],us,vs,r1,r2,_,_=>by
  let#[v,vr,rfl,_,_]:=reps_cons.mp r1;rw[reps_nil.mp r2];rfl
 |x::xs,y::ys,us,vs,r1,r2,f1,f2=>by
  let#[u,ur,rfl,a1,a2]:=reps_cons.mp r1;let#[v,vr,rfl,b1,b2]:=reps_cons.mp r2;rw[Hd,GY]at f1 f2;rw[eqVs,eqFs,jU a1 b1 f1.1 f2.1,jV a2 b2 f1.2 f2.2]
def jW:RD2:=λx y R=>kdT x λxs=>kdT y λys=>(xs.all bo=true/\ys.all bo=true)/\R (.bl (eqFs xs ys))
def rA:bb K (rEqT K) jW:=by
 intro x y u v F H R Q fh h rx ry q;let#[xs,rfl,h2]:=kdT.of h;let#[ys,rfl,#[f1,f2],h3]:=kdT.of h2;let#[a,us,rfl,hq,rr]:=rep_tup_mp rx;let#[b,vs,rfl,m8,x9]:=rep_tup_mp ry;exact#[a,b,us,vs,rfl,rfl,fh.tup hq,fh.tup m8,cR rr f1,cR x9 f2,q _ _ F H (Grow.refl fh) h3 (rep_bl.mpr (by rw[jV rr x9 f1 f2]))]
def ze[Jx](hu:X.A.units+1<Ux)(ha:WDE X a ta)(hb:WDE X b tb):WDT X (.Compare a [.Eq] [b] pos) (dTst (dOp jW ta tb)):=#[cq (rq hu) rA ha.out hb.out (nomark _)]
end
section
variable {X:Cx}{a b c e:SZ}{ta tb tc te:TD}{pos:TX}{st:TF}{rest:List TF}{t u:TSD}
def zf:TSD:=λE z=>E.nx z
def dSeq(t u:TSD):TSD:=λE z=>t {E with nx:=u E} z
def bg[Jx]:WDSs X [] zf:=⟨pss_nil.anti λE s H q=>by
 let#[B,F0,F,z,k,rs,ED,h,e]:=q;exact e.nx z s F H k h rs⟩
def aj[Jx](h1:WDS X st t)(h2:WDSs X rest u):WDSs X (st::rest) (dSeq t u):=⟨(eO h1.out h2.out).anti λE s H q=>by
 let#[B,F0,F,z,k,rs,ED,h,e]:=q;exact#[B,F0,F,z,k,rs,{ED with nx:=u ED},h,#[λz' s' F' H' k' hz r'=>#[B,F0,F',z',k',r',ED,hz,e],e.rt,e.bk,e.ct]]⟩
def aw[Jx](h1:WDS X st t):WDSs X [st] t:=#[pJ h1.out]
def dFrz(i:Nat)(t:TSD):TSD:=λE z=>match z[i]? with|some (be (.own ds))=>t E (z.set i (be (.lst ds)))|_=>False
def fj[Jx](i:Nat){Mf:List TF}(h:WDSs X Mf t):WDSs X Mf (dFrz i t):=⟨have h:=h.out;PSs.anti h λE s H q=>by
 let#[B,F0,F,z,k,rs,ED,h,e]:=q;unfold dFrz at h;split at h
 .rename_i ds ez;let#[F',k',r']:=rs.freeze k ez;exact#[B,F0,F',_,k',r',ED,h,e]
 .exact h.elim⟩
def dRet(te:TD):TSD:=λE z=>te z E.rt
def aG[Jx](he:WDE X e te):WDS X (.Return (be e) pos) (dRet te):=⟨(pL he.out).anti λE s H q=>by
 let#[B,F0,F,z,k,rs,ED,h,e]:=q;exact#[B,F,z,k.kf,rs,_,h,λd v F' H' g hd rd=>e.rt d v F' H' (k.grow g) hd rd]⟩
def dIfS(c:TDT)(t u:TSD):TSD:=λE z=>c z λb=>if b=true then t E z else u E z
variable{l r:List TF}
def rB[Jx]{c:SZ}{tc:TDT}(hc:DT X c tc)(ha:DSs X l t)(hb:DSs X r u):DS X (.If c l r pos) (dIfS tc t u):=(pM hc ha hb).anti λE s H q=>by
 let#[B,F0,F,z,k,rs,ED,h,e]:=q;refine#[B,F,z,k.kf,rs,_,h,λb F1 H1 g hk=>?_];cases b with
 |true=>exact#[B,F0,F1,z,k.grow g,rs.grow g,ED,hk,e]
 |false=>exact#[B,F0,F1,z,k.grow g,rs.grow g,ED,hk,e]
def dIfJ(c:TDT)(t u:TSD):TSD:=λE z=>∃J:SD->Prop,(c z λb=>if b=true then t {E with nx:=J} z else u {E with nx:=J} z)/\∀z',J z'->E.nx z'
def fk[Jx]{c:SZ}{tc:TDT}(hc:WDT X c tc)(ha:WDSs X l t)(hb:WDSs X r u):WDS X (.If c l r pos) (dIfJ tc t u):=⟨(rB hc.out ha.out hb.out).anti λE s H q=>by
 let#[B,F0,F,z,k,rs,ED,#[J,h,j],e]:=q;exact#[B,F0,F,z,k,rs,{ED with nx:=J},h,#[λz' s' F' H' k' hz r'=>e.nx z' s' F' H' k' (j z' hz) r',e.rt,e.bk,e.ct]]⟩
def dSet(i:Nat)(te:TD):TSD:=λE z=>∃P:D->Prop,te z P/\∀d,P d->E.nx (z.set i (be d))
variable{x:J7}
def au[Jx](i:Nat){c8:TX}(hN:X.N.Nodup)(he:WDE X e te)(hi:(X.N[i]?=be x)\zA0)(hx:Loc X.env.scope x\zA4)(hs:(T7 e (be (.Name x c8)) pos.line X.env=pure false)\zA0)
  (hf:zFN X x\zA2):WDS X (.Assign [.Name x c8] e pos) (dSet i te):=⟨(gB hN hi hx he.out hs hf).anti λE s H q=>by
 let#[B,F0,F,z,k,rs,ED,#[P,h,j],e]:=q;exact#[B,F,z,k.kf,rs,P,h,λd v F' H' g hd rd=>e.nx _ _ F' H' (k.grow g) (j d hd) ((rs.grow g).set rd)]⟩
def dNew(i:Nat)(ta:TDA):TSD:=λE z=>ta z λds=>ds.length<=1000/\E.nx (z.set i (be (.own ds)))
variable{es:List SZ}
def gQ[Jx](i:Nat){c8 p2:TX}{ta:TDA}(hN:X.N.Nodup)(he:WDA X es ta)(hi:(X.N[i]?=be x)\zA0)(hx:Loc X.env.scope x\zA4)(hs:(T7 (.List es p2) (be (.Name x c8)) pos.line X.env=pure false)\zA0)
  (hf:zFN X x\zA2):WDS X (.Assign [.Name x c8] (.List es p2) pos) (dNew i ta):=⟨(gB hN hi hx (jw he.out) hs hf).anti λE s H q=>by
 let#[B,F0,F,z,k,rs,ED,h,e]:=q;refine#[B,F,z,k.kf,rs,_,h,λds vs F1 H1 g hd rd=>?_];have hl:=rd.length;refine#[sz (by rw[hl];exact hd.1),λp hp=>?_];have k1:=k.grow g;have r1:=rs.grow g;have hB:B p=none:=k1.bh.free hp;have hF:F1 p=none:=k1.fh.free hp;refine e.nx _ _ F1 _ #[k1.bh.trans (aQ hp _),k1.fh.trans (aQ hp _),k1.f0,k1.out,k1.eb,k1.jf,k1.jo] hd.2 (r1.setOwn hB hF rd λj dj hj e1 e2=>?_);let#[a,us,q1,q2,_]:=r1.own j dj e1;rw[e2]at q1;cases q1;rw[hp]at q2;cases q2⟩
def dApp(i:Nat)(te:TD):TSD:=λE z=>match z[i]? with|some (be (.own ds))=>(te z λd=>ds.length<=100000/\E.nx (z.set i (be (.own (ds++[d])))))|_=>False
def fW{K:Ex}{F:Hp}{d:D}{v:V}(r:Rep K F d v):Reps K F [d] [v]:=reps_cons.mpr #[v,[],rfl,r,reps_nil.mpr rfl]
def fX[Jx](i:Nat){p1 b7 a8:TX}(he:WDE X e te)(hN:(X.N[i]?=be x)\zA0)(hv:Vis X.env.scope x\zA5)(hd:zND x\zA1)
  (i8:zNC x\zA1) (j8:zSE X e []\zA0)
  (b8:(TM (.Name x p1) "append" X.env (TR (.Name x p1) X.env)=TR (.Name x p1) X.env)\zA0)
  (f6:zHF X a8 [e]\zA0)
  (c5:((b7.endLine==a8.line)=true)\zA0) (K6:(T7 (.Call (.Attribute (.Name x p1) "append" b7) [e] [] a8) x8 pos.line X.env=pure false)\zA0):WDS X (.Expr (.Call (.Attribute (.Name x p1) "append" b7) [e] [] a8) pos) (dApp i te):=⟨(pK (dq PySem.F.plainAttrs_list PySem.F.slot_list_append PySem.F.type_list_append jC (dh hN hv hd i8) (bw he.out pa_nil j8) b8 f6 c5 j8) K6).anti λE s H q=>by
 let#[B,F0,F,z,k,rs,ED,h,e]:=q;unfold dApp at h;split at h
 .rename_i ds ez;let#[a,vs,q1,q2,q3,q4,q5]:=rs.own i ds ez;refine#[.ref a,q1,.inl #[rfl,vs,SqL.of q2],?_];refine#[B,F,z,k.kf,rs,_,h,λd v F1 H1 g hd rd=>?_];have k1:=k.grow g;have r1:=rs.grow g;have a1:H1 a=be (.lst vs):=g.hh a _ q2;have f1:F1 a=none:=g.out a q4 (by rw[q2];exact λz=>nomatch z);have hl:vs.length=ds.length:=q5.length;have hz:vs.length<sizeLine:=by
   have h1:ds.length<=100000:=hd.1;have h2:(100000:Nat)<sizeLine:=K3
   lia
  refine#[a,vs,v,rfl,rfl,a1,hz,?_];have same:∀{G:Hp},G a=x8->Same G H1->Same G (upd H1 a (.lst (vs++[v]))):=λ{G} ga gs b o eb=>by
   have ne:b≠a:=λz=>by rw[z,ga]at eb;cases eb
   rw[ar ne];exact gs b o eb
  have r2:=r1.setOwn (i:=i) (a:=a) (vs:=vs++[v]) (ds:=ds++[d]) q3 f1 ((q5.mono g.ff).append (fW rd)) (λj dj hj e1 e2=>hj (rs.apart j i dj ds a e1 ez e2 q1));have es:s.set i (be (.ref a))=s:=by
   apply Ig;intro n;by_cases hn:i=n
   .subst hn;rw[G6 (GO.mp q1).1,q1]
   .rw[GL hn]
  rw[es]at r2;exact e.nx _ s F1 _ #[same q3 k1.bh,same f1 k1.fh,k1.f0,k1.out,k1.eb,k1.jf,k1.jo] hd.2 r2
 .exact h.elim⟩
def cI:List Nat->List D->SD->SD
 |i::is,d::ds,z=>cI is ds (z.set i (be d))
 |_,_,z=>z
def DGs(X:Cx)(ts:List SZ)(is:List Nat):Prop:=∃u:TGs,PGs X ts u/\∀(ds:List D) (vs:List V) (z:SD) (s:L2.St) (B F H:Hp) (Q:L2.St->Hp->Prop),ds.length=is.length->Reps X.K F ds vs->RepS X.K B F H z s->(∀s',RepS X.K B F H (cI is ds z) s'->Q s' H)->u vs s H Q
def dQ[Jx]:DGs X [] []:=⟨_,wR,λds vs z s B F H Q hl r rs q=>by
 cases ds with
 |nil=>exact#[reps_nil.mp r,q s rs]
 |cons _ _=>cases hl⟩
variable{p:TX}{is:List Nat}
def dg_cons[Jx](i:Nat)(hN:X.N.Nodup)(h2:DGs X es is)(hi:(X.N[i]?=be x)\zA0)(hx:Loc X.env.scope x\zA4)(hf:zFN X x\zA2)
  (hs:((TN (.Name x p::es) X.env).map (·.2)=UD (.Name x p) X.env::(TN es X.env).map (·.2))\zA0):DGs X (.Name x p::es) (i::is):=by
 let#[u,hu,k]:=h2;refine#[_,wS (gA hN hi hx hf) hu hs,λds vs z s B F H Q hl r rs q=>?_];cases ds with
 |nil=>cases hl
 |cons d ds=>
  let#[v,vr,rfl,r1,r2]:=reps_cons.mp r;exact#[v,vr,rfl,k ds vr _ _ B F H Q (Nat.succ.inj hl) r2 (rs.set r1) q]
def zg(is:List Nat)(te:TD):TSD:=λE z=>te z λx=>match x with|.tup ds=>ds.length=is.length/\E.nx (cI is ds z)|_=>False
def rC[Jx]{k:Nat}(hc:X.calm=true)(he:WDE X e te)(hg:DGs X es is)(hn:((TN es X.env).length=is.length)\zA0)(q8:((TN es X.env).findIdx? (·.1)=none)\zA0)
  (hs:(Um [.Tuple es k p] e pos.line X.env=pure false)\zA0) (hw:(Uo [.Tuple es k p] e X.env=pure none)\zA0) (h1:((TN [.Tuple es k p] X.env).map (·.2)=[UD (.Tuple es k p) X.env])\zA0):WDS X (.Assign [.Tuple es k p] e pos) (zg is te):=⟨by
 have he:=he.out;let#[u,hu,kk]:=hg;refine(jn he (jm hc hu hn q8) hs hw h1).anti λE s H q=>?_;let#[B,F0,F,z,k,rs,ED,h,e]:=q;refine#[B,F,z,k.kf,rs,_,h,λd v F' H' g hd rd=>?_];split at hd
 .let#[p,vs,rfl,hq,rr]:=rep_tup_mp rd;exact#[p,vs,rfl,g.fh.tup hq,by rw[rr.length];exact hd.1,kk _ vs z s B F' H' _ hd.1 rr (rs.grow g) λs' r'=>e.nx _ _ F' H' (k.grow g) hd.2 r']
 .exact hd.elim⟩
def dPar(i j:Nat)(ta:TDA):TSD:=λE z=>ta z λds=>match ds with|[x,y]=>E.nx ((z.set i (be x)).set j (be y))|_=>False
def zh[Jx](i j:Nat){y:J7}{t:TDA}{px py pt:TX}{kt k2 KY}(hc:X.calm=true)(hN:X.N.Nodup)(ha:WDA X [a,b] t)(hi:(X.N[i]?=be x)\zA0)(hj:(X.N[j]?=be y)\zA0)(NL:(i≠j)\zA1)
  (hx:(X.env.scope.names.lookup x=be .local)\zA0) (hy:(X.env.scope.names.lookup y=be .local)\zA0)
  (hw:(Uo [.Tuple [.Name x px,.Name y py] kt pt] (.Tuple [a,b] k2 KY) X.env=pure (be [x,y]))\zA0)
  (hs:(Um [.Tuple [.Name x px,.Name y py] kt pt] (.Tuple [a,b] k2 KY) pos.line X.env=pure false)\zA0):WDS X (.Assign [.Tuple [.Name x px,.Name y py] kt pt] (.Tuple [a,b] k2 KY) pos) (dPar i j t):=⟨(wT hc hN hi hj NL hx hy ha.out hw hs).anti λE s H q=>by
 let#[B,F0,F,z,k,rs,ED,h,e]:=q;refine#[B,F,z,k.kf,rs,_,h,λds vs F' H' g hd rd=>?_];split at hd
 .let#[v,r,rfl,r1,r2]:=reps_cons.mp rd;let#[w,r,rfl,r3,r4]:=reps_cons.mp r2;rw[reps_nil.mp r4];exact#[v,w,rfl,e.nx _ _ F' H' (k.grow g) hd (((rs.grow g).set r1).set r3)]
 .exact hd.elim⟩
def zi(c:TDT)(tb:TSD):TSD:=λE z=>∃W:Nat->SD->Prop,(∃m,W m z)/\∀m z,W m z->
 c z λb=>if b=true then tb {E with nx:=λz'=>∃m',m'<m/\W m' z',ct:=λz'=>∃m',m'<m/\W m' z',bk:=E.nx} z else E.nx z
variable{body:List TF}
def fY[Jx]{c:SZ}{tc:TDT}{tb:TSD}(hp:Uh (SL X.prog X.w) X.A X.env X.xe)(hc:WDT X c tc)(hb:WDSs X body tb):WDS X (.While c body [] pos) (zi tc tb):=⟨(pN hp hc.out hb.out).anti λE s H q=>by
 let#[B,F0,F,z,k,rs,ED,#[W,#[m0,w0],e_],e]:=q;refine#[λm s' H'=>∃F' z',Kept B F0 F' H'/\RepS X.K B F' H' z' s'/\W m z',#[m0,F,z,k,rs,w0],?_];rintro m s1 H1⟨F1,z1,k1,r1,w1⟩;refine#[B,F1,z1,k1.kf,r1,_,e_ m z1 w1,λb F2 H2 g2 hk=>?_];cases b with
 |true=>
  refine#[λs3 H3=>∃F3 z3,Kept B F0 F3 H3/\RepS X.K B F3 H3 z3 s3/\∃m',m'<m/\W m' z3,λs3 H3 ⟨F3,z3,k3,r3,m',l,w3⟩=>#[m',l,F3,z3,k3,r3,w3],?_];exact#[B,F0,F2,z1,k1.grow g2,r1.grow g2,_,hk,#[λz3 s3 F3 H3 k3 h3 r3=>#[F3,z3,k3,r3,h3],e.rt,e.nx,λz3 s3 F3 H3 k3 h3 r3=>#[F3,z3,k3,r3,h3]]]
 |false=>exact e.nx z1 s1 F2 H2 (k1.grow g2) hk (r1.grow g2)⟩
abbrev TDI:=SD->(List D->Prop)->Prop
def dItL(t:TD):TDI:=λz R=>t z λx=>match x with|.lst ds=>R ds|.rol ds=>R ds|_=>False
def dItR(t:TD):TDI:=λz R=>t z λx=>match x with|.int n=>(0<=n/\n<2^62)/\R ((GQ n.toNat).map λk=>D.int ((k:Nat):Int))|_=>False
def dFor(i:Nat)(ti:TDI)(tb:TSD):TSD:=λE z=>ti z λds=>∃W:Nat->SD->Prop,W 0 z/\(∀k x z,ds[k]?=be x->W k z->tb {E with nx:=W (k+1),ct:=W (k+1),bk:=E.nx} (z.set i (be x)))/\∀z,W ds.length z->E.nx z
def Reps.get'{K:Ex}{H:Hp}{ds:List D}{vs:List V}{k:Nat}{v:V}(r:Reps K H ds vs)(e:vs[k]?=be v):∃d,ds[k]?=be d/\Rep K H d v:=by
 have hk:k<ds.length:=by rw[<-r.length];exact(GO.mp e).1
 let#[u,q1,q2]:=r.get (GP hk);rw[e]at q1;cases q1;exact#[_,GP hk,q2]
def rD[Jx](i:Nat){tb:TSD}(hp:Uh (SL X.prog X.w) X.A X.env X.xe)(hc:X.calm=true)(hN:X.N.Nodup)(he:WDE X e te)(hb:WDSs X body tb)(hi:(X.N[i]?=be x)\zA0)(hx:Loc X.env.scope x\zA4)
  (hf:zFN X x\zA2) (hs:(∀y,zFS X e y)\zA3):WDS X (.For (.Name x p) e body [] pos) (dFor i (dItL te) tb):=⟨(fM hp hc (jp he.out) (gA hN hi hx hf) hb.out hs).anti λE s H q=>by
 let#[B,F0,F,z,kp,rs,ED,h,e]:=q;refine#[B,F,z,kp.kf,rs,_,h,λd v F1 H1 g1 hd rd=>?_];split at hd
 .let#[p,vs,rfl,hq,rr]:=rep_lst.mp rd;let#[W,w0,e_,out]:=hd;refine#[p,rfl,#[vs,g1.fh.seq (SqL.of hq)],pR (K:=X.K) (a:=p) (xs:=vs) (λk s' H'=>∃F' z',Kept B F0 F' H'/\Same F1 F'/\RepS X.K B F' H' z' s'/\W k z') #[F1,z,kp.grow g1,Same.refl F1,rs.grow g1,w0] (λk s' H' _ ⟨F',z',k',g',r',w'⟩=>k'.fh.seq (g'.seq (SqL.of hq))) ?_ ?_]
  .rintro k y s' H' hk⟨F',z',k',g',r',w'⟩;let#[d,hd,ry]:=rr.get' hk;refine#[B,F',F',_,#[k'.bh,k'.fh,Same.refl F',λb h1 _=>h1,k'.eb,k'.jf.trans k'.f0,λb h1 h2=>k'.out b (k'.jo b h1 h2) h2],r'.set (ry.mono g'),_,e_ k d z' hd w',?_];have up:∀{F2 H2:Hp},Kept B F' F2 H2->Kept B F0 F2 H2:=λk2=>#[k2.bh,k2.fh,k'.f0.trans k2.f0,λb h1 h2=>k2.out b (k'.out b h1 h2) h2,k'.eb,k'.jf,k'.jo];exact#[λz3 s3 F3 H3 k3 h3 r3=>#[F3,z3,up k3,g'.trans k3.f0,r3,h3],λd v F3 H3 k3=>e.rt d v F3 H3 (up k3),λz3 s3 F3 H3 k3=>e.nx z3 s3 F3 H3 (up k3),λz3 s3 F3 H3 k3 h3 r3=>#[F3,z3,up k3,g'.trans k3.f0,r3,h3]]
  .rintro s' H'⟨F',z',k',g',r',w'⟩;exact e.nx z' s' F' H' k' (out z' (by rw[<-rr.length];exact w')) r'
 .let#[p,vs,rfl,hq,rr]:=rep_rol.mp rd;let#[W,w0,e_,out]:=hd;refine#[p,rfl,#[vs,g1.fh.seq hq],pR (K:=X.K) (a:=p) (xs:=vs) (λk s' H'=>∃F' z',Kept B F0 F' H'/\Same F1 F'/\RepS X.K B F' H' z' s'/\W k z') #[F1,z,kp.grow g1,Same.refl F1,rs.grow g1,w0] (λk s' H' _ ⟨F',z',k',g',r',w'⟩=>k'.fh.seq (g'.seq hq)) ?_ ?_]
  .rintro k y s' H' hk⟨F',z',k',g',r',w'⟩;let#[d,hd,ry]:=rr.get' hk;refine#[B,F',F',_,#[k'.bh,k'.fh,Same.refl F',λb h1 _=>h1,k'.eb,k'.jf.trans k'.f0,λb h1 h2=>k'.out b (k'.jo b h1 h2) h2],r'.set (ry.mono g'),_,e_ k d z' hd w',?_];have up:∀{F2 H2:Hp},Kept B F' F2 H2->Kept B F0 F2 H2:=λk2=>#[k2.bh,k2.fh,k'.f0.trans k2.f0,λb h1 h2=>k2.out b (k'.out b h1 h2) h2,k'.eb,k'.jf,k'.jo];exact#[λz3 s3 F3 H3 k3 h3 r3=>#[F3,z3,up k3,g'.trans k3.f0,r3,h3],λd v F3 H3 k3=>e.rt d v F3 H3 (up k3),λz3 s3 F3 H3 k3=>e.nx z3 s3 F3 H3 (up k3),λz3 s3 F3 H3 k3 h3 r3=>#[F3,z3,up k3,g'.trans k3.f0,r3,h3]]
  .rintro s' H'⟨F',z',k',g',r',w'⟩;exact e.nx z' s' F' H' k' (out z' (by rw[<-rr.length];exact w')) r'
 .exact hd.elim⟩
def cS[Jx](i:Nat){p1 p2:TX}{tb:TSD}(hp:Uh (SL X.prog X.w) X.A X.env X.xe)(hc:X.calm=true)(hN:X.N.Nodup)(hm:X.mg "range"=x8)(he:WDE X e te)(hb:WDSs X body tb)(hg:Gl X "range"\zA0)(hi:(X.N[i]?=be x)\zA0)(hx:Loc X.env.scope x\zA4)
  (hf:zFN X x\zA2) (hs:(∀y,zFS X (.Call (.Name "range" p1) [e] [] p2) y)\zA3) (Kb:zSE X e []\zA0) (m9:(TL [e] X.env=[(false,TR e X.env)])\zA0):WDS X (.For (.Name x p) (.Call (.Name "range" p1) [e] [] p2) body [] pos) (dFor i (dItR te) tb):=⟨(fM hp hc (jq hg hm (bw he.out pa_nil Kb) m9) (gA hN hi hx hf) hb.out hs).anti λE s H q=>by
 let#[B,F0,F,z,kp,rs,ED,h,e]:=q;refine#[B,F,z,kp.kf,rs,_,h,λd v F1 H1 g1 hd rd=>?_];split at hd
 .rename_i n;let#[#[b1,b2],W,w0,e_,out]:=hd;have hl:((GQ n.toNat).map λk=>D.int ((k:Nat):Int)).length=n.toNat:=by simp
  refine#[n,by rw[rep_int.mp rd],KZ,b2,pS (lo:=0) (n:=n.toNat) (λk s' H'=>∃F' z',Kept B F0 F' H'/\RepS X.K B F' H' z' s'/\W k z') #[F1,z,kp.grow g1,rs.grow g1,w0] ?_ ?_]
  .rintro k s' H' hk⟨F',z',k',r',w'⟩;have e1:(0:Int)+(k:Int)=(k:Int):=by lia
   exact#[B,F0,F',_,k',r'.set (d:=.int (k:Int)) (rep_int.mpr (by rw[e1])),_,e_ k (.int (k:Int)) z' (by simp[hk]) w',#[λz3 s3 F3 H3 k3 h3 r3=>#[F3,z3,k3,r3,h3],e.rt,e.nx,λz3 s3 F3 H3 k3 h3 r3=>#[F3,z3,k3,r3,h3]]]
  .rintro s' H'⟨F',z',k',r',w'⟩;exact e.nx z' s' F' H' k' (out z' (by rw[hl];exact w')) r'
 .exact hd.elim⟩
end
section
variable {P:SB}{w:TJ}{K:Ex}{mg:J7->Option KB}{base:Heap}
variable{N ps:List J7}
def _root_.L2.Fun.okD{x qual:J7}{st:TF}{f:KF}{fd:TQ}{k:Nat}{S:SpD}(T:Fun K x qual st f fd)(F:FnScope N ps (ah st))(len:∀ds R,S ds R->ds.length=ps.length)
  (a9:∀(cdv:KB) (A:TK) (outer:List Uw) (s:KM) (H:Hp) (E:XK) (J:Jx),Room k (A.deeper (TY qual (ah st) s.heap.objs.size f cdv))->
   ∃t,DSs (cxOf (Exc.CX1 P w) P w K mg base N qual (ah st) f cdv A outer s H E).nox (aL st) t/\∀ds R,S ds R->t {nx:=λ_=>R .non,rt:=R} (startD N ds)):FnOk P w K mg base (Exc.CX1 P w) (k+1) f fd ps (lSp K S):=by
 refine Fun.okC T F (λvs H Q E h=>?_) (λcdv A outer s H vs Q E hr h=>?_)
 .let#[F,ds,fh,rs,R,h,_]:=h;rw[rs.length];exact len ds R h
 .let#[F,ds,fh,rs,R,h,q]:=h
  letI:Jx:=#[H,F,λ_ _ _=>False]
  let#[t,ht,hq]:=a9 cdv A outer s H E inferInstance hr;refine#[_,ht.nox,H,F,F,startD N ds,#[Same.refl H,fh,Same.refl F,λ_ h _=>h,rfl,Same.refl F,λ_ h _=>h],dM rs,_,hq ds R h,#[λz' s' F' H' k hn _=>q _ _ F' H' #[k.f0,k.fh,k.bh,k.out] hn (rep_non.mpr rfl),λd v F' H' k hd rd=>q d v F' H' #[k.f0,k.fh,k.bh,k.out] hd rd,λ_ _ _ _ _ h _=>h.elim,λ_ _ _ _ _ h _=>h.elim]]
def Tx.okD{x:J7}{st:TF}{k:Nat}{S:SpD}(T:Tx K mg x st ps)(F:FnScope N ps (ah st))(len:∀ds R,S ds R->ds.length=ps.length)
  (a9:∀(f:KF) (cdv:KB) (A:TK) (outer:List Uw) (s:KM) (H:Hp) (E:XK) (J:Jx),Room k (A.deeper (TY x (ah st) s.heap.objs.size f cdv))->
   ∃t,DSs (cxOf (Exc.CX1 P w) P w K mg base N x (ah st) f cdv A outer s H E).nox (aL st) t/\∀ds R,S ds R->t {nx:=λ_=>R .non,rt:=R} (startD N ds)):CalD P w K mg base (k+1) x ps S:=by
 let#[f,fd,T,hb,hm]:=T;exact#[f,fd,T.okD F len λcdv A outer s H E J hr=>a9 f cdv A outer s H E J hr,hb,T.kp,hm]
end
def fo:SpD:=λds R=>∃ns:List Int,ds=[.rol (ns.map D.int)]/\ns.length<=63/\R (.bl true)
def zj{a:KF}{ns:List Int}(hl:ns.length<=63)(hS:SqL K H a (ns.map V.int)){E:XK}:lSp K fo [.ref a] H (λv _=>v=.bl true) E:=
 #[H,[.rol (ns.map D.int)],Same.refl H,reps_cons.mpr #[_,_,rfl,rep_rol.mpr #[a,_,rfl,hS,Reps.ints.mpr rfl],reps_nil.mpr rfl],λd=>d=.bl true,#[ns,rfl,hl,rfl],λd v F' H' _ hd rd=>by subst hd;exact rep_bl.mp rd]
section
variable {X:Cx}{a b c e:SZ}{ta tb tc te:TD}{pos:TX}
variable{p:TX}{es:List SZ}{t:TDA}
def gR[Jx]{x:J7}{T:String}{r:List V->Hp->VK->Prop}{rd:RDn}(hc:bH X (.type T) r)(L:cA X.K r rd)(hm:X.mg x=x8)(hv:T3 x=be (.type T))(ha:DA X (e::es) t)(hg:Gl X x\zA0)(hn:(x≠"__name__")\zA1)(d9:zND x\zA1)
  (he:zSE X e es\zA0) (c9:zPL X pos es\zA0):DE X (.Call (.Name x p) (e::es) [] pos) (dCB rd t):=(qt hc hg hm hv ha hn d9 he c9).anti λs H Q h=>by
 let#[B,F,z,kf,rs,R,h1,h2]:=h;have fh:=kf.fh;refine#[B,F,z,kf,rs,_,h1,λds vs F1 H1 g1 hx rx=>?_];exact L ds vs F1 H1 R Q g1.fh hx rx λd w F' H' g=>h2 d w F' H' (g1.trans g)
def rdStr:RDn:=λds R=>match ds with|[.int i]=>i.natAbs<18446744073709551616/\R (.str (toString i))|_=>False
variable{K:Ex}
def zk:cA K (λxs H Q=>∃i,xs=[.int i]/\i.natAbs.log2<1920/\Q (.str (toString i)) H) rdStr:=by
 intro ds vs F H R Q fh h rx q;unfold rdStr at h;split at h
 .let#[v,r,rfl,h1,h2]:=reps_cons.mp rx;rw[reps_nil.mp h2,rep_int.mp h1];refine#[_,rfl,?_,q _ _ F H (Grow.refl fh) h.2 (rep_str.mpr rfl)];rename_i i;by_cases h0:i.natAbs=0
  .rw[h0];decide
  .have:=(Jh h0).mpr (show i.natAbs<2^64 from h.1);lia
 .exact h.elim
def dz[Jx](hm:X.mg "str"=x8)(ha:WDA X [e] t)(hg:Gl X "str"\zA0)(he:zSE X e []\zA0):WDE X (.Call (.Name "str" p) [e] [] pos) (dCB rdStr t):=#[gR xA zk hm PyProof.Rows.boot_str ha.out hg K3 K3 he]
def jX:RDn:=λds R=>kd1 ds λx=>match x with
 |.int i=>R (.int i)
 |.bl k=>R (.int (if k then 1 else 0))
 |.str x=>∃n,(PySem.intText? x=be n/\x.length<=640)/\R (.int n)
 |_=>False
def rE:bH X (.type "int") (λxs H Q=>((∃i,xs=[.int i]/\Q (.int i) H)\/∃k,xs=[.bl k]/\Q (.int (if k then 1 else 0)) H)\/∃x n,xs=[.str x]/\PySem.intText? x=be n/\x.length<=640/\Q (.int n) H):=by
 intro pins s σ H xs us Q I r h;rcases h with h|⟨x,n,rfl,h1,h2,q⟩
 .exact xz pins s σ H xs us Q I r h
 .let#[u,rfl,t,rfl]:=vals1 r;exact PySem.W.KIN.call_text h1 h2 #[.int n,H,I.tok _,#[_,rfl],q]
def rF:cA K (λxs H Q=>((∃i,xs=[.int i]/\Q (.int i) H)\/∃k,xs=[.bl k]/\Q (.int (if k then 1 else 0)) H)\/∃x n,xs=[.str x]/\PySem.intText? x=be n/\x.length<=640/\Q (.int n) H) jX:=by
 intro ds vs F H R Q fh h rx q;replace h:=kd1.of h;let#[x,rfl,h]:=h;let#[v,r,rfl,h1,h2]:=reps_cons.mp rx;rw[reps_nil.mp h2];cases x with
 |int i=>
  rw[rep_int.mp h1];exact .inl (.inl #[_,rfl,q _ _ F H (Grow.refl fh) h (rep_int.mpr rfl)])
 |bl k=>
  rw[rep_bl.mp h1];exact .inl (.inr #[_,rfl,q _ _ F H (Grow.refl fh) h (rep_int.mpr rfl)])
 |str x=>
  rw[rep_str.mp h1];let#[n,#[e1,e2],h]:=h;exact .inr #[_,n,rfl,e1,e2,q _ _ F H (Grow.refl fh) h (rep_int.mpr rfl)]
 |_=>exact False.elim h
def fZ[Jx](hm:X.mg "int"=x8)(ha:WDA X [e] t)(hg:Gl X "int"\zA0)(he:zSE X e []\zA0):WDE X (.Call (.Name "int" p) [e] [] pos) (dCB jX t):=#[gR rE rF hm PyProof.Rows.boot_int ha.out hg K3 K3 he]
def rG:RDn:=λds R=>kd1 ds λx=>match x with|.lst xs=>R (.lst xs)|.tup xs=>R (.lst xs)|.rol xs=>R (.lst xs)|_=>False
def zl:cA K (λxs H Q=>∃p ys,xs=[.ref p]/\(SqL K H p ys\/SqT K H p ys)/\∀l,H l=x8->Q (.ref l) (upd H l (.lst ys))) rG:=by
 intro ds vs F H R Q fh h rx q;replace h:=kd1.of h;let#[x,rfl,h]:=h;let#[v,r,rfl,h1,h2]:=reps_cons.mp rx;rw[reps_nil.mp h2];cases x with
 |lst xs=>
  let#[a,us,rfl,hq,rs]:=rep_lst.mp h1;exact#[a,us,rfl,.inl (fh.seq (SqL.of hq)),λl hl=>q _ _ _ _ (Grow.new fh hl _) h (rep_lst.mpr #[l,us,rfl,aB,rs.mono (aQ (fh.free hl) _)])]
 |tup xs=>
  let#[a,us,rfl,hq,rs]:=rep_tup_mp h1;exact#[a,us,rfl,.inr (fh.tup hq),λl hl=>q _ _ _ _ (Grow.new fh hl _) h (rep_lst.mpr #[l,us,rfl,aB,rs.mono (aQ (fh.free hl) _)])]
 |rol xs=>
  let#[a,us,rfl,hq,rs]:=rep_rol.mp h1;exact#[a,us,rfl,.inl (fh.seq hq),λl hl=>q _ _ _ _ (Grow.new fh hl _) h (rep_lst.mpr #[l,us,rfl,aB,rs.mono (aQ (fh.free hl) _)])]
 |_=>exact False.elim h
def zm[Jx](hm:X.mg "list"=x8)(ha:WDA X [e] t)(hg:Gl X "list"\zA0)(he:zSE X e []\zA0):WDE X (.Call (.Name "list" p) [e] [] pos) (dCB rG t):=#[gR ye zl hm PyProof.Rows.boot_list ha.out hg K3 K3 he]
def rH:RDn:=λds R=>kd2 ds λx y=>kdI x λi=>kdI y λj=>R (.int (if j>i then j else i))
def zn:cA K (λxs H Q=>∃i j,xs=[.int i,.int j]/\Q (.int (if j>i then j else i)) H) rH:=by
 intro ds vs F H R Q fh h rx q;replace h:=kd2.of h;let#[x,y,rfl,h]:=h;replace h:=kdI.of h;let#[i,rfl,h]:=h;replace h:=kdI.of h;let#[j,rfl,h]:=h;let#[v,r,rfl,h1,h2]:=reps_cons.mp rx;let#[v',r',rfl,h3,h4]:=reps_cons.mp h2;rw[reps_nil.mp h4,rep_int.mp h1,rep_int.mp h3];exact#[_,_,rfl,q _ _ F H (Grow.refl fh) h (rep_int.mpr rfl)]
def rJ[Jx](hc:X.calm=true)(hm:X.mg "max"=x8)(ha:WDA X [e,a] t)(hg:Gl X "max"\zA0)(he:zSE X e [a]\zA0)(c9:zPL X pos [a]\zA0):WDE X (.Call (.Name "max" p) [e,a] [] pos) (dCB rH t):=#[jM (xy hc) zn hm PyProof.Rows.boot_max ha.out hg K3 K3 he c9]
def cT:List D->Option (List J7)
 |[]=>be []
 |.str x::r=>(cT r).map (x::·)
 |_=>x8
def rK{K:Ex}{F:Hp}:∀{ds:List D} {xs:List J7} {vs:List V} {us:List KB},cT ds=be xs->Reps K F ds vs->Vals vs us->StrsAre us xs
 |[],xs,vs,us,e,r,q=>by
  cases e;rw[reps_nil.mp r]at q;cases q;exact .nil
 | .str x::ds,xs,vs,us,e,r,q=>by
  let#[v,r',rfl,h1,h2]:=reps_cons.mp r;rw[rep_str.mp h1]at q;cases q with
  |cons q1 q2=>
   let#[t,rfl]:=q1;cases e2:cT ds with
   |none=>simp[cT,e2]at e
   |some ys=>
    simp[cT,e2]at e;subst e;exact .cons x t (rK e2 h2 q2)
def zo:V->List V->Hp->VK->Prop:=λx vs H Q=>∃sep l xs ys,x=.str sep/\vs=[.ref l]/\H l=be (.lst xs)/\(∀us,Vals xs us->StrsAre us ys)/\(ys.map (·.length)).sum+ys.length*sep.length<=16777216/\Q (.str (Txt.join sep ys)) H
def zp:MtR X "str.join" zo:=by
 intro pins s σ H x vs v us Q I rx rv h;let#[sep,l,xs,ys,rfl,rfl,hl,hs,hz,q]:=h;let#[t,rfl]:=rx;let#[u,rfl,ru]:=vals1 rv;cases ru;let#[its,r,pl,_]:=I.list (SqL.of hl);exact PyProof.Rows.join_list pl.isList (by simpa using hs its r) hz λt' k=>#[.str _,H,I.tok _,#[_,rfl],q]
def zq(sep:J7)(te:TD):TD:=λz R=>te z λx=>match x with
 |.lst ds=>∃ys,cT ds=be ys/\(ys.map (·.length)).sum+ys.length*sep.length<=1000000/\R (.str (Txt.join sep ys))
 |_=>False
variable{k:Nat}
def gS[Jx]{sep:J7}{p1 b7 a8:TX}(he:WDE X e te)(j8:zSE X e []\zA0)
  (b8:(TM (.Constant (.str sep) k p1) "join" X.env (TR (.Constant (.str sep) k p1) X.env)=TR (.Constant (.str sep) k p1) X.env)\zA0)
  (f6:zHF X a8 [e]\zA0)
  (c5:((b7.endLine==a8.line)=true)\zA0):WDE X (.Call (.Attribute (.Constant (.str sep) k p1) "join" b7) [e] [] a8) (zq sep te):=⟨(dq PySem.F.plainAttrs_str PySem.F.slot_str_join PySem.F.type_str_join zp pB (bw he.out pa_nil j8) b8 f6 c5 j8).anti λs H Q q=>by
 let#[B,F,z,kf,rs,R,h1,h2]:=q;have fh:=kf.fh;refine#[rfl,?_];refine#[B,F,z,kf,rs,_,h1,λx u F1 H1 g1 hx rx=>?_];split at hx
 .let#[ys,e1,e2,hx]:=hx;let#[l,vs,rfl,hq,rr]:=rep_lst.mp rx;exact#[sep,l,vs,ys,rfl,rfl,g1.fh _ _ hq,λus q=>rK e1 rr q,GD e2 K3,h2 _ _ F1 H1 g1 hx (rep_str.mpr rfl)]
 .exact hx.elim⟩
def rL(i:Nat):TD:=λz R=>match z[i]? with|some (be (.own ds))=>R (.int ds.length)|_=>False
def zr[Jx](i:Nat){x:J7}{p1:TX}(hm:X.mg "len"=x8)(hN:(X.N[i]?=be x)\zA0)(hv:Vis X.env.scope x\zA5)(hd:zND x\zA1)
  (i8:zNC x\zA1) (hg:Gl X "len"\zA0) (he:(TL [.Name x p] X.env=(false,TR (.Name x p) X.env)::TL [] X.env)\zA0):WDE X (.Call (.Name "len" p1) [.Name x p] [] pos) (rL i):=⟨(dL gG hg hm PySem.boot_len (bw (dh hN hv hd i8) pa_nil he) K3 K3 he).anti λs H Q q=>by
 let#[B,F,z,kf,rs,R,h1,h2]:=q;have fh:=kf.fh;unfold rL at h1;split at h1
 .rename_i ds ez;let#[a,vs,q1,q2,q3,q4,q5]:=rs.own i ds ez;exact#[.ref a,q1,.ref a,vs.length,rfl,.inl #[vs,SqL.of q2,rfl],h2 _ _ F H (Grow.refl fh) h1 (rep_int.mpr (by rw[q5.length]))]
 .exact h1.elim⟩
def cutD(xs:List D)(lo hi:Option Int):List D:=(xs.drop (HT.sIx xs.length 0 lo)).take (HT.sIx xs.length xs.length hi-HT.sIx xs.length 0 lo)
def Reps.drop{K:Ex}{F:Hp}:∀(n:Nat) {xs:List D} {us:List V},Reps K F xs us->Reps K F (xs.drop n) (us.drop n)
 |0,_,_,r=>r
 |n+1,[],us,r=>by rw[reps_nil.mp r];exact reps_nil.mpr rfl
 |n+1,x::xs,us,r=>by
  let#[u,ur,rfl,_,a2]:=reps_cons.mp r;exact Reps.drop n a2
def Reps.take{K:Ex}{F:Hp}:∀(n:Nat) {xs:List D} {us:List V},Reps K F xs us->Reps K F (xs.take n) (us.take n)
 |0,_,_,_=>reps_nil.mpr rfl
 |n+1,[],us,r=>by rw[reps_nil.mp r];exact reps_nil.mpr rfl
 |n+1,x::xs,us,r=>by
  let#[u,ur,rfl,a1,a2]:=reps_cons.mp r;exact reps_cons.mpr #[u,_,rfl,a1,Reps.take n a2]
def Reps.cut{F:Hp}{xs:List D}{us:List V}(r:Reps K F xs us)(lo hi:Option Int):Reps K F (cutD xs lo hi) (cutV us lo hi):=by
 unfold cutD cutV;rw[r.length];exact(r.drop _).take _
def zt(ta tb:TD):TD:=λz R=>ta z λx=>tb z λy=>match x,y with|.lst xs,.int i=>R (.lst (cutD xs (be i) x8))|_,_=>False
def zu[Jx]{p2:TX}(ha:WDE X a ta)(hb:WDE X b tb):WDE X (.Subscript a (.Slice (be b) x8 x8 p2) pos) (zt ta tb):=⟨(gI gJ ha.out (jA hb.out) jz).anti λs H Q q=>by
 let#[B,F,z,kf,rs,R,h1,h2]:=q;have fh:=kf.fh;refine#[B,F,z,kf,rs,_,h1,λx u F1 H1 g1 hx rx=>?_];refine#[B,F1,z,kf.grow g1,rs.grow g1,_,hx,λy v F2 H2 g2 hy ry=>?_];split at hy
 .refine#[_,rep_int.mp ry,?_];let#[l,vs,rfl,hq,rr]:=rep_lst.mp (rx.mono g2.ff);refine#[l,vs,rfl,SqL.of (g2.fh _ _ hq),λp hp=>?_];exact h2 _ _ _ _ (g1.trans (g2.trans (Grow.new g2.fh hp _))) hy (rep_lst.mpr #[p,_,rfl,aB,(rr.cut _ _).mono (aQ (g2.fh.free hp) _)])
 .exact hy.elim⟩
def rM{t:TGs}{n:Nat}(hc:X.calm=true)(h:PGs X es t)(hn:((TN es X.env).length=n)\zA0)(q8:((TN es X.env).findIdx? (·.1)=none)\zA0):
  PG X (.Tuple es k pos) (λv σ H Q=>∃a xs,v=.ref a/\SqL X.K H a xs/\xs.length=n/\t xs σ H Q):=by
 intro pins s σ H v u Q I r hw;let#[a,xs,e1,hq,hl,hw]:=hw;subst e1;cases r;let#[its,rv,pl,hz]:=I.list hq;have e2:(TN es X.env).length=its.toArray.size:=by simp[hn,<-hl,rv.length]
 rw[PyProof.Rows.assign_Tuple];refine Os (Uk ?_);unfold unpack;rw[e2,q8];refine Os (Ul (kun_itemsOf (I.ok.hd hc) pl.isList λh' hx=>?_));have I1:Inv X pins σ H {s with heap:=h'}:=I.kept (t':=s.toks) λb o e=>hx b o (GH (Heap.lt_size e)) e;exact h pins _ σ H xs _ Q I1 (by simpa using rv) hw
def zv(is:List Nat)(te:TD):TSD:=λE z=>te z λx=>match x with|.lst ds=>ds.length=is.length/\E.nx (cI is ds z)|_=>False
def rN[Jx]{is:List Nat}(hc:X.calm=true)(he:WDE X e te)(hg:DGs X es is)(hn:((TN es X.env).length=is.length)\zA0)(q8:((TN es X.env).findIdx? (·.1)=none)\zA0)
  (hs:(Um [.Tuple es k p] e pos.line X.env=pure false)\zA0) (hw:(Uo [.Tuple es k p] e X.env=pure none)\zA0) (h1:((TN [.Tuple es k p] X.env).map (·.2)=[UD (.Tuple es k p) X.env])\zA0):WDS X (.Assign [.Tuple es k p] e pos) (zv is te):=⟨by
 have he:=he.out;let#[u,hu,kk]:=hg;refine(jn he (rM hc hu hn q8) hs hw h1).anti λE s H q=>?_;let#[B,F0,F,z,k,rs,ED,h,e]:=q;refine#[B,F,z,k.kf,rs,_,h,λd v F' H' g hd rd=>?_];split at hd
 .let#[p,vs,rfl,hq,rr]:=rep_lst.mp rd;exact#[p,vs,rfl,SqL.of (g.fh _ _ hq),by rw[rr.length];exact hd.1,kk _ vs z s B F' H' _ hd.1 rr (rs.grow g) λs' r'=>e.nx _ _ F' H' (k.grow g) hd.2 r']
 .exact hd.elim⟩
end
end My
namespace L2
def jY{env:Uw}:∀(names:List (J7×Ut)) (g7:List (J7×KF)),(∀n,(n,NameKind.free)∈names->∃c,env.cells.lookup n=be c)->
  ∃cl,(forIn (m:=Vj) names g7 λx r=>match x with
     |(name,kind)=>if(kind==NameKind.free)=true then(do let a <-cellOf env name;pure (ForInStep.yield ((name,a)::r)))else pure (ForInStep.yield r))=(pure cl:Vj (List (J7×KF)))/\
   (∀n c,cl.lookup n=be c->env.cells.lookup n=be c\/g7.lookup n=be c)/\(∀n,(n,NameKind.free)∈names->∃c,cl.lookup n=be c)/\∀n c,g7.lookup n=be c->∃c',cl.lookup n=be c'
 |[],g7,_=>#[g7,rfl,(λ_ _ h=>.inr h),(λ_ h=>by cases h),(λ_ c h=>#[c,h])]
 |(name,kind)::r,g7,h=>by
  by_cases hk:(kind==NameKind.free)=true
  .have ek:kind=.free:=by simpa using hk
   subst ek;let#[c,hc]:=h name Gz;let#[cl,e,p1,p2,p3]:=jY r ((name,c)::g7) λn q=>h n (Gx _ q);refine#[cl,?_,λn c' q=>?_,λn q=>?_,λn c' q=>?_]
   .rw[Jk];have ec:cellOf env name=pure c:=by unfold cellOf;rw[hc]
    simp only[hk,if_true,ec];exact e
   .rcases p1 n c' q with z|z
    .exact .inl z
    .rw[GM]at z;split at z
     .rename_i q2;have en:n=name:=by simpa using q2
      cases z;exact .inl (en ▸ hc)
     .exact .inr z
   .rcases GA.mp q with z|z
    .cases z;exact p3 _ c (by rw[GM];simp)
    .exact p2 n z
   .by_cases hn:n=name
    .subst hn;exact p3 n c (by rw[GM];simp)
    .exact p3 n c' (by rw[GM,beq_eq_false_iff_ne.mpr hn];exact q)
  .let#[cl,e,p1,p2,p3]:=jY r g7 λn q=>h n (Gx _ q);refine#[cl,?_,p1,λn q=>?_,p3]
   .rw[Jk];simp only[hk];exact e
   .rcases GA.mp q with z|z
    .cases z;exact absurd rfl hk
    .exact p2 n z
def closure_is{env:Uw}{scope:Uc}(h:∀n,(n,NameKind.free)∈scope.names->∃c,env.cells.lookup n=be c):
  ∃cl,closureFor scope env=pure cl/\(∀n c,cl.lookup n=be c->env.cells.lookup n=be c)/\∀n,(n,NameKind.free)∈scope.names->∃c,cl.lookup n=be c:=by
 let#[cl,e,p1,p2,_]:=jY scope.names [] h;refine#[cl,?_,λn c q=>(p1 n c q).elim id (λz=>nomatch z),p2];unfold closureFor;show(forIn (m:=Vj) scope.names [] _>>=λs=>pure s)=pure cl;rw[e];rfl
def gT{env:Uw}:∀{names:List (J7×Ut)} {n:J7} {k:Ut},(∀y∈names,y.2≠.cell)->k=.cell\/k=.free->
  (names.map λ(n,k)=>if(k==NameKind.free&&env.scope.kind== .function&&env.kindOf n==be .cell)then(n,NameKind.cell)else(n,k)).lookup n=be k->(n,NameKind.free)∈names
 |[],_,_,_,_,h=>by simp at h
 |(a,b)::r,n,k,hc,hk,h=>by
  rw[GK]at h;by_cases hb:(b==NameKind.free&&env.scope.kind== .function&&env.kindOf a==be .cell)=true
  .have eb:b=.free:=by
    have:=(GY _ _ ▸ ((GY _ _ ▸ hb).1)).1;simpa using this
   simp only[hb,if_true]at h;rw[GM]at h;split at h
   .rename_i q;have en:n=a:=by simpa using q
    subst en eb;exact Gz
   .exact Gx _ (gT (λy q=>hc y (Gx _ q)) hk h)
  .simp only[hb]at h;rw[if_neg K8,GM]at h;split at h
   .rename_i q;have en:n=a:=by simpa using q
    cases h;subst en;rcases hk with z|z
    .exact absurd z (hc _ Gz)
    .rw[z];exact Gz
   .exact Gx _ (gT (λy q=>hc y (Gx _ q)) hk h)
section
variable {prog:SB}{w:TJ}{A:TK}{R:Result->KM->Prop}{s:KM}
abbrev rO(l8:List SZ)(env:Uw):Vj Bool:=forIn l8 true λc r=>if r=true then do let ok <-isTrue c env (TR c env);pure (ForInStep.yield ok)else pure (ForInStep.yield r)
def zw{j6 i9 iter:SZ}{l8:List SZ}{scope:Uc}{pos:TX}{it g7:KB}{env:Uw}(I:Nat->KM->Prop)
  (e_:∀n s,I n s->TC (SL prog w) A (pyNext it) (λr s₁=>match r with
   |none=>R (.ok .next) s₁
   |some v=>TC (SL prog w) A (UL i9 it v) (λ_ s₁'=>TC (SL prog w) A (UD i9 env v) (λ_ s₂=>TC (SL prog w) A (rO l8 env) (λok s₂'=>if ok=true then TC (SL prog w) A (TR j6 env) (λx s₃=>
     TC (SL prog w) A (call (.builtin "list.append") [g7,x]) (λ_ s₄=>∃m,m<n/\I m s₄) (λ_ _=>False) s₃)
     (λ_ _=>False) s₂' else ∃m,m<n/\I m s₂') (λ_ _=>False) s₂) (λ_ _=>False) s₁') (λ_ _=>False) s₁) (λ_ _=>False) s)
  (n:Nat) (h:I n s):
  UP (SL prog w) A (.compLoop (.ListComp j6 [#[i9,iter,l8,0]] scope pos) 0 it g7 env) R s:=by
 refine codeAny_loop rfl I (λn s hI=>?_) n h;show TC _ _ ((compTurn (.ListComp j6 [#[i9,iter,l8,0]] scope pos) 0 it g7 env).onRaise (λx=>do UF x env;theTreesLotGoes x)) _ _ s;refine wpAny_noted ?_;rw[compTurn_list];refine Os (Uk (Os (T1 (e_ n s hI) (λr s₁ h₁=>?_) λ_ _ h'=>h'.elim)));cases r with
 |none=>exact P3 h₁
 |some v=>
  refine Os (T1 h₁ (λ_ s₁' h₁'=>Os (T1 h₁' (λ_ s₂ h₂=>Os (T1 h₂ (λok s₃ h₃=>?_) λ_ _ h'=>h'.elim)) λ_ _ h'=>h'.elim)) λ_ _ h'=>h'.elim);cases ok with
  |false=>exact P3 #[rfl,h₃]
  |true=>
   exact Os (Os (T1 h₃ (λx s₄ h₄=>Os (T1 h₄ (λ_ s₅ h₅=>P3 (P3 #[rfl,h₅])) λ_ _ h'=>h'.elim)) λ_ _ h'=>h'.elim))
end
def ce(X:Cx)(scope:Uc)(cl:List (J7×KF))(x:J7)(s₀:KM)(H₀:Hp)(fp:List KF):Cx where
 prog:=X.prog
 w:=X.w
 K:=X.K
 mg:=X.mg
 base:=X.base
 A:=X.A
 N:=X.N.map (λn=>if n=x then("":J7)else n)++[x]
 s₀:=s₀
 H₀:=H₀
 env:=compEnvC scope cl s₀.heap.objs.size X.env
 outer:=X.stack
 stack:=X.stack
 ex:=fp
 fn:=λ_=>false
 calm:=X.calm
 pn:=[]
 xe:=λ_ _=>False
structure CompScope(X:Cx)(scope:Uc)(x:Str):Prop where
 kind:scope.kind=.function
 nocell:∀y∈scope.names,y.2≠.cell
 names:∀y∈scope.names,y.2=.local->scope.names.lookup y.1=be .local
 own:scope.names.lookup x=be .local
 free:∀n,(n,NameKind.free)∈scope.names->X.env.kindOf n=be .cell
 vis:∀n∈X.N,n≠x->Vis (VC scope X.env) n->(n,NameKind.free)∈scope.names
 empty:¬Vis (VC scope X.env) ("":J7)
 cells:∀n,(n,NameKind.free)∈scope.names->(VC scope X.env).names.lookup n=be .cell
 nd:(X.N.map (λn=>if n=x then("":J7)else n)++[x]).Nodup
section
variable {X:Cx}{pins:List (KF×T5)}{σ:St}{H:Hp}{s:KM}{scope:Uc}{cl:List (J7×KF)}{x:J7}{fp:List KF}
def rP(I:Inv X pins σ H s)(S:CompScope X scope x)(c1:∀n c,cl.lookup n=be c->X.env.cells.lookup n=be c)(c2:∀n,(n,NameKind.free)∈scope.names->∃c,cl.lookup n=be c)
  (hf:∀b∈fp,FpOk X pins H b) (hl:∀b∈fp,b<s.heap.objs.size):(ce X scope cl x s H fp).Ok where
 mod:=I.ok.mod
 kind:=S.kind
 glob:=I.ok.glob
 blt:=I.ok.blt
 above:=Gv _
 inj:=λy z c h1 h2=>I.ok.inj y z c (c1 y c h1) (c1 z c h2)
 has:=λn hn=>by
  rcases hn with hn|hn
  .exact c2 n (gT S.nocell (.inl rfl) hn)
  .exact c2 n (gT S.nocell (.inr rfl) hn)
 cab:=λ_ _ h=>nomatch h
 hd:=I.ok.hd
 frames:=I.ok.frames
 stk:=.inl rfl
 exf:=λb hb=>#[GH (hl b hb),λy c h=>(hf b hb).2.2.2.2.1 y c (c1 y c h)]
 bs:=I.bs
 bsz:=GD I.ok.bsz I.sz
 noex:=λb o e hb=>by
  have h1:=I.ok.noex b o e;rcases(hf b hb).2.2.2.1 with z|z
  .exact h1 z
  .exact absurd (GR (Heap.lt_size e) (GD I.ok.bsz z)) (Hu _)
 exfs:=λb hb hs=>by
  rcases GA.mp (I.stkSub b hs)with z|z
  .exact(hf b hb).2.1 z
  .exact(hf b hb).2.2.1 z
 funs:=I.stack
 frf:=I.stkFree
def rQ{h':Heap}{t':Nat}(I:Inv X pins σ H s)(S:CompScope X scope x)(c1:∀n c,cl.lookup n=be c->X.env.cells.lookup n=be c)(c2:∀n,(n,NameKind.free)∈scope.names->∃c,cl.lookup n=be c)
  (hf:∀b∈fp,FpOk X pins H b) (hl:∀b∈fp,b<s.heap.objs.size) {m:J7->Option KB} (hn:h'.Ns s.heap.objs.size m) (k:∀b o,s.heap.get? b=be o->h'.get? b=be o):
  Inv (ce X scope cl x s H fp) [] (σ++[x8]) H {s with heap:=h',toks:=t'}:=by
 refine#[rP I S c1 c2 hf hl,rfl,I.bare,Un.kept k,#[m,hn,λi n v e1 e2 e3=>?_],λn c e=>?_,I.hok.fresh (Gv _),λn c e=>I.freeC n c (c1 n c e),λp hp=>absurd (show p∈([]:List (KF×T5))from hp) K8,I.hok.kept k,?_]
 .have hi:i<σ.length:=by
   rcases HS i σ.length with q|q
   .exact q
   .rw[HC q]at e2;cases hz:i-σ.length with
    |zero=>rw[hz]at e2;simp at e2
    |succ z=>rw[hz]at e2;simp at e2
  rw[Hm hi]at e2;have Ng:i<X.N.length:=by rw[<-I.len];exact hi
  have Lu:(X.N.map (λn=>if n=x then("":J7)else n)++[x])[i]?=be n:=e1;rw[Hm (by simpa using Ng),GU,GP Ng]at Lu;simp only[Option.map_some,Option.some.injEq]at Lu;by_cases hx:X.N[i]=x
  .rw[if_pos hx]at Lu;subst Lu;exact absurd e3 S.empty
  .rw[if_neg hx]at Lu;subst Lu;have l_:=S.vis _ (Hf Ng) hx e3;have p6:=S.free _ l_;let#[c,hc]:=c2 _ l_;let#[mX,S7,Rz]:=I.loc;let#[u,ru,lk]:=Rz i X.N[i] v (GP Ng) e2 (.inr (.inl p6));refine#[u,ru,.inr #[?_,c,hc,?_]]
   .exact .inl (S.cells _ l_)
   .rcases lk with⟨kl,_⟩|⟨_,c',w_,j5⟩
    .rw[p6]at kl;cases kl
    .have:c=c':=by
      have:=c1 _ c hc;rw[w_]at this;exact(Option.some.inj this).symm
     subst this;let#[o,ho,hd]:=j5;exact#[o,k _ _ ho,hd]
 .let#[v,o,ho,hd]:=I.cell n c (c1 n c e);exact#[v,o,k _ _ ho,hd]
 .show(σ++[x8]).length=(X.N.map _++[x]).length;rw[GF,GF,GB,I.len];rfl
end
def gU(wi:TI)(tt:TT)(j7:TE):TE:=λσ H Q=>wi σ H λJ H1=>∀D,H1 D=x8->∃W:Nat->Nat->Hp->Prop,(∃m,W 0 m (upd H1 D (.lst [])))/\∀i m H,W i m H->
 (J.stop i H/\Q (.ref D) H)\/(J.go i H/\∀x H',J.yld i H x H'->tt (σ++[be x]) H' λb H1=>if b=true then j7 (σ++[be x]) H1 λy H''=>∃vs,H'' D=be (.lst vs)/\vs.length<sizeLine/\∃m',m'<m/\W (i+1) m' (upd H'' D (.lst (vs++[y])))else ∃m',m'<m/\W (i+1) m' H1)
def PIf(X:Cx)(l8:List SZ)(t:TT):Prop:=
 ∀(pins:List (KF×T5)) (s:KM) (σ:St) (H:Hp) (Q:Bool->Hp->Prop),Inv X pins σ H s->t σ H Q->TC (SL X.prog X.w) X.A (rO l8 X.env) (TP X pins σ Q) X.xe s
def pif_nil{X:Cx}:PIf X [] (λ_ H Q=>Q true H):=λpins s σ H Q I q=>wpAny_tests_nil #[H,I,q]
def PIf.anti{X:Cx}{e:List SZ}{t t':TT}(h:PIf X e t)(a:∀s H Q,t' s H Q->t s H Q):PIf X e t':=λpins s σ H Q I q=>h pins s σ H Q I (a _ _ _ q)
section
variable {X:Cx}
variable{j6 iter:SZ}{l8:List SZ}{x:J7}{px pos:TX}{scope:Uc}{tt:TT}{j7:TE}
def rR{pins:List (KF×T5)}{s2:KM}{σ:St}{H1:Hp}{cl:List (J7×KF)}{it:KF}{fp:List KF}{tn:Nat->Heap->Prop}{J:It}{Qs:Hp->Prop}{R:Result->KM->Prop}{W:Nat->Nat->Hp->Prop}{m0:Nat}{h₁:Heap}(hc:X.calm=true)(S:CompScope X scope x)
  (hq:∀cl s₀ H₀ fp,PIf (ce X scope cl x s₀ H₀ fp) l8 tt) (he:∀cl s₀ H₀ fp,PE (ce X scope cl x s₀ H₀ fp) j6 j7) (c1:∀n c,cl.lookup n=be c->X.env.cells.lookup n=be c) (c2:∀n,(n,NameKind.free)∈scope.names->∃c,cl.lookup n=be c)
  (I1:Inv X pins σ H1 s2) (T:Turn X.prog X.w X.K (.Name x px) J fp it tn) (st:tn 0 s2.heap) (f1:∀b∈fp,FpOk X pins H1 b) (w0:W 0 m0 (upd H1 s2.heap.objs.size (.lst [])))
  (step:∀i m H,W i m H->(J.stop i H/\Qs H)\/(J.go i H/\∀x H',J.yld i H x H'->tt (σ++[be x]) H' λb H1=>if b=true then j7 (σ++[be x]) H1 λy H''=>∃vs,H'' s2.heap.objs.size=be (.lst vs)/\vs.length<sizeLine/\∃m',m'<m/\W (i+1) m' (upd H'' s2.heap.objs.size (.lst (vs++[y])))else ∃m',m'<m/\W (i+1) m' H1))
  (I4:Inv (ce X scope cl x {s2 with heap:=s2.heap.push {cls:=.type "list",data:=.seq ([]:List KB).toArray},toks:=s2.toks} (upd H1 s2.heap.objs.size (.lst [])) fp) [] (σ++[x8]) (upd H1 s2.heap.objs.size (.lst [])) {s2 with heap:=h₁,toks:=s2.toks+([]:List (J7×KB)).length}) (t0:tn 0 h₁)
  (N4:∀H' s4 m,Inv X pins σ H' s4->s4.heap.Ns (s2.heap.push {cls:=.type "list",data:=.seq ([]:List KB).toArray}).objs.size m->H' (s2.heap.push {cls:=.type "list",data:=.seq ([]:List KB).toArray}).objs.size=x8->Qs H'->R (.ok .next) s4):
  UP (SL X.prog X.w) X.A (.compLoop (.ListComp j6 [#[.Name x px,iter,l8,0]] scope pos) 0 (.ref it) (.ref s2.heap.objs.size) (compEnvC scope cl (s2.heap.push {cls:=.type "list",data:=.seq ([]:List KB).toArray}).objs.size X.env)) R {s2 with heap:=h₁,toks:=s2.toks+([]:List (J7×KB)).length}:=by
 have j3:∀b∈fp,b<s2.heap.objs.size:=λb hb=>by
  let#[o,ho,_]:=T.obj _ _ st b hb;exact Heap.lt_size ho
 have I3:Inv X pins σ (upd H1 s2.heap.objs.size (.lst [])) {s2 with heap:=s2.heap.push {cls:=.type "list",data:=.seq ([]:List KB).toArray},toks:=s2.toks}:=I1.lnew (its:=[]) (ys:=[]) .nil (GT _);have k_:∀b∈fp,b<(s2.heap.push {cls:=.type "list",data:=.seq ([]:List KB).toArray}).objs.size:=λb hb=>by
  rw[Heap.size_push];exact IE (j3 b hb)
 have J1:∀b∈fp,FpOk X pins (upd H1 s2.heap.objs.size (.lst [])) b:=λb hb=>#[by rw[ar (GH (j3 b hb))];exact(f1 b hb).1,(f1 b hb).2];have Nh:=rP (x:=x) (fp:=fp) I3 S c1 c2 J1 k_;generalize hY:ce X scope cl x {s2 with heap:=s2.heap.push {cls:=.type "list",data:=.seq ([]:List KB).toArray},toks:=s2.toks} (upd H1 s2.heap.objs.size (.lst [])) fp=Y at I4 Nh;have yP:Y.prog=X.prog:=Ql
 have yW:Y.w=X.w:=Ql
 have yK:Y.K=X.K:=Ql
 have yA:Y.A=X.A:=Ql
 have yN:Y.N=X.N.map (λn=>if n=x then("":J7)else n)++[x]:=Ql
 have yE:Y.env=compEnvC scope cl (s2.heap.push {cls:=.type "list",data:=.seq ([]:List KB).toArray}).objs.size X.env:=Ql
 have yX:Y.xe=λ_ _=>False:=Ql
 have yC:Y.calm=true:=by rw[<-hY];exact hc
 have Qq:Y.ex=fp:=Ql
 have RA:Y.pn=[]:=Ql
 have RB:Y.fs=frs X.stack:=Ql
 have RC:Y.H₀=upd H1 s2.heap.objs.size (.lst []):=Ql
 have Qr:Y.s₀={s2 with heap:=s2.heap.push {cls:=.type "list",data:=.seq ([]:List KB).toArray},toks:=s2.toks}:=Ql
 have RD:PE Y j6 j7:=by rw[<-hY];exact he _ _ _ _
 have RE:PIf Y l8 tt:=by rw[<-hY];exact hq _ _ _ _
 have q9:∀{H':Hp},(∀b∈fp,H' b=x8)->∀b∈fp,FpOk Y [] H' b:=λ{H'} hn b hb=>by
  have i6:b∈Y.ex:=by rw[Qq];exact hb
  exact#[hn b hb,(Nh.exf b i6).1,Nh.exfs b i6,.inl i6,λn c e=>(Nh.exf b i6).2 n c e,by rw[RA];simp]
 have Mh:Y.env.scope.names.lookup x=be .local:=by rw[yE];exact lookup_relabel_local S.own
 have N5:Y.N[X.N.length]?=be x:=by rw[yN];simp
 have RF:Y.N.Nodup:=by rw[yN];exact S.nd
 have N6:Y.env.locals=(s2.heap.push {cls:=.type "list",data:=.seq ([]:List KB).toArray}).objs.size:=by rw[yE];rfl
 have c_:∀(o:Option V) (H':Hp) (s':KM),Inv Y [] (σ++[o]) H' s'->Inv X pins σ H' s':=λo H' s' I'=>by
  have bs:=I'.base;rw[RB,Qq,RC,Qr]at bs;refine I3.call' (ch:=fp) ?_ bs ?_ I'.bare ?_
  .have:=I'.os;rw[Qr]at this;exact this
  .have:=I'.hok;rw[yP,yW]at this;exact this
  .exact λb hb=>#[(J1 b hb).2.2.2.1,(J1 b hb).2.1,(J1 b hb).2.2.2.2.1,(J1 b hb).2.2.2.2.2]
 refine zw (λn s'=>∃i o H',Inv Y [] (σ++[o]) H' s'/\tn i s'.heap/\(∀b∈fp,H' b=x8)/\W i n H') ?_ m0 #[0,x8,_,I4,t0,λb hb=>(J1 b hb).1,w0];rintro n s3⟨i,o,H3,I5,t3,f3,w3⟩;rcases step i n H3 w3 with⟨stop,q⟩|⟨go,q⟩
 .have dn:=T.done Y yP yW yK yC i [] s3 _ H3 (λ_ _=>False) I5 (q9 f3) t3 stop;rw[yA]at dn;refine thn dn λr s4 c7=>?_;let#[hr,I6]:=c7;subst hr;let#[m,hn,_]:=I6.loc;have n_:=I6.free;rw[N6]at hn n_;exact N4 H3 s4 m (c_ o H3 s4 I6) hn n_ q
 .have Qu:=T.item Y yP yW yK yC i [] s3 _ H3 (λ_ _=>False) I5 (q9 f3) t3 go;rw[yA]at Qu;refine thn Qu λr s4 c7=>?_;let#[u,hr,h4]:=c7;subst hr;refine thn h4 λ_ s5 c7=>?_;let#[xv,H5,I6,r5,y5,J8,NM]:=c7;have RG:=I6.pinned (q9 NM) (T.obj _ _ J8);rw[<-yE];refine US (eK RG RF N5 (.inl Mh) r5 (λs6 I7=>?_) (.inr Mh));have N7:(σ++[o]).set X.N.length (be xv)=σ++[be xv]:=by
   rw[<-I1.len];simp
  rw[N7]at I7;have tv:=RE _ s6 _ H5 _ I7 (q xv H5 y5);rw[yP,yW,yA,yX]at tv;refine thn tv λb RH c7=>?_;let#[RI,Ni,qb]:=c7;cases b with
  |false=>
   let#[m',hm,w7]:=qb;refine#[m',hm,i+1,be xv,_,Ni.unpinned,T.keep _ _ _ J8 λb hb ob e=>(Ni.pin (b,ob) (GX _ (GX _ (eQ hb e)))).1,λb hb=>?_,w7];let#[ob,e,d]:=T.obj _ _ J8 b hb;exact(Ni.pin (b,ob) (GX _ (GX _ (eQ hb e)))).2.1
  |true=>
  have ev:=RD _ RH _ RI _ Ni qb;rw[yP,yW,yA,yX]at ev;refine thn ev λyv s7 c7=>?_;let#[y,H6,I8,ry,vs,RJ,b9,m',hm,w7]:=c7;have ap:=jC (X:=Y) _ s7 _ H6 (.ref s2.heap.objs.size) [y] (.ref s2.heap.objs.size) [yv] (λ_ H7=>H7=upd H6 s2.heap.objs.size (.lst (vs++[y]))) I8 rfl (.cons ry .nil) #[_,vs,y,rfl,rfl,RJ,b9,rfl];rw[yP,yW,yA,yX]at ap;refine thn ap λ_ s8 c7=>?_;let#[_,H7,I9,_,e7]:=c7;subst e7;refine#[m',hm,i+1,be xv,_,I9.unpinned,T.keep _ _ _ J8 λb hb ob e=>(I9.pin (b,ob) (GX _ (GX _ (eQ hb e)))).1,λb hb=>?_,w7];let#[ob,e,d]:=T.obj _ _ J8 b hb;exact(I9.pin (b,ob) (GX _ (GX _ (eQ hb e)))).2.1
def rS{wi:TI}(hc:X.calm=true)(S:CompScope X scope x)(hi:PI X (.Name x px) iter wi)
  (hq:∀cl s₀ H₀ fp,PIf (ce X scope cl x s₀ H₀ fp) l8 tt) (he:∀cl s₀ H₀ fp,PE (ce X scope cl x s₀ H₀ fp) j6 j7) (hs:(∀y,zFS X iter y)\zA3):
  PE X (.ListComp j6 [#[.Name x px,iter,l8,0]] scope pos) (gU wi tt j7):=by
 intro pins s σ H Q I h;let#[cl,j5,c1,c2]:=closure_is (env:=X.env) (scope:=scope) (λn q=>I.ok.has n (.inl (S.free n q)));rw[eval_ListComp];refine U9 (use:=x8) rfl hs j5 S.kind S.names (thn (hi pins s σ H _ I h) λv s1 h1=>thn h1 λM9 s2 h2=>?_);let#[it,fp,tn,J,H1,e,I1,T,st,f1,hr]:=h2;subst e;have j3:∀b∈fp,b<s2.heap.objs.size:=λb hb=>by
  let#[o,ho,_]:=T.obj _ _ st b hb;exact Heap.lt_size ho
 have hD:H1 s2.heap.objs.size=none:=I1.hok.fresh (Gv _);let#[W,#[m0,w0],step]:=hr _ hD;refine TZ (Vn S.nocell (by intro y hy;simp at hy) (λh₁ hns₁ hsb₁=>?_) S.kind);have I3:Inv X pins σ (upd H1 s2.heap.objs.size (.lst [])) {s2 with heap:=s2.heap.push {cls:=.type "list",data:=.seq ([]:List KB).toArray},toks:=s2.toks}:=I1.lnew (its:=[]) (ys:=[]) .nil (GT _);have k_:∀b∈fp,b<(s2.heap.push {cls:=.type "list",data:=.seq ([]:List KB).toArray}).objs.size:=λb hb=>by
  rw[Heap.size_push];exact IE (j3 b hb)
 have J1:∀b∈fp,FpOk X pins (upd H1 s2.heap.objs.size (.lst [])) b:=λb hb=>#[by rw[ar (GH (j3 b hb))];exact(f1 b hb).1,(f1 b hb).2];have kp:∀b o,(s2.heap.push {cls:=.type "list",data:=.seq ([]:List KB).toArray}).get? b=be o->h₁.get? b=be o:=λb o e=>
  (hsb₁.2 b (GH (Heap.lt_size e))).trans (Heap.get?_push_of_some _ e)
 have I4:=rQ (x:=x) (fp:=fp) (t':=s2.toks+([]:List (J7×KB)).length) I3 S c1 c2 J1 k_ hns₁ kp;have Kc:(s2.heap.push {cls:=.type "list",data:=.seq ([]:List KB).toArray}).objs.size≠X.env.locals:=Hi I3.lt;have Kd:∀z c,X.env.cells.lookup z=be c->c≠(s2.heap.push {cls:=.type "list",data:=.seq ([]:List KB).toArray}).objs.size:=λz c e=>by
  let#[vv,oo,ho,_]:=I3.cell z c e;exact GH (Heap.lt_size ho)
 have K9:∀p∈X.pn++pins,p.1≠(s2.heap.push {cls:=.type "list",data:=.seq ([]:List KB).toArray}).objs.size:=λp hp=>GH (Heap.lt_size (I3.pin p hp).1);have u9:=rR (pos:=pos) (iter:=iter) (R:=compPost (SL X.prog X.w) X.A X.xe x8 (EP X pins σ Q) (.ref s2.heap.objs.size) (s2.heap.push {cls:=.type "list",data:=.seq ([]:List KB).toArray}).objs.size) hc S hq he c1 c2 I1 T st f1 w0 step I4 (T.keep _ _ _ st (λb hb ob e=>kp b ob (Heap.get?_push_of_some _ e))) λH' s4 m IX hn n_ q=>
  #[m,hn,λh' hsb=>#[.ref s2.heap.objs.size,H',IX.turned (t':=s4.toks) (it:=(s2.heap.push {cls:=.type "list",data:=.seq ([]:List KB).toArray}).objs.size) (λb ob hb e=>(hsb.2 b hb).trans e) n_ Kc (.inr I3.sz) Kd K9,rfl,q]]
 exact Vh u9 (T.self _ _ _ _ _ (T.keep _ _ _ st (λb hb ob e=>kp b ob (Heap.get?_push_of_some _ e))) u9)
def zx{y:J7}{py z9:TX}{wi:TI}{ix:Nat}(hc:X.calm=true)(S:CompScope X scope x)(hi:PI X (.Name x px) iter wi)
  (hq:∀cl s₀ H₀ fp,PIf (ce X scope cl x s₀ H₀ fp) l8 tt) (he:∀cl s₀ H₀ fp,PE (ce X scope cl x s₀ H₀ fp) j6 j7) (hN:X.N.Nodup) (N8:X.N[ix]?=be y) (hy:Loc X.env.scope y) (hf:zFN X y)
  (K6:T7 (.ListComp j6 [#[.Name x px,iter,l8,0]] scope pos) (be (.Name y py)) z9.line X.env=pure true) (hs:(∀y,zFS X iter y)\zA3):
  PS X (.Assign [.Name y py] (.ListComp j6 [#[.Name x px,iter,l8,0]] scope pos) z9) (tAsg (gU wi tt j7) (gz ix)):=by
 intro pins s σ H DE I h;have h:wi σ H λJ H1=>∀D,H1 D=x8->∃W:Nat->Nat->Hp->Prop,(∃m,W 0 m (upd H1 D (.lst [])))/\∀i m H,W i m H->
  (J.stop i H/\DE.nx (σ.set ix (be (.ref D))) H)\/(J.go i H/\∀x H',J.yld i H x H'->tt (σ++[be x]) H' λb H1=>if b=true then j7 (σ++[be x]) H1 λy H''=>∃vs,H'' D=be (.lst vs)/\vs.length<sizeLine/\∃m',m'<m/\W (i+1) m' (upd H'' D (.lst (vs++[y])))else ∃m',m'<m/\W (i+1) m' H1):=h
 let#[cl,j5,c1,c2]:=closure_is (env:=X.env) (scope:=scope) (λn q=>I.ok.has n (.inl (S.free n q)));rw[exec_Assign_Name_used _ _ _ _ K6];refine Os (Uk (Os ?_));show TC _ X.A (do let _ <-comprehension (.ListComp j6 [#[.Name x px,iter,l8,0]] scope pos) scope X.env _ (newList []) false (TR iter X.env) (be (UD (.Name y py) X.env))) _ _ s;refine Os (T1 (U9 (use:=be (UD (.Name y py) X.env)) (Q:=λ_ s'=>SP X pins DE .next s') rfl hs j5 S.kind S.names
  (thn (hi pins s σ H _ I h) λv s1 h1=>thn h1 λM9 s2 h2=>?_)) (λ_ s' hq=>P3 (P3 hq)) λ_ _ e=>e)
 let#[it,fp,tn,J,H1,e,I1,T,st,f1,hr]:=h2;subst e;have j3:∀b∈fp,b<s2.heap.objs.size:=λb hb=>by
  let#[o,ho,_]:=T.obj _ _ st b hb;exact Heap.lt_size ho
 have hD:H1 s2.heap.objs.size=none:=I1.hok.fresh (Gv _);let#[W,#[m0,w0],step]:=hr _ hD;refine TZ (Vn S.nocell (by intro y hy;simp at hy) (λh₁ hns₁ hsb₁=>?_) S.kind);have I3:Inv X pins σ (upd H1 s2.heap.objs.size (.lst [])) {s2 with heap:=s2.heap.push {cls:=.type "list",data:=.seq ([]:List KB).toArray},toks:=s2.toks}:=I1.lnew (its:=[]) (ys:=[]) .nil (GT _);have k_:∀b∈fp,b<(s2.heap.push {cls:=.type "list",data:=.seq ([]:List KB).toArray}).objs.size:=λb hb=>by
  rw[Heap.size_push];exact IE (j3 b hb)
 have J1:∀b∈fp,FpOk X pins (upd H1 s2.heap.objs.size (.lst [])) b:=λb hb=>#[by rw[ar (GH (j3 b hb))];exact(f1 b hb).1,(f1 b hb).2];have kp:∀b o,(s2.heap.push {cls:=.type "list",data:=.seq ([]:List KB).toArray}).get? b=be o->h₁.get? b=be o:=λb o e=>
  (hsb₁.2 b (GH (Heap.lt_size e))).trans (Heap.get?_push_of_some _ e)
 have I4:=rQ (x:=x) (fp:=fp) (t':=s2.toks+([]:List (J7×KB)).length) I3 S c1 c2 J1 k_ hns₁ kp;have Kc:(s2.heap.push {cls:=.type "list",data:=.seq ([]:List KB).toArray}).objs.size≠X.env.locals:=Hi I3.lt;have Kd:∀z c,X.env.cells.lookup z=be c->c≠(s2.heap.push {cls:=.type "list",data:=.seq ([]:List KB).toArray}).objs.size:=λz c e=>by
  let#[vv,oo,ho,_]:=I3.cell z c e;exact GH (Heap.lt_size ho)
 have K9:∀p∈X.pn++pins,p.1≠(s2.heap.push {cls:=.type "list",data:=.seq ([]:List KB).toArray}).objs.size:=λp hp=>GH (Heap.lt_size (I3.pin p hp).1);have u9:=rR (pos:=pos) (iter:=iter) (R:=compPost (SL X.prog X.w) X.A X.xe (be (UD (.Name y py) X.env)) (λ_ s'=>SP X pins DE .next s') (.ref s2.heap.objs.size) (s2.heap.push {cls:=.type "list",data:=.seq ([]:List KB).toArray}).objs.size) hc S hq he c1 c2 I1 T st f1 w0 step I4 (T.keep _ _ _ st (λb hb ob e=>kp b ob (Heap.get?_push_of_some _ e))) λH' s4 m IX hn n_ q=>by
  show TC _ X.A (UD (.Name y py) X.env (.ref s2.heap.objs.size)) _ _ s4;refine US (pA IX hN N8 hy (v:=.ref s2.heap.objs.size) rfl (λs5 I7 ⟨a,hsb,ha⟩=>?_) hf);have N9:(s2.heap.push {cls:=.type "list",data:=.seq ([]:List KB).toArray}).objs.size≠a:=by
   rcases ha with e|e
   .rw[e];exact Kc
   .exact λz=>Kd y a e z.symm
  exact#[m,hn.sameBut hsb N9,λh' Ky=>#[_,H',I7.turned (t':=s5.toks) (it:=(s2.heap.push {cls:=.type "list",data:=.seq ([]:List KB).toArray}).objs.size) (λb ob hb e=>(Ky.2 b hb).trans e) n_ Kc (.inr I3.sz) Kd K9,q]]
 exact Vh u9 (T.self _ _ _ _ _ (T.keep _ _ _ st (λb hb ob e=>kp b ob (Heap.get?_push_of_some _ e))) u9)
end
end L2
namespace My
def RepS.snoc{K:Ex}{B F H:Hp}{z:SD}{s:L2.St}{d:D}{v:V}(h:RepS K B F H z s)(r:Rep K F d v):RepS K B F H (z++[be d]) (s++[be v]):=by
 have no:=r.noown;have get:∀{j:Nat} {x:D},(z++[be d])[j]?=be (be x)->(j<z.length/\z[j]?=be (be x))\/(j=z.length/\x=d):=λ{j x} e=>by
  rcases HS j z.length with q|q
  .rw[Hm q]at e;exact .inl #[q,e]
  .rw[HC q]at e;cases hz:j-z.length with
   |zero=>rw[hz]at e;simp at e;exact .inr #[KZ,e.symm]
   |succ n=>rw[hz]at e;simp at e
 have lt:∀{j:Nat},j<z.length->(s++[be v])[j]?=s[j]?:=λ{j} q=>Hm (by rw[h.len];exact q);refine#[by rw[GF,GF,h.len];rfl,λj x e nx=>?_,λj ds e=>?_,λj k dj dk a e1 e2 e3 e4=>?_]
 .rcases get e with⟨q,e⟩|⟨q,rfl⟩
  .rw[lt q];exact h.val j x e nx
  .exact#[v,by rw[q,HC (by rw[h.len];exact Gv _),h.len];simp,r]
 .rcases get e with⟨q,e⟩|⟨q,e⟩
  .rw[lt q];exact h.own j ds e
  .rw[<-e]at no;cases no
 .rcases get e1 with⟨q,e1⟩|⟨q,e1⟩
  .rcases get e2 with⟨q2,e2⟩|⟨q2,e2⟩
   .rw[lt q]at e3;rw[lt q2]at e4;exact h.apart j k dj dk a e1 e2 e3 e4
   .rw[<-e2]at no;cases no
  .rw[<-e1]at no;cases no
def okB:Bool->Bool->Prop->Prop->Prop
 |_,true,A,_=>A
 |false,false,_,B=>B
 |true,false,_,_=>False
def cmpG(nf:Bool)(tt:TDT)(te:TD)(z:SD)(R:D->Prop)(items:List D):Prop:=items.length<=100000/\∃W:Nat->List D->Prop,W 0 []/\(∀k x ys,items[k]?=be x->(nf=true->ys.length=k)->W k ys->tt (z++[be x]) λb=>okB nf b (te (z++[be x]) λy=>W (k+1) (ys++[y])) (W (k+1) ys))/\∀ys,(nf=true->ys.length=items.length)->W items.length ys->R (.lst ys)
def cmpP(te:TD)(z:SD)(R:D->Prop)(items:List D):Prop:=items.length<=100000/\∃W:Nat->List D->Prop,W 0 []/\(∀k x ys,items[k]?=be x->ys.length=k->W k ys->te (z++[be x]) λy=>W (k+1) (ys++[y]))/\∀ys,ys.length=items.length->W items.length ys->R (.lst ys)
def gW(ti:TDI)(te:TD):TD:=λz R=>ti z (cmpP te z R)
def dT1:TDT:=λ_ R=>R true
abbrev DIf(X:Cx)[Jx](l8:List SZ)(t:TDT):Prop:=PIf X l8 (lT X.K t)
variable{X:Cx}
def jZ[Jx]:DIf X [] dT1:=pif_nil.anti λs H Q q=>by
 let#[B,F,z,kf,rs,R,h1,h2]:=q;exact h2 true F H (Grow.refl kf.fh) h1
structure ItIs(K:Ex)(J:It)(F1 H1:Hp)(items:List D):Prop where
 go:∀k F' H',Grow F1 H1 F' H'->k<items.length->J.go k H'
 yld:∀k F' H' x H'',Grow F1 H1 F' H'->k<items.length->J.yld k H' x H''->H''=H'/\∃d,items[k]?=be d/\Rep K F' d x
 stop:∀F' H',Grow F1 H1 F' H'->J.stop items.length H'
def ItOk[Jx](K:Ex)(wi:TI)(ti:TDI):Prop:=∀{s:L2.St} {H B F:Hp} {z:SD} {P:List D->Prop} {Q:It->Hp->Prop},Kept B Jx.F0 F H->RepS K B F H z s->ti z P->(∀items J F1 H1,Grow F H F1 H1->P items->ItIs K J F1 H1 items->Q J H1)->wi s H Q
section
variable {X:Cx}
variable{K:Ex}{H:Hp}{s:L2.St}{R:My.D->Prop}{items:List My.D}
def zy[Jx]{B F F1 H1:Hp}{z:SD}{Q:VK}{nf:Bool}{tt:TDT}{te:TD}{J:It}(kf:Kept B Jx.F0 F H)(g1:Grow F H F1 H1)(rs:RepS K B F H z s)(h2:∀D ys us F' H',H D=x8->F' D=x8->Grow F H F' H'->H' D=be (.lst us)->Reps K F' ys us->R (.lst ys)->Q (.ref D) H')
    (it:ItIs K J F1 H1 items) (hd:cmpG nf tt te z R items):
    ∀D,H1 D=x8->∃W:Nat->Nat->Hp->Prop,(∃m,W 0 m (upd H1 D (.lst [])))/\∀i m H,W i m H->
      (J.stop i H/\Q (.ref D) H)\/(J.go i H/\∀x H',J.yld i H x H'->lT K tt (s++[be x]) H' λb H1=>if b=true then lE K te (s++[be x]) H1 λy H''=>∃vs,H'' D=be (.lst vs)/\vs.length<sizeLine/\∃m',m'<m/\W (i+1) m' (upd H'' D (.lst (vs++[y])))else ∃m',m'<m/\W (i+1) m' H1):=by
  intro D hD;let#[hz,W,w0,e_,out]:=hd;have RK:F1 D=none:=g1.fh.free hD;have hH:H D=none:=g1.hh.free hD;refine⟨λk m H'=>m=items.length-k/\k<=items.length/\∃F' ys us,Grow F1 H1 F' H'/\H' D=be (.lst us)/\F' D=x8/\Reps K F' ys us/\(ys.length<=k/\(nf=true->ys.length=k))/\W k ys,
    #[items.length,K8,GT _,F1,[],[],#[Same.refl F1,g1.fh.trans (aQ hD _),aQ hD _,λb h _=>h],aB,RK,reps_nil.mpr rfl,#[Gv _,λ_=>rfl],w0],?_⟩
  rintro k m H'⟨rfl,hk,F',ys,us,G,hu,hF,ry,hl,w⟩;by_cases j3:k<items.length
  . refine .inr #[it.go k F' H' G j3,λx H'' hy=>?_];let#[e,d,hd,rd]:=it.yld k F' H' x H'' G j3 hy;subst e;refine#[B,F',z++[be d],kf.grow (g1.trans G),(rs.grow (g1.trans G)).snoc rd,_,e_ k d ys hd hl.2 w,λb F3 H3 g3 hb=>?_];have N_:H3 D=be (.lst us):=g3.hh D _ hu;have Nj:F3 D=none:=g3.out D hF (by rw[hu];exact λq=>nomatch q);cases b with
    |false=>
      cases nf with
      |true=>exact hb.elim
      |false=>exact#[items.length-(k+1),KZ,rfl,KZ,F3,ys,us,G.trans g3,N_,Nj,ry.mono g3.ff,#[KZ,λz=>nomatch z],hb]
    |true=>
    refine#[B,F3,z++[be d],(kf.grow (g1.trans G)).grow g3,((rs.grow (g1.trans G)).snoc rd).grow g3,_,(show te _ _ from by cases nf<;>exact hb),λy yv F2 H2 g2 hw rv=>?_];have RL:H2 D=be (.lst us):=g2.hh D _ N_;have K':F2 D=none:=g2.out D Nj (by rw[N_];exact λq=>nomatch q);have S8:us.length<=k:=by rw[ry.length];exact hl.1
    refine⟨us,RL,by     have:(100000:Nat)<sizeLine:=by decide
                        lia,items.length-(k+1),KZ,rfl,KZ,F2,ys++[y],us++[yv],?_,aB,K',((ry.mono g3.ff).mono g2.ff).append (fW rv),#[by simp;lia,λz=>by simp[hl.2 z]],hw⟩
    have GG:=(G.trans g3).trans g2;refine#[GG.ff,λb o e=>?_,λb o e=>?_,GG.out]
    . have ne:b≠D:=λq=>by rw[q,K']at e;cases e
      rw[ar ne];exact GG.fh b o e
    . have ne:b≠D:=λq=>by rw[q,hD]at e;cases e
      rw[ar ne];exact GG.hh b o e
  . have ek:k=items.length:=by lia
    subst ek;exact .inl #[it.stop F' H' G,h2 D ys us F' H' hH hF (g1.trans G) hu ry (out ys hl.2 w)]
def zz{F F' H':Hp}{D:KF}{us:List V}(GG:Grow F H F' H')(hu:H' D=be (.lst us))(hF:F' D=x8)(hH:H D=x8):Grow F H (upd F' D (.lst us)) H':=by
 refine#[GG.ff.trans (aQ hF _),λb o e=>?_,GG.hh,λb h1 h3=>?_]
 .by_cases hb:b=D
  .subst hb;rw[aB]at e;cases e;exact hu
  .rw[ar hb]at e;exact GG.fh b o e
 .have ne:b≠D:=λq=>h3 (q ▸ hH);rw[ar ne];exact GG.out b h1 h3
variable {j6 iter:SZ}{l8:List SZ}{x:J7}{px pos:TX}{scope:Uc}{ti te:TD}{tt:TDT}{wi:TI}{Nk:TDI}
def kd[Jx]{nf:Bool}{G:SD->(D->Prop)->List D->Prop}(hG:∀z R items,G z R items->cmpG nf tt te z R items)(hI:ItOk K wi Nk){Q:VK}(q:lE K (λz R=>Nk z (G z R)) s H Q):gU wi (lT K tt) (lE K te) s H Q:=by
 let#[B,F,z,kf,rs,R,h1,h2]:=q;exact hI kf rs h1 λitems J F1 H1 g1 hg it=>zy kf g1 rs (λD ys us F' H' hH hF GG hu ry hR=>h2 (.lst ys) (.ref D) _ H' (zz GG hu hF hH) hR (rep_lst.mpr #[D,us,rfl,aB,ry.mono (aQ hF _)])) it (hG _ _ _ hg)
def cmpP.g{z:SD}(h:cmpP te z R items):cmpG true dT1 te z R items:=
 let ⟨hz,W,w0,e_,out⟩:=h
 #[hz,W,w0,λk x ys e l w=>e_ k x ys e (l rfl) w,λys l w=>out ys (l rfl) w]
def itL[Jx]:ItOk K (pP K (lE K ti)) (dItL ti):=λ{s H B F z P Q} kf rs h1 h2=>by
 refine#[B,F,z,kf,rs,_,h1,λd v F1 H1 g1 hd rd=>?_];have key:∀(items:List D) (p:KF) (vs:List V),SqL K F1 p vs->Reps K F1 items vs->P items->∃a,V.ref p=.ref a/\(∃xs,SqL K H1 a xs)/\Q (Itl K a) H1:=λitems p vs hq rr hd=>by
  refine#[p,rfl,#[vs,g1.fh.seq hq],h2 items _ F1 H1 g1 hd #[λk F' H' G hk=>?_,λk F' H' x H'' G hk hy=>?_,λF' H' G=>?_]]
  .have p7:k<vs.length:=by rw[rr.length];exact hk
   exact#[vs,vs[k],G.hh.seq (g1.fh.seq hq),by simp[p7]]
  .let#[e,hy]:=hy;let#[d,e2,r2]:=rr.get' (hy vs (G.hh.seq (g1.fh.seq hq)));exact#[e,d,e2,r2.mono G.ff]
  .exact#[vs,G.hh.seq (g1.fh.seq hq),by rw[rr.length];exact Gv _]
 split at hd
 .let#[p,vs,rfl,hq,rr]:=rep_lst.mp rd;exact key _ p vs (SqL.of hq) rr hd
 .let#[p,vs,rfl,hq,rr]:=rep_rol.mp rd;exact key _ p vs hq rr hd
 .exact hd.elim
def itR[Jx]:ItOk K (pQ (qm (lE K ti) tNil)) (dItR ti):=λ{s H B F z P Q} kf rs h1 h2=>by
 refine#[B,F,z,kf,rs,_,h1,λd v F1 H1 g1 hd rd=>?_];split at hd
 .rename_i n;let#[#[b1,b2],hd]:=hd;have hl:((GQ n.toNat).map λk=>D.int ((k:Nat):Int)).length=n.toNat:=by simp
  refine#[n,by rw[rep_int.mp rd],KZ,b2,h2 _ _ F1 H1 g1 hd #[λk F' H' G hk=>by rw[hl]at hk;exact hk,λk F' H' x H'' G hk hy=>?_,λF' H' G=>by show n.toNat<=_;rw[hl];exact Gv _]];rw[hl]at hk;let#[e,rfl]:=hy;exact#[e,.int (k:Int),by simp[hk],rep_int.mpr (by congr 1;lia)]
 .exact hd.elim
def zA[Jx](hc:X.calm=true)(S:CompScope X scope x)(hi:WDE X iter ti)(he:∀cl s₀ H₀ fp,WDE (ce X scope cl x s₀ H₀ fp) j6 te)(hs:(∀y,zFS X iter y)\zA3):WDE X (.ListComp j6 [#[.Name x px,iter,[],0]] scope pos) (gW (dItL ti) te):=#[have he:=λcl s₀ H₀ fp=>(he cl s₀ H₀ fp).out;(rS hc S (jp hi.out) (λ_ _ _ _=>jZ) he hs).anti λs H Q q=>kd (λ_ _ _=>cmpP.g) itL q]
def rT[Jx]{p1 p2:TX}(hc:X.calm=true)(S:CompScope X scope x)(hm:X.mg "range"=x8)(hi:WDE X iter ti)(he:∀cl s₀ H₀ fp,WDE (ce X scope cl x s₀ H₀ fp) j6 te)(hg:Gl X "range"\zA0)
  (hs:(∀y,zFS X (.Call (.Name "range" p1) [iter] [] p2) y)\zA3) (Kb:zSE X iter []\zA0) (m9:(TL [iter] X.env=[(false,TR iter X.env)])\zA0):WDE X (.ListComp j6 [#[.Name x px,.Call (.Name "range" p1) [iter] [] p2,[],0]] scope pos) (gW (dItR ti) te):=#[have he:=λcl s₀ H₀ fp=>(he cl s₀ H₀ fp).out;(rS hc S (jq hg hm (bw hi.out pa_nil Kb) m9) (λ_ _ _ _=>jZ) he hs).anti λs H Q q=>kd (λ_ _ _=>cmpP.g) itR q]
def zB[Jx]{E:Ends}{ix:Nat}(hI:ItOk K wi Nk)(q:lS K (dSet ix (gW Nk te)) E s H):tAsg (gU wi (lT K dT1) (lE K te)) (gz ix) E s H:=by
 let#[B,F0,F,z,k,rs,ED,#[P,h,j],e]:=q;exact kd (λ_ _ _=>cmpP.g) hI #[B,F,z,k.kf,rs,P,h,λd v F' H' g hd rd=>e.nx _ _ F' H' (k.grow g) (j d hd) ((rs.grow g).set rd)]
def zC[Jx](ix:Nat){y:J7}{py z9:TX}(hc:X.calm=true)(S:CompScope X scope x)(hN:X.N.Nodup)(hi:WDE X iter ti)(he:∀cl s₀ H₀ fp,WDE (ce X scope cl x s₀ H₀ fp) j6 te)(N8:(X.N[ix]?=be y)\zA0)(hy:Loc X.env.scope y\zA4)
  (hf:zFN X y\zA2) (K6:(T7 (.ListComp j6 [#[.Name x px,iter,[],0]] scope pos) (be (.Name y py)) z9.line X.env=pure true)\zA0) (hs:(∀y,zFS X iter y)\zA3):WDS X (.Assign [.Name y py] (.ListComp j6 [#[.Name x px,iter,[],0]] scope pos) z9) (dSet ix (gW (dItL ti) te)):=#[have he:=λcl s₀ H₀ fp=>(he cl s₀ H₀ fp).out;(zx hc S (jp hi.out) (λ_ _ _ _=>jZ) he hN N8 hy hf K6 hs).anti λE s H q=>zB itL q]
end
def fq(scope fsc:Uc):List (J7×Ut):=scope.names.map λ(n,k)=>if(k==NameKind.free&&fsc.kind== .function&&fsc.names.lookup n==be .cell)then(n,NameKind.cell)else(n,k)
def visB(l:List (J7×Ut))(n:J7):Bool:=l.lookup n==be .local||l.lookup n==be .cell||l.lookup n==be .free
def ft(scope fsc:Uc)(N:List J7)(x:J7):Bool:=
 scope.kind== .function&&scope.names.all (λy=>!(y.2== .cell))&&scope.names.all (λy=>!(y.2== .local)||scope.names.lookup y.1==be .local)&&scope.names.lookup x==be .local &&
 scope.names.all (λy=>!(y.2== .free)||fsc.names.lookup y.1==be .cell)&&N.all (λn=>decide (n=x)||!visB (fq scope fsc) n||scope.names.any (λy=>decide (y=(n,NameKind.free))))&&!visB (fq scope fsc) "" &&
 scope.names.all (λy=>!(y.2== .free)||(fq scope fsc).lookup y.1==be .cell)&&decide (N.map (λn=>if n=x then("":J7)else n)++[x]).Nodup
def rV{l:List (J7×Ut)}{n:J7}(h:l.lookup n=be .local\/l.lookup n=be .cell\/l.lookup n=be .free):visB l n=true:=by
 unfold visB;rcases h with h|h|h<;>rw[h]<;>rfl
def compScope{scope:Uc}{x:J7}(h:ft scope X.env.scope X.N x=true):CompScope X scope x:=by
 unfold ft at h;simp only[GY]at h;let#[#[#[#[#[#[#[#[h1,h2],h3],h4],h5],h6],h7],h8],h9]:=h;have er:(VC scope X.env).names=fq scope X.env.scope:=rfl;refine#[by simpa using h1,λy hy=>?_,λy hy e=>?_,by simpa using h4,λn hn=>?_,λn hn ne v=>?_,λv=>?_,λn hn=>?_,of_decide_eq_true h9]
 .have:=Ho.mp h2 y hy;simpa using this
 .have:=Ho.mp h3 y hy;rw[e]at this;simpa using this
 .have:=Ho.mp h5 _ hn;show X.env.scope.names.lookup n=be .cell;simpa using this
 .have:=Ho.mp h6 n hn;have v':visB (fq scope X.env.scope) n=true:=rV v;rw[v']at this;simp[ne]at this;exact this
 .have v':visB (fq scope X.env.scope) ""=true:=rV v;rw[v']at h7;cases h7
 .have:=Ho.mp h8 _ hn;rw[er];simpa using this
def putD(f:J7)(v:D):List (J7×D)->List (J7×D)
 |[]=>[(f,v)]
 |(g,x)::r=>if g=f then(g,v)::r else(g,x)::putD f v r
def RepF.put{K:Ex}{F:Hp}{f:J7}{d:D}{v:V}(r:Rep K F d v):∀{fs:List (J7×D)} {ws:List (J7×V)},RepF K F fs ws->RepF K F (putD f d fs) (putF f v ws)
 |[],ws,h=>by
  rw[repf_nil.mp h];exact repf_cons.mpr #[v,[],rfl,r,repf_nil.mpr rfl]
 |(g,x)::fs,ws,h=>by
  let#[w,K_,rfl,h1,h2]:=repf_cons.mp h;unfold putD putF;by_cases e:g=f
  .rw[if_pos e,if_pos e];exact repf_cons.mpr #[v,K_,rfl,r,h2]
  .rw[if_neg e,if_neg e];exact repf_cons.mpr #[w,_,rfl,h1,RepF.put r h2]
def RepF.length{K:Ex}{F:Hp}:∀{fs:List (J7×D)} {ws:List (J7×V)},RepF K F fs ws->ws.length=fs.length
 |[],ws,h=>by rw[repf_nil.mp h];rfl
 |(g,x)::fs,ws,h=>by
  let#[w,K_,rfl,h1,h2]:=repf_cons.mp h;rw[Gy,Gy,RepF.length h2]
def ClsA(K:Ex)(x f:J7):Prop:=∃C,nsIn K Pi x=be (be (.ref C))/\Cls K C/\NoAttr K C f
section
variable {X:Cx}{a b c e:SZ}{ta tb tc te:TD}{pos:TX}
def dFld(x f:J7)(te:TD):TD:=λz R=>te z λd=>match d with|.obj y fs=>y=x/\∃d,fs.lookup f=be d/\R d|_=>False
variable{x:J7}
def ke[Jx]{f:J7}(h:ClsA X.K x f)(he:WDE X e te)(hb:(TM e f X.env (TR e X.env)=TR e X.env)\zA0):WDE X (.Attribute e f pos) (dFld x f te):=⟨(qj he.out hb).anti λs H Q q=>by
 let#[C,hn,hc,hf]:=h;let#[B,F,z,kf,rs,R,h1,h2]:=q;have fh:=kf.fh;refine#[B,F,z,kf,rs,_,h1,λd u F1 H1 g1 hx rx=>?_];split at hx
 .let#[rfl,d,hl,hR]:=hx;let#[a,C',dx,vs,rfl,g_,q,r]:=rep_obj.mp rx;rw[hn]at g_;cases g_;let#[v,l,rv]:=r.look hl;exact#[a,C,dx,vs,v,rfl,g1.fh _ _ q,hc,hf,l,h2 d v F1 H1 g1 hR rv]
 .exact hx.elim⟩
def rW[Jx]{d:D}{v:V}{u:KB}(hm:X.mg x=be u)(r:RelV v u)(rd:∀H,Rep X.K H d v)(hg:Gl X x\zA0)(hd:zND x\zA1):DE X (.Name x pos) (dC d):=de_c (pC hg hm r hd) rd
def fu[Jx]{i:Int}(h:∃t,X.mg x=be (.int i t))(hg:Gl X x\zA0)(hd:zND x\zA1):WDE X (.Name x pos) (dC (.int i)):=⟨by
 let#[t,h]:=h;exact rW (v:=.int i) h #[t,rfl] (λ_=>rep_int.mpr rfl) hg hd⟩
def gX[Jx]{y:J7}(h:∃t,X.mg x=be (.str y t))(hg:Gl X x\zA0)(hd:zND x\zA1):WDE X (.Name x pos) (dC (.str y)):=⟨by
 let#[t,h]:=h;exact rW (v:=.str y) h #[t,rfl] (λ_=>rep_str.mpr rfl) hg hd⟩
structure ClsI(K:Ex)(mg:Str->Option KB)(x:Str)(C:KF):Prop where
 ns:nsIn K Pi x=be (be (.ref C))
 mg:mg x=be (.ref C)
 cl:Cls K C
 ha:GE K (.ref C) "__class__"=be (be (.builtin "object.__class__"))
 hn:specialIn K (.builtin "object.__class__") "__get__"=be (be (.builtin "getset_descriptor.__get__"))
 htk:takesIn K (.builtin "object.__class__")=be true
 hm:Hb K C (.type "object")=be true
 self:kitOne K (.ref C) (.ref C)=be true
def zD{C:KF}(k:ClsI X.K X.mg x C):bH X (.builtin "isinstance") (λxs H Q=>∃a dx ws,xs=[.ref a,.ref C]/\H a=be (.ins C dx ws)/\Q (.bl true) H):=by
 intro pins s σ H xs us Q I r h;let#[a,dx,ws,rfl,e,q]:=h;let#[u,u',rfl,rx,rc]:=vals2 r;cases(show u'=Value.ref C from rc);exact ql I rx (.ins e k.cl k.ha k.hn k.htk k.hm) k.self λtk=>#[.bl true,H,I.tok _,rfl,q]
def rX(x:J7):D->(D->Prop)->Prop:=λd R=>match d with|.obj y _=>y=x/\R (.bl true)|_=>False
def zE[Jx]{p p2:TX}(h:∃C,ClsI X.K X.mg x C)(hm:X.mg "isinstance"=x8)(ha:WDE X a ta)(hg:Gl X "isinstance"\zA0)(Me:Gl X x\zA0)(d9:zND x\zA1)
  (j8:(TL [a,.Name x p2] X.env=(false,TR a X.env)::TL [.Name x p2] X.env)\zA0) (m4:(TL [.Name x p2] X.env=(false,TR (.Name x p2) X.env)::TL [] X.env)\zA0) (c9:((Uy pos (TL [.Name x p2] X.env)).any (·.1)=false)\zA0):WDE X (.Call (.Name "isinstance" p) [a,.Name x p2] [] pos) (dUn (rX x) ta):=⟨by
 have ha:=ha.out;let#[C,k]:=h;refine(dL (zD k) hg hm PyProof.Rows.boot_isinstance (bw ha (bw (pC (v:=.ref C) Me k.mg rfl d9) pa_nil m4) j8) K3 K3 j8 c9).anti λs H Q q=>?_;let#[B,F,z,kf,rs,R,h1,h2]:=q;have fh:=kf.fh;refine#[B,F,z,kf,rs,_,h1,λd u F1 H1 g1 hx rx=>?_];unfold rX at hx;split at hx
 .let#[rfl,hR]:=hx;let#[a,C',dx,vs,rfl,g_,q,r]:=rep_obj.mp rx;rw[k.ns]at g_;cases g_;exact#[a,dx,vs,rfl,g1.fh _ _ q,h2 _ _ F1 H1 g1 hR (rep_bl.mpr rfl)]
 .exact hx.elim⟩
end
abbrev SiD:=List D->(List (J7×D)->Prop)->Prop
def lSi(K:Ex)(C:KF)(S:SiD):Sp:=λvs H Q _=>∃a dx us H1 F ds,vs=.ref a::us/\H=upd (upd H1 dx (.own a)) a (.ins C dx [])/\H1 a=x8/\H1 dx=x8/\dx≠a/\Same F H1/\Reps K F ds us/\
 ∃R:List (J7×D)->Prop,S ds R/\∀fs ws Ke F' H',Grow F H1 F' H'->R fs->H' a=be (.ins C Ke ws)->F' a=x8->RepF K F' fs ws->Q .non H'
def CalM(P:SB)(w:TJ)(K:Ex)(mg:J7->Option KB)(base:Heap)(n:Nat)(x:J7)(ps:List J7)(S:SiD):Prop:=
 ∃C f fd,nsIn K Pi x=be (be (.ref C))/\mg x=be (.ref C)/\Mk K C f/\FnOk P w K mg base (Exc.CX1 P w) n f fd ps (lSi K C S)/\Binds K fd ps []
def zF(x:J7)(S:SiD)(t:TDA):TD:=λz R=>t z λds=>S ds λfs=>R (.obj x fs)
def kg[Jx]{pos:TX}{n m:Nat}{ps:List J7}{S:SiD}{x:J7}{p:TX}{e:SZ}{es:List SZ}{t:TDA}(M:CalM X.prog X.w X.K X.mg X.base n x ps S)(hr:Room m X.A)(ha:WDA X (e::es) t)(hg:Gl X x\zA0)(hn:(n+1<=m)\zA1)(d9:zND x\zA1)
  (he:zSE X e es\zA0) (c9:zPL X pos es\zA0):WDE X (.Call (.Name x p) (e::es) [] pos) (zF x S t):=⟨by
 have ha:=ha.out;let#[C,f,fd,hns,l9,mk,F,hb]:=M;refine(jy mk F (hr.mono hn) hg l9 hb .nil eX ha d9 he c9).anti λs H Q q=>?_;let#[B,F,z,kf,rs,R,h1,h2]:=q;have fh:=kf.fh;refine#[B,F,z,kf,rs,_,h1,λds vs F1 H1 g1 hx rx=>?_];intro a dx ha r_ i7;refine#[a,dx,vs,H1,F1,ds,by rw[G1],rfl,ha,r_,i7,g1.fh,rx,_,hx,λfs ws Ke F' H' g hR f9 j9 rf=>#[rfl,?_]];have s1:Same F' (upd F' a (.ins C Ke ws)):=aQ j9 _;refine h2 (.obj x fs) (.ref a) (upd F' a (.ins C Ke ws)) H' #[(g1.ff.trans g.ff).trans s1,λb o q=>?_,g1.hh.trans g.hh,λb q1 q2=>?_] hR (rep_obj.mpr #[a,C,Ke,ws,rfl,hns,aB,RepF.mono s1 fs ws rf])
 .by_cases hb:b=a
  .subst hb;rw[aB]at q;cases q;exact f9
  .rw[ar hb]at q;exact g.fh b o q
 .by_cases hb:b=a
  .subst hb;exact absurd (g1.hh.free ha) q2
  .rw[ar hb];exact(g1.trans g).out b q1 q2⟩
abbrev TID:=SD->List (J7×D)->(List (J7×D)->Prop)->Prop
def lI(K:Ex)[J:Jx](x:J7)(t:TID):TS:=λE σ H=>∃C a dx ws F z fs,nsIn K Pi x=be (be (.ref C))/\σ[0]?=be (be (.ref a))/\H a=be (.ins C dx ws)/\J.B a=x8/\F a=x8/\Kept J.B J.F0 F H/\RepS K J.B F H z σ/\RepF K F fs ws/\
 ∃R:List (J7×D)->Prop,t z fs R/\∀n9 K_ F' H',Kept J.B J.F0 F' H'->R n9->H' a=be (.ins C dx K_)->F' a=x8->RepF K F' n9 K_->E.nx σ H'
abbrev DI(X:Cx)[Jx](x:J7)(st:List TF)(t:TID):Prop:=PSs X st (lI X.K x t)
structure WDI(X:Cx)[Jx](x:Str)(st:List TF)(t:TID):Prop where
 out:DI X x st t
section
variable {X:Cx}{x f:J7}{e:SZ}{te:TD}{pos c8 p:TX}{rest:List TF}{tr:TID}
def rY:TID:=λ_ fs R=>R fs
def zG(f:J7)(te:TD)(tr:TID):TID:=λz fs R=>te z λd=>fs.length<1000/\tr z (putD f d fs) R
def dR[Jx]:WDI X x [] rY:=⟨pss_nil.anti λE s H q=>by
 let#[C,a,dx,ws,F,z,fs,hn,h0,f9,p8,j9,g,rs,rf,R,hR,k]:=q;exact k fs ws F H g hR f9 j9 rf⟩
def RepS.other{K:Ex}{B F H:Hp}{z:SD}{σ:L2.St}{a:KF}{o o':HO}(rs:RepS K B F H z σ)(h:H a=be o)(hl:∀vs,o≠.lst vs):RepS K B F (upd H a o') z σ:=
 ⟨rs.len,rs.val,λi ds e=>by
  let#[b,vs,q1,q2,q]:=rs.own i ds e;have ne:b≠a:=by
   rintro rfl;rw[h]at q2;cases q2;exact hl vs rfl
  exact#[b,vs,q1,by rw[ar ne];exact q2,q],rs.apart⟩
def bP[J:Jx]{ps:TX}{sx:J7}(hA:ClsA X.K x f)(he:WDE X e te)(hr:WDI X x rest tr)(hN:(X.N[0]?=be sx)\zA0)(hv:Vis X.env.scope sx\zA5)(hd:zND sx\zA1)
  (i8:zNC sx\zA1) (hs:(T7 e (be (.Attribute (.Name sx ps) f c8)) pos.line X.env=pure false)\zA0):WDI X x (.Assign [.Attribute (.Name sx ps) f c8] e pos::rest) (zG f te tr):=⟨(eO (qk (dh (i:=0) hN hv hd i8) he.out hs) hr.out).anti λE s H q=>by
 let#[C,a,dx,ws,F,z,fs,hn,h0,f9,p8,j9,g,rs,rf,R,hR,k]:=q;let#[C',g_,hc,hf]:=hA;rw[hn]at g_;cases g_;refine#[_,F,z,g,rs,_,hR,λd v F2 H2 g2 hx rv=>?_];have k2:=g.grow g2;have Qv:=g2.hh a _ f9;have K':F2 a=none:=g2.out a j9 (by rw[f9];exact λz=>nomatch z);refine#[.ref a,h0,a,C,dx,ws,rfl,Qv,hc,hf,by rw[rf.length];exact hx.1,?_];have RN:Same F2 (upd H2 a (.ins C dx (putF f v ws))):=λb o q=>by
  have ne:b≠a:=by rintro rfl;rw[K']at q;cases q
  rw[ar ne];exact g2.fh b o q
 have J2:Same J.B (upd H2 a (.ins C dx (putF f v ws))):=λb o q=>by
  have ne:b≠a:=by rintro rfl;rw[p8]at q;cases q
  rw[ar ne];exact k2.bh b o q
 exact#[C,a,dx,putF f v ws,F2,z,putD f d fs,hn,h0,aB,p8,K',#[J2,RN,k2.f0,k2.out,k2.eb,k2.jf,k2.jo],(rs.grow g2).other Qv (λ_ z=>nomatch z),RepF.put rv (RepF.mono g2.ff fs ws rf),R,hx.2,k]⟩
end
section
variable {P:SB}{w:TJ}{K:Ex}{mg:J7->Option KB}{base:Heap}
def rZ{K:Ex}{B F H:Hp}{z:SD}{σ:L2.St}{v:V}(rs:RepS K B F H z σ):RepS K B F H (x8::z) (be v::σ):=
  ⟨by rw[Gy,Gy,rs.len],λi d e no=>by
    cases i with
    |zero=>cases e
    |succ i=>exact rs.val i d e no,λi ds e=>by
    cases i with
    |zero=>cases e
    |succ i=>exact rs.own i ds e,λi j di dj a e1 e2 e3 e4=>by
    cases i with
    |zero=>cases e1
    |succ i=>
      cases j with
      |zero=>cases e2
      |succ j=>rw[rs.apart i j di dj a e1 e2 e3 e4]⟩
def Cls.okI{x qual:J7}{st:TF}{f C:KF}{fd:TQ}{N:List J7}{p0:J7}{ps:List J7}{k:Nat}{S:SiD}(T:Fun K "__init__" qual st f fd)(hb:Binds K fd (p0::ps) [])(F:FnScope (p0::N) (p0::ps) (ah st))(len:∀ds R,S ds R->ds.length=ps.length)
  (hns:nsIn K Pi x=be (be (.ref C))) (l9:mg x=be (.ref C)) (mk:Mk K C f)
  (a9:∀(cdv:KB) (A:TK) (outer:List Uw) (s:KM) (H:Hp) (E:XK) (J:Jx),Room k (A.deeper (TY qual (ah st) s.heap.objs.size f cdv))->
   ∃t,DI (cxOf (Exc.CX1 P w) P w K mg base (p0::N) qual (ah st) f cdv A outer s H E).nox x (aL st) t/\∀ds R,S ds R->t (x8::startD N ds) [] R):CalM P w K mg base (k+1) x (p0::ps) S:=by
 refine#[C,f,fd,hns,l9,mk,Fun.okC T F (λvs H Q E h=>?_) (λcdv A outer s H vs Q E hr h=>?_),hb]
 .let#[a,dx,us,H1,F,ds,rfl,_,_,_,_,_,rs,R,h,_]:=h;rw[Gy,Gy,rs.length,len ds R h]
 .let#[a,dx,us,H1,F1,ds,rfl,rfl,ha,r_,i7,fh,rs,R,h,q]:=h
  letI:Jx:=#[H1,F1,λ_ _ _=>False]
  let#[t,ht,hq]:=a9 cdv A outer s _ E inferInstance hr;have Fa:F1 a=none:=fh.free ha;have hl:L2.start (p0::N) (.ref a::us)=be (.ref a)::L2.start N us:=by
   unfold L2.start;rw[GK,Gy,Gy,Jl];rfl
  have s1:Same H1 (upd (upd H1 dx (.own a)) a (.ins C dx [])):=(aQ r_ _).trans (aQ (by rw[ar (Ne.symm i7)];exact ha) _);refine#[_,ht.nox,C,a,dx,[],F1,x8::startD N ds,[],hns,by rw[hl];rfl,aB,ha,Fa,#[s1,fh.trans s1,Same.refl F1,λ_ h _=>h,rfl,Same.refl F1,λ_ h _=>h],?_,repf_nil.mpr rfl,R,hq ds R h,λn9 K_ F' H' g hR f9 j9 rf=>q n9 K_ dx F' H' #[g.f0,g.fh,g.bh,g.out] hR f9 j9 rf];rw[hl];exact rZ (dM rs)
end
section
variable {X:Cx}{a b c e:SZ}{ta tb tc te:TD}{pos:TX}
def RepS.change[Jx]{K:Ex}{B F0 F H:Hp}{z:SD}{s:L2.St}{i:Nat}{ds Oa:List D}{a:KF}{t_:List V}(rs:RepS K B F H z s)(k:Kept B F0 F H)(ez:z[i]?=be (be (.own ds)))(q1:s[i]?=be (be (.ref a)))(hB:B a=x8)(hF:F a=x8)(r:Reps K F Oa t_):
  Kept B F0 F (upd H a (.lst t_))/\RepS K B F (upd H a (.lst t_)) (z.set i (be (.own Oa))) s:=by
 have same:∀{G:Hp},G a=x8->Same G H->Same G (upd H a (.lst t_)):=λ{G} ga gs b o eb=>by
  have ne:b≠a:=λz=>by rw[z,ga]at eb;cases eb
  rw[ar ne];exact gs b o eb
 have r2:=rs.setOwn (i:=i) (a:=a) (vs:=t_) (ds:=Oa) hB hF r (λj dj hj e1 e2=>hj (rs.apart j i dj ds a e1 ez e2 q1));have es:s.set i (be (.ref a))=s:=by
  apply Ig;intro n;by_cases hn:i=n
  .subst hn;rw[G6 (GO.mp q1).1,q1]
  .rw[GL hn]
 rw[es]at r2;exact#[#[same hB k.bh,same hF k.fh,k.f0,k.out,k.eb,k.jf,k.jo],r2]
def Reps.put{K:Ex}{F:Hp}{d:D}{v:V}(r:Rep K F d v):∀{ds:List D} {vs:List V} (j:Nat),Reps K F ds vs->Reps K F (ds.set j d) (vs.set j v)
 |[],vs,j,h=>by rw[reps_nil.mp h];exact reps_nil.mpr rfl
 |x::ds,vs,0,h=>by
  let#[u,us,rfl,h1,h2]:=reps_cons.mp h;exact reps_cons.mpr #[v,us,rfl,r,h2]
 |x::ds,vs,j+1,h=>by
  let#[u,us,rfl,h1,h2]:=reps_cons.mp h;exact reps_cons.mpr #[u,_,rfl,h1,Reps.put r j h2]
end
end My
namespace My
open Exc
abbrev XD:=J7->List (J7×D)->Prop
def ErrD(K:Ex)(F:Hp)(x:J7)(fs:List (J7×D))(C:KF)(od:Option KF):Prop:=
 nsIn K Pi x=be (be (.ref C))/\∃vs,RepF K F fs vs/\((od=x8/\vs=[])\/∃b,od=be b/\F b=be (.xd vs))
abbrev SpX:=List D->(D->Prop)->XD->Prop
def lSpX(K:Ex)(S:SpX):Sp:=λvs H Q E=>∃F ds,Same F H/\Reps K F ds vs/\∃(R:D->Prop) (RX:XD),S ds R RX/\(∀d v F' H',Grow F H F' H'->R d->Rep K F' d v->Q v H')/\
 ∀x fs C od F' H',Grow F H F' H'->RX x fs->ErrD K F' x fs C od->E (.ref C) od H'
def Exd(X:Cx)(H:Hp)(s:KM)(e C:KF)(od:Option KF):Prop:=
  H e=x8/\X.s₀.heap.get? e=x8/\(∀p∈X.pn,p.1≠e)/\
  ((∃sl vs,s.heap.get? e=be #[.ref C,od,.fields vs,sl]/\vs[1]?=be .none)\/
    ∃T fl,ExAt s.heap e C od T fl/\X.s₀.heap.get? T=x8/\H T=x8/\∀p∈X.pn,p.1≠T)
def XOk(X:Cx)[J:Jx]:Prop:=∀(σ:L2.St) (z:SD) (F H:Hp) (s:KM) (e C:KF) (od:Option KF) (x:J7) (fs:List (J7×D)),Inv X [] σ H s->Kept J.B J.F0 F H->RepS X.K J.B F H z σ->J.RX z x fs->ErrD X.K F x fs C od->Exd X H s e C od->X.xe (.ref e) s
variable{X:Cx}{pins:List (KF×T5)}{σ:L2.St}{H:Hp}{s:KM}
def Inv.nopins(I:Inv X pins σ H s):Inv X [] σ H s:=I.pins_of λp hp=>by cases hp
section
variable {X:Cx}{k:Nat}{f:KF}{fd:TQ}{ps:List J7}{sp:Sp}{E:XK}
def kh{pins:List (KF×T5)}{σ:L2.St}{H:Hp}{s:KM}{Q:VK}{us:List KB}{vs:List V}(F:FnOk X.prog X.w X.K X.mg X.base (CX1 X.prog X.w) k f fd ps sp)(hr:Room k X.A)(hb:Binds X.K fd ps [])
  (hx:∀e s',CX1 X.prog X.w X.stack H s E e s'->X.xe e s') (I:Inv X pins σ H s) (r:Vals vs us) (h:sp vs H Q E):TC (SL X.prog X.w) X.A (call (.ref f) us) (EP X pins σ Q) X.xe s:=by
 have hl:us.length=ps.length:=by rw[<-L2.Vals.length r];exact F.len _ _ _ _ h
 have i6:=hb s us I.kIn (by rw[G1];exact hl);rw[G1]at i6;refine Ue (Ub (F.run X.A X.stack s H #[us,[]] us vs Q E hr I.env0 i6 r h) λr s' hq=>?_);cases r with
 |error e=>exact hx e s' hq
 |ok fl=>
  cases fl with
  |ret u=>exact I.after hq
  |next=>exact False.elim hq
  |brk=>exact False.elim hq
  |cont=>exact False.elim hq
end
variable{b:KF}
def ex_free(I:Inv X pins σ H s)(f_:X.ex=[])(q:s.heap.get? b=x8):X.s₀.heap.get? b=none:=by
 cases z:X.s₀.heap.get? b with
 |none=>rfl
 |some o=>
  let#[o',z']:=I.base.there b o z (by rw[f_];simp);rw[q]at z';cases z'
def pn_free(I:Inv X pins σ H s)(q:s.heap.get? b=x8):∀p∈X.pn,p.1≠b:=λp hp z=>by
 have:=(I.pin p (HB _ hp)).1;rw[z,q]at this;cases this
abbrev CalX(P:SB)(w:TJ)(K:Ex)(mg:J7->Option KB)(base:Heap)(n:Nat)(x:J7)(ps:List J7)(S:SpX):Prop:=Cal P w K mg base n x ps (lSpX K S)
section
variable {P:SB}{w:TJ}{K:Ex}{mg:J7->Option KB}{base:Heap}
variable{N:List J7}
def ki{qual:J7}{scope:Uc}{f:KF}{cd:KB}{A:TK}{outer:List Uw}{s:KM}{H:Hp}{E':XK}{pins:List (KF×T5)}{σ:L2.St}{H':Hp}{s':KM}{e C T:KF}{od:Option KF}{fl:KB}
  (I':Inv (cxOf (CX1 P w) P w K mg base N qual scope f cd A outer s H E') pins σ H' s') (hx:ExAt s'.heap e C od T fl) (ne:s.heap.get? e=x8) (nT:s.heap.get? T=x8) (He:H' e=x8) (HT:H' T=x8) (hE:E' (.ref C) od H'):
  (cxOf (CX1 P w) P w K mg base N qual scope f cd A outer s H E').xe (.ref e) s':=by
 show TC _ _ (Vf _ _) _ _ _;unfold Vf;refine Os (qI I'.ok.frames I'.stack rfl hx λh2 T2 t9 J0 u8=>fP (s:={s' with heap:=h2}) t9 λh3 Mc H_=>?_);have f1:∀b,s'.heap.get? b=x8->s.heap.get? b=none:=λb q=>ex_free I' rfl q;have hok:HOk P w H' s'.heap:=I'.hok;have q2:s.heap.get? T2=x8/\H' T2=none:=J0.elim (λz=>by rw[z];exact#[nT,HT]) λz=>#[f1 _ (Heap.get?_none_of_le z),hok.fresh z];have RO:∀b∈[T,e],s.heap.get? b=none:=λb hb=>by
  rcases GA.mp hb with z|z
  .rw[z];exact nT
  .rw[Gu.mp z];exact ne
 have u2:Un (frs outer) [] H H' s.heap h2:=gL (show Un (frs outer) [] H H' s.heap s'.heap from I'.base) u8 RO λb hb=>qJ hb;have u3:Un (frs outer) [] H H' s.heap h3:=gL u2 H_ (λb hb=>by rw[Gu.mp hb];exact q2.1) λb hb=>by cases hb
 have k2:=fQ hok u8 (λb hb=>I'.stkFree b hb) (λb hb=>by
  rcases GA.mp hb with z|z
  .rw[z];exact HT
  .rw[Gu.mp z];exact He)
 have k3:=fQ k2 H_ (λb hb=>by cases hb) (λb hb=>by rw[Gu.mp hb];exact q2.2);exact#[e,C,od,T2,H',rfl,I'.os,I'.bare,u3,k3,Mc,ne,q2.1,He,q2.2,hE]
variable{ps:List J7}
def _root_.L2.Fun.okX{x:J7}{st:TF}{f:KF}{fd:TQ}{k:Nat}{S:SpX}(T:Fun K x x st f fd)(F:FnScope N ps (ah st))(len:∀ds R RX,S ds R RX->ds.length=ps.length)
  (a9:∀(cdv:KB) (A:TK) (outer:List Uw) (s:KM) (H:Hp) (E:XK) (J:Jx),Room k (A.deeper (TY x (ah st) s.heap.objs.size f cdv))->XOk (cxOf (CX1 P w) P w K mg base N x (ah st) f cdv A outer s H E)->
   ∃t,DSs (cxOf (CX1 P w) P w K mg base N x (ah st) f cdv A outer s H E) (aL st) t/\∀ds R RX,(∀z,J.RX z=RX)->S ds R RX->t {nx:=λ_=>R .non,rt:=R} (startD N ds)):FnOk P w K mg base (CX1 P w) (k+1) f fd ps (lSpX K S):=by
 refine Fun.okC T F (λvs H Q E h=>?_) (λcdv A outer s H vs Q E hr h=>?_)
 .let#[F,ds,fh,rs,R,RX,h,_]:=h;rw[rs.length];exact len ds R RX h
 .let#[F,ds,fh,rs,R,RX,h,q,qx]:=h
  letI:Jx:=#[H,F,λ_=>RX]
  have hx:XOk (cxOf (CX1 P w) P w K mg base N x (ah st) f cdv A outer s H E):=by
   intro σ z F' H' s' e C od y fs I kk rr hR er ⟨He,ne,_,hx⟩;have hE:E (.ref C) od H':=qx y fs C od F' H' #[kk.f0,kk.fh,kk.bh,kk.out] hR er;rcases hx with⟨sl,vs,h1,h2⟩|⟨T,fl,h1,h2,h3,_⟩
   .exact jF I h1 h2 He ne hE
   .exact ki I h1 ne h2 He h3 hE
  let#[t,ht,hq]:=a9 cdv A outer s H E inferInstance hr hx;refine#[_,ht,H,F,F,startD N ds,#[Same.refl H,fh,Same.refl F,λ_ h _=>h,rfl,Same.refl F,λ_ h _=>h],dM rs,_,hq ds R RX (λ_=>rfl) h,#[λz' s' F' H' k hn _=>q _ _ F' H' #[k.f0,k.fh,k.bh,k.out] hn (rep_non.mpr rfl),λd v F' H' k hd rd=>q d v F' H' #[k.f0,k.fh,k.bh,k.out] hd rd,λ_ _ _ _ _ h _=>h.elim,λ_ _ _ _ _ h _=>h.elim]]
def Tx.okX{x:J7}{st:TF}{k:Nat}{S:SpX}(T:Tx K mg x st ps)(F:FnScope N ps (ah st))(len:∀ds R RX,S ds R RX->ds.length=ps.length)
  (a9:∀(f:KF) (cdv:KB) (A:TK) (outer:List Uw) (s:KM) (H:Hp) (E:XK) (J:Jx),Room k (A.deeper (TY x (ah st) s.heap.objs.size f cdv))->XOk (cxOf (CX1 P w) P w K mg base N x (ah st) f cdv A outer s H E)->
   ∃t,DSs (cxOf (CX1 P w) P w K mg base N x (ah st) f cdv A outer s H E) (aL st) t/\∀ds R RX,(∀z,J.RX z=RX)->S ds R RX->t {nx:=λ_=>R .non,rt:=R} (startD N ds)):CalX P w K mg base (k+1) x ps S:=by
 let#[f,fd,T,hb,hm]:=T;exact#[f,fd,T.okX F len λcdv A outer s H E J hr hx=>a9 f cdv A outer s H E J hr hx,hb,T.kp,hm]
end
variable{P:SB}{w:TJ}{h:Heap}
def ObjOk.there{a:KF}{o:HO}(x:ObjOk P w H h a o):∃u,h.get? a=be u:=by
 cases o with
 |lst xs=>let#[_,_,_,_,e]:=x;exact#[_,e]
 |tup xs=>let#[_,_,_,o,e,_]:=x;exact#[_,e]
 |dK a_=>let#[_,_,_,_,o,_,_,e,_]:=x;exact#[_,e]
 |dT a_=>let#[_,_,_,_,o,_,_,e,_]:=x;exact#[_,e]
 |set S n=>let#[o,_,_,_,e,_]:=x;exact#[_,e]
 |ins C dx fs=>let#[_,_,_,e,_]:=x;exact#[_,e]
 |own y=>exact x
 |xd fs=>let#[_,#[_,_,_,e,_],_]:=x;exact#[_,e]
 |rng lo hi=>let#[_,_,_,e]:=x;exact#[_,e]
 |frz ob u=>let#[e,_]:=x;exact#[_,e]
 |tbl ps=>exact#[_,(show h.get? a=be _ from x)]
 |met f y=>exact#[_,(show h.get? a=be _ from x)]
 |ext φ=>let#[_,e,_]:=x;exact e
def gc{a:KF}(x:HOk P w H h)(e:h.get? a=x8):H a=none:=by
 cases q:H a with
 |none=>rfl
 |some o=>
  let#[u,hu]:=ObjOk.there (x a o q);rw[e]at hu;cases hu
def del(H:Hp)(a:KF):Hp:=λb=>if b=a then x8 else H b
def gf{a:KF}:del H a a=none:=by unfold del;rw[if_pos rfl]
def cr{a:KF}(h:b≠a):del H a b=H b:=by unfold del;rw[if_neg h]
section
variable {X:Cx}{pins:List (KF×T5)}{σ:L2.St}{H:Hp}{s:KM}{e:KF}
variable{φ:Heap->Prop}
def Inv.drop(I:Inv X pins σ H s)(h:H e=be (.ext φ))(ne:X.s₀.heap.get? e=x8):Inv X pins σ (del H e) s:=by
 have nx:∀b o,H b=be o->(∀φ,o≠.ext φ)->b≠e:=λb o q n z=>by rw[z,h]at q;cases q;exact n φ rfl
 refine#[I.ok,I.os,I.bare,#[I.base.keep,I.base.slot,λb o q n hx=>?_,I.base.there,λb xs q=>?_,λb o u q=>?_,λb ps q=>?_],I.loc,I.cell,?_,λx c q=>?_,λp hp=>?_,λa o q=>?_,I.len]
 .have:b≠e:=λz=>by rw[z,ne]at q;cases q
  rw[cr this];exact I.base.free b o q n hx
 .have:=I.base.tups b xs q;rw[cr (nx b _ this λφ z=>nomatch z)];exact this
 .have:=I.base.frzs b o u q;rw[cr (nx b _ this λφ z=>nomatch z)];exact this
 .let#[m,this]:=I.base.tbls b ps q;exact#[m,by rw[cr (nx b _ this λφ z=>nomatch z)];exact this]
 .by_cases z:X.env.locals=e
  .rw[z];exact gf
  .rw[cr z];exact I.free
 .by_cases z:c=e
  .rw[z];exact gf
  .rw[cr z];exact I.freeC x c q
 .let#[h1,h2,h3]:=I.pin p hp;refine#[h1,?_,h3];by_cases z:p.1=e
  .rw[z];exact gf
  .rw[cr z];exact h2
 .by_cases z:a=e
  .rw[z,gf]at q;cases q
  .rw[cr z]at q;exact(I.hok a o q).stay (λb u _ r=>r) (λb r=>by rw[cr (nx b _ r λφ z=>nomatch z)];exact r) λb xs r=>by rw[cr (nx b _ r λφ z=>nomatch z)];exact r
def Inv.adopt(I:Inv X pins σ H s)(He:H e=x8)(ok:ObjOk X.prog X.w H s.heap e (.ext φ))(ne:X.s₀.heap.get? e=x8)(hl:e≠X.env.locals)(hc:∀x c,X.env.cells.lookup x=be c->c≠e)(hp:∀p∈X.pn++pins,p.1≠e):Inv X pins σ (upd H e (.ext φ)) s:=by
 refine#[I.ok,I.os,I.bare,#[I.base.keep,I.base.slot,λb o q n hx=>?_,I.base.there,λb xs q=>?_,λb o u q=>?_,λb ps q=>?_],I.loc,I.cell,?_,λx c q=>?_,λp Lv=>?_,λa o q=>?_,I.len]
 .have:b≠e:=λz=>by rw[z,ne]at q;cases q
  rw[ar this];exact I.base.free b o q n hx
 .have:=I.base.tups b xs q;rw[ar (bG this He)];exact this
 .have:=I.base.frzs b o u q;rw[ar (bG this He)];exact this
 .let#[m,this]:=I.base.tbls b ps q;exact#[m,by rw[ar (bG this He)];exact this]
 .rw[ar (Ne.symm hl)];exact I.free
 .rw[ar (hc x c q)];exact I.freeC x c q
 .let#[h1,h2,h3]:=I.pin p Lv;refine#[h1,?_,h3];rw[ar (hp p Lv)];exact h2
 .by_cases z:a=e
  .rw[z,aB]at q;cases q;rw[z];exact ok
  .rw[ar z]at q;exact(I.hok a o q).stay (λb u _ r=>r) (λb r=>by rw[ar (bG r He)];exact r) λb xs r=>by rw[ar (bG r He)];exact r
end
structure ErrK(K:Ex)(mg:Str->Option KB)(x:Str)(C N:KF)(bm:List KB):Prop where
 ns:nsIn K Pi x=be (be (.ref C))
 mg:mg x=be (.ref C)
 kp:keepIn K (.ref C)=true
 obj:∃nm q bs sn sub ab col dd k0 k1 k2 k3 k5,K.lookup C=be (T9 nm q C N bs bm true sn sub ab col dd k0 k1 k2 k3 k5 "ValueError.__new__")
 tail:tailIn K veLine bm=true
structure ErrN(K:Ex)(N:KF):Prop where
 ok:nsOkIn K N=true
 no:nsIn K N "__init__"=be x8
def kj{K:Ex}:∀{l:List KB},tailIn K veLine l=true->aS l=true
 |[],e=>by simp[tailIn,veLine]at e
 |v::r,e=>by
  unfold tailIn at e;rcases Jn.mp e with q|q
  .rw[beq_iff_eq.mp q];decide+kernel
  .split at q
   .split at q
    .simp only[GY,beq_iff_eq]at q;unfold aS;exact kj q.2
    .cases q
   .cases q
variable{K:Ex}{mg:J7->Option KB}{x:J7}{C N:KF}{bm:List KB}
def ErrK.base(k:ErrK K mg x C N bm):bm.contains (.type "BaseException")=true:=eV KK (kj k.tail)
section
variable {X:Cx}[J:Jx]{x:J7}{C N:KF}{bm:List KB}{e:SZ}{es:List SZ}{t:TDA}{p a8 pos:TX}
def zH(x:J7)(t:TDA):TSD:=λ_ z=>t z λds=>ds.length<=1000/\J.RX z x []
def zI(h:∃C N bm,ErrK X.K X.mg x C N bm/\ErrN X.K N)(hx:XOk X)(hc:X.calm=true)(ha:WDA X (e::es) t)(f_:(X.ex=[])\zA0)(hg:Gl X x\zA0)(d9:zND x\zA1)
  (he:zSE X e es\zA0) (c9:zPL X a8 es\zA0):WDS X (.Raise (be (.Call (.Name x p) (e::es) [] a8)) x8 pos) (zH x t):=⟨by
 have ha:=ha.out;let#[C,N,bm,k,kn]:=h;intro pins s σ H D I h;let#[B,F0,F,z,kf,rs,ED,h,ee]:=h;obtain rfl:B=J.B:=kf.eb;let#[nm,q,bs,sn,sub,ab,col,dd,k0,k1,k2,k3,k5,lk]:=k.obj;refine jE (nm:=nm) (q:=q) (C:=C) (N:=N) (bs:=bs) (bm:=bm) (hdct:=true) (sn:=sn) (sub:=sub) (ab:=ab) (col:=col) (dd:=dd) (k0:=k0) (k1:=k1) (k2:=k2) (k3:=k3) (k5:=k5) (newId:="ValueError.__new__") k.base (I.ok.hd hc) ?_;refine TV (ck I hg k.mg ?_ d9);refine callWith_K (h₀:=X.base) I.ok.mod.kin k.kp (thn (ha a8 pins s σ H (λvs H1=>∃F1,vs.length<=1000/\Grow F H F1 H1/\J.RX z x []) I #[_,F,z,kf.kf,rs,_,h,λds vs F1 H1 g1 hx rx=>#[F1,by rw[rx.length];exact hx.1,g1,hx.2]]) λus s1 hh=>#[hh.elim λ_ h=>h.elim λ_ h=>h.1.kIn,?_]) he c9;let#[vs,H1,I1,r,F1,hl,g1,hR]:=hh;have hC:=I1.kIn _ _ lk;let#[hp,gg,dr,tk,os]:=s1;refine Vt PySem.F.excBase_ValueError (tail_of_in I1.kIn k.tail) hC (.of_isNs (isNs_of_in I1.kIn kn.ok)) (nsMap_none_of_in I1.kIn kn.ok kn.no) (λh' ea hm=>?_) (by show us.length<=_;rw[<-L2.Vals.length r];exact sz hl);let#[ta,h1,h2,h3]:=hm.there;have I2:Inv X pins σ H1 #[h',gg,dr,tk,os]:=I1.kept (t':=tk) hm.keeps;refine#[ea,ta,x8,[].toArray,rfl,hm.keeps _ _ hC,h1,?_];exact hx σ z F1 H1 _ ea C x8 x [] (Inv.nopins I2) (kf.kf.grow g1) (rs.grow g1) hR #[k.ns,[],repf_nil.mpr rfl,.inl #[rfl,rfl]] #[gc I1.hok hm.new,ex_free I1 f_ hm.new,pn_free I1 hm.new,.inl #[[].toArray,_,h1,rfl]]⟩
end
def XN(e C:KF)(od:Option KF):HO:=.ext λh=>∃t sl,h.get? e=be #[.ref C,od,.fields [.ref t,.none,.none,.none,.bool false,.none].toArray,sl]
variable{e:KF}{od:Option KF}{sl:Array (Option KB)}
def XN.ok{t:KF}(q:h.get? e=be #[.ref C,od,.fields [.ref t,.none,.none,.none,.bool false,.none].toArray,sl]):ObjOk P w H h e (XN e C od):=
 #[#[t,sl,q],#[_,q],λh1 h2 ⟨t,sl,q⟩ k=>#[t,sl,k _ q]]
def XN.get(x:HOk P w H h)(q:H e=be (XN e C od)):∃t sl,h.get? e=be #[.ref C,od,.fields [.ref t,.none,.none,.none,.bool false,.none].toArray,sl]:=(x e _ q).1
def ErrF(K:Ex)(F:Hp)(fs:List (J7×D))(od:Option KF):Prop:=∃vs,RepF K F fs vs/\((od=x8/\vs=[])\/∃b,od=be b/\F b=be (.xd vs))
def lEi(K:Ex)(C:KF)(S:SiD):Sp:=λvs H Q _=>∃e us H1 F ds,vs=.ref e::us/\H=upd H1 e (XN e C x8)/\H1 e=x8/\Same F H1/\Reps K F ds us/\
 ∃R:List (J7×D)->Prop,S ds R/\∀fs od F' H',Grow F H1 F' H'->R fs->H' e=be (XN e C od)->F' e=x8->ErrF K F' fs od->Q .non H'
def CalE(P:SB)(w:TJ)(K:Ex)(mg:J7->Option KB)(base:Heap)(n:Nat)(x:J7)(ps:List J7)(S:SiD):Prop:=
 ∃C N bm f fd,ErrK K mg x C N bm/\GE K (.ref C) "__init__"=be (be (.ref f))/\isFn K (.ref f)=true/\FnOk P w K mg base (CX1 P w) n f fd ps (lEi K C S)/\Binds K fd ps []
section
variable {X:Cx}{pins:List (KF×T5)}{σ:L2.St}{H:Hp}{s:KM}{e:KF}
def Inv.newx{C:KF}{h':Heap}{us:List KB}(I:Inv X pins σ H s)(f_:X.ex=[])(hm:Heap.MadeExcOf s.heap h' e (.ref C) us):Inv X pins σ (upd H e (XN e C x8)) {s with heap:=h'}:=by
 let#[ta,h1,h2,h3]:=hm.there;have I2:Inv X pins σ H {s with heap:=h'}:=I.kept (t':=s.toks) hm.keeps;refine Inv.adopt I2 (gc I.hok hm.new) (XN.ok h1) (ex_free I f_ hm.new) (λz=>?_) (λx c q z=>?_) λp hp z=>?_
 .let#[m,#[o,_,_,ho,_],_]:=I.loc;rw[<-z,hm.new]at ho;cases ho
 .let#[v,o,ho,_]:=I.cell x c q;rw[z,hm.new]at ho;cases ho
 .have:=(I.pin p hp).1;rw[z,hm.new]at this;cases this
end
structure BaseK(K:Ex)(mg:Str->Option KB)(y:Str)(M:KF):Prop where
 mg:mg y=be (.ref M)
 rd:readsIn K M (.type "type")=true
 fc:findCls K (.ref M) (.type "type") "__init__"=be (.val (.builtin "ValueError.__init__"))
 sp:specialIn K (.ref M) "__getattribute__"=be (be (.builtin "type.__getattribute__"))
structure ErrA(K:Ex)(x:Str)(C:KF)(cd:Vb):Prop where
 ns:nsIn K Pi x=be (be (.ref C))
 cl:IF K C=be cd
 mro:aS cd.mro=true
 hd:cd.hasDict=true
 sa:GE K (.ref C) "__setattr__"=be (be (.builtin "object.__setattr__"))
def ErrK.a(k:ErrK K mg x C N bm)(sa:GE K (.ref C) "__setattr__"=be (be (.builtin "object.__setattr__"))):∃cd,ErrA K x C cd:=by
 let#[nm,q,bs,sn,sub,ab,col,dd,k0,k1,k2,k3,k5,lk]:=k.obj;exact⟨_,k.ns,by unfold IF;rw[lk],by
  show aS (.ref C::bm)=true;unfold aS;exact kj k.tail,rfl,sa⟩
def lX(K:Ex)[J:Jx](x:J7)(t:TID):TS:=λE σ H=>∃C e od ws F z fs,nsIn K Pi x=be (be (.ref C))/\σ[0]?=be (be (.ref e))/\H e=be (XN e C od)/\J.B e=x8/\F e=x8/\Kept J.B J.F0 F H/\RepS K J.B F H z σ/\RepF K F fs ws/\
 ((od=x8/\ws=[])\/∃b,od=be b/\H b=be (.xd ws)/\J.B b=x8/\F b=x8/\b≠e/\ws≠[])/\
 ∃R:List (J7×D)->Prop,t z fs R/\∀n9 Nl F' H',Kept J.B J.F0 F' H'->R n9->H' e=be (XN e C Nl)->F' e=x8->ErrF K F' n9 Nl->E.nx σ H'
abbrev DX(X:Cx)[Jx](x:J7)(st:List TF)(t:TID):Prop:=PSs X st (lX X.K x t)
structure WDX(X:Cx)[Jx](x:Str)(st:List TF)(t:TID):Prop where
 out:DX X x st t
def zJ{a:KF}{o:HO}(h:H a=be o):upd H a o=H:=by
 funext b;unfold upd;by_cases q:b=a
 .rw[if_pos q,q,h]
 .rw[if_neg q]
section
variable {X:Cx}[J:Jx]{x f:J7}{e:SZ}{te:TD}{ta:TDA}{pos c8 p:TX}{rest:List TF}{tr:TID}
def km:WDX X x [] rY:=⟨pss_nil.anti λE s H q=>by
 let#[C,a,od,ws,F,z,fs,hn,h0,f9,hB,j9,k,rs,rf,hd,R,hR,kk]:=q;rcases hd with⟨rfl,rfl⟩|⟨b,rfl,hb,Nm,La,ne,_⟩
 .exact kk fs x8 F H k hR f9 j9 #[[],rf,.inl #[rfl,rfl]]
 .have s1:Same F (upd F b (.xd ws)):=aQ La _;refine kk fs (be b) (upd F b (.xd ws)) H #[k.bh,λc o q=>?_,k.f0.trans s1,λc h1 h2=>?_,k.eb,k.jf,k.jo] hR f9 (by rw[ar (Ne.symm ne)];exact j9) #[ws,RepF.mono s1 fs ws rf,.inr #[b,rfl,aB]]
  .by_cases hc:c=b
   .subst hc;rw[aB]at q;cases q;exact hb
   .rw[ar hc]at q;exact k.fh c o q
  .have:c≠b:=λz=>h2 (z ▸ Nm);rw[ar this];exact k.out c h1 h2⟩
def zK(ta:TDA)(tr:TID):TID:=λz fs R=>ta z λds=>ds.length<=1000/\tr z fs R
def ko{y sx:J7}{ps py b7 a8:TX}{es:List SZ}{pl:Vj Bool}(hb:∃M,BaseK X.K X.mg y M)(hA:∃C cd,ErrA X.K x C cd)(ha:WDA X es ta)(hr:WDX X x rest tr)(hg:Gl X y\zA0)(hN:(X.N[0]?=be sx)\zA0)(hv:Vis X.env.scope sx\zA5)(hd:zND sx\zA1)
  (i8:zNC sx\zA1) (RP:zND y\zA1)
  (he:(TL (.Name sx ps::es) X.env=(false,TR (.Name sx ps) X.env)::TL es X.env)\zA0) (c9:zPL X a8 es\zA0)
  (ht:TR (.Call (.Attribute (.Name y py) "__init__" b7) (.Name sx ps::es) [] a8) X.env=(do
   let ov <-TR (.Name y py) X.env
   UG b7.atName
   let (f,first) <-UH [ov] (UO ov "__init__" pl)
   Vp a8 f first (Uy a8 (TL (.Name sx ps::es) X.env)) (UU a8 (UB [] X.env))):=by rfl)
  (hs:(T7 (.Call (.Attribute (.Name y py) "__init__" b7) (.Name sx ps::es) [] a8) x8 pos.line X.env=pure false)\zA0):WDX X x (.Expr (.Call (.Attribute (.Name y py) "__init__" b7) (.Name sx ps::es) [] a8) pos::rest) (zK ta tr):=⟨by
 have ha:=ha.out;have hr:=hr.out;let#[M,bk]:=hb;let#[C,cd,er]:=hA;have step:PS X (.Expr (.Call (.Attribute (.Name y py) "__init__" b7) (.Name sx ps::es) [] a8) pos) (λE σ H=>∃C' e od,nsIn X.K Pi x=be (be (.ref C'))/\σ[0]?=be (be (.ref e))/\
   lA X.K ta σ H (λvs H1=>H1 e=be (XN e C' od)/\vs.length<=1000/\E.nx σ H1)):=by
  intro pins s σ H D I h;let#[C',ea,od,hn,h0,h]:=h;rw[er.ns]at hn;cases hn;refine wpAny_Expr_any (methodCall_KW (pl:=pl) (ck I hg bk.mg ?_ RP) ht) I.quiet hs;refine method_cls I.kIn bk.sp (cls_value I.kIn bk.rd bk.fc KK ?_);have I0:Inv X pins σ H {s with toks:=s.toks+1}:=I.tok _;let#[B,F,z,kf,rs,R,h1,h2]:=h;refine PyProof.Rows.callWith_builtin1 (thn (bw (dh (i:=0) hN hv hd i8) ha he a8 pins _ σ H (λvs H1=>∃us,vs=.ref ea::us/\H1 ea=be (XN ea C od)/\us.length<=1000/\D.nx σ H1) I0 #[.ref ea,h0,#[B,F,z,kf,rs,R,h1,λds vs F' H' g hx rx=>#[vs,rfl,h2 ds vs F' H' g hx rx]]]) λus s1 hh=>?_) he c9;let#[vs,H1,I1,r,S9,ev,v3,hl,Lb]:=hh;subst ev;cases r with
  |cons r1 r2=>
   rename_i u0 S';obtain rfl:u0=Value.ref ea:=r1;let#[t0,sl,k9]:=XN.get I1.hok v3;refine yu (K:=X.K) (C:=C) (cd:=cd) I1.kIn k9 rfl rfl er.cl er.mro (by rw[<-L2.Vals.length r2];exact sz hl) λh' g1 g2=>?_;refine#[σ,H1,?_,Lb];have w:=I1.write (x:=ea) (e:=ea) (o:=XN ea C od) (h':=h') (t':=s1.toks) (by rw[v3];exact True.intro) (.inl rfl) (λb u hb q=>g2 b u hb q) #[_,g1] (XN.ok g1);rw[zJ v3]at w;exact w
 refine(eO step hr).anti λE s H q=>?_;let#[C',a,od,ws,F,z,fs,hn,h0,f9,hB,j9,k,rs,rf,gt,R,hR,kk]:=q;refine#[C',a,od,hn,h0,_,F,z,k,rs,_,hR,λds vs F1 H1 g hx rx=>#[g.hh a _ f9,by rw[rx.length];exact hx.1,?_]];refine#[C',a,od,ws,F1,z,fs,hn,h0,g.hh a _ f9,hB,g.out a j9 (by rw[f9];exact λz=>nomatch z),k.grow g,rs.grow g,RepF.mono g.ff fs ws rf,?_,R,hx.2,kk];rcases gt with gt|⟨b,h1,h2,h3,h4,h5⟩
 .exact .inl gt
 .exact .inr #[b,h1,g.hh b _ h2,h3,g.out b h4 (by rw[h2];exact λz=>nomatch z),h5]⟩
def zL(f:J7)(te:TD)(tr:TID):TID:=λz fs R=>fs=[]/\te z λd=>tr z [(f,d)] R
def kq{sx:J7}{ps:TX}(hA:∃C cd,ErrA X.K x C cd)(hf:∀C,nsIn X.K Pi x=be (be (.ref C))->GE X.K (.ref C) f=be x8)(he:WDE X e te)(hr:WDX X x rest tr)(hN:(X.N[0]?=be sx)\zA0)(hv:Vis X.env.scope sx\zA5)(hd:zND sx\zA1)
  (i8:zNC sx\zA1) (hs:(T7 e (be (.Attribute (.Name sx ps) f c8)) pos.line X.env=pure false)\zA0):WDX X x (.Assign [.Attribute (.Name sx ps) f c8] e pos::rest) (zL f te tr):=⟨by
 have he:=he.out;have hr:=hr.out;let#[C,cd,er]:=hA;have Ld:=hf C er.ns;have step:PS X (.Assign [.Attribute (.Name sx ps) f c8] e pos) (λE σ H=>∃e,σ[0]?=be (be (.ref e))/\
   lE X.K te σ H (λv H1=>H1 e=be (XN e C x8)/\∀b,H1 b=x8->b≠e->E.nx σ (upd (upd H1 b (.xd [(f,v)])) e (XN e C (be b))))):=by
  intro pins s σ H D I h;let#[ea,h0,h]:=h;refine Uj (thn (he pins s σ H _ I h) λu s1 ⟨y,H1,I1,ry,v3,Lb⟩=>thn (dh (i:=0) hN hv hd i8 pins s1 σ H1 (λv H'=>v=.ref ea/\H'=H1) I1 #[.ref ea,h0,rfl,rfl]) λov s2 hh=>?_) hs;let#[v0,H2,I2,r0,e1,e2]:=hh;subst e1 e2;obtain rfl:ov=Value.ref ea:=r0;let#[t0,sl,k9]:=XN.get I2.hok v3;refine yr (K:=X.K) (C:=C) (cd:=cd) I2.kIn k9 rfl rfl rfl er.cl er.mro er.hd er.sa Ld λh' g1 g2 g3 tk=>?_;have n_:H2 s2.heap.objs.size=none:=I2.hok.fresh (Gv _);have i7:s2.heap.objs.size≠ea:=Hi (Heap.lt_size k9);have Ob:∀b o,s2.heap.get? b=be o->b≠s2.heap.objs.size:=λb o q=>GH (Heap.lt_size q);have Oc:∀b,H2 b=x8->b≠ea:=λb q z=>by rw[z,v3]at q;cases q
  refine#[σ,_,?_,Lb _ n_ i7];have z_:∀b o,H2 b=be o->(∀φ,o≠.ext φ)->upd (upd H2 s2.heap.objs.size (.xd [(f,y)])) ea (XN ea C (be s2.heap.objs.size)) b=be o:=λb o q n=>by
   have n1:b≠ea:=λz=>by rw[z,v3]at q;cases q;exact n _ rfl
   rw[ar n1,ar (bG q n_)];exact q
  refine I2.un (h':=h') (t':=tk) #[λb o q n _ _=>g3 b o (Oc b n) q,λb o q n _ _=>#[o.slots,g3 b o (Oc b n) q],λb o q n _=>?_,λb o q _=>?_,λb xs q=>z_ b _ q (λφ z=>nomatch z),λb o u q=>z_ b _ q (λφ z=>nomatch z),λb ps q=>#[[].toArray,by rw[z_ b _ q (λφ z=>nomatch z)];simp]] λa o q=>?_
  .rw[ar (Oc b n),ar (Ob b o q)];exact n
  .by_cases hb:b=ea
   .rw[hb];exact#[_,g1]
   .exact#[o,g3 b o hb q]
  .by_cases ha:a=ea
   .subst ha;rw[aB]at q;cases q;exact XN.ok g1
   .rw[ar ha]at q;by_cases hb:a=s2.heap.objs.size
    .subst hb;rw[aB]at q;cases q;refine#[_,g2,λg=>?_];rw[GM];by_cases hg:g=f
     .subst hg;simp;exact ry
     .have:(g==f)=false:=by simpa using hg
      rw[this,if_neg hg];exact True.intro
    .rw[ar hb]at q;refine(I2.hok a o q).stay (λb u i6 r=>?_) (λb r=>z_ b _ r (λφ z=>nomatch z)) λb xs r=>z_ b _ r (λφ z=>nomatch z);refine g3 b u (λz=>?_) r;rcases i6 with e1|e1
     .exact ha (e1 ▸ z)
     .rw[z,v3]at e1;cases e1
 refine(eO step hr).anti λE s H q=>?_;let#[C',a,od,ws,F,z,fs,hn,h0,f9,hB,j9,k,rs,rf,gt,R,#[rfl,hR],kk]:=q;rw[er.ns]at hn;cases hn;have RQ:ws=[]:=repf_nil.mp rf;subst RQ;refine#[a,h0,_,F,z,k,rs,_,hR,λd v F1 H1 g hx rv=>?_];have Kf:F1 a=none:=g.out a j9 (by rw[f9];exact λz=>nomatch z);have k1:=k.grow g;rcases gt with⟨rfl,_⟩|⟨b,rfl,h1,h2,h3,h4⟩
 .refine#[g.hh a _ f9,λb hb i7=>?_];have Nm:J.B b=none:=k1.bh.free hb;have La:F1 b=none:=k1.fh.free hb;have same:∀{G:Hp},G a=x8->G b=x8->Same G H1->Same G (upd (upd H1 b (.xd [(f,v)])) a (XN a C (be b))):=λ{G} ga gb gs c o q=>by
   have n1:c≠a:=λz=>by rw[z,ga]at q;cases q
   have n2:c≠b:=λz=>by rw[z,gb]at q;cases q
   rw[ar n1,ar n2];exact gs c o q
  have s9:=rs.grow g;refine#[C,a,be b,[(f,v)],F1,z,[(f,d)],er.ns,h0,aB,hB,Kf,#[same hB Nm k1.bh,same Kf La k1.fh,k1.f0,k1.out,k1.eb,k1.jf,k1.jo],?_,repf_cons.mpr #[v,[],rfl,rv,repf_nil.mpr rfl],.inr #[b,rfl,by rw[ar i7];exact aB,Nm,La,i7,λz=>nomatch z],R,hx,kk];refine#[s9.len,s9.val,λi ds e'=>?_,s9.apart];let#[c,vs,q1,q2,q]:=s9.own i ds e';have n1:c≠a:=λz=>by rw[z,g.hh a _ f9]at q2;cases q2
  have n2:c≠b:=λz=>by rw[z,hb]at q2;cases q2
  exact#[c,vs,q1,by rw[ar n1,ar n2];exact q2,q]
 .exact absurd rfl h4.2⟩
end
section
variable {P:SB}{w:TJ}{K:Ex}{mg:J7->Option KB}{base:Heap}
def Cls.okE{x qual:J7}{st:TF}{f C N0:KF}{bm:List KB}{fd:TQ}{N:List J7}{p0:J7}{ps:List J7}{k:Nat}{S:SiD}(T:Fun K "__init__" qual st f fd)(hb:Binds K fd (p0::ps) [])(F:FnScope (p0::N) (p0::ps) (ah st))(len:∀ds R,S ds R->ds.length=ps.length)
  (ek:ErrK K mg x C N0 bm) (hi:GE K (.ref C) "__init__"=be (be (.ref f))) (hf:isFn K (.ref f)=true)
  (a9:∀(cdv:KB) (A:TK) (outer:List Uw) (s:KM) (H:Hp) (E:XK) (J:Jx),Room k (A.deeper (TY qual (ah st) s.heap.objs.size f cdv))->
   ∃t,DX (cxOf (CX1 P w) P w K mg base (p0::N) qual (ah st) f cdv A outer s H E).nox x (aL st) t/\∀ds R,S ds R->t (x8::startD N ds) [] R):CalE P w K mg base (k+1) x (p0::ps) S:=by
 refine#[C,N0,bm,f,fd,ek,hi,hf,Fun.okC T F (λvs H Q E h=>?_) (λcdv A outer s H vs Q E hr h=>?_),hb]
 .let#[a,us,H1,F,ds,rfl,_,_,_,rs,R,h,_]:=h;rw[Gy,Gy,rs.length,len ds R h]
 .let#[a,us,H1,F1,ds,rfl,rfl,ha,fh,rs,R,h,q]:=h
  letI:Jx:=#[H1,F1,λ_ _ _=>False]
  let#[t,ht,hq]:=a9 cdv A outer s _ E inferInstance hr;have Fa:F1 a=none:=fh.free ha;have hl:L2.start (p0::N) (.ref a::us)=be (.ref a)::L2.start N us:=by
   unfold L2.start;rw[GK,Gy,Gy,Jl];rfl
  have s1:Same H1 (upd H1 a (XN a C x8)):=aQ ha _;refine#[_,ht.nox,C,a,x8,[],F1,x8::startD N ds,[],ek.ns,by rw[hl];rfl,aB,ha,Fa,#[s1,fh.trans s1,Same.refl F1,λ_ h _=>h,rfl,Same.refl F1,λ_ h _=>h],?_,repf_nil.mpr rfl,.inl #[rfl,rfl],R,hq ds R h,λn9 Nl F' H' g hR f9 j9 er=>q n9 Nl F' H' #[g.f0,g.fh,g.bh,g.out] hR f9 j9 er];rw[hl];exact rZ (dM rs)
end
section
variable {M:Vq}{A:TK}{E:KB->KM->Prop}{h:Heap}{g:Array Vr}{d:Drawn}{t:Nat}{os:OsState}
variable {nm q:J7}{C N:KF}{bs bm:List KB}{hdct:Bool}{sn:List J7}{sub:List KB}{ab:Bool}{col:Option Bool}{dd:Option KF}{k0 k1 k2 k3 k5:Option KB}{newId:String}
variable {Od q':J7}{C' N':KF}{Oe Mi:List KB}{Mj:Bool}{Of:List J7}{Le:List KB}{Og:Bool}{Lf:Option Bool}{Ml:Option KF}{Oh Oi Oj Ol Om:Option KB}{Lg:String}
def se{e:KF}{oe:T5}{b:Bool}{Q:Bool->KM->Prop}(hC:h.get? C=be (T9 nm q C N bs bm hdct sn sub ab col dd k0 k1 k2 k3 k5 newId))(hD:h.get? C'=be (T9 Od q' C' N' Oe Mi Mj Of Le Og Lf Ml Oh Oi Oj Ol Om Lg))
  (he:h.get? e=be oe) (y8:oe.cls=.ref C) (b8:Mi.contains (.type "BaseException")=true) (hb:(Value.ref C::bm).contains (.ref C')=b) (hq:Q b #[h,g,d,t,os]):TC M A (excMatches (.ref e) (.ref C')) Q E #[h,g,d,t,os]:=by
 have NY:(Value.ref C'::Mi).contains (.type "BaseException")=true:=by rw[IC,b8,Ic]
 have f:=tc_notTuple;unfold excMatches
 repeat(first|(with_reducible refine T6 he ?_;rw[y8])|with_reducible refine T6 hD ?_|(with_reducible refine Uv hD ?_;rw[NY])|(with_reducible refine Uv hC ?_;rw[hb])|wp_step)
 cases b with
 |true=>wp_walk;exact hq
 |false=>wp_walk;exact hq
end
abbrev _root_.L2.Cx.held(X:Cx)(e:KF):Cx:={X with A:=X.A.mark (be (.ref e)),calm:=false,xe:=λ_ _=>False}
section
variable {X:Cx}{pins:List (KF×T5)}{σ:L2.St}{H:Hp}{s:KM}{e:KF}
def Cx.Ok.held(ok:X.Ok):(X.held e).Ok:=
 #[ok.mod,ok.kind,ok.glob,ok.blt,ok.above,ok.inj,ok.has,ok.cab,(λz=>nomatch z),ok.frames,ok.stk,ok.exf,ok.bs,ok.bsz,ok.noex,ok.exfs,ok.funs,ok.frf]
def Inv.held(I:Inv X pins σ H s):Inv (X.held e) pins σ H s:=#[Cx.Ok.held I.ok,I.os,I.bare,I.base,I.loc,I.cell,I.free,I.freeC,I.pin,I.hok,I.len]
def Inv.unheld(ok:X.Ok)(I:Inv (X.held e) pins σ H s):Inv X pins σ H s:=#[ok,I.os,I.bare,I.base,I.loc,I.cell,I.free,I.freeC,I.pin,I.hok,I.len]
def SP.unheld{D:Ends}{f:Flow}{s':KM}(ok:X.Ok)(h:SP (X.held e) pins D f s'):SP X pins D f s':=by
 cases f with
 |next=>let#[σ',H',I,q]:=h;exact#[σ',H',Inv.unheld ok I,q]
 |brk=>let#[σ',H',I,q]:=h;exact#[σ',H',Inv.unheld ok I,q]
 |cont=>let#[σ',H',I,q]:=h;exact#[σ',H',Inv.unheld ok I,q]
 |ret u=>let#[v,σ',H',I,r,q]:=h;exact#[v,σ',H',Inv.unheld ok I,r,q]
def gY{M:Vq}{A:TK}{E:KB->KM->Prop}{i:Nat}{x:J7}{pos:TX}{Q:Unit->KM->Prop}(I:Inv X pins σ H s)(hN:X.N.Nodup)(hi:X.N[i]?=be x)(hk:X.env.scope.names.lookup x=be .local)
  (h:∀s',Inv X pins (σ.set i x8) H s'->Q () s'):TC M A (do U7 X.env x .none;unbindBehindTheSuite X.env x pos) Q E s:=by
 let#[m,hn,hl]:=id I.loc;have y8:(X.env.scope.kind== .class||(X.env.scope.kind== .module&&X.env.locals !=X.env.globals))=false:=by rw[I.ok.kind];rfl
 have hiσ:i<σ.length:=by rw[I.len];exact(GO.mp hi).1
 have cne:=I.cne;refine wpAny_nameGoes_keeps hk hn y8 λh' v g_ hs=>?_;let#[oL,_,_,P9,_]:=id hn;have g9:HOk X.prog X.w H h':=λb ob e=>by
  refine(I.hok b ob e).stay (λc w' hc q=>(hs.2 c ?_).trans q) (λ_ q=>q) λ_ _ q=>q;rintro rfl;rcases hc with rfl|hc
  .rw[I.free]at e;cases e
  .rw[I.free]at hc;cases hc
 refine h _ #[I.ok,I.os,I.bare,#[λb o e n hb hx=>?_,λb o e n hb hx=>?_,I.base.free,λb o e hx=>?_,I.base.tups,I.base.frzs,I.base.tbls],#[_,g_,λj y v' e1 e2 e3=>?_],λy c e=>?_,I.free,I.freeC,λp hp=>?_,g9,by simpa using I.len]
 .exact(hs.2 b (GH (GR (Heap.lt_size e) I.ok.above))).trans (I.base.keep b o e n hb hx)
 .let#[sl,e1]:=I.base.slot b o e n hb hx;exact#[sl,(hs.2 b (GH (GR (Heap.lt_size e) I.ok.above))).trans e1]
 .let#[o',e1]:=I.base.there b o e hx;exact#[o',(hs.2 b (GH (GR (Heap.lt_size e) I.ok.above))).trans e1]
 .by_cases hj:j=i
  .subst hj;rw[G6 hiσ]at e2;cases e2
  .rw[GL (Ne.symm hj)]at e2;let#[u',r',q]:=hl j y v' e1 e2 e3;refine#[u',r',?_];rcases q with⟨k,e⟩|⟨k,c,e,z⟩
   .refine .inl #[k,?_];have:y≠x:=λe=>hj (jl hN e1 (e ▸ hi));simp[this,e]
   .exact .inr #[k,c,e,z.sameBut hs (cne y c e)]
 .let#[w',z]:=I.cell y c e;exact#[w',z.sameBut hs (cne y c e)]
 .let#[e,n,ne,nf,d]:=I.pin p hp;exact#[(hs.2 p.1 ne).trans e,n,ne,nf,d]
def Inv.stay{h':Heap}{n9 ex:List KF}(I:Inv X pins σ H s)(st:Stay n9 ex s.heap h')(JZ:∀b∈n9,b∈frs X.stack)(hH:∀b∈ex,H b=x8)(h0:∀b∈ex,X.s₀.heap.get? b=x8)(hL:∀b∈ex,b≠X.env.locals)(hc:∀b∈ex,∀x c,X.env.cells.lookup x=be c->c≠b)
  (hp:∀b∈ex,∀p∈X.pn++pins,p.1≠b):Inv X pins σ H {s with heap:=h'}:=by
 have hok:HOk X.prog X.w H h':=fQ I.hok st (λb hb=>I.stkFree b (JZ b hb)) hH;have sub:∀b∈n9,b=X.env.locals\/b∈X.fs:=λb hb=>GA.mp (I.stkSub b (JZ b hb));have nL:∀b o,X.s₀.heap.get? b=be o->b≠X.env.locals:=λb o q=>GH (GR (Heap.lt_size q) I.ok.above);have Qw:∀b o,X.s₀.heap.get? b=be o->b∉ex:=λb o q z=>by rw[h0 b z]at q;cases q
 have o_:∀x c v,X.env.cells.lookup x=be c->s.heap.IsCell c v->h'.IsCell c v:=λx c v e ⟨o,ho,hd⟩=>by
  let#[sl,z]:=st.slot c o ho (λz=>hc c z x c e rfl);exact#[_,z,hd]
 refine#[I.ok,I.os,I.bare,#[λb o e n hb hx=>?_,λb o e n hb hx=>?_,I.base.free,λb o e hx=>?_,I.base.tups,I.base.frzs,I.base.tbls],?_,λy c e=>?_,I.free,I.freeC,λp Lv=>?_,hok,I.len]
 .exact st.keep b o (I.base.keep b o e n hb hx) (Qw b o e) (λz=>(sub b z).elim (nL b o e) hb)
 .let#[sl,e1]:=I.base.slot b o e n hb hx;let#[w9,e2]:=st.slot b _ e1 (Qw b o e);exact#[w9,e2]
 .let#[o',e1]:=I.base.there b o e hx;exact st.there b o' e1
 .let#[m,#[o,es,ep,ho,r],hl]:=I.loc;let#[sl,z]:=st.slot _ o ho (λz=>hL _ z rfl);refine#[m,#[_,es,ep,z,r],λj y v' e1 e2 e3=>?_];let#[u',r',q]:=hl j y v' e1 e2 e3;refine#[u',r',?_];rcases q with q|⟨k,c,e,z⟩
  .exact .inl q
  .exact .inr #[k,c,e,o_ y c _ e z]
 .let#[w',z]:=I.cell y c e;exact#[w',o_ y c _ e z]
 .let#[e,n,ne,nf,d]:=I.pin p Lv;exact#[st.keep _ _ e (λz=>hp _ z p Lv rfl) (λz=>(sub _ z).elim ne nf),n,ne,nf,d]
end
def subE(x c:J7):Bool:=x==c||c=="MotifError"
structure ErrsK(K:Ex)(mg:Str->Option KB)(es:List Str):Prop where
 cls:∀x∈es,∃C N bm,ErrK K mg x C N bm
 sub:∀x∈es,∀y∈es,∀C C',nsIn K Pi x=be (be (.ref C))->nsIn K Pi y=be (be (.ref C'))->Hb K C (.ref C')=be (subE x y)
def ErrsK.has{es:List J7}(k:ErrsK K mg es){y:J7}{C' N':KF}{Mi:List KB}(hx:x∈es)(hy:y∈es)(a:ErrK K mg x C N bm)(b:ErrK K mg y C' N' Mi):(Value.ref C::bm).contains (.ref C')=subE x y:=by
 have h:=k.sub x hx y hy C C' a.ns b.ns;let#[nm,q,bs,sn,sub,ab,col,dd,k0,k1,k2,k3,k5,lk]:=a.obj;unfold Hb IF at h;rw[lk]at h;simp only[HQ,List.isEmpty_cons,Bool.false_eq_true,if_false,Option.some.injEq]at h;exact h
structure Held(X:Cx)(pins:List (KF×T5))(H:Hp)(s:KM)(e C:KF)(od:Option KF)(T:KF):Prop where
 ex:ExAt s.heap e C od T .none
 He:H e=x8
 HT:H T=x8
 e0:X.s₀.heap.get? e=x8
 T0:X.s₀.heap.get? T=x8
 eP:∀p∈X.pn++pins,p.1≠e
 TP:∀p∈X.pn++pins,p.1≠T
section
variable {X:Cx}{pins:List (KF×T5)}{σ:L2.St}{H:Hp}{s:KM}
variable{vs:Array KB}
def gZ{b:KF}{o:T5}(I:Inv X pins σ H s)(h:s.heap.get? b=be o)(hd:o.data=.fields vs):b≠X.env.locals:=λz=>by
 let#[m,#[o',es,ep,ho,gt,_],_]:=I.loc;rw[<-z,h]at ho;cases ho;rw[hd]at gt;cases gt
def fld_cell{b:KF}{o:T5}(I:Inv X pins σ H s)(h:s.heap.get? b=be o)(hd:o.data=.fields vs):∀x c,X.env.cells.lookup x=be c->c≠b:=λx c q z=>by
 let#[v,o',ho,gt]:=I.cell x c q;rw[z,h]at ho;cases ho;rw[hd]at gt;cases gt
variable{od:Option KF}
def Held.flight{e C T:KF}{h':Heap}(I:Inv X pins σ H s)(k:Held X pins H s e C od T)(hx:ExAt h' e C od T .none)(st:Stay [] [T] s.heap h'):Inv X pins σ H {s with heap:=h'}/\Held X pins H {s with heap:=h'} e C od T:=by
 let#[sl,vs,oT,ts,he,h1,u_,hT,m6,h3]:=k.ex;refine#[Inv.stay I st (λb hb=>by cases hb) (λb hb=>?_) (λb hb=>?_) (λb hb=>?_) (λb hb=>?_) (λb hb=>?_),#[hx,k.He,k.HT,k.e0,k.T0,k.eP,k.TP]]<;>rw[Gu.mp hb]
 .exact k.HT
 .exact k.T0
 .exact gZ I hT m6
 .exact fld_cell I hT m6
 .exact k.TP
def XO.ok{P:SB}{w:TJ}{h:Heap}{e C:KF}{sl:Array (Option KB)}(q:h.get? e=be #[.ref C,od,.fields vs,sl]):ObjOk P w H h e (XO e C od):=
 #[#[vs,sl,q],#[_,q],λh1 h2 ⟨vs,sl,q⟩ k=>#[vs,sl,k _ q]]
end
def RepS.unset{B F:Hp}{z:SD}{s:L2.St}{i:Nat}(h:RepS K B F H z s):RepS K B F H (z.set i x8) (s.set i x8):=by
 have get:∀{j:Nat} {x:D},(z.set i x8)[j]?=be (be x)->j≠i/\z[j]?=be (be x):=λ{j x} e=>by
  by_cases hj:i=j
  .subst hj;rw[HG]at e;simp at e
  .rw[GL hj]at e;exact#[λz=>hj z.symm,e]
 refine#[by rw[Hc,Hc];exact h.len,λj x e nx=>?_,λj ds e=>?_,λj k dj dk a e1 e2 e3 e4=>?_]
 .let#[hj,e]:=get e;rw[GL (λz=>hj z.symm)];exact h.val j x e nx
 .let#[hj,e]:=get e;rw[GL (λz=>hj z.symm)];exact h.own j ds e
 .let#[hj,e1]:=get e1;let#[hk,e2]:=get e2;rw[GL (λz=>hj z.symm)]at e3;rw[GL (λz=>hk z.symm)]at e4;exact h.apart j k dj dk a e1 e2 e3 e4
abbrev TH:=J7->List (J7×D)->TSD
def DH(X:Cx)[J:Jx](hs:List Ud)(th:TH):Prop:=
 ∀(pins:List (KF×T5)) (s:KM) (σ:L2.St) (H:Hp) (D:Ends) (e C:KF) (od:Option KF) (T:KF) (x:J7) (fs:List (J7×My.D)) (B F0 F:Hp) (z:SD) (ED:EndsD),Inv X pins σ H s->Held X pins H s e C od T->Kept B F0 F H->RepS X.K B F H z σ->ErrD X.K F x fs C od->
  th x fs ED z->EndsOk X.K B F0 ED D->TC (SL X.prog X.w) X.A (U5 (.ref e) X.env hs) (SP X pins D) X.xe s
structure WDH(X:Cx)[Jx](hs:List Ud)(th:TH):Prop where
 out:DH X hs th
section
variable {X:Cx}[J:Jx]{es:List J7}{c:J7}{b₀:TF}{u5:List TF}{pos pc:TX}{rest:List Ud}{t:TSD}{r:TH}
def zM:TH:=λ_ _ _ _=>False
def zN(es:List J7)(c:J7)(t:TSD)(r:TH):TH:=λx fs E z=>(x∈es/\c∈es)/\if subE x c=true then t E z else r x fs E z
def dHas(es:List J7)(c:J7)(i:Nat)(t:TSD)(r:TH):TH:=λx fs E z=>(x∈es/\c∈es)/\if subE x c=true then t {nx:=λz'=>E.nx (z'.set i x8),rt:=E.rt,bk:=λz'=>E.bk (z'.set i x8),ct:=λz'=>E.ct (z'.set i x8)} (z.set i (be (.exc x fs)))else r x fs E z
def zO:WDH X [] zM:=#[λ_ _ _ _ _ _ _ _ _ _ _ _ _ _ _ _ _ _ _ _ _ h _=>h.elim]
def sf(hE:ErrsK X.K X.mg es)(hs:∀e,WDSs (X.held e) (b₀::u5) t)(hr:WDH X rest r)(hg:Gl X c\zA0)(d9:zND c\zA1):WDH X (.ExceptHandler (be (.Name c pc)) x8 (b₀::u5) pos::rest) (zN es c t r):=⟨by
 have hs:=λe=>(hs e).out;have hr:=hr.out;intro pins s σ H D e C od T x fs B F0 F z ED I hd k rs er ht ee;let#[#[Mm,Mn],ht]:=ht;let#[Cc,Nc,RR,kc]:=hE.cls c Mn;let#[Kg,Nx,RS,kx]:=hE.cls x Mm;obtain rfl:Kg=C:=by have h1:=kx.ns;rw[er.1]at h1;cases h1;rfl
 have hb:=hE.has Mm Mn kx kc;let#[nm,q,bs,sn,sub,ab,col,dd,k0,k1,k2,k3,k5,lk]:=kx.obj;let#[Od,q',Oe,Of,Le,Og,Lf,Ml,Oh,Oi,Oj,Ol,Om,On]:=kc.obj;refine Vs (Vl (ck (X:=X.held e) (Inv.held I) hg kc.mg ?_ d9)) (by intro q;cases q);let#[sl,vs,oT,ts,he,h1,u_,hT,m6,h3]:=id hd.ex;refine se (g:=s.gens) (d:=s.drawn) (t:=s.toks) (os:=s.os) (I.kIn _ _ lk) (I.kIn _ _ On) he rfl kc.base hb ?_;cases A':subE x c with
 |true=>
  rw[A',if_pos rfl]at ht;refine codeAny_handlers_suite (fP hd.ex λh' i_ st'=>?_);let#[I',_]:=Held.flight I hd i_ st';exact T1 (hs e pins _ σ H D (Inv.held I') #[B,F0,F,z,k,rs,ED,ht,ee]) (λf s1 q=>SP.unheld I.ok q) λ_ _ z=>False.elim z
 |false=>
  rw[A',if_neg GJ]at ht;exact hr pins s σ H D e Kg od T x fs B F0 F z ED I hd k rs er ht ee⟩
def si(i:Nat){n:J7}(hE:ErrsK X.K X.mg es)(hN:X.N.Nodup)(hs:∀e,WDSs (X.held e) (b₀::u5) t)(hr:WDH X rest r)(hg:Gl X c\zA0)(hi:(X.N[i]?=be n)\zA0)(hk:(X.env.scope.names.lookup n=be .local)\zA0)(d9:zND c\zA1):WDH X (.ExceptHandler (be (.Name c pc)) (be n) (b₀::u5) pos::rest) (dHas es c i t r):=⟨by
 have hs:=λe=>(hs e).out;have hr:=hr.out;intro pins s σ H D e C od T x fs B F0 F z ED I hd k rs er ht ee;let#[#[Mm,Mn],ht]:=ht;let#[Cc,Nc,RR,kc]:=hE.cls c Mn;let#[Kg,Nx,RS,kx]:=hE.cls x Mm;obtain rfl:Kg=C:=by have h1:=kx.ns;rw[er.1]at h1;cases h1;rfl
 have hb:=hE.has Mm Mn kx kc;let#[nm,q,bs,sn,sub,ab,col,dd,k0,k1,k2,k3,k5,lk]:=kx.obj;let#[Od,q',Oe,Of,Le,Og,Lf,Ml,Oh,Oi,Oj,Ol,Om,On]:=kc.obj;refine Vs (Vl (ck (X:=X.held e) (Inv.held I) hg kc.mg ?_ d9)) (by intro q;cases q);let#[sl,vs,oT,ts,he,h1,u_,hT,m6,h3]:=id hd.ex;refine se (g:=s.gens) (d:=s.drawn) (t:=s.toks) (os:=s.os) (I.kIn _ _ lk) (I.kIn _ _ On) he rfl kc.base hb ?_;cases A':subE x c with
 |true=>
  rw[A',if_pos rfl]at ht;refine codeAny_handlers_suite_as (fP hd.ex λh' i_ st'=>?_);let#[I',gt]:=Held.flight I hd i_ st';let#[w9,t_,_,_,Oo,_]:=id i_;have I2:Inv X pins σ (upd H e (XO e Kg od)) {s with heap:=h'}:=Inv.adopt I' hd.He (XO.ok Oo) hd.e0 (gZ I' Oo rfl) (fld_cell I' Oo rfl) hd.eP;refine eK (X:=X.held e) (v:=.ref e) (Inv.held I2) hN hi (.inl hk) rfl (λs2 I3=>?_) (.inr hk);have g:=Grow.new k.fh hd.He (XO e Kg od);let#[ns,ws,rf,Op]:=er;have rep:Rep X.K (upd F e (XO e Kg od)) (.exc x fs) (.ref e):=rep_exc.mpr #[e,Kg,od,ws,rfl,ns,aB,RepF.mono g.ff fs ws rf,Op.imp id λ⟨b,q1,q2⟩=>#[b,q1,g.ff _ _ q2]];have RT:EndsOk X.K B F0 {nx:=λz'=>ED.nx (z'.set i x8),rt:=ED.rt,bk:=λz'=>ED.bk (z'.set i x8),ct:=λz'=>ED.ct (z'.set i x8)} {nx:=λσ' H'=>D.nx (σ'.set i x8) H',rt:=D.rt,bk:=λσ' H'=>D.bk (σ'.set i x8) H',ct:=λσ' H'=>D.ct (σ'.set i x8) H'}:=
   #[λz' s' F' H' k hz r=>ee.nx _ _ F' H' k hz (RepS.unset r),ee.rt,λz' s' F' H' k hz r=>ee.bk _ _ F' H' k hz (RepS.unset r),λz' s' F' H' k hz r=>ee.ct _ _ F' H' k hz (RepS.unset r)]
  refine T1 (hs e pins s2 _ _ _ I3 #[B,F0,_,_,k.grow g,(rs.grow g).set rep,_,ht,RT]) (λf s3 q=>?_) λ_ _ z=>False.elim z;have q':=SP.unheld I.ok q;cases f with
  |next=>let#[σ',H',I4,q4]:=q';exact gY I4 hN hi hk λs5 I5=>#[_,H',I5,q4]
  |brk=>let#[σ',H',I4,q4]:=q';exact gY I4 hN hi hk λs5 I5=>#[_,H',I5,q4]
  |cont=>let#[σ',H',I4,q4]:=q';exact gY I4 hN hi hk λs5 I5=>#[_,H',I5,q4]
  |ret u=>let#[v,σ',H',I4,rv,q4]:=q';exact gY I4 hN hi hk λs5 I5=>#[v,_,H',I5,rv,q4]
 |false=>
  rw[A',if_neg GJ]at ht;exact hr pins s σ H D e Kg od T x fs B F0 F z ED I hd k rs er ht ee⟩
end
abbrev _root_.L2.Cx.tried(X:Cx)(pn:List (KF×T5))(xe:KB->KM->Prop):Cx:={X with pn:=pn,xe:=xe}
section
variable {X:Cx}{pn pins:List (KF×T5)}{xe:KB->KM->Prop}{σ:L2.St}{H:Hp}{s:KM}
def Cx.Ok.tried(ok:X.Ok):(X.tried pn xe).Ok:=#[ok.mod,ok.kind,ok.glob,ok.blt,ok.above,ok.inj,ok.has,ok.cab,ok.hd,ok.frames,ok.stk,ok.exf,ok.bs,ok.bsz,ok.noex,ok.exfs,ok.funs,ok.frf]
def Inv.tried(I:Inv X pins σ H s):Inv (X.tried (X.pn++pins) xe) [] σ H s:=#[Cx.Ok.tried I.ok,I.os,I.bare,I.base,I.loc,I.cell,I.free,I.freeC,λp hp=>I.pin p (by simpa using hp),I.hok,I.len]
def Inv.untried(ok:X.Ok)(I:Inv (X.tried (X.pn++pins) xe) [] σ H s):Inv X pins σ H s:=#[ok,I.os,I.bare,I.base,I.loc,I.cell,I.free,I.freeC,λp hp=>I.pin p (by simpa using hp),I.hok,I.len]
def SP.untried{D:Ends}{f:Flow}{s':KM}(ok:X.Ok)(h:SP (X.tried (X.pn++pins) xe) [] D f s'):SP X pins D f s':=by
 cases f with
 |next=>let#[σ',H',I,q]:=h;exact#[σ',H',Inv.untried ok I,q]
 |brk=>let#[σ',H',I,q]:=h;exact#[σ',H',Inv.untried ok I,q]
 |cont=>let#[σ',H',I,q]:=h;exact#[σ',H',Inv.untried ok I,q]
 |ret u=>let#[v,σ',H',I,r,q]:=h;exact#[v,σ',H',Inv.untried ok I,r,q]
end
def zP{h₀:Ud}{hs:List Ud}{σ':L2.St}{H':Hp}{s':KM}{D:Ends}{xe:KB->KM->Prop}(I2:Inv X pins σ' H' s')
  (hd:Exd (X.tried (X.pn++pins) xe) H' s' e C od) (f_:X.ex=[]) (A_:X.stack=X.env::X.outer) (n_:X.env.frame=be X.env.locals)
  (hh:∀s4 T2,Inv X pins σ' H' s4->Held X pins H' s4 e C od T2->TC (SL X.prog X.w) X.A (U5 (.ref e) X.env (h₀::hs)) (SP X pins D) X.xe s4):
  TC (SL X.prog X.w) X.A (UF (.ref e) X.env) (λ_ s₂=>TC (SL X.prog X.w) X.A (UW (.ref e) x8) (λ_ s₃=>TC (SL X.prog X.w) X.A (U5 (.ref e) X.env (h₀::hs)) (SP X pins D) X.xe s₃) X.xe s₂) X.xe s':=by
 let#[He,e0,eP,hd]:=hd;have stk:s'.heap.FunFrames X.base (X.env::X.outer):=by rw[<-A_];exact I2.stack
 have Qx:X.A.frames=be (X.env::X.outer):=by rw[<-A_];exact I2.ok.frames
 have c_:∀(v4:Heap) (T2:KF) (ex:List KF),(∀b∈ex,H' b=x8/\X.s₀.heap.get? b=x8/\(∃o vs,s'.heap.get? b=be o/\o.data=.fields vs)/\∀p∈X.pn++pins,p.1≠b)->ExAt v4 e C od T2 (UN X.env.locals)->(H' T2=x8/\X.s₀.heap.get? T2=x8/\∀p∈X.pn++pins,p.1≠T2)->Stay (frs (X.env::X.outer)) ex s'.heap v4->
   TC (SL X.prog X.w) X.A (UW (.ref e) x8) (λ_ s₃=>TC (SL X.prog X.w) X.A (U5 (.ref e) X.env (h₀::hs)) (SP X pins D) X.xe s₃) X.xe {s' with heap:=v4}:=by
  intro v4 T2 ex B_ t9 J0 u8;let#[Md,T0,TP]:=J0;have I3:Inv X pins σ' H' {s' with heap:=v4}:=Inv.stay I2 u8 (λb hb=>by rw[A_];exact hb) (λb hb=>(B_ b hb).1) (λb hb=>(B_ b hb).2.1) (λb hb=>let ⟨_,_,q1,q2⟩:=(B_ b hb).2.2.1;gZ I2 q1 q2) (λb hb=>let ⟨_,_,q1,q2⟩:=(B_ b hb).2.2.1;fld_cell I2 q1 q2) (λb hb=>(B_ b hb).2.2.2);let#[sl,vs,oT,ts,he,g1,u_,hT,m6,g3]:=id t9;refine fP (s:={s' with heap:=v4}) t9 λh3 Mc H_=>?_;have I4:Inv X pins σ' H' {s' with heap:=h3}:=Inv.stay (s:={s' with heap:=v4}) I3 H_ (λb hb=>by cases hb) (λb hb=>by rw[Gu.mp hb];exact Md) (λb hb=>by rw[Gu.mp hb];exact T0) (λb hb=>by rw[Gu.mp hb];exact gZ I3 hT m6) (λb hb=>by rw[Gu.mp hb];exact fld_cell I3 hT m6) (λb hb=>by rw[Gu.mp hb];exact TP);exact hh _ T2 I4 #[Mc,He,Md,e0,T0,eP,TP]
 have new:∀T2,s'.heap.objs.size<=T2->H' T2=x8/\X.s₀.heap.get? T2=x8/\∀p∈X.pn++pins,p.1≠T2:=λT2 z=>
  have Ls:s'.heap.get? T2=none:=Heap.get?_none_of_le z
  ⟨gc I2.hok Ls,ex_free I2 f_ Ls,λp hp z=>by
   have:=(I2.pin p hp).1;rw[z,Ls]at this;cases this⟩
 rcases hd with⟨sl,vs,he,hv⟩|⟨T,fl,Lr,T0,HT,TP⟩
 .refine qH Qx stk n_ he hv λv4 T2 t9 J0 u8=>c_ v4 T2 [e] (λb hb=>?_) t9 (new T2 J0) u8;rw[Gu.mp hb];exact#[He,e0,#[_,_,he,rfl],eP]
 .let#[sl,vs,oT,ts,he,g1,u_,hT,m6,g3]:=id Lr;refine qI Qx stk n_ Lr λv4 T2 t9 J0 u8=>c_ v4 T2 [T,e] (λb hb=>?_) t9 (J0.elim (λz=>by rw[z];exact#[HT,T0,TP]) (new T2)) u8;rcases GA.mp hb with z|z
  .rw[z];exact#[HT,T0,#[_,_,hT,m6],TP]
  .rw[Gu.mp z];exact#[He,e0,#[_,_,he,rfl],eP]
def ErrG(K:Ex)(f y:J7):Prop:=∃C cd,ErrA K y C cd/\GE K (.ref C) "__getattribute__"=be (be (.builtin "BaseException.__getattribute__"))/\GE K (.ref C) "__getattr__"=be x8/\GE K (.ref C) f=be x8
def zQ(ys:List J7)(f:J7)(te:TD):TD:=λz R=>te z λd=>match d with|.exc y fs=>y∈ys/\∃d,fs.lookup f=be d/\R d|_=>False
def sj[J:Jx]{e:SZ}{te:TD}{pos:TX}{ys:List J7}{f:J7}(hG:∀y∈ys,ErrG X.K f y)(he:WDE X e te)(hb:(TM e f X.env (TR e X.env)=TR e X.env)\zA0):WDE X (.Attribute e f pos) (zQ ys f te):=⟨by
 have he:=he.out;intro pins s σ H Q I h;let#[B,F,z,kf,rs,R,h1,h2]:=h;refine attr_of hb (thn (he pins s σ H (λv H1=>∃F1 x fs,Grow F H F1 H1/\Rep X.K F1 (.exc x fs) v/\x∈ys/\∃d,fs.lookup f=be d/\R d) I #[B,F,z,kf,rs,_,h1,λd v F1 H1 g1 hx rx=>?_]) λu s1 ⟨v,H1,I1,rv,F1,x,fs,g1,rx,hy,d,hl,hR⟩=>?_)
 .split at hx
  .let#[hy,d,hl,hR]:=hx;exact#[F1,_,_,g1,rx,hy,d,hl,hR]
  .exact hx.elim
 .let#[a,C,od,vs,rfl,hn,RU,rf,Op]:=rep_exc.mp rx;obtain rfl:u=Value.ref a:=rv;let#[C',cd,ea,ga,gb,hf]:=hG x hy;have g_:=ea.ns;rw[hn]at g_;cases g_;let#[t_,sl,k9]:=(I1.hok a _ (g1.fh _ _ RU)).1;let#[w',hw,j_]:=rf.look hl;rcases Op with⟨_,e2⟩|⟨b,rfl,i6⟩
  .rw[e2]at hw;cases hw
  .let#[mA,hns,x_]:=(show ObjOk X.prog X.w H1 s1.heap b (.xd vs)from I1.hok b _ (g1.fh _ _ i6));let#[uv,hu,ru]:=RelO.some_of (v:=w') (o:=mA f) (by rw[<-hw];exact x_ f);let#[RV,ho,look]:=qe hns;have Oq:hasDictIn X.K C=true:=by unfold hasDictIn;rw[ea.cl];exact ea.hd
   exact yt (K:=X.K) (ox:=#[.ref C,be b,.fields t_,sl]) (od:=RV) I1.kIn #[k9,rfl,rfl,ho] ea.cl ea.mro ga gb (findObj_own Oq hf rfl (by rw[look,hu])) (qi ru) λtk=>#[w',H1,I1.tok tk,ru,h2 d w' F1 H1 g1 hR j_]⟩
def zR:tailIn K veLine veLine=true:=by
 unfold tailIn;rfl
def sk{c:KB}{d:Option KF}{es:Array DictEntry}{ep:Nat}(l:K.lookup N=be #[c,d,.dict es ep,sl])(h:es.toList.all (λe=>match e.key with|.str _ _=>true|_=>false)=true):nsOkIn K N=true:=by
 unfold nsOkIn;rw[l];dsimp only;rw[<-Jo];exact h
def zS{M:KF}{c0:KB}{dd:Option KF}{cd:Vb}(l:K.lookup M=be #[c0,dd,.cls cd,sl])(hn:cd.ns=N)(h1:nsOkIn K N=true)(h2:nsIn K N "__init__"=be x8):tailIn K veLine (.ref M::veLine)=true:=by
 unfold tailIn;subst hn;dsimp only;rw[l];dsimp only;rw[h1,h2,zR];simp
def zT:kitOne K (.ref C) (.ref C)=be true:=by
 unfold kitOne;rw[if_pos (beq_self_eq_true _)]
def so(S:SpX):SpD:=λds R=>S ds R λ_ _=>False
def CalX.no{base:Heap}{n:Nat}{ps:List J7}{S:SpX}(C:CalX P w K mg base n x ps S):CalD P w K mg base n x ps (so S):=by
 let#[f,fd,F,hb,hk,hm]:=C;refine#[f,fd,F.imp λvs H Q E h=>?_,hb,hk,hm];let#[F,ds,fh,rs,R,h,q]:=h;exact#[F,ds,fh,rs,R,_,h,q,λ_ _ _ _ _ _ _ z=>z.elim]
end My
namespace My
def repS(x:J7)(n:Nat):Str:=#[(GI n x.cps.toList).flatten.toArray]
def sq(x:J7)(n:Nat):(GI n x.cps).foldl (·++·) [].toArray=(GI n x.cps.toList).flatten.toArray:=by
 have:∀(m:Nat) (g7:List Nat),(GI m x.cps).foldl (·++·) g7.toArray=(g7++(GI m x.cps.toList).flatten).toArray:=by
  intro m;induction m with
  |zero=>intro g7;simp
  |succ m ih=>
   intro g7;rw[G8,Jc,G8,Hn,<-GZ];rw[show g7.toArray++x.cps=(g7++x.cps.toList).toArray by simp];exact ih _
 have h:=this n [];simpa using h
def sr(x:J7)(n:Nat):(repS x n).length=n*x.length:=by
 show(GI n x.cps.toList).flatten.toArray.size=n*x.cps.size;rw[GC];induction n with
 |zero=>simp
 |succ n ih=>rw[G8,Hn,GF,ih,Ia,Iz];simp
def ss{α:Type}(l:List α):∀m:Nat,(GQ m).filterMap (λk=>l[k]?)=l.take m
 |0=>by simp
 |m+1=>by
  rw[IG,List.filterMap_append,ss l m,Jp];cases h:l[m]?<;>simp[h]
def zU(lo hi:Option Int)(n:Nat):Builtin.Str.strSliceIndices lo hi 1 n=(GQ (HT.sIx n n hi-HT.sIx n 0 lo)).map λk=>HT.sIx n 0 lo+k:=by
 have Kh:∀(i:Int) (d:Nat),max 0 (min (if i<0 then i+(n:Int)else i) (n:Int))=((HT.sIx n d (be i):Nat):Int):=by
  intro i d;show max 0 (min (if i<0 then i+(n:Int)else i) (n:Int))=(((if i<0 then(i+(n:Int)).toNat else min i.toNat n):Nat):Int);by_cases h:i<0
  .rw[if_pos h,if_pos h];lia
  .rw[if_neg h,if_neg h];lia
 have h1:Builtin.Str.strSliceIndices lo hi 1 n=sliceRange ((HT.sIx n 0 lo:Nat):Int) ((HT.sIx n n hi:Nat):Int) 1:=by
  unfold Builtin.Str.strSliceIndices;simp only[show(1:Int)>0 by decide,if_true];cases lo with
  |none=>cases hi with
   |none=>rfl
   |some j=>rw[<-Kh j n];rfl
  |some i=>cases hi with
   |none=>rw[<-Kh i 0];rfl
   |some j=>rw[<-Kh i 0,<-Kh j n]
 rw[h1];unfold sliceRange;simp only[show(1:Int)>0 by decide,if_true];have e3:(if((HT.sIx n 0 lo:Nat):Int)<((HT.sIx n n hi:Nat):Int)then(((HT.sIx n n hi:Nat):Int)-((HT.sIx n 0 lo:Nat):Int)+1-1)/1 else 0).toNat=HT.sIx n n hi-HT.sIx n 0 lo:=by
  split<;>lia
 rw[e3];apply List.map_congr_left;intro k _;lia
def slice_cps(y:J7)(lo hi:Option Int):Txt.slice y lo hi=#[((y.cps.toList.drop (HT.sIx y.length 0 lo)).take (HT.sIx y.length y.length hi-HT.sIx y.length 0 lo)).toArray]:=by
 have la:HT.sIx y.length 0 lo<=y.length:=HT.sIx_le _ _ (GT _) lo;have lb:HT.sIx y.length y.length hi<=y.length:=HT.sIx_le _ _ (Gv _) hi;unfold Txt.slice;rw[zU];split
 .rename_i h;have hl:HT.sIx y.length y.length hi-HT.sIx y.length 0 lo=y.length:=by simpa using h
  have ha:HT.sIx y.length 0 lo=0\/y.length=0:=KZ
  rw[hl];let#[cp]:=y;have e:(HU (HT.sIx (Str.mk cp).length 0 lo) cp.toList)=cp.toList:=by
   rcases ha with ha|ha
   .rw[ha];rfl
   .have:cp=[].toArray:=Jq ha;subst this;simp
  show(#[cp]:J7)=#[((HU (HT.sIx (Str.mk cp).length 0 lo) cp.toList).take cp.size).toArray];rw[e,Jr K8]
 .congr 2;rw[Ja];have:=ss (y.cps.toList.drop (HT.sIx y.length 0 lo)) (HT.sIx y.length y.length hi-HT.sIx y.length 0 lo);rw[<-this];congr 1;funext k;simp
section
variable {X:Cx}[J:Jx]{a b c e:SZ}{ta tb tc te:TD}{pos:TX}
def su:R2:=λx y H Q=>∃i n,x=.str i/\y=.int n/\(-(2^62)<=n/\n<=1000000/\i.length*n.toNat<=1000000)/\Q (.str (repS i n.toNat)) H
def zV:OpR X (T8 .Mult) su:=by
 intro pins s σ H x y v u Q I rx ry h;let#[i,n,rfl,rfl,#[h1,h2,h3],q]:=h;let#[t,rfl]:=rx;let#[t',rfl]:=ry;have c_:∀tk t2,EP X pins σ Q (.str (repS i n.toNat) t2) {s with toks:=tk}:=λtk t2=>#[.str _,H,I.tok tk,#[_,rfl],q];have hs:i.length*n.toNat<=sizeLine:=GD h3 K3;refine PySem.P.mul_str (by
  have a1:¬n< -(2^63:Int):=KZ
  have a2:¬n>=2^63:=KZ
  rw[decide_eq_false a1,decide_eq_false a2];rfl) (λn1 n2 hg=>?_) (λn1 n2=>?_) ?_
 .have hn:0<n:=by lia
  have h5:(2^63-1)/n>=1000000000000:=by
   have:(1000000000000:Int)*n<=2^63-1:=by lia
   exact Js hn this
  have h6:i.length<=1000000:=by
   have:i.length*1<=i.length*n.toNat:=Jt _ KZ;lia
  lia
 .unfold Builtin.Str.tooLong;exact decide_eq_false KZ
 .by_cases c1:n<1
  .rw[if_pos c1];have e0:n.toNat=0:=by lia
   have:=c_ (s.toks+1) s.toks;rw[e0]at this;exact#[GT _,this]
  .rw[if_neg c1];by_cases c2:(n==1||i.length==0)=true
   .rw[if_pos c2];have e1:repS i n.toNat=i:=by
     rcases Jn.mp c2 with c|c
     .have:n=1:=by simpa using c
      subst this;show(#[(GI 1 i.cps.toList).flatten.toArray]:J7)=i;simp
     .have h0:i.length=0:=by simpa using c
      have h1:i.cps=[].toArray:=Jq h0;let#[cp]:=i;dsimp only at h1;subst h1;show(#[(GI n.toNat []).flatten.toArray]:J7)=#[[].toArray];simp
    have:=c_ s.toks t;rw[e1]at this;exact this
   .rw[if_neg c2];have:=c_ (s.toks+1) s.toks;unfold repS at this;rw[<-sq]at this;refine#[?_,this];show((GI n.toNat i.cps).foldl (·++·) [].toArray).size<=sizeLine;rw[sq,GC];have:=sr i n.toNat;have e3:(repS i n.toNat).length=(GI n.toNat i.cps.toList).flatten.length:=by show(GI n.toNat i.cps.toList).flatten.toArray.size=_;rw[GC]
    rw[<-e3,this,IA];exact hs
def rdMulX:RD2:=λx y R=>match x,y with
 |.int i,.int j=>CMul i j/\R (.int (i*j))
 |.str i,.int n=>(-(2^62)<=n/\n<=1000000/\i.length*n.toNat<=1000000)/\R (.str (repS i n.toNat))
 |.lst xs,.int n=>(-(2^62)<=n/\n<=1000000/\xs.length*n.toNat<=1000000)/\R (.lst (GI n.toNat xs).flatten)
 |_,_=>False
def Reps.rep{K:Ex}{F:Hp}{xs:List D}{us:List V}(r:Reps K F xs us):∀n:Nat,Reps K F (GI n xs).flatten (GI n us).flatten
 |0=>reps_nil.mpr rfl
 |n+1=>by
  rw[G8,Hn,G8,Hn];exact r.append (Reps.rep r n)
def zW{K:Ex}:bb K (λx y H Q=>rI CMul (λi j=>.int (i*j)) x y H Q\/(su x y H Q\/rRep x y H Q)) rdMulX:=by
 intro x y u v F H R Q fh h rx ry q;unfold rdMulX at h;split at h
 .exact .inl #[_,_,rep_int.mp rx,rep_int.mp ry,h.1,q _ _ F H (Grow.refl fh) h.2 (rep_int.mpr rfl)]
 .exact .inr (.inl #[_,_,rep_str.mp rx,rep_int.mp ry,h.1,q _ _ F H (Grow.refl fh) h.2 (rep_str.mpr rfl)])
 .let#[l,vs,rfl,hq,rr]:=rep_lst.mp rx;let#[#[h1,h2,h3],h]:=h;refine .inr (.inr #[l,_,vs,rfl,rep_int.mp ry,fh _ _ hq,KZ,KZ,by rw[rr.length];exact GD h3 K3,λp hp=>?_]);exact q _ _ _ _ (Grow.new fh hp _) h (rep_lst.mpr #[p,_,rfl,aB,(Reps.rep rr _).mono (aQ (fh.free hp) _)])
 .exact h.elim
def zX(ha:WDE X a ta)(hb:WDE X b tb):WDE X (.BinOp a .Mult b pos) (dOp rdMulX ta tb):=#[dv (OpR.or pU (OpR.or zV qF)) zW ha.out hb.out]
def sv:SlR X (λx lo hi H Q=>∃y,x=.str y/\y.length<=sizeLine/\Q (.str (Txt.slice y lo hi)) H):=by
 intro pins s σ H x v vl vu lo hi sl Q I rx hs pl pu h;let#[y,rfl,hz,q]:=h;let#[t,rfl]:=rx;have c_:∀t' k,EP X pins σ Q (.str (Txt.slice y lo hi) t') {s with toks:=k}:=λt' k=>#[.str _,H,I.tok k,#[_,rfl],q];have le:=GD (Txt.slice_le y lo hi) hz;refine#["str",_,PySem.F.slot_str_getitem.lookup,U4 _ _ _,?_];cases pl with
 |none=>cases pu with
  |none=>exact Ug (l:=x8) (u:=x8) (st:=x8) hs rfl (UK #[le,c_])
  |int j tj=>exact Ug (l:=x8) (u:=be (j,tj)) (st:=x8) hs rfl (UK #[le,c_])
 |int i ti=>cases pu with
  |none=>exact Ug (l:=be (i,ti)) (u:=x8) (st:=x8) hs rfl (UK #[le,c_])
  |int j tj=>exact Ug (l:=be (i,ti)) (u:=be (j,tj)) (st:=x8) hs rfl (UK #[le,c_])
abbrev TDO:=SD->(Option Int->Prop)->Prop
def zY:TDO:=λ_ R=>R x8
def zZ(te:TD):TDO:=λz R=>te z λx=>match x with|.int i=>R (be i)|_=>False
def lO(K:Ex)[J:Jx](t:TDO):TO:=λs H Q=>∃B F z,Kept B J.F0 F H/\RepS K B F H z s/\∃R:Option Int->Prop,t z R/\∀o F' H',Grow F H F' H'->R o->Q o H'
abbrev DPO(X:Cx)[Jx](e:Option SZ)(t:TDO):Prop:=PO X e (lO X.K t)
structure WDPO(X:Cx)[Jx](e:Option SZ)(t:TDO):Prop where
 out:DPO X e t
def PO.anti{X:Cx}{e:Option SZ}{t t':TO}(h:PO X e t)(a:∀s H Q,t' s H Q->t s H Q):PO X e t':=λpins s σ H Q I q=>h pins s σ H Q I (a _ _ _ q)
def bQ:WDPO X x8 zY:=⟨PO.anti jz λs H Q q=>by
 let#[B,F,z,kf,rs,R,h1,h2]:=q;exact h2 x8 F H (Grow.refl kf.fh) h1⟩
def bE(he:WDE X e te):WDPO X (be e) (zZ te):=⟨PO.anti (jA he.out) λs H Q q=>by
 let#[B,F,z,kf,rs,R,h1,h2]:=q;refine#[B,F,z,kf,rs,_,h1,λx u F1 H1 g1 hx rx=>?_];split at hx
 .exact#[_,rep_int.mp rx,h2 _ F1 H1 g1 hx]
 .exact hx.elim⟩
def rdSl:D->Option Int->Option Int->(D->Prop)->Prop:=λx lo hi R=>match x with
 |.str y=>y.length<=1000000/\R (.str (Txt.slice y lo hi))
 |.lst xs=>R (.lst (cutD xs lo hi))
 |.rol xs=>R (.lst (cutD xs lo hi))
 |.tup xs=>¬(HT.sIx xs.length 0 lo=0/\HT.sIx xs.length xs.length hi=xs.length)/\R (.tup (cutD xs lo hi))
 |_=>False
def dSl(ta:TD)(tl th:TDO):TD:=λz R=>ta z λx=>tl z λlo=>th z λhi=>rdSl x lo hi R
def bI{lo hi:Option SZ}{tl th:TDO}{p2:TX}(ha:WDE X a ta)(hl:WDPO X lo tl)(hu:WDPO X hi th):WDE X (.Subscript a (.Slice lo hi x8 p2) pos) (dSl ta tl th):=⟨(gI (SlR.or sv (SlR.or gJ qy)) ha.out hl.out hu.out).anti λs H Q q=>by
 let#[B,F,z,kf,rs,R,h1,h2]:=q;refine#[B,F,z,kf,rs,_,h1,λx u F1 H1 g1 hx rx=>?_];refine#[B,F1,z,kf.grow g1,rs.grow g1,_,hx,λlo F2 H2 g2 hy=>?_];refine#[B,F2,z,(kf.grow g1).grow g2,(rs.grow g1).grow g2,_,hy,λhi F3 H3 g3 hw=>?_];have g:=g1.trans (g2.trans g3);have Ki:=(rx.mono g2.ff).mono g3.ff;unfold rdSl at hw;split at hw
 .exact .inl #[_,rep_str.mp Ki,GD hw.1 K3,h2 _ _ F3 H3 g hw.2 (rep_str.mpr rfl)]
 .let#[l,vs,rfl,hq,rr]:=rep_lst.mp Ki;refine .inr (.inl #[l,vs,rfl,SqL.of (g3.fh _ _ hq),λp hp=>?_]);exact h2 _ _ _ _ (g.trans (Grow.new g3.fh hp _)) hw (rep_lst.mpr #[p,_,rfl,aB,(rr.cut _ _).mono (aQ (g3.fh.free hp) _)])
 .let#[l,vs,rfl,hq,rr]:=rep_rol.mp Ki;refine .inr (.inl #[l,vs,rfl,g3.fh.seq hq,λp hp=>?_]);exact h2 _ _ _ _ (g.trans (Grow.new g3.fh hp _)) hw (rep_lst.mpr #[p,_,rfl,aB,(rr.cut _ _).mono (aQ (g3.fh.free hp) _)])
 .let#[l,vs,rfl,hq,rr]:=rep_tup_mp Ki;refine .inr (.inr #[l,vs,rfl,g3.fh.tup hq,by rw[rr.length];exact hw.1,λp hp=>?_]);exact h2 _ _ _ _ (g.trans (Grow.new g3.fh hp _)) hw.2 (rep_tupS.mpr #[p,_,rfl,aB,(rr.cut _ _).mono (aQ (g3.fh.free hp) _)])
 .exact hw.elim⟩
def rdIn(neg:Bool):RD2:=λx y R=>match y with
 |.str j=>kdS x λi=>R (.bl (if neg then !(!(Builtin.Str.occurrences j i 0 j.length 1).isEmpty)else !(Builtin.Str.occurrences j i 0 j.length 1).isEmpty))
 |.lst ys=>(bo x=true/\ys.all bo=true)/\R (.bl (if neg then !(ys.any λy=>eqF y x)else ys.any λy=>eqF y x))
 |.rol ys=>(bo x=true/\ys.all bo=true)/\R (.bl (if neg then !(ys.any λy=>eqF y x)else ys.any λy=>eqF y x))
 |.tup ys=>(bo x=true/\ys.all bo=true)/\R (.bl (if neg then !(ys.any λy=>eqF y x)else ys.any λy=>eqF y x))
 |_=>False
def hU{K:Ex}{H:Hp}{x:D}{u:V}(rx:Rep K H x u)(fx:bo x=true):∀{ys:List D} {vs:List V},Reps K H ys vs->ys.all bo=true->inV u vs=ys.any λy=>eqF y x
 |[],vs,r,_=>by rw[reps_nil.mp r];rfl
 |y::ys,vs,r,f=>by
  let#[v,vr,rfl,r1,r2]:=reps_cons.mp r;rw[Hd,GY]at f;have ih:=hU rx fx r2 f.2;unfold inV at ih ⊢;rw[HE,HE,ih,jU r1 rx f.1 fx]
def rInV(K:Ex)(neg:Bool):R2:=λx y H Q=>(∃i j,x=.str i/\y=.str j/\Q (.bl (if neg then !(!(Builtin.Str.occurrences j i 0 j.length 1).isEmpty)else !(Builtin.Str.occurrences j i 0 j.length 1).isEmpty)) H)\/rIn K neg x y H Q
def hV{K:Ex}{neg:Bool}:bb K (rInV K neg) (rdIn neg):=by
 intro x y u v F H R Q fh h rx ry q;cases y with
 |str j=>
  replace h:=kdS.of h;let#[i,rfl,h]:=h;exact .inl #[_,_,rep_str.mp rx,rep_str.mp ry,q _ _ F H (Grow.refl fh) h (rep_bl.mpr rfl)]
 |lst ys=>
  let#[#[f1,f2],h]:=h;let#[l,vs,rfl,hq,rr]:=rep_lst.mp ry;exact .inr #[l,vs,rfl,.inl (fh.seq (SqL.of hq)),fV rx f1,cR rr f2,q _ _ F H (Grow.refl fh) h (rep_bl.mpr (by rw[hU rx f1 rr f2]))]
 |rol ys=>
  let#[#[f1,f2],h]:=h;let#[l,vs,rfl,hq,rr]:=rep_rol.mp ry;exact .inr #[l,vs,rfl,.inl (fh.seq hq),fV rx f1,cR rr f2,q _ _ F H (Grow.refl fh) h (rep_bl.mpr (by rw[hU rx f1 rr f2]))]
 |tup ys=>
  let#[#[f1,f2],h]:=h;let#[l,vs,rfl,hq,rr]:=rep_tup_mp ry;exact .inr #[l,vs,rfl,.inr (fh.tup hq),fV rx f1,cR rr f2,q _ _ F H (Grow.refl fh) h (rep_bl.mpr (by rw[hU rx f1 rr f2]))]
 |_=>exact False.elim h
def sy:OpR X (TU .In) (rInV X.K false):=OpR.or xn yb
def sA:OpR X (TU .NotIn) (rInV X.K true):=OpR.or yd yc
def kr(ha:WDE X a ta)(hb:WDE X b tb)(hm:(T4 .In b=false)\zA0):WDE X (.Compare a [.In] [b] pos) (dOp (rdIn false) ta tb):=#[gN sy hV ha.out hb.out hm]
def sB(ha:WDE X a ta)(hb:WDE X b tb)(hm:(T4 .In b=false)\zA0):WDT X (.Compare a [.In] [b] pos) (dTst (dOp (rdIn false) ta tb)):=#[cq sy hV ha.out hb.out hm]
def Aa(ha:WDE X a ta)(hb:WDE X b tb)(hm:(T4 .NotIn b=false)\zA0):WDT X (.Compare a [.NotIn] [b] pos) (dTst (dOp (rdIn true) ta tb)):=#[cq sA hV ha.out hb.out hm]
def Ab{n m:Nat}{S:SpD}{x:J7}{p:TX}(C:CalD X.prog X.w X.K X.mg X.base n x [] S)(hr:Room m X.A)(hg:Gl X x\zA0)(hn:(n<=m)\zA1)(d9:zND x\zA1):WDE X (.Call (.Name x p) [] [] pos) (rg S dNil):=⟨by
 let#[f,fd,F,hb,hk,hm]:=C;refine(xK F (hr.mono hn) hg hm hk hb .nil eX d9).anti λs H Q h=>?_;let#[B,F,z,kf,rs,R,h1,h2]:=h;exact#[F,[],kf.fh,reps_nil.mpr rfl,R,h1,h2]⟩
end
section
variable {X:Cx}[J:Jx]{a b c e:SZ}{ta tb tc te:TD}{pos:TX}
def bX(x:J7):List D:=x.cps.toList.map λc=>D.str #[[c].toArray]
def signs_get{x:J7}{k c:Nat}(h:x.cps[k]?=be c):(bX x)[k]?=be (.str #[[c].toArray]):=by
 unfold bX;rw[GU,Jd,h];rfl
def sC(x:J7):(bX x).length=x.length:=by unfold bX;rw[GB];simp[Str.length]
variable {j6 iter:SZ}{x:J7}{px:TX}{scope:Uc}{ti:TD}
end
section
variable {X:Cx}[J:Jx]{a b c e o:SZ}{es:List SZ}{ta tb tc te to:TD}{t:TDA}{pos:TX}
abbrev RTx:=J7->List D->(D->Prop)->Prop
def dTx(r:RTx)(to:TD)(t:TDA):TD:=λz R=>to z λx=>match x with|.str y=>t z λds=>r y ds R|_=>False
def MtS(X:Cx)(id:String)(r:RTx):Prop:=∃rv:V->List V->Hp->VK->Prop,MtR X id rv/\∀(y:J7) (ds:List D) (vs:List V) (F H:Hp) (R:D->Prop) (Q:VK),Reps X.K F ds vs->r y ds R->(∀d v,(∀G,Rep X.K G d v)->R d->Q v H)->rv (.str y) vs H Q
variable{b7 a8:TX}
def ku{name:J7}{id:String}{r:RTx}(slot:Slot "str" name id)(L5:typeOf (.builtin id)=pure (.type "method_descriptor"))(hm:MtS X id r)(ho:DE X o to)(ha:DA X (e::es) t)
  (b8:(TM o name X.env (TR o X.env)=TR o X.env)\zA0)
  (f6:zHF X a8 (e::es)\zA0)
  (c5:((b7.endLine==a8.line)=true)\zA0) (hs:zSE X e es\zA0) (k8:zPL X a8 es\zA0):
  DE X (.Call (.Attribute o name b7) (e::es) [] a8) (dTx r to t):=by
 let#[rv,hm,L]:=hm;refine(dq PySem.F.plainAttrs_str slot L5 hm ho ha b8 f6 c5 hs k8).anti λs H Q q=>?_;let#[B,F,z,kf,rs,R,h1,h2]:=q;refine#[B,F,z,kf,rs,_,h1,λx u F1 H1 g1 hx rx=>?_];split at hx
 .rename_i y;rw[rep_str.mp rx];refine#[rfl,B,F1,z,kf.grow g1,rs.grow g1,_,hx,λds vs F2 H2 g2 hy ry=>?_];exact L y ds vs F2 H2 R Q ry hy λd v rd hR=>h2 d v F2 H2 (g1.trans g2) hR (rd F2)
 .exact hx.elim
def rEnds:RTx:=λy ds R=>match ds with|[.str p]=>R (.bl (Txt.endswith y p))|_=>False
def ms_ends:MtS X "str.endswith" rEnds:=by
 refine#[λx vs H Q=>∃y p,x=.str y/\vs=[.str p]/\Q (.bl (Txt.endswith y p)) H,?_,?_]
 .intro pins s σ H x vs v us Q I rx rv h;let#[y,p,rfl,rfl,q]:=h;let#[t,rfl]:=rx;let#[u,rfl,t',rfl]:=vals1 rv;exact SC.endswith #[.bl _,H,I,rfl,q]
 .intro y ds vs F H R Q r h q;unfold rEnds at h;split at h
  .let#[v,vr,rfl,h1,h2]:=reps_cons.mp r;rw[reps_nil.mp h2,rep_str.mp h1];exact#[_,_,rfl,rfl,q _ _ (λ_=>rep_bl.mpr rfl) h]
  .exact h.elim
def Ac(ho:WDE X o to)(ha:WDA X [e] t)(b8:(TM o "endswith" X.env (TR o X.env)=TR o X.env)\zA0)
  (f6:zHF X a8 [e]\zA0)
  (c5:((b7.endLine==a8.line)=true)\zA0) (hs:zSE X e []\zA0):WDE X (.Call (.Attribute o "endswith" b7) [e] [] a8) (dTx rEnds to t):=#[ku PySem.F.slot_str_endswith PySem.F.type_str_endswith ms_ends ho.out ha.out b8 f6 c5 hs]
def rSIndex:RTx:=λy ds R=>match ds with|[.str p]=>∃i rest,Builtin.Str.occurrences y p 0 y.length 1=i::rest/\R (.int (i:Nat))|_=>False
def Ad:MtS X "str.index" rSIndex:=by
 refine#[λx vs H Q=>∃y p i rest,x=.str y/\vs=[.str p]/\Builtin.Str.occurrences y p 0 y.length 1=i::rest/\Q (.int (i:Nat)) H,?_,?_]
 .intro pins s σ H x vs v us Q I rx rv h;let#[y,p,i,rest,rfl,rfl,ho,q]:=h;let#[t,rfl]:=rx;let#[u,rfl,t',rfl]:=vals1 rv;exact SC.index ho #[.int _,H,I.tok _,#[_,rfl],q]
 .intro y ds vs F H R Q r h q;unfold rSIndex at h;split at h
  .let#[i,rest,ho,h]:=h;let#[v,vr,rfl,h1,h2]:=reps_cons.mp r;rw[reps_nil.mp h2,rep_str.mp h1];exact#[_,_,i,rest,rfl,rfl,ho,q _ _ (λ_=>rep_int.mpr rfl) h]
  .exact h.elim
def Ae(ho:WDE X o to)(ha:WDA X [e] t)(b8:(TM o "index" X.env (TR o X.env)=TR o X.env)\zA0)
  (f6:zHF X a8 [e]\zA0)
  (c5:((b7.endLine==a8.line)=true)\zA0) (hs:zSE X e []\zA0):WDE X (.Call (.Attribute o "index" b7) [e] [] a8) (dTx rSIndex to t):=#[ku PySem.F.slot_str_index PySem.F.type_str_index Ad ho.out ha.out b8 f6 c5 hs]
def Reps.init{K:Ex}{F:Hp}:∀{ds:List D} {vs:List V},Reps K F ds vs->Reps K F ds.dropLast vs.dropLast
 |[],vs,r=>by rw[reps_nil.mp r];exact reps_nil.mpr rfl
 |[d],vs,r=>by
  let#[v,vr,rfl,_,h2]:=reps_cons.mp r;rw[reps_nil.mp h2];exact reps_nil.mpr rfl
 |d::d2::ds,vs,r=>by
  let#[v,vr,rfl,h1,h2]:=reps_cons.mp r;let#[v2,RW,rfl,h3,h4]:=reps_cons.mp h2;rw[Ju,Ju];exact reps_cons.mpr #[v,_,rfl,h1,Reps.init h2]
end
end My
namespace My
open Exc
section
variable {X:Cx}{a b c e:SZ}{ta tb tc te:TD}{pos:TX}{st:TF}{rest:List TF}{t u:TSD}
def bt[Jx]{c:SZ}{l r:List TF}{tc:TDT}(hc:WDT X c tc)(ha:WDSs X l t)(hb:WDSs X r u):WDS X (.If c l r pos) (dIfS tc t u):=#[rB (c:=c) (l:=l) (r:=r) (tc:=tc) (hc:=hc.out) (ha:=ha.out) (hb:=hb.out)]
end
section
variable {P:SB}{w:TJ}{K:Ex}{mg:J7->Option KB}{base:Heap}
variable{x qual:J7}{st:TF}{f:KF}{fd:TQ}{N ps:List J7}{k:Nat}
def _root_.L2.Fun.okDW{S:SpD}(T:Fun K x qual st f fd)(F:FnScope N ps (ah st))(len:∀ds R,S ds R->ds.length=ps.length)
  (a9:∀(cdv:KB) (A:TK) (outer:List Uw) (s:KM) (H:Hp) (E:XK) (J:Jx),Room k (A.deeper (TY qual (ah st) s.heap.objs.size f cdv))->
   ∃t,WDSs (cxOf (Exc.CX1 P w) P w K mg base N qual (ah st) f cdv A outer s H E).nox (aL st) t/\∀ds R,S ds R->t {nx:=λ_=>R .non,rt:=R} (startD N ds)):FnOk P w K mg base (Exc.CX1 P w) (k+1) f fd ps (lSp K S):=
 T.okD F len λcdv A outer s H E J hr=>let ⟨t,h,q⟩:=a9 cdv A outer s H E J hr;#[t,h.out,q]
def Tx.okDW{S:SpD}(T:Tx K mg x st ps)(F:FnScope N ps (ah st))(len:∀ds R,S ds R->ds.length=ps.length)
  (a9:∀(f:KF) (cdv:KB) (A:TK) (outer:List Uw) (s:KM) (H:Hp) (E:XK) (J:Jx),Room k (A.deeper (TY x (ah st) s.heap.objs.size f cdv))->
   ∃t,WDSs (cxOf (Exc.CX1 P w) P w K mg base N x (ah st) f cdv A outer s H E).nox (aL st) t/\∀ds R,S ds R->t {nx:=λ_=>R .non,rt:=R} (startD N ds)):CalD P w K mg base (k+1) x ps S:=
 Tx.okD T F len λf cdv A outer s H E J hr=>let ⟨t,h,q⟩:=a9 f cdv A outer s H E J hr;#[t,h.out,q]
def Tx.okXW{S:SpX}(T:Tx K mg x st ps)(F:FnScope N ps (ah st))(len:∀ds R RX,S ds R RX->ds.length=ps.length)
  (a9:∀(f:KF) (cdv:KB) (A:TK) (outer:List Uw) (s:KM) (H:Hp) (E:XK) (J:Jx),Room k (A.deeper (TY x (ah st) s.heap.objs.size f cdv))->XOk (cxOf (CX1 P w) P w K mg base N x (ah st) f cdv A outer s H E)->
   ∃t,WDSs (cxOf (CX1 P w) P w K mg base N x (ah st) f cdv A outer s H E) (aL st) t/\∀ds R RX,(∀z,J.RX z=RX)->S ds R RX->t {nx:=λ_=>R .non,rt:=R} (startD N ds)):CalX P w K mg base (k+1) x ps S:=
 Tx.okX T F len λf cdv A outer s H E J hr hx=>let ⟨t,h,q⟩:=a9 f cdv A outer s H E J hr hx;#[t,h.out,q]
def Cls.okIW{C:KF}{p0:J7}{S:SiD}(T:Fun K "__init__" qual st f fd)(hb:Binds K fd (p0::ps) [])(F:FnScope (p0::N) (p0::ps) (ah st))(len:∀ds R,S ds R->ds.length=ps.length)
  (hns:nsIn K Pi x=be (be (.ref C))) (l9:mg x=be (.ref C)) (mk:Mk K C f)
  (a9:∀(cdv:KB) (A:TK) (outer:List Uw) (s:KM) (H:Hp) (E:XK) (J:Jx),Room k (A.deeper (TY qual (ah st) s.heap.objs.size f cdv))->
   ∃t,WDI (cxOf (Exc.CX1 P w) P w K mg base (p0::N) qual (ah st) f cdv A outer s H E).nox x (aL st) t/\∀ds R,S ds R->t (x8::startD N ds) [] R):CalM P w K mg base (k+1) x (p0::ps) S:=
 Cls.okI T hb F len hns l9 mk λcdv A outer s H E J hr=>let ⟨t,h,q⟩:=a9 cdv A outer s H E J hr;#[t,h.out,q]
def Cls.okEW{C N0:KF}{bm:List KB}{p0:J7}{S:SiD}(T:Fun K "__init__" qual st f fd)(hb:Binds K fd (p0::ps) [])(F:FnScope (p0::N) (p0::ps) (ah st))(len:∀ds R,S ds R->ds.length=ps.length)
  (ek:ErrK K mg x C N0 bm) (hi:GE K (.ref C) "__init__"=be (be (.ref f))) (hf:isFn K (.ref f)=true)
  (a9:∀(cdv:KB) (A:TK) (outer:List Uw) (s:KM) (H:Hp) (E:XK) (J:Jx),Room k (A.deeper (TY qual (ah st) s.heap.objs.size f cdv))->
   ∃t,WDX (cxOf (CX1 P w) P w K mg base (p0::N) qual (ah st) f cdv A outer s H E).nox x (aL st) t/\∀ds R,S ds R->t (x8::startD N ds) [] R):CalE P w K mg base (k+1) x (p0::ps) S:=
 Cls.okE T hb F len ek hi hf λcdv A outer s H E J hr=>let ⟨t,h,q⟩:=a9 cdv A outer s H E J hr;#[t,h.out,q]
end
inductive MO where
 |ins (x:Str) (fs:List (Str×D))|lst (ds:List D)|dti (a_:List ((Int×Int)×Int))
abbrev MS:=List (KF×MO)
def MRep(K:Ex)(F H:Hp)(a:KF):MO->Prop
 |.ins x fs=>∃C dx ws,nsIn K Pi x=be (be (.ref C))/\H a=be (.ins C dx ws)/\RepF K F fs ws
 |.lst ds=>∃vs,H a=be (.lst vs)/\Reps K F ds vs
 |.dti a_=>H a=be (.dT (dtiV a_))
def av(M:MS):List KF:=M.map (·.1)
def mget:MS->KF->Option MO
 |[],_=>x8
 |(b,o)::r,a=>if b=a then be o else mget r a
def mput:MS->KF->MO->MS
 |[],_,_=>[]
 |(b,p)::r,a,o=>if b=a then(b,o)::r else(b,p)::mput r a o
def mdel:MS->KF->MS
 |[],_=>[]
 |(b,p)::r,a=>if b=a then r else(b,p)::mdel r a
def br:∀{M:MS} {a:KF} {o:MO},mget M a=be o->(a,o)∈M
 |[],_,_,h=>by cases h
 |(b,p)::r,a,o,h=>by
  unfold mget at h;split at h
  .rename_i e;subst e;cases h;exact Gz
  .exact Gx _ (br h)
variable{M:MS}{a:KF}{o:MO}
def bJ(h:(a,o)∈M):a∈av M:=GV.mpr #[_,h,rfl]
def hZ:∀(M:MS) (a:KF) (o:MO),av (mput M a o)=av M
 |[],_,_=>rfl
 |(b,p)::r,a,o=>by
  unfold mput;split
  .rfl
  .show b::av (mput r a o)=b::av r;rw[hZ r a o]
def mem_put:∀{M:MS} {a b:KF} {o q:MO},(av M).Nodup->(b,q)∈mput M a o->(b=a/\q=o/\a∈av M)\/(b≠a/\(b,q)∈M)
 |[],_,_,_,_,_,h=>by cases h
 |(c,p)::r,a,b,o,q,nd,h=>by
  have Mo:c∉av r/\(av r).Nodup:=G7.mp nd;unfold mput at h;split at h
  .rename_i e;subst e;rcases GA.mp h with z|z
   .cases z;exact .inl #[rfl,rfl,Gz]
   .have:b∈av r:=bJ z;exact .inr #[λe=>Mo.1 (e ▸ this),Gx _ z]
  .rename_i ne;rcases GA.mp h with z|z
   .cases z;exact .inr #[ne,Gz]
   .rcases mem_put Mo.2 z with⟨e1,e2,e3⟩|⟨e1,e2⟩
    .exact .inl #[e1,e2,Gx _ e3]
    .exact .inr #[e1,Gx _ e2]
def ky:∀{M:MS} {a b:KF} {q:MO},(av M).Nodup->(b,q)∈mdel M a->b≠a/\(b,q)∈M
 |[],_,_,_,_,h=>by cases h
 |(c,p)::r,a,b,q,nd,h=>by
  have Mo:c∉av r/\(av r).Nodup:=G7.mp nd;unfold mdel at h;split at h
  .rename_i e;subst e;exact#[λe=>Mo.1 (e ▸ bJ h),Gx _ h]
  .rename_i ne;rcases GA.mp h with z|z
   .cases z;exact#[ne,Gz]
   .let#[e1,e2]:=ky Mo.2 z;exact#[e1,Gx _ e2]
def del_sub:∀{M:MS} {a:KF},(av (mdel M a)).Sublist (av M)
 |[],_=>.slnil
 |(c,p)::r,a=>by
  unfold mdel;split
  .exact List.sublist_cons_self _ _
  .exact List.Sublist.cons_cons _ del_sub
variable{K:Ex}{F H F' H':Hp}
def MRep.mono(ff:Same F F')(hh:∀o,H a=be o->H' a=be o):∀{o:MO},MRep K F H a o->MRep K F' H' a o
 |.ins x fs,⟨C,dx,ws,n,h,r⟩=>#[C,dx,ws,n,hh _ h,RepF.mono ff fs ws r]
 |.lst ds,⟨vs,h,r⟩=>#[vs,hh _ h,Reps.mono ff ds vs r]
 |.dti a_,h=>hh _ h
def MRep.there:∀{o:MO},MRep K F H a o->H a≠x8
 |.ins x fs,⟨C,dx,ws,n,h,r⟩=>by rw[h];exact λz=>nomatch z
 |.lst ds,⟨vs,h,r⟩=>by rw[h];exact λz=>nomatch z
 |.dti a_,h=>by rw[show H a=_ from h];exact λz=>nomatch z
structure RepM(K:Ex)(F H:Hp)(M:MS):Prop where
 nd:(av M).Nodup
 ok:∀a o,(a,o)∈M->MRep K F H a o
 fr:∀a,a∈av M->F a=x8
def RepM.nil:RepM K F H []:=#[Jv,(λ_ _ h=>nomatch h),(λ_ h=>nomatch h)]
def RepM.here(r:RepM K F H M)(h:a∈av M):H a≠none:=by
 let#[#[b,o],h1,rfl]:=GV.mp h;exact(r.ok _ _ h1).there
structure GrowM(M M':MS)(F H F' H':Hp):Prop where
 ff:Same F F'
 fh:Same F' H'
 hh:∀b o,b∉av M->H b=be o->H' b=be o
 out:∀b,b∉av M->F b=x8->H b≠x8->F' b=x8
 ks:∀b,b∈av M'->b∈av M\/H b=x8
def Grow.toM(g:Grow F H F' H'):GrowM M M F H F' H':=#[g.ff,g.fh,λb o _ h=>g.hh b o h,λb _ h1 h2=>g.out b h1 h2,λb h=>.inl h]
def GrowM.refl(h:Same F H):GrowM M M F H F H:=(Grow.refl h).toM
def GrowM.trans{M1 M2:MS}{F1 H1 F2 H2:Hp}(g:GrowM M M1 F H F1 H1)(k:GrowM M1 M2 F1 H1 F2 H2):GrowM M M2 F H F2 H2 where
  ff:=g.ff.trans k.ff
  fh:=k.fh
  hh:=λb o nb h=>k.hh b o (λz=>by rcases g.ks b z with q|q;exact nb q;rw[q]at h;cases h) (g.hh b o nb h)
  out:=λb nb h1 h2=>k.out b (λz=>by rcases g.ks b z with q|q;exact nb q;exact h2 q) (g.out b nb h1 h2) (by
    cases e:H b with
    |none=>exact absurd e h2
    |some o=>rw[g.hh b o nb e];exact λz=>nomatch z)
  ks :=λb h=>by
    rcases k.ks b h with q|q
    . exact g.ks b q
    . by_cases nb:b∈av M
      . exact .inl nb
      . right;cases e:H b with
        |none=>rfl
        |some o=>rw[g.hh b o nb e]at q;cases q
def RepM.grow(r:RepM K F H M)(g:Grow F H F' H'):RepM K F' H' M:=
 #[r.nd,λa o h=>(r.ok a o h).mono g.ff λo e=>g.hh a o e,λa h=>g.out a (r.fr a h) (r.here h)]
variable{ho:HO}
def RepM.put{o':MO}(r:RepM K F H M)(e:mget M a=be o)(h:MRep K F (upd H a ho) a o'):RepM K F (upd H a ho) (mput M a o'):=
 ⟨by rw[hZ];exact r.nd,λb q hb=>by
  rcases mem_put r.nd hb with⟨rfl,rfl,_⟩|⟨ne,hb⟩
  .exact h
  .exact(r.ok b q hb).mono (Same.refl F) λu z=>by rw[ar ne];exact z,λb hb=>r.fr b (by rw[hZ]at hb;exact hb)⟩
def GrowM.put{o':MO}(fh:Same F H)(fa:F a=x8)(e:mget M a=be o):GrowM M (mput M a o') F H F (upd H a ho) where
 ff:=Same.refl F
 fh:=λb u z=>by
  have ne:b≠a:=by rintro rfl;rw[fa]at z;cases z
  rw[ar ne];exact fh b u z
 hh:=λb u nb z=>by
  have ne:b≠a:=by rintro rfl;exact nb (bJ (br e))
  rw[ar ne];exact z
 out:=λb _ h _=>h
 ks:=λb h=>.inl (by rw[hZ]at h;exact h)
def RepM.new{p:KF}(r:RepM K F H M)(fh:Same F H)(hp:H p=x8)(h:MRep K F (upd H p ho) p o):RepM K F (upd H p ho) ((p,o)::M):=by
 have np:p∉av M:=λz=>r.here z hp;refine#[G7.mpr #[np,r.nd],λb q hb=>?_,λb hb=>?_]
 .rcases GA.mp hb with z|z
  .cases z;exact h
  .exact(r.ok b q z).mono (Same.refl F) λu z'=>by rw[ar (λe:b=p=>np (e ▸ bJ z))];exact z'
 .rcases GA.mp hb with z|z
  .rw[z];exact fh.free hp
  .exact r.fr b z
def GrowM.new{p:KF}(fh:Same F H)(hp:H p=x8):GrowM M ((p,o)::M) F H F (upd H p ho) where
 ff:=Same.refl F
 fh:=fh.trans (aQ hp _)
 hh:=λb u _ z=>aQ hp _ b u z
 out:=λb _ h _=>h
 ks:=λb h=>by
  rcases GA.mp h with z|z
  .exact .inr (by rw[z];exact hp)
  .exact .inl z
structure RepZ(K:Ex)(B F H:Hp)(z:SD)(s:L2.St)(M:MS):Prop where
 rs:RepS K B F H z s
 no:∀(i:Nat) ds,z[i]?≠be (be (.own ds))
 rm:RepM K F H M
 mb:∀a,a∈av M->B a=x8
variable{B:Hp}{M':MS}
def Kept.growM[Jx]{F0:Hp}(k:Kept B F0 F H)(mb:∀a,a∈av M->B a=x8)(g:GrowM M M' F H F' H'):Kept B F0 F' H' where
 bh:=λb o e=>g.hh b o (λz=>by rw[mb b z]at e;cases e) (k.bh b o e)
 fh:=g.fh
 f0:=k.f0.trans g.ff
 out:=λb h1 h2=>g.out b (λz=>h2 (mb b z)) (k.out b h1 h2) (by
  cases e:B b with
  |none=>exact absurd e h2
  |some o=>rw[k.bh b o e];exact λz=>nomatch z)
 eb:=k.eb
 jf:=k.jf
 jo:=k.jo
variable{z:SD}{s:L2.St}
def RepS.growM(r:RepS K B F H z s)(no:∀(i:Nat) ds,z[i]?≠be (be (.own ds)))(g:GrowM M M' F H F' H'):RepS K B F' H' z s where
 len:=r.len
 val:=λi d e n=>let ⟨v,q1,q2⟩:=r.val i d e n;#[v,q1,q2.mono g.ff]
 own:=λi ds e=>absurd e (no i ds)
 apart:=r.apart
def RepZ.growM(r:RepZ K B F H z s M)(bh:Same B H)(g:GrowM M M' F H F' H')(rm:RepM K F' H' M'):RepZ K B F' H' z s M':=
 ⟨r.rs.growM r.no g,r.no,rm,λa h=>by
  rcases g.ks a h with q|q
  .exact r.mb a q
  .exact bh.free q⟩
def RepZ.set{i:Nat}{d:D}{v:V}(r:RepZ K B F H z s M)(rd:Rep K F d v):RepZ K B F H (z.set i (be d)) (s.set i (be v)) M:=
 ⟨r.rs.set rd,λj ds e=>by
  by_cases hj:i=j
  .subst hj;rw[HG]at e;simp at e;have:=rd.noown;rw[e.2]at this;cases this
  .rw[GL hj]at e;exact r.no j ds e,r.rm,r.mb⟩
class Jm extends Jx where
 RM:SD->MS->XD
abbrev TME:=SD->MS->(D->MS->Prop)->Prop
abbrev TMT:=SD->MS->(Bool->MS->Prop)->Prop
abbrev TMA:=SD->MS->(List D->MS->Prop)->Prop
structure EndsM where
 nx:SD->MS->Prop
 rt:D->MS->Prop
 bk:SD->MS->Prop:=λ_ _=>False
 ct:SD->MS->Prop:=λ_ _=>False
abbrev TMS:=EndsM->SD->MS->Prop
def mE(K:Ex)[J:Jm](t:TME):TE:=λs H Q=>∃F z M,Kept J.B J.F0 F H/\RepZ K J.B F H z s M/\∃R:D->MS->Prop,t z M R/\∀d v M' F' H',GrowM M M' F H F' H'->R d M'->Rep K F' d v->RepM K F' H' M'->Q v H'
def mT(K:Ex)[J:Jm](t:TMT):TT:=λs H Q=>∃F z M,Kept J.B J.F0 F H/\RepZ K J.B F H z s M/\∃R:Bool->MS->Prop,t z M R/\∀b M' F' H',GrowM M M' F H F' H'->R b M'->RepM K F' H' M'->Q b H'
def mA(K:Ex)[J:Jm](t:TMA):TA:=λs H Q=>∃F z M,Kept J.B J.F0 F H/\RepZ K J.B F H z s M/\∃R:List D->MS->Prop,t z M R/\∀ds vs M' F' H',GrowM M M' F H F' H'->R ds M'->Reps K F' ds vs->RepM K F' H' M'->Q vs H'
structure EndsOkM[J:Jm](K:Ex)(F0:Hp)(ED:EndsM)(E:Ends):Prop where
 nx:∀z' s' M' F' H',Kept J.B F0 F' H'->ED.nx z' M'->RepZ K J.B F' H' z' s' M'->E.nx s' H'
 rt:∀d v M' F' H',Kept J.B F0 F' H'->ED.rt d M'->Rep K F' d v->RepM K F' H' M'->(∀a,a∈av M'->J.B a=x8)->E.rt v H'
 bk:∀z' s' M' F' H',Kept J.B F0 F' H'->ED.bk z' M'->RepZ K J.B F' H' z' s' M'->E.bk s' H'
 ct:∀z' s' M' F' H',Kept J.B F0 F' H'->ED.ct z' M'->RepZ K J.B F' H' z' s' M'->E.ct s' H'
def mS(K:Ex)[J:Jm](t:TMS):TS:=λE s H=>∃F0 F z M,Kept J.B F0 F H/\RepZ K J.B F H z s M/\∃ED:EndsM,t ED z M/\EndsOkM K F0 ED E
structure ME(X:Cx)[Jm](e:SZ)(t:TME):Prop where
 out:PE X e (mE X.K t)
structure MT(X:Cx)[Jm](e:SZ)(t:TMT):Prop where
 out:PT X e (mT X.K t)
structure MW(X:Cx)[Jm](e:SZ)(t:TMT):Prop where
 out:PW X e (mT X.K t)
structure MA(X:Cx)[Jm](es:List SZ)(t:TMA):Prop where
 out:PA X es (mA X.K t)
structure MSt(X:Cx)[Jm](st:TF)(t:TMS):Prop where
 out:PS X st (mS X.K t)
structure MSs(X:Cx)[Jm](st:List TF)(t:TMS):Prop where
 out:PSs X st (mS X.K t)
section
variable {X:Cx}{a b c e:SZ}{ta tb:TME}{pos:TX}
def mP(t:TD):TME:=λz M R=>t z λd=>R d M
def mPT(t:TDT):TMT:=λz M R=>t z λd=>R d M
def mPA(t:TDA):TMA:=λz M R=>t z λd=>R d M
def af[J:Jm]{t:TD}(h:WDE X e t):ME X e (mP t):=⟨PE.anti h.out λs H Q q=>by
 let#[F,z,M,k,r,R,h1,h2]:=q;exact#[J.B,F,z,k,r.rs,_,h1,λd v F' H' g hd rd=>h2 d v M F' H' g.toM hd rd (r.rm.grow g)]⟩
def aP[J:Jm]{t:TDT}(h:WDT X e t):MT X e (mPT t):=⟨PT.anti h.out λs H Q q=>by
 let#[F,z,M,k,r,R,h1,h2]:=q;exact#[J.B,F,z,k,r.rs,_,h1,λd F' H' g hd=>h2 d M F' H' g.toM hd (r.rm.grow g)]⟩
variable{es:List SZ}
def aA[J:Jm]{t:TDA}(h:WDA X es t):MA X es (mPA t):=⟨PA.anti h.out λs H Q q=>by
 let#[F,z,M,k,r,R,h1,h2]:=q;exact#[J.B,F,z,k,r.rs,_,h1,λd v F' H' g hd rd=>h2 d v M F' H' g.toM hd rd (r.rm.grow g)]⟩
def mOp(r:RD2)(ta tb:TME):TME:=λz M R=>ta z M λx M1=>tb z M1 λy M2=>r x y λd=>R d M2
variable{r:R2}{rd:RD2}
def sE[J:Jm]{e:SZ}{ta tb:TME}(L:bb X.K r rd)(h:PE X e (tOp r (mE X.K ta) (mE X.K tb))):ME X e (mOp rd ta tb):=⟨h.anti λs H Q q=>by
 let#[F,z,M,k,rs,R,h1,h2]:=q;refine#[F,z,M,k,rs,_,h1,λx u M1 F1 H1 g1 hx rx m1=>?_];refine#[F1,z,M1,k.growM rs.mb g1,rs.growM k.bh g1 m1,_,hx,λy v M2 F2 H2 g2 hy ry m2=>?_];exact L x y u v F2 H2 _ Q g2.fh hy (rx.mono g2.ff) ry λd w F3 H3 g3 hd rd=>h2 d w M2 F3 H3 ((g1.trans g2).trans g3.toM) hd rd (m2.grow g3)⟩
def sF[J:Jm]{op:U8}(ho:OpR X (T8 op) r)(L:bb X.K r rd)(ha:ME X a ta)(hb:ME X b tb):ME X (.BinOp a op b pos) (mOp rd ta tb):=sE L (gD ho ha.out hb.out)
def sG[J:Jm](ha:ME X a ta)(hb:ME X b tb)(hs:fN b\zA6):ME X (.Subscript a b pos) (mOp rdIx ta tb):=sE rb (pe_ix qB ha.out hb.out hs)
def ia[Jm](ha:ME X a ta)(hb:ME X b tb):ME X (.BinOp a .Add b pos) (mOp jH ta tb):=sF qL qM ha hb
def ib[Jm](ha:ME X a ta)(hb:ME X b tb):ME X (.BinOp a .Sub b pos) (mOp jI ta tb):=sF pT qN ha hb
def mTst(t:TME):TMT:=λz M R=>t z M λx M1=>match x with|.bl k=>R k M1|_=>False
def dS[J:Jm]{op:VH}(ho:OpR X (TU op) r)(L:bb X.K r rd)(ha:ME X a ta)(hb:ME X b tb)(hm:T4 op b=false):MT X (.Compare a [op] [b] pos) (mTst (mOp rd ta tb)):=⟨(gE ho ha.out hb.out hm).anti λs H Q q=>by
 let#[F,z,M,k,rs,R,h1,h2]:=q;refine#[F,z,M,k,rs,_,h1,λx u M1 F1 H1 g1 hx rx m1=>?_];refine#[F1,z,M1,k.growM rs.mb g1,rs.growM k.bh g1 m1,_,hx,λy v M2 F2 H2 g2 hy ry m2=>?_];refine L x y u v F2 H2 _ _ g2.fh hy (rx.mono g2.ff) ry λd w F3 H3 g3 hd rd=>?_;dsimp only at hd;split at hd
 .exact#[_,rep_bl.mp rd,h2 _ M2 F3 H3 ((g1.trans g2).trans g3.toM) hd (m2.grow g3)]
 .exact hd.elim⟩
def sH[Jm](ha:ME X a ta)(hb:ME X b tb):MT X (.Compare a [.Lt] [b] pos) (mTst (mOp rdLt ta tb)):=dS js jJ ha hb (nomark _)
def Af[Jm](ha:ME X a ta)(hb:ME X b tb):MT X (.Compare a [.Gt] [b] pos) (mTst (mOp rdGt ta tb)):=dS jt jK ha hb (nomark _)
def ic[Jm](ha:ME X a ta)(hb:ME X b tb):MT X (.Compare a [.Eq] [b] pos) (mTst (mOp rdEq ta tb)):=dS jr jL ha hb (nomark _)
def Ag[Jm](ha:ME X a ta)(hb:ME X b tb):MT X (.Compare a [.NotEq] [b] pos) (mTst (mOp rdNe ta tb)):=dS pZ qX ha hb (nomark _)
def sI[Jm](ha:ME X a ta)(hb:ME X b tb):MT X (.Compare a [.Is] [b] pos) (mTst (mOp (rdIs id) ta tb)):=dS qc ra ha hb (nomark _)
def Ah[Jm](ha:ME X a ta)(hb:ME X b tb)(hm:(T4 .NotIn b=false)\zA0):MT X (.Compare a [.NotIn] [b] pos) (mTst (mOp (rdIn true) ta tb)):=dS sA hV ha hb hm
variable {tA tB:TMT}{rest:List SZ}
def mt_w[Jm](h:MW X a tA):MT X a tA:=#[PW.pt h.out]
def sJ[Jm](ha:MT X a tA):MW X (.BoolOp .And [a] pos) tA:=#[pE ha.out]
def kz[Jm](ha:MT X a tA):MW X (.BoolOp .Or [a] pos) tA:=#[pF ha.out]
def mAnd(tA tB:TMT):TMT:=λz M R=>tA z M λk M1=>if k=true then tB z M1 R else R false M1
def mOr(tA tB:TMT):TMT:=λz M R=>tA z M λk M1=>if k=true then R true M1 else tB z M1 R
def kA[J:Jm](ha:MT X a tA)(hb:MW X (.BoolOp .And (b::rest) pos) tB):MW X (.BoolOp .And (a::b::rest) pos) (mAnd tA tB):=⟨(pG ha.out hb.out).anti λs H Q q=>by
 let#[F,z,M,k,rs,R,h1,h2]:=q;refine#[F,z,M,k,rs,_,h1,λx M1 F1 H1 g1 hx m1=>?_];cases x with
 |true=>exact#[F1,z,M1,k.growM rs.mb g1,rs.growM k.bh g1 m1,R,hx,λy M2 F2 H2 g2 hy m2=>h2 y M2 F2 H2 (g1.trans g2) hy m2]
 |false=>exact h2 _ M1 F1 H1 g1 hx m1⟩
def ie[J:Jm](ha:MT X a tA)(hb:MW X (.BoolOp .Or (b::rest) pos) tB):MW X (.BoolOp .Or (a::b::rest) pos) (mOr tA tB):=⟨(pH ha.out hb.out).anti λs H Q q=>by
 let#[F,z,M,k,rs,R,h1,h2]:=q;refine#[F,z,M,k,rs,_,h1,λx M1 F1 H1 g1 hx m1=>?_];cases x with
 |false=>exact#[F1,z,M1,k.growM rs.mb g1,rs.growM k.bh g1 m1,R,hx,λy M2 F2 H2 g2 hy m2=>h2 y M2 F2 H2 (g1.trans g2) hy m2]
 |true=>exact h2 _ M1 F1 H1 g1 hx m1⟩
def mIf(tc:TMT)(ta tb:TME):TME:=λz M R=>tc z M λk M1=>if k=true then ta z M1 R else tb z M1 R
def gh[J:Jm]{tc:TMT}(hc:MT X c tc)(ha:ME X a ta)(hb:ME X b tb):ME X (.IfExp c a b pos) (mIf tc ta tb):=⟨(wN hc.out ha.out hb.out).anti λs H Q q=>by
 let#[F,z,M,k,rs,R,h1,h2]:=q;refine#[F,z,M,k,rs,_,h1,λx M1 F1 H1 g1 hx m1=>?_];cases x with
 |true=>exact#[F1,z,M1,k.growM rs.mb g1,rs.growM k.bh g1 m1,R,hx,λd v M2 F2 H2 g2 hy rd m2=>h2 d v M2 F2 H2 (g1.trans g2) hy rd m2]
 |false=>exact#[F1,z,M1,k.growM rs.mb g1,rs.growM k.bh g1 m1,R,hx,λd v M2 F2 H2 g2 hy rd m2=>h2 d v M2 F2 H2 (g1.trans g2) hy rd m2]⟩
def mNil:TMA:=λ_ M R=>R [] M
def Ai(ta:TME)(tr:TMA):TMA:=λz M R=>ta z M λx M1=>tr z M1 λxs M2=>R (x::xs) M2
def bp[J:Jm]:MA X [] mNil:=⟨pa_nil.anti λs H Q q=>by
 let#[F,z,M,k,rs,R,h1,h2]:=q;exact h2 [] [] M F H (GrowM.refl k.fh) h1 (reps_nil.mpr rfl) rs.rm⟩
variable{t:TMA}
def aM[J:Jm]{e:SZ}{te:TME}(ha:ME X e te)(hr:MA X es t)(hs:zSE X e es\zA0):MA X (e::es) (Ai te t):=⟨(bw ha.out hr.out hs).anti λs H Q q=>by
 let#[F,z,M,k,rs,R,h1,h2]:=q;refine#[F,z,M,k,rs,_,h1,λx u M1 F1 H1 g1 hx rx m1=>?_];refine#[F1,z,M1,k.growM rs.mb g1,rs.growM k.bh g1 m1,_,hx,λxs us M2 F2 H2 g2 hy ry m2=>?_];exact h2 _ _ M2 F2 H2 (g1.trans g2) hy (reps_cons.mpr #[_,_,rfl,rx.mono g2.ff,ry]) m2⟩
def mTup(t:TMA):TME:=λz M R=>t z M λxs M1=>xs.length<=1000/\R (.tup xs) M1
def sK[J:Jm]{x1}(h:MA X es t):ME X (.Tuple es x1 pos) (mTup t):=⟨(qo h.out).anti λs H Q q=>by
 let#[F,z,M,k,rs,R,h1,h2]:=q;refine#[F,z,M,k,rs,_,h1,λds vs M1 F1 H1 g1 hx rx m1=>?_];have hl:=rx.length;refine#[sz (by rw[hl];exact hx.1),λp hp=>?_];have gn:=Grow.new g1.fh hp (.tup vs);exact h2 _ _ M1 _ _ (g1.trans gn.toM) hx.2 (rep_tupS.mpr #[p,vs,rfl,aB,rx.mono (aQ (g1.fh.free hp) _)]) (m1.grow gn)⟩
def mLst(t:TMA):TME:=λz M R=>t z M λxs M1=>xs.length<=1000/\∀p,p∉av M1->R (.ptr p) ((p,.lst xs)::M1)
def fv[J:Jm](h:MA X es t):ME X (.List es pos) (mLst t):=⟨(jw h.out).anti λs H Q q=>by
 let#[F,z,M,k,rs,R,h1,h2]:=q;refine#[F,z,M,k,rs,_,h1,λds vs M1 F1 H1 g1 hx rx m1=>?_];have hl:=rx.length;refine#[sz (by rw[hl];exact hx.1),λp hp=>?_];exact h2 _ _ _ F1 _ (g1.trans (GrowM.new g1.fh hp)) (hx.2 p λz=>m1.here z hp) (rep_ptr.mpr rfl) (m1.new g1.fh hp #[vs,aB,rx])⟩
def mCB(r:RDn)(t:TMA):TME:=λz M R=>t z M λds M1=>r ds λd=>R d M1
variable{x:J7}{p:TX}
def Aj[J:Jm]{e:SZ}{id:String}{r:List V->Hp->VK->Prop}{rd:RDn}(hc:bH X (.builtin id) r)(L:cA X.K r rd)(hm:X.mg x=x8)(hv:T3 x=be (.builtin id))(ha:MA X (e::es) t)(hg:Gl X x\zA0)(hn:(x≠"__name__")\zA1)(d9:zND x\zA1)
  (he:zSE X e es\zA0) (c9:zPL X pos es\zA0):ME X (.Call (.Name x p) (e::es) [] pos) (mCB rd t):=⟨(dL hc hg hm hv ha.out hn d9 he c9).anti λs H Q h=>by
 let#[F,z,M,k,rs,R,h1,h2]:=h;refine#[F,z,M,k,rs,_,h1,λds vs M1 F1 H1 g1 hx rx m1=>?_];exact L ds vs F1 H1 _ Q g1.fh hx rx λd w F' H' g hd rd=>h2 d w M1 F' H' (g1.trans g.toM) hd rd (m1.grow g)⟩
def sL[Jm]{e:SZ}(hm:X.mg "len"=x8)(ha:MA X [e] t)(hg:Gl X "len"\zA0)(he:zSE X e []\zA0):ME X (.Call (.Name "len" p) [e] [] pos) (mCB jN t):=Aj gG rh hm PySem.boot_len ha hg K3 K3 he
def Ak[J:Jm]{e:SZ}{T:String}{r:List V->Hp->VK->Prop}{rd:RDn}(hc:bH X (.type T) r)(L:cA X.K r rd)(hm:X.mg x=x8)(hv:T3 x=be (.type T))(ha:MA X (e::es) t)(hg:Gl X x\zA0)(hn:(x≠"__name__")\zA1)(d9:zND x\zA1)
  (he:zSE X e es\zA0) (c9:zPL X pos es\zA0):ME X (.Call (.Name x p) (e::es) [] pos) (mCB rd t):=⟨(qt hc hg hm hv ha.out hn d9 he c9).anti λs H Q h=>by
 let#[F,z,M,k,rs,R,h1,h2]:=h;refine#[F,z,M,k,rs,_,h1,λds vs M1 F1 H1 g1 hx rx m1=>?_];exact L ds vs F1 H1 _ Q g1.fh hx rx λd w F' H' g hd rd=>h2 d w M1 F' H' (g1.trans g.toM) hd rd (m1.grow g)⟩
def sM[Jm](hm:X.mg "int"=x8)(ha:MA X [e] t)(hg:Gl X "int"\zA0)(he:zSE X e []\zA0):ME X (.Call (.Name "int" p) [e] [] pos) (mCB jX t):=Ak rE rF hm PyProof.Rows.boot_int ha hg K3 K3 he
def dA(M:MS)(d:D)(x:J7)(fs:List (J7×D)):Prop:=match d with|.ptr a=>mget M a=be (.ins x fs)|.obj y gs=>y=x/\gs=fs|_=>False
def mFld(x f:J7)(te:TME):TME:=λz M R=>te z M λd M1=>∃fs,dA M1 d x fs/\∃d',fs.lookup f=be d'/\R d' M1
def ig{K:Ex}{F H:Hp}{M:MS}{d:D}{v:V}{fs:List (J7×D)}(fh:Same F H)(rm:RepM K F H M)(rd:Rep K F d v)(h:dA M d x fs):∃a C dx ws,v=.ref a/\nsIn K Pi x=be (be (.ref C))/\H a=be (.ins C dx ws)/\RepF K F fs ws:=by
 unfold dA at h;split at h
 .rename_i a;let#[C,dx,ws,n,h1,h2]:=rm.ok _ _ (br h);exact#[a,C,dx,ws,rep_ptr.mp rd,n,h1,h2]
 .let#[rfl,rfl]:=h;let#[a,C,dx,ws,e,n,h1,h2]:=rep_obj.mp rd;exact#[a,C,dx,ws,e,n,fh _ _ h1,h2]
 .exact h.elim
def aH[J:Jm]{f:J7}(hA:ClsA X.K x f)(he:ME X e ta)(hb:(TM e f X.env (TR e X.env)=TR e X.env)\zA0):ME X (.Attribute e f pos) (mFld x f ta):=⟨(qj he.out hb).anti λs H Q q=>by
 let#[C,hn,hc,hf]:=hA;let#[F,z,M,k,rs,R,h1,h2]:=q;refine#[F,z,M,k,rs,_,h1,λd u M1 F1 H1 g1 hx rx m1=>?_];let#[fs,hi,d',hl,hR]:=hx;let#[a,C',dx,ws,rfl,g_,hH,rf]:=ig g1.fh m1 rx hi;rw[hn]at g_;cases g_;let#[v,l,rv]:=rf.look hl;exact#[a,C,dx,ws,v,rfl,hH,hc,hf,l,h2 d' v M1 F1 H1 g1 hR rv m1]⟩
end
abbrev XDM:=J7->List (J7×D)->MS->Prop
abbrev SpM:=List D->MS->(D->MS->Prop)->XDM->Prop
def lSpM(K:Ex)(S:SpM):Sp:=λvs H Q E=>∃F ds M,Same F H/\Reps K F ds vs/\RepM K F H M/\∃(R:D->MS->Prop) (RX:XDM),S ds M R RX/\(∀d v M' F' H',GrowM M M' F H F' H'->R d M'->Rep K F' d v->RepM K F' H' M'->Q v H')/\
 ∀x fs C od M' F' H',GrowM M M' F H F' H'->RX x fs M'->ErrD K F' x fs C od->RepM K F' H' M'->E (.ref C) od H'
abbrev CalMM(P:SB)(w:TJ)(K:Ex)(mg:J7->Option KB)(base:Heap)(n:Nat)(x:J7)(ps:List J7)(S:SpM):Prop:=Cal P w K mg base n x ps (lSpM K S)
def ofX(S:SpX):SpM:=λds M R RX=>S ds (λd=>R d M) λx fs=>RX x fs M
def ofD(S:SpD):SpM:=λds M R _=>S ds λd=>R d M
variable{vs:List V}
def Al{S:SpX}{Q:VK}{E:XK}(h:lSpM K (ofX S) vs H Q E):lSpX K S vs H Q E:=by
 let#[F,ds,M,fh,rs,rm,R,RX,hS,q,qx]:=h;exact#[F,ds,fh,rs,_,_,hS,λd v F' H' g hd rd=>q d v M F' H' g.toM hd rd (rm.grow g),λx fs C od F' H' g hR er=>qx x fs C od M F' H' g.toM hR er (rm.grow g)]
def Am{S:SpD}{Q:VK}{E:XK}(h:lSpM K (ofD S) vs H Q E):lSp K S vs H Q E:=by
 let#[F,ds,M,fh,rs,rm,R,RX,hS,q,qx]:=h;exact#[F,ds,fh,rs,_,hS,λd v F' H' g hd rd=>q d v M F' H' g.toM hd rd (rm.grow g)]
section
variable {P:SB}{w:TJ}{K:Ex}{mg:J7->Option KB}{base:Heap}{n:Nat}{x:J7}{ps:List J7}
def CalX.toM{S:SpX}(C:CalX P w K mg base n x ps S):CalMM P w K mg base n x ps (ofX S):=by
 let#[f,fd,F,hb,hk,hm]:=C;exact#[f,fd,F.imp λvs H Q E h=>Al h,hb,hk,hm]
def CalD.toM{S:SpD}(C:CalD P w K mg base n x ps S):CalMM P w K mg base n x ps (ofD S):=by
 let#[f,fd,F,hb,hk,hm]:=C;exact#[f,fd,F.imp λvs H Q E h=>Am h,hb,hk,hm]
def CalMth(P:SB)(w:TJ)(K:Ex)(mg:J7->Option KB)(base:Heap)(n:Nat)(x m:J7)(ps:List J7)(sp:Sp):Prop:=
 ∃C f fd,nsIn K Pi x=be (be (.ref C))/\Cls K C/\Meth K C m f/\FnOk P w K mg base (CX1 P w) n f fd ps sp/\Binds K fd ps []
variable{sp:Sp}
def Cal.mono{n':Nat}(h:Cal P w K mg base n x ps sp)(hn:n<=n'):Cal P w K mg base n' x ps sp:=by
 let#[f,fd,F,h]:=h;exact#[f,fd,F.mono hn,h]
def Cal.imp{Kx:Sp}(h:Cal P w K mg base n x ps sp)(i:∀vs H Q E,Kx vs H Q E->sp vs H Q E):Cal P w K mg base n x ps Kx:=by
 let#[f,fd,F,h]:=h;exact#[f,fd,F.imp i,h]
def CalMth.imp{m:J7}{Kx:Sp}(h:CalMth P w K mg base n x m ps sp)(i:∀vs H Q E,Kx vs H Q E->sp vs H Q E):CalMth P w K mg base n x m ps Kx:=by
 let#[C,f,fd,h1,h2,h3,h4,h5]:=h;exact#[C,f,fd,h1,h2,h3,h4.imp i,h5]
end
def XOkM(X:Cx)[J:Jm]:Prop:=∀(σ:L2.St) (z:SD) (M:MS) (F H:Hp) (s:KM) (e C:KF) (od:Option KF) (x:J7) (fs:List (J7×D)),Inv X [] σ H s->Kept J.B J.F0 F H->RepZ X.K J.B F H z σ M->J.RM z M x fs->ErrD X.K F x fs C od->Exd X H s e C od->X.xe (.ref e) s
def EX(X:Cx)[J:Jm](z:SD)(σ:L2.St):XK:=λCv od H'=>∃x fs C M' F',Cv=.ref C/\Kept J.B J.F0 F' H'/\RepZ X.K J.B F' H' z σ M'/\J.RM z M' x fs/\ErrD X.K F' x fs C od
def XOkM.out{X:Cx}[J:Jm](hx:XOkM X)(f_:X.ex=[]){pins:List (KF×T5)}{σ:L2.St}{s s':KM}{ev:KB}(I:Inv X pins σ H s)
  (h:CX1 X.prog X.w X.stack H s (EX X z σ) ev s'):X.xe ev s':=by
 let#[e,C,od,T,H',rfl,K0,hb,un,hok,RY,ne,nT,He,HT,x,fs,C',M',F',hC,kk,rr,hR,er]:=h;cases hC;have I':Inv X pins σ H' s':=I.call' K0 un hok hb (λb z=>absurd z K8);exact hx σ z M' F' H' s' e C od x fs (Inv.nopins I') kk rr hR er #[He,ex_free I f_ ne,pn_free I ne,.inr #[T,.none,RY,ex_free I f_ nT,HT,pn_free I nT]]
section
variable {X:Cx}[J:Jm]{a b c e o:SZ}{ta tb te:TME}{pos p b7 a8:TX}{n m:Nat}{ps:List J7}{S:SpM}{x:J7}{es:List SZ}{t:TMA}
def An(S:SpM)(t:TMA):TME:=λz M R=>t z M λds M1=>S ds M1 R λx fs M'=>J.RM z M' x fs
variable{ds:List My.D}{vs:List V}
def ii{σ:L2.St}{z:SD}{M M1:MS}{F H F1 H1:Hp}{Q:VK}{R:D->MS->Prop}(k:Kept J.B J.F0 F H)(rs:RepZ X.K J.B F H z σ M)(g1:GrowM M M1 F H F1 H1)(m1:RepM X.K F1 H1 M1)(rx:Reps X.K F1 ds vs)
  (hS:S ds M1 R λx fs M'=>J.RM z M' x fs) (h2:∀d v M' F' H',GrowM M M' F H F' H'->R d M'->Rep X.K F' d v->RepM X.K F' H' M'->Q v H'):lSpM X.K S vs H1 Q (EX X z σ):=
 #[F1,ds,M1,g1.fh,rx,m1,R,_,hS,λd v M' F' H' g hd rd m'=>h2 d v M' F' H' (g1.trans g) hd rd m',λy fs C od M' F' H' g hR er m'=>#[y,fs,C,M',F',rfl,(k.growM rs.mb g1).growM (rs.growM k.bh g1 m1).mb g,(rs.growM k.bh g1 m1).growM (k.growM rs.mb g1).bh g m',hR,er]]
def aU(C:CalMM X.prog X.w X.K X.mg X.base n x ps S)(hx:XOkM X)(hr:Room m X.A)(ha:MA X (e::es) t)(f_:(X.ex=[])\zA0)(hg:Gl X x\zA0)(hn:(n<=m)\zA1)(d9:zND x\zA1)
  (he:zSE X e es\zA0) (c9:zPL X pos es\zA0):
  ME X (.Call (.Name x p) (e::es) [] pos) (An S t):=by
 let#[f,fd,F,hb,hk,hm]:=C;refine#[λpins s σ H Q I h=>?_];let#[Fr,z,M,k,rs,R,h1,h2]:=h;refine TV (ck I hg hm ?_ d9);refine callWith_K (h₀:=X.base) I.ok.mod.kin hk (thn (ha.out pos pins s σ H (λvs H1=>lSpM X.K S vs H1 Q (EX X z σ)) I #[Fr,z,M,k,rs,_,h1,λds vs M1 F1 H1 g1 hx rx m1=>ii k rs g1 m1 rx hx h2]) λus s1 hh=>#[hh.elim λ_ h=>h.elim λ_ h=>h.1.kIn,?_]) he c9;let#[vs,H1,I1,r,q]:=hh;exact kh F (hr.mono hn) hb (λe s' hq=>hx.out f_ I1 hq) I1 r q
def sN(cs:List J7)(m:J7)(S:J7->SpM)(to:TME)(t:TMA):TME:=λz M R=>to z M λd M1=>∃x,x∈cs/\∃fs,dA M1 d x fs/\fs.lookup m=x8/\t z M1 λds M2=>S x (d::ds) M2 R λx fs M'=>J.RM z M' x fs
variable{cs:List J7}{pl:Vj Bool}
def bc{nm:J7}{S:J7->SpM}(C:∀x,x∈cs->CalMth X.prog X.w X.K X.mg X.base n x nm ps (lSpM X.K (S x)))(hx:XOkM X)(hr:Room m X.A)(ho:ME X o te)(ha:MA X (e::es) t)(f_:(X.ex=[])\zA0)(hn:(n<=m)\zA1)
  (q8:zSE X e es\zA0) (c9:zPL X pos es\zA0)
  (ht:TR (.Call (.Attribute o nm b7) (e::es) [] pos) X.env=(do
   let ov <-TR o X.env
   UG b7.atName
   let (f,first) <-UH [ov] (UO ov nm pl)
   Vp pos f first (Uy pos (TL (e::es) X.env)) (UU pos (UB [] X.env))):=by rfl):
  ME X (.Call (.Attribute o nm b7) (e::es) [] pos) (sN cs nm S te t):=by
 refine#[λpins s σ H Q I h=>?_];let#[Fr,z,M,k,rs,R,h1,h2]:=h;refine methodCall_KW (pl:=pl) (thn (ho.out pins s σ H (λv H1=>∃d M1 F1,GrowM M M1 Fr H F1 H1/\Rep X.K F1 d v/\RepM X.K F1 H1 M1/\∃x,x∈cs/\∃fs,dA M1 d x fs/\fs.lookup nm=x8/\t z M1 λds M2=>S x (d::ds) M2 R λx fs M'=>J.RM z M' x fs) I #[Fr,z,M,k,rs,_,h1,λd v M1 F1 H1 g1 hd rd m1=>#[d,M1,F1,g1,rd,m1,hd]]) λu s1 hh=>?_) ht;let#[v,H1,I1,rv,d,M1,F1,g1,rd,m1,x,Ot,fs,hi,hl,hq]:=hh;let#[C',f,fd,hns,j5,Kz,F,hb]:=C x Ot;let#[a,C2,dx,ws,rfl,p9,hH,rf]:=ig g1.fh m1 rd hi;rw[hns]at p9;cases p9;obtain rfl:u=Value.ref a:=rv;refine jv I1 hH j5 Kz (rf.none hl) ?_;refine callWith_K (first:=[.ref a]) (h₀:=X.base) I.ok.mod.kin Kz.kp (thn (ha.out pos pins s1 σ H1 (λvs H2=>lSpM X.K (S x) (.ref a::vs) H2 Q (EX X z σ)) I1 #[F1,z,M1,k.growM rs.mb g1,rs.growM k.bh g1 m1,_,hq,λds vs M2 F2 H2 g2 hx rx m2=>ii k rs (g1.trans g2) m2 (reps_cons.mpr #[_,_,rfl,rd.mono g2.ff,rx]) hx h2]) λus s2 hh=>#[hh.elim λ_ h=>h.elim λ_ h=>h.1.kIn,?_]) q8 c9;let#[vs,H2,I2,r,q2]:=hh;exact kh (us:=.ref a::us) (vs:=.ref a::vs) F (hr.mono hn) hb (λe s' hq=>hx.out f_ I2 hq) I2 (.cons rfl r) q2
def dB{nm:J7}{S:J7->SpM}(C:∀x,x∈cs->CalMth X.prog X.w X.K X.mg X.base n x nm ps (lSpM X.K (S x)))(hx:XOkM X)(hr:Room m X.A)(ho:ME X o te)(f_:(X.ex=[])\zA0)(hn:(n<=m)\zA1)
  (ht:TR (.Call (.Attribute o nm b7) [] [] pos) X.env=(do
   let ov <-TR o X.env
   UG b7.atName
   let (f,first) <-UH [ov] (UO ov nm pl)
   Vp pos f first (Uy pos (TL [] X.env)) (UU pos (UB [] X.env))):=by rfl):
  ME X (.Call (.Attribute o nm b7) [] [] pos) (sN cs nm S te mNil):=by
 refine#[λpins s σ H Q I h=>?_];let#[Fr,z,M,k,rs,R,h1,h2]:=h;refine methodCall_KW (pl:=pl) (thn (ho.out pins s σ H (λv H1=>∃d M1 F1,GrowM M M1 Fr H F1 H1/\Rep X.K F1 d v/\RepM X.K F1 H1 M1/\∃x,x∈cs/\∃fs,dA M1 d x fs/\fs.lookup nm=x8/\S x [d] M1 R λx fs M'=>J.RM z M' x fs) I #[Fr,z,M,k,rs,_,h1,λd v M1 F1 H1 g1 hd rd m1=>#[d,M1,F1,g1,rd,m1,hd]]) λu s1 hh=>?_) ht;let#[v,H1,I1,rv,d,M1,F1,g1,rd,m1,x,Ot,fs,hi,hl,hq]:=hh;let#[C',f,fd,hns,j5,Kz,F,hb]:=C x Ot;let#[a,C2,dx,ws,rfl,p9,hH,rf]:=ig g1.fh m1 rd hi;rw[hns]at p9;cases p9;obtain rfl:u=Value.ref a:=rv;refine jv I1 hH j5 Kz (rf.none hl) ?_;refine callWith_K0 (first:=[.ref a]) I1.kIn Kz.kp (kh (E:=EX X z σ) (us:=[.ref a]) (vs:=[.ref a]) F (hr.mono hn) hb (λe s' hq=>hx.out f_ I1 hq) I1 (.cons rfl .nil) ?_);exact ii k rs g1 m1 (fW rd) hq h2
def make_of{C:KF}{S:SiD}{x:J7}{σ:L2.St}{z:SD}{M M1:MS}{F H F1 H1:Hp}{a dx:KF}{Q:VK}{E:XK}{T:List (J7×D)->Prop}(g1:GrowM M M1 F H F1 H1)(m1:RepM X.K F1 H1 M1)(rx:Reps X.K F1 ds vs)(hS:S ds T)
  (ha:H1 a=x8) (r_:H1 dx=x8) (i7:dx≠a) (q:∀fs ws dx F' H',Grow F1 H1 F' H'->T fs->H' a=be (.ins C dx ws)->F' a=x8->RepF X.K F' fs ws->Q (.ref a) H'):
  lSi X.K C S (.ref a::(vs++[])) (upd (upd H1 dx (.own a)) a (.ins C dx [])) (λv H2=>v=.non/\Q (.ref a) H2) E:=
 #[a,dx,vs,H1,F1,ds,by rw[G1],rfl,ha,r_,i7,g1.fh,rx,_,hS,λfs ws Ke F' H' g hR f9 j9 rf=>#[rfl,q fs ws Ke F' H' g hR f9 j9 rf]]
def Ao(x:J7)(S:SiD)(t:TMA):TME:=λz M R=>t z M λds M1=>S ds λfs=>R (.obj x fs) M1
def ij{S:SiD}(M:CalM X.prog X.w X.K X.mg X.base n x ps S)(hr:Room m X.A)(ha:MA X (e::es) t)(hg:Gl X x\zA0)(hn:(n+1<=m)\zA1)(d9:zND x\zA1)
  (he:zSE X e es\zA0) (c9:zPL X pos es\zA0):
  ME X (.Call (.Name x p) (e::es) [] pos) (Ao x S t):=by
 let#[C,f,fd,hns,l9,mk,F,hb]:=M;refine#[(jy mk F (hr.mono hn) hg l9 hb .nil eX ha.out d9 he c9).anti λs H Q q=>?_];let#[F,z,M,k,rs,R,h1,h2]:=q;refine#[F,z,M,k,rs,_,h1,λds vs M1 F1 H1 g1 hx rx m1=>?_];intro a dx ha r_ i7;refine make_of (σ:=s) (z:=z) (x:=x) g1 m1 rx hx ha r_ i7 λfs ws dx F' H' g hR f9 j9 rf=>?_;have s1:Same F' (upd F' a (.ins C dx ws)):=aQ j9 _;have g2:Grow F1 H1 (upd F' a (.ins C dx ws)) H':=⟨g.ff.trans s1,λb o q=>by
  by_cases hb:b=a
  .subst hb;rw[aB]at q;cases q;exact f9
  .rw[ar hb]at q;exact g.fh b o q,g.hh,λb q1 q2=>by
  by_cases hb:b=a
  .subst hb;exact absurd ha q2
  .rw[ar hb];exact g.out b q1 q2⟩
 exact h2 (.obj x fs) (.ref a) M1 (upd F' a (.ins C dx ws)) H' (g1.trans g2.toM) hR (rep_obj.mpr #[a,C,dx,ws,rfl,hns,aB,RepF.mono s1 fs ws rf]) (m1.grow g2)
def Ap(x:J7)(S:SiD)(t:TMA):TME:=λz M R=>t z M λds M1=>S ds λfs=>∀a,a∉av M1->R (.ptr a) ((a,.ins x fs)::M1)
def Aq{S:SiD}(M:CalM X.prog X.w X.K X.mg X.base n x ps S)(hr:Room m X.A)(ha:MA X (e::es) t)(hg:Gl X x\zA0)(hn:(n+1<=m)\zA1)(d9:zND x\zA1)
  (he:zSE X e es\zA0) (c9:zPL X pos es\zA0):
  ME X (.Call (.Name x p) (e::es) [] pos) (Ap x S t):=by
 let#[C,f,fd,hns,l9,mk,F,hb]:=M;refine#[(jy mk F (hr.mono hn) hg l9 hb .nil eX ha.out d9 he c9).anti λs H Q q=>?_];let#[F,z,M,k,rs,R,h1,h2]:=q;refine#[F,z,M,k,rs,_,h1,λds vs M1 F1 H1 g1 hx rx m1=>?_];intro a dx ha r_ i7;refine make_of (σ:=s) (z:=z) (x:=x) g1 m1 rx hx ha r_ i7 λfs ws dx F' H' g hR f9 j9 rf=>?_;have na:a∉av M1:=λz=>m1.here z ha;have m2:=m1.grow g;refine h2 (.ptr a) (.ref a) _ F' H' (g1.trans #[g.ff,g.fh,λb o _ q=>g.hh b o q,λb _ q1 q2=>g.out b q1 q2,λb q=>?_]) (hR a na) (rep_ptr.mpr rfl) #[G7.mpr #[na,m2.nd],λb o q=>?_,λb q=>?_]
 .rcases GA.mp q with q|q
  .exact .inr (by rw[q];exact ha)
  .exact .inl q
 .rcases GA.mp q with q|q
  .cases q;exact#[C,dx,ws,hns,f9,rf]
  .exact m2.ok b o q
 .rcases GA.mp q with q|q
  .rw[q];exact j9
  .exact m2.fr b q
end
section
variable {X:Cx}{x:J7}{e:SZ}{es:List SZ}{t:TA}{p a8 pos:TX}{n m:Nat}{ps:List J7}{S:SiD}
def Leave(X:Cx)(σ:L2.St)(F1 H1:Hp)(x:J7)(fs:List (J7×D)):Prop:=∀F' H' s' e C od,Inv X [] σ H' s'->Grow F1 H1 F' H'->ErrD X.K F' x fs C od->Exd X H' s' e C od->X.xe (.ref e) s'
def Ar(M:CalE X.prog X.w X.K X.mg X.base n x ps S)(hr:Room m X.A)(hc:X.calm=true)(ha:PA X (e::es) t)(f_:(X.ex=[])\zA0)(hg:Gl X x\zA0)(hn:(n+1<=m)\zA1)(d9:zND x\zA1)
  (he:zSE X e es\zA0) (c9:zPL X a8 es\zA0):
  PS X (.Raise (be (.Call (.Name x p) (e::es) [] a8)) x8 pos) (λ_ σ H=>t σ H λvs H1=>vs.length<=1000/\∃F1 ds,Same F1 H1/\Reps X.K F1 ds vs/\∃T:List (J7×D)->Prop,S ds T/\∀fs,T fs->Leave X σ F1 H1 x fs):=by
 let#[C,N,bm,f,fd,k,hi,LS,Fn,hb]:=M;intro pins s σ H D I h;let#[nm,q,bs,sn,sub,ab,col,dd,k0,k1,k2,k3,k5,lk]:=k.obj;refine jE (nm:=nm) (q:=q) (C:=C) (N:=N) (bs:=bs) (bm:=bm) (hdct:=true) (sn:=sn) (sub:=sub) (ab:=ab) (col:=col) (dd:=dd) (k0:=k0) (k1:=k1) (k2:=k2) (k3:=k3) (k5:=k5) (newId:="ValueError.__new__") k.base (I.ok.hd hc) ?_;refine TV (ck I hg k.mg ?_ d9);refine callWith_K (h₀:=X.base) I.ok.mod.kin k.kp (thn (ha a8 pins s σ H _ I h) λus s1 hh=>#[hh.elim λ_ h=>h.elim λ_ h=>h.1.kIn,?_]) he c9;let#[vs,H1,I1,r,hl,F1,ds,Ou,rx,T,hS,hT]:=hh;have hC:=I1.kIn _ _ lk;have RZ:us.length<=sizeLine:=by rw[<-L2.Vals.length r];exact sz hl
 refine yx (g:=s1.gens) (d:=s1.drawn) (t:=s1.toks) (os:=s1.os) (rest:=us) I1.kIn (tail_of_in I1.kIn k.tail) hC hi (beq_iff_eq.mp LS) (λh' ea hm=>?_) RZ;have I2:=Inv.newx I1 f_ hm;have r2:Vals (V.ref ea::vs) (Value.ref ea::us):=.cons rfl r;have He:H1 ea=none:=gc I1.hok hm.new;have y_:lEi X.K C S (V.ref ea::vs) (upd H1 ea (XN ea C x8)) (λv H'=>v=.non/\∃fs od F',Grow F1 H1 F' H'/\Leave X σ F1 H1 x fs/\H' ea=be (XN ea C od)/\F' ea=x8/\ErrF X.K F' fs od) (λ_ _ _=>False):=
  #[ea,vs,H1,F1,ds,rfl,rfl,He,Ou,rx,_,hS,λfs od F' H' g hR h1 h2 h3=>#[rfl,fs,od,F',g,hT fs hR,h1,h2,h3]]
 have b9:(Value.ref ea::us).length=ps.length:=by rw[<-L2.Vals.length r2];exact Fn.len _ _ _ _ y_
 have i6:=hb {s1 with heap:=h'} (Value.ref ea::us) I2.kIn (by rw[G1];exact b9);rw[G1]at i6;refine Ue (Ub (Fn.run _ X.stack _ _ #[Value.ref ea::us,[]] (Value.ref ea::us) _ _ _ ((hr.mono hn).make C us []) (I2.env0.make C us []) i6 r2 y_) λrr s' hq=>?_);cases rr with
 |error e'=>exact(eX (X:=X) pins σ _ _ e' s' I2 hq:X.xe e' s')
 |ok fl=>
  cases fl with
  |next=>exact False.elim hq
  |brk=>exact False.elim hq
  |cont=>exact False.elim hq
  |ret u=>
   let#[v,H',I3,rv,rfl,fs,od,F',g,hR,v3,R1,er]:=I2.after hq;obtain rfl:u=Value.none:=rv;refine#[rfl,?_];have e0:X.s₀.heap.get? ea=none:=ex_free I1 f_ hm.new;have I4:=Inv.drop I3 v3 e0;let#[ta,sl,k9]:=XN.get I3.hok v3;have g4:Grow F1 H1 F' (del H' ea):=⟨g.ff,λb o q=>by
    have:b≠ea:=λz=>by rw[z,R1]at q;cases q
    rw[cr this];exact g.fh b o q,λb o q=>by
    have:b≠ea:=λz=>by rw[z,He]at q;cases q
    rw[cr this];exact g.hh b o q,g.out⟩
   refine#[ea,ta,od,sl,rfl,I3.kIn _ _ lk,k9,?_];exact hR F' (del H' ea) s' ea C od (Inv.nopins I4) g4 #[k.ns,er] #[gf,e0,pn_free I1 hm.new,.inl #[sl,_,k9,rfl]]
def As(h:∃C N bm,ErrK X.K X.mg x C N bm/\ErrN X.K N)(hc:X.calm=true)(ha:PA X (e::es) t)(f_:(X.ex=[])\zA0)(hg:Gl X x\zA0)(d9:zND x\zA1)
  (he:zSE X e es\zA0) (c9:zPL X a8 es\zA0):
  PS X (.Raise (be (.Call (.Name x p) (e::es) [] a8)) x8 pos) (λ_ σ H=>t σ H λvs H1=>vs.length<=1000/\∃F1,Same F1 H1/\Leave X σ F1 H1 x []):=by
 let#[C,N,bm,k,kn]:=h;intro pins s σ H D I h;let#[nm,q,bs,sn,sub,ab,col,dd,k0,k1,k2,k3,k5,lk]:=k.obj;refine jE (nm:=nm) (q:=q) (C:=C) (N:=N) (bs:=bs) (bm:=bm) (hdct:=true) (sn:=sn) (sub:=sub) (ab:=ab) (col:=col) (dd:=dd) (k0:=k0) (k1:=k1) (k2:=k2) (k3:=k3) (k5:=k5) (newId:="ValueError.__new__") k.base (I.ok.hd hc) ?_;refine TV (ck I hg k.mg ?_ d9);refine callWith_K (h₀:=X.base) I.ok.mod.kin k.kp (thn (ha a8 pins s σ H _ I h) λus s1 hh=>#[hh.elim λ_ h=>h.elim λ_ h=>h.1.kIn,?_]) he c9;let#[vs,H1,I1,r,hl,F1,Ou,hR]:=hh;have hC:=I1.kIn _ _ lk;let#[hp,gg,dr,tk,os]:=s1;refine Vt PySem.F.excBase_ValueError (tail_of_in I1.kIn k.tail) hC (.of_isNs (isNs_of_in I1.kIn kn.ok)) (nsMap_none_of_in I1.kIn kn.ok kn.no) (λh' ea hm=>?_) (by show us.length<=_;rw[<-L2.Vals.length r];exact sz hl);let#[ta,h1,h2,h3]:=hm.there;have I2:Inv X pins σ H1 #[h',gg,dr,tk,os]:=I1.kept (t':=tk) hm.keeps;refine#[ea,ta,x8,[].toArray,rfl,hm.keeps _ _ hC,h1,?_];exact hR F1 H1 _ ea C x8 (Inv.nopins I2) (Grow.refl Ou) #[k.ns,[],repf_nil.mpr rfl,.inl #[rfl,rfl]] #[gc I1.hok hm.new,ex_free I1 f_ hm.new,pn_free I1 hm.new,.inl #[[].toArray,_,h1,rfl]]
end
section
variable {X:Cx}[J:Jm]{x:J7}{e:SZ}{es:List SZ}{t:TMA}{p a8 pos:TX}{n m:Nat}{ps:List J7}{S:SiD}
def Au(x:J7)(S:SiD)(t:TMA):TMS:=λ_ z M=>t z M λds M1=>ds.length<=1000/\S ds λfs=>J.RM z M1 x fs
def sO{σ:L2.St}{z:SD}{M M1:MS}{F H F1 H1:Hp}{fs:List (J7×D)}(hx:XOkM X)(k:Kept J.B J.F0 F H)(rs:RepZ X.K J.B F H z σ M)(g1:GrowM M M1 F H F1 H1)(m1:RepM X.K F1 H1 M1)(hR:J.RM z M1 x fs):Leave X σ F1 H1 x fs:=λF' H' s' e C od I g er ex=>
 hx σ z M1 F' H' s' e C od x fs I ((k.growM rs.mb g1).grow g) ((rs.growM k.bh g1 m1).growM (k.growM rs.mb g1).bh g.toM (m1.grow g)) hR er ex
def ik(M:CalE X.prog X.w X.K X.mg X.base n x ps S)(hr:Room m X.A)(hx:XOkM X)(hc:X.calm=true)(ha:MA X (e::es) t)(f_:(X.ex=[])\zA0)(hg:Gl X x\zA0)(hn:(n+1<=m)\zA1)(d9:zND x\zA1)
  (he:zSE X e es\zA0) (c9:zPL X a8 es\zA0):
  MSt X (.Raise (be (.Call (.Name x p) (e::es) [] a8)) x8 pos) (Au x S t):=⟨(Ar M hr hc ha.out f_ hg hn d9 he c9).anti λE s H q=>by
 let#[F0,F,z,M,k,rs,ED,h,ee]:=q;exact#[F,z,M,k.kf,rs,_,h,λds vs M1 F1 H1 g1 i_ rx m1=>#[by rw[rx.length];exact i_.1,F1,ds,g1.fh,rx,_,i_.2,λfs hR=>sO hx k.kf rs g1 m1 hR]]⟩
def Av(x:J7)(t:TMA):TMS:=λ_ z M=>t z M λds M1=>ds.length<=1000/\J.RM z M1 x []
def sP(h:∃C N bm,ErrK X.K X.mg x C N bm/\ErrN X.K N)(hx:XOkM X)(hc:X.calm=true)(ha:MA X (e::es) t)(f_:(X.ex=[])\zA0)(hg:Gl X x\zA0)(d9:zND x\zA1)
  (he:zSE X e es\zA0) (c9:zPL X a8 es\zA0):
  MSt X (.Raise (be (.Call (.Name x p) (e::es) [] a8)) x8 pos) (Av x t):=⟨(As h hc ha.out f_ hg d9 he c9).anti λE s H q=>by
 let#[F0,F,z,M,k,rs,ED,h,ee]:=q;exact#[F,z,M,k.kf,rs,_,h,λds vs M1 F1 H1 g1 i_ rx m1=>#[by rw[rx.length];exact i_.1,F1,g1.fh,sO hx k.kf rs g1 m1 i_.2]]⟩
end
section
variable {X:Cx}[J:Jm]{a b c e:SZ}{ta tb tc te:TME}{pos:TX}{st:TF}{rest:List TF}{t u:TMS}
def Aw:TMS:=λE z M=>E.nx z M
def mSeq(t u:TMS):TMS:=λE z M=>t {E with nx:=u E} z M
def aR:MSs X [] Aw:=⟨pss_nil.anti λE s H q=>by
 let#[F0,F,z,M,k,rs,ED,h,e]:=q;exact e.nx z s M F H k h rs⟩
def ao(h1:MSt X st t)(h2:MSs X rest u):MSs X (st::rest) (mSeq t u):=⟨(eO h1.out h2.out).anti λE s H q=>by
 let#[F0,F,z,M,k,rs,ED,h,e]:=q;exact#[F0,F,z,M,k,rs,{ED with nx:=u ED},h,#[λz' s' M' F' H' k' hz r'=>#[F0,F',z',M',k',r',ED,hz,e],e.rt,e.bk,e.ct]]⟩
def aq(h1:MSt X st t):MSs X [st] t:=#[pJ h1.out]
def mRet(te:TME):TMS:=λE z M=>te z M E.rt
def aE(he:ME X e te):MSt X (.Return (be e) pos) (mRet te):=⟨(pL he.out).anti λE s H q=>by
 let#[F0,F,z,M,k,rs,ED,h,e]:=q;exact#[F,z,M,k.kf,rs,_,h,λd v M' F' H' g hd rd m'=>e.rt d v M' F' H' (k.growM rs.mb g) hd rd m' (rs.growM k.bh g m').mb]⟩
def Ax(te:TME):TMS:=λE z M=>te z M λ_ M1=>E.nx z M1
def bj(he:ME X e te)(hs:(T7 e x8 pos.line X.env=pure false)\zA0):MSt X (.Expr e pos) (Ax te):=⟨(pK he.out hs).anti λE s H q=>by
 let#[F0,F,z,M,k,rs,ED,h,e]:=q;exact#[F,z,M,k.kf,rs,_,h,λd v M' F' H' g hd rd m'=>e.nx z s M' F' H' (k.growM rs.mb g) hd (rs.growM k.bh g m')]⟩
def mIfS(c:TMT)(t u:TMS):TMS:=λE z M=>c z M λb M1=>if b=true then t E z M1 else u E z M1
variable{l r:List TF}
def bf{c:SZ}{tc:TMT}(hc:MT X c tc)(ha:MSs X l t)(hb:MSs X r u):MSt X (.If c l r pos) (mIfS tc t u):=⟨(pM hc.out ha.out hb.out).anti λE s H q=>by
 let#[F0,F,z,M,k,rs,ED,h,e]:=q;refine#[F,z,M,k.kf,rs,_,h,λb M1 F1 H1 g hk m1=>?_];cases b with
 |true=>exact#[F0,F1,z,M1,k.growM rs.mb g,rs.growM k.bh g m1,ED,hk,e]
 |false=>exact#[F0,F1,z,M1,k.growM rs.mb g,rs.growM k.bh g m1,ED,hk,e]⟩
def mIfJ(c:TMT)(t u:TMS):TMS:=λE z M=>∃J:SD->MS->Prop,(c z M λb M1=>if b=true then t {E with nx:=J} z M1 else u {E with nx:=J} z M1)/\∀z' M',J z' M'->E.nx z' M'
def bR{c:SZ}{tc:TMT}(hc:MT X c tc)(ha:MSs X l t)(hb:MSs X r u):MSt X (.If c l r pos) (mIfJ tc t u):=⟨(bf hc ha hb).out.anti λE s H q=>by
 let#[F0,F,z,M,k,rs,ED,#[J,h,j],e]:=q;exact#[F0,F,z,M,k,rs,{ED with nx:=J},h,#[λz' s' M' F' H' k' hz r'=>e.nx z' s' M' F' H' k' (j z' M' hz) r',e.rt,e.bk,e.ct]]⟩
def mSet(i:Nat)(te:TME):TMS:=λE z M=>∃P:D->MS->Prop,te z M P/\∀d M',P d M'->E.nx (z.set i (be d)) M'
def aJ(i:Nat){x:J7}{c8:TX}(hN:X.N.Nodup)(he:ME X e te)(hi:(X.N[i]?=be x)\zA0)(hx:Loc X.env.scope x\zA4)(hs:(T7 e (be (.Name x c8)) pos.line X.env=pure false)\zA0)
  (hf:zFN X x\zA2):MSt X (.Assign [.Name x c8] e pos) (mSet i te):=⟨(gB hN hi hx he.out hs hf).anti λE s H q=>by
 let#[F0,F,z,M,k,rs,ED,#[P,h,j],e]:=q;exact#[F,z,M,k.kf,rs,P,h,λd v M' F' H' g hd rd m'=>e.nx _ _ M' F' H' (k.growM rs.mb g) (j d M' hd) ((rs.growM k.bh g m').set rd)]⟩
def Ay(x f:J7)(to te:TME):TMS:=λE z M=>te z M λd M1=>to z M1 λo M2=>match o with|.ptr a=>∃fs,mget M2 a=be (.ins x fs)/\fs.length<1000/\E.nx z (mput M2 a (.ins x (putD f d fs)))|_=>False
def bY{x f:J7}{o:SZ}{to:TME}{c8:TX}(hA:ClsA X.K x f)(ho:ME X o to)(he:ME X e te)(hs:(T7 e (be (.Attribute o f c8)) pos.line X.env=pure false)\zA0):
  MSt X (.Assign [.Attribute o f c8] e pos) (Ay x f to te):=⟨(qk ho.out he.out hs).anti λE s H q=>by
 let#[C,hn,hc,hf]:=hA;let#[F0,F,z,M,k,rs,ED,h,ee]:=q;refine#[F,z,M,k.kf,rs,_,h,λd v M1 F1 H1 g1 hx rd m1=>?_];have k1:=k.growM rs.mb g1;have s9:=rs.growM k.bh g1 m1;refine#[F1,z,M1,k1.kf,s9,_,hx,λo' v' M2 F2 H2 g2 hy ro m2=>?_];have k2:=k1.growM s9.mb g2;have Nn:=s9.growM k1.bh g2 m2;split at hy
 .rename_i a;let#[fs,hm,hl,Lb]:=hy;let#[C',dx,ws,g_,hH,rf]:=m2.ok _ _ (br hm);rw[hn]at g_;cases g_;have fa:=m2.fr a (bJ (br hm));refine#[a,C,dx,ws,rep_ptr.mp ro,hH,hc,hf,by rw[rf.length];exact hl,?_];have m3:RepM X.K F2 (upd H2 a (.ins C dx (putF f v ws))) (mput M2 a (.ins x (putD f d fs))):=m2.put hm #[C,dx,_,hn,aB,RepF.put (rd.mono g2.ff) rf];have g3:GrowM M2 (mput M2 a (.ins x (putD f d fs))) F2 H2 F2 (upd H2 a (.ins C dx (putF f v ws))):=GrowM.put k2.fh fa hm;exact ee.nx z s _ F2 _ (k2.growM Nn.mb g3) Lb (Nn.growM k2.bh g3 m3)
 .exact hy.elim⟩
def Az(c:TMT)(tb:TMS):TMS:=λE z M=>∃W:Nat->SD->MS->Prop,(∃m,W m z M)/\∀m z M,W m z M->
 c z M λb M1=>if b=true then tb {E with nx:=λz' M'=>∃m',m'<m/\W m' z' M',ct:=λz' M'=>∃m',m'<m/\W m' z' M',bk:=E.nx} z M1 else E.nx z M1
def AA{c:SZ}{body:List TF}{tc:TMT}{tb:TMS}(hp:Uh (SL X.prog X.w) X.A X.env X.xe)(hc:MT X c tc)(hb:MSs X body tb):MSt X (.While c body [] pos) (Az tc tb):=⟨(pN hp hc.out hb.out).anti λE s H q=>by
 let#[F0,F,z,M,k,rs,ED,#[W,#[m0,w0],e_],e]:=q;refine#[λm s' H'=>∃F' z' M',Kept J.B F0 F' H'/\RepZ X.K J.B F' H' z' s' M'/\W m z' M',#[m0,F,z,M,k,rs,w0],?_];rintro m s1 H1⟨F1,z1,M1,k1,r1,w1⟩;refine#[F1,z1,M1,k1.kf,r1,_,e_ m z1 M1 w1,λb M2 F2 H2 g2 hk m2=>?_];cases b with
 |true=>
  refine#[λs3 H3=>∃F3 z3 M3,Kept J.B F0 F3 H3/\RepZ X.K J.B F3 H3 z3 s3 M3/\∃m',m'<m/\W m' z3 M3,λs3 H3 ⟨F3,z3,M3,k3,r3,m',l,w3⟩=>#[m',l,F3,z3,M3,k3,r3,w3],?_];exact#[F0,F2,z1,M2,k1.growM r1.mb g2,r1.growM k1.bh g2 m2,_,hk,#[λz3 s3 M3 F3 H3 k3 h3 r3=>#[F3,z3,M3,k3,r3,h3],e.rt,e.nx,λz3 s3 M3 F3 H3 k3 h3 r3=>#[F3,z3,M3,k3,r3,h3]]]
 |false=>exact e.nx z1 s1 M2 F2 H2 (k1.growM r1.mb g2) hk (r1.growM k1.bh g2 m2)⟩
end
end My
end
section
namespace L2
open PySem PySem.Spec PyProof.Rows
section
variable {κ:Type}[DecidableEq κ]
def valV(a_:List (κ×V))(k:κ):Option V:=(a_.find? λkv=>decide (kv.1=k)).map (·.2)
def kB{p:κ×V}{r:List (κ×V)}{k:κ}(e:p.1=k):valV (p::r) k=be p.2:=by simp[valV,Hx,e]
def kC{p:κ×V}{r:List (κ×V)}{k:κ}(e:¬p.1=k):valV (p::r) k=valV r k:=by simp[valV,Hx,e]
def RelO.getD{o:Option V}{u:Option KB}{d:V}{d':KB}(r:RelO o u)(rd:RelV d d'):RelV (o.getD d) (u.getD d'):=by
 cases o with
 |none=>cases u with
  |none=>exact rd
  |some _=>exact(show False from r).elim
 |some _=>cases u with
  |none=>exact(show False from r).elim
  |some _=>exact r
def KV.val{a_:List (κ×V)}{vs:List (κ×KB)}(r:KV a_ vs)(k:κ):RelO (valV a_ k) (U0 vs k):=by
 unfold KV at r;induction r with
 |nil=>exact True.intro
 |@cons p q ps qs h t ih=>
  let#[h1,h2]:=h;by_cases e:p.1=k
  .have e':q.1=k:=h1.symm.trans e;have b:U0 (q::qs) k=be q.2:=by simp[U0,Hx,e']
   rw[kB e,b];exact h2
  .have e':¬q.1=k:=λz=>e (h1.trans z);have b:U0 (q::qs) k=U0 qs k:=by simp[U0,Hx,e']
   rw[kC e,b];exact ih
end
def sQ{P:SB}{w:TJ}{k:Key}{u:KB}(r:RelV (kV k) u):(bN P w).is k u=true:=by
 cases k with
 |inl i=>let#[t,e]:=(show ∃t,u=Value.int i t from r);subst e;exact mixKind_int P w i t
 |inr x=>let#[t,e]:=(show ∃t,u=Value.str x t from r);subst e;exact wy P w x t
def sR{P:SB}{w:TJ}:∀{ks:List Key} {us:List KB},Vals (ks.map kV) us->ItemsAre (bN P w) ks us
 |[],_,r=>by rw[HF]at r;cases r;exact .nil
 |k::ks,_,r=>by
  rw[GK]at r;cases r with
  |cons h t=>exact .cons (sQ h) (sR t)
abbrev KT(H:Hp):List (List Key×V)->List (List Key×KF×KB)->Prop:=Paired λp q=>p.1=q.1/\H q.2.1=be (.tup (p.1.map kV))/\RelV p.2 q.2.2
variable{H:Hp}{a_:List (List Key×V)}{xs:List (List Key×KF×KB)}
def KT.val(r:KT H a_ xs)(k:List Key):RelO (valV a_ k) ((UZ xs k).map (·.2)):=by
 induction r with
 |nil=>exact True.intro
 |@cons p q ps qs h t ih=>
  let#[h1,_,h2]:=h;by_cases e:p.1=k
  .have e':q.1=k:=h1.symm.trans e;have b:UZ (q::qs) k=be q.2:=by simp[UZ,Hx,e']
   rw[kB e,b];exact h2
  .have e':¬q.1=k:=λz=>e (h1.trans z);have b:UZ (q::qs) k=UZ qs k:=by simp[UZ,Hx,e']
   rw[kC e,b];exact ih
def KT.keeps{H':Hp}(r:KT H a_ xs)(ht:∀b ys,H b=be (.tup ys)->H' b=be (.tup ys)):KT H' a_ xs:=
 Paired.mapP r λ_ _ z=>#[z.1,ht _ _ z.2.1,z.2.2]
section
variable {P:SB}{w:TJ}{H:Hp}{h:Heap}{a:KF}
def sS{u:HO}(ok:HOk P w H h)(e:Rd H a u):ObjOk P w H h a u:=e.ok ok
def AB{a_:List (Key×V)}(ok:HOk P w H h)(e:Rd H a (.dK a_)):a_.length<=sizeLine/\(a==Ua)=false/\∃vs,KV a_ vs/\h.DictOf (bN P w) a vs:=
 show ObjOk P w H h a (.dK a_)from sS ok e
def key_of{ks:List Key}(ok:HOk P w H h)(e:H a=be (.tup (ks.map kV))):(UE (bN P w)).is h ks a:=by
 let#[_,its,r,o,h1,h2,n,h3]:=(show ObjOk P w H h a (.tup (ks.map kV))from ok a _ e);exact#[o,its.toArray,n,h1,h2,h3,by simpa using sR r]
variable{a_:List (List Key×V)}
def sT(ok:HOk P w H h)(e:Rd H a (.dT a_)):a_.length<=sizeLine/\(a==Ua)=false/\
  ∃xs,KT H a_ xs/\h.DictOfH (UE (bN P w)) a xs:=by
 let#[z,y,xs,r,o,es,ep,h1,h2,h3,h4,h5]:=(show ObjOk P w H h a (.dT a_)from sS ok e);refine#[z,y,xs,r,o,es,ep,h1,h2,h3,h4,λx hx=>?_,h5];have all:∀{l:List (List Key×V)} {m:List (List Key×KF×KB)},KT H l m->∀x∈m,(UE (bN P w)).is h x.1 x.2.1:=by
  intro l m q;induction q with
  |nil=>intro x hx;exact nomatch hx
  |@cons p q ps qs hq t ih=>
   intro x hx;rcases GA.mp hx with e|hx
   .subst e;exact key_of ok (by rw[<-hq.1];exact hq.2.1)
   .exact ih x hx
 exact all r x hx
def AC(ok:HOk P w H h)(e:H a=be (.dT a_)):a_.length<=sizeLine/\(a==Ua)=false/\
  ∃xs,KT H a_ xs/\h.DictOfH (UE (bN P w)) a xs:=sT ok (.inl e)
end
def DGet(H:Hp)(a:KF)(y:V)(r:Option V):Prop:=
 (∃a_ k,Rd H a (.dK a_)/\y=kV k/\r=valV a_ k)\/∃a_ k b,Rd H a (.dT a_)/\y=.ref b/\H b=be (.tup (k.map kV))/\r=valV a_ k
def DGet.t{a b:KF}{k:List Key}(e:H a=be (.dT a_))(eb:H b=be (.tup (k.map kV))):DGet H a (.ref b) (valV a_ k):=.inr #[a_,k,b,.inl e,rfl,eb,rfl]
section
variable {X:Cx}{pins:List (KF×T5)}{σ:St}{H:Hp}{s:KM}{a:KF}{y v:V}{u r:KB}{o:Option V}{A:TK}{E:KB->KM->Prop}
def Inv.big(I:Inv X pins σ H s):Ua<s.heap.objs.size:=by
 have h:Pi<s.heap.objs.size:=(I.mod.glob.keeps I.bk).lt;exact Jg K3 h
def AD{h':Heap}{t':Nat}{ob:HO}(I:Inv X pins σ H s)(mu:Mut (H a))(hs:Heap.SameBut a s.heap h')(he:∃q,h'.get? a=be q)(new:ObjOk X.prog X.w (upd H a ob) h' a ob):
  Inv X pins σ (upd H a ob) {s with heap:=h',toks:=t'}:=
 I.write (x:=a) (e:=a) mu (.inl rfl) (λb q hb z=>(hs.2 b hb).trans z) he new
end
def AE{P:SB}{w:TJ}(h:Heap)(hb:Ua<h.objs.size):ObjOk P w H (h.push {cls:=.type "dict",data:=.dict [].toArray}) h.objs.size (.dT []):=
 #[GT _,beq_eq_false_iff_ne.mpr (Ne.symm (GH hb)),[],.nil,_,[].toArray,0,Heap.get?_push_size _ rfl,#[rfl,rfl,rfl],rfl,rfl,Jv]
def AF:TE:=λ_ H Q=>∀p,H p=x8->Q (.ref p) (upd H p (.dT []))
section
variable {X:Cx}{pos:TX}
def pe_dnewT:PE X (.Dict [] [] pos) AF:=λpins s σ H Q I h=>
 wpAny_Dict_empty #[.ref s.heap.objs.size,_,I.laid (a:=s.heap.objs.size) (o:=.dT []) (t':=s.toks) (λ_ _ q=>Heap.get?_push_of_some _ q) (Gv _) (AE s.heap I.big),rfl,h _ (I.hok.fresh (Gv _))]
end
section
variable {X:Cx}{pins:List (KF×T5)}{σ:St}{H:Hp}{s:KM}{a:KF}{y d:V}{u r:KB}{o:Option V}{A:TK}{E:KB->KM->Prop}
def AG{Q:KB->KM->Prop}(hu:A.units+1<Ux)(I:Inv X pins σ H s)(g:DGet H a y o)(ry:RelV y u)(rd:RelV d r)(h:∀w' s',Inv X pins σ H s'->RelV (o.getD d) w'->Q w' s'):
  TC (SL X.prog X.w) A (call (.builtin "dict.get") [.ref a,u,r]) Q E s:=by
 rcases g with⟨a_,k,e,ey,l⟩|⟨a_,k,b,e,ey,eb,l⟩
 .subst ey;let#[z,hd,vs,x_,dd]:=AB I.hok e;refine Vi PySem.F.slot_dict_get dd.typeIs PySem.F.entry_dict_get (PySem.F.args_dict_get_3 _ _ _) (meets_dict_get_default (bN X.prog X.w) a (sQ ry) hd r) #[_,dd.mapOf,h _ _ (I.tok _) ?_];rw[l];exact(x_.val k).getD rd
 .subst ey;cases(show u=Value.ref b from ry);let#[z,hd,xs,x_,dd]:=sT I.hok e;refine Vi PySem.F.slot_dict_get dd.typeIs PySem.F.entry_dict_get (PySem.F.args_dict_get_3 _ _ _) (meetsH_dict_get_default (UE (bN X.prog X.w)) a b hd r) #[Vy hu,k,xs,key_of I.hok eb,dd,h _ _ (I.tok _) ?_];rw[l];exact(x_.val k).getD rd
end
end L2
end
section
open PySem PySem.Spec PyProof.Rows L2
namespace My
open Exc
section
variable {X:Cx}[J:Jm]{a b c e o:SZ}{ta tb tc te to:TME}{pos:TX}{st:TF}{rest:List TF}{t u:TMS}
abbrev TMI:=SD->MS->(List D->MS->Prop)->Prop
def mItR(t:TME):TMI:=λz M R=>t z M λx M1=>match x with|.int n=>(0<=n/\n<2^62)/\R ((GQ n.toNat).map λk=>D.int ((k:Nat):Int)) M1|_=>False
def mFor(i:Nat)(ti:TMI)(tb:TMS):TMS:=λE z M=>ti z M λds M1=>∃W:Nat->SD->MS->Prop,W 0 z M1/\(∀k x z M,ds[k]?=be x->W k z M->tb {E with nx:=W (k+1),ct:=W (k+1),bk:=E.nx} (z.set i (be x)) M)/\∀z M,W ds.length z M->E.nx z M
def kD(i:Nat){x:J7}{p p1 p2:TX}{body:List TF}{tb:TMS}(hp:Uh (SL X.prog X.w) X.A X.env X.xe)(hc:X.calm=true)(hN:X.N.Nodup)(hm:X.mg "range"=x8)(he:ME X e te)(hb:MSs X body tb)(hg:Gl X "range"\zA0)(hi:(X.N[i]?=be x)\zA0)(hx:Loc X.env.scope x\zA4)
  (hf:zFN X x\zA2) (hs:(∀y,zFS X (.Call (.Name "range" p1) [e] [] p2) y)\zA3) (Kb:zSE X e []\zA0) (m9:(TL [e] X.env=[(false,TR e X.env)])\zA0):
  MSt X (.For (.Name x p) (.Call (.Name "range" p1) [e] [] p2) body [] pos) (mFor i (mItR te) tb):=⟨(fM hp hc (jq hg hm (bw he.out pa_nil Kb) m9) (gA hN hi hx hf) hb.out hs).anti λE s H q=>by
 let#[F0,F,z,M,kp,rs,ED,h,e]:=q;refine#[F,z,M,kp.kf,rs,_,h,λd v M1 F1 H1 g1 hd rd m1=>?_];split at hd
 .rename_i n;let#[#[b1,b2],W,w0,e_,out]:=hd;have hl:((GQ n.toNat).map λk=>D.int ((k:Nat):Int)).length=n.toNat:=by simp
  refine#[n,by rw[rep_int.mp rd],KZ,b2,pS (lo:=0) (n:=n.toNat) (λk s' H'=>∃F' z' M',Kept J.B F0 F' H'/\RepZ X.K J.B F' H' z' s' M'/\W k z' M') #[F1,z,M1,kp.growM rs.mb g1,rs.growM kp.bh g1 m1,w0] ?_ ?_]
  .rintro k s' H' hk⟨F',z',M',k',r',w'⟩;have e1:(0:Int)+(k:Int)=(k:Int):=by lia
   exact#[F0,F',_,M',k',r'.set (d:=.int (k:Int)) (rep_int.mpr (by rw[e1])),_,e_ k (.int (k:Int)) z' M' (by simp[hk]) w',#[λz3 s3 M3 F3 H3 k3 h3 r3=>#[F3,z3,M3,k3,r3,h3],e.rt,e.nx,λz3 s3 M3 F3 H3 k3 h3 r3=>#[F3,z3,M3,k3,r3,h3]]]
  .rintro s' H'⟨F',z',M',k',r',w'⟩;exact e.nx z' s' M' F' H' k' (out z' M' (by rw[hl];exact w')) r'
 .exact hd.elim⟩
def AH(te:TME):TME:=λz M R=>te z M λd M1=>match d with|.ptr a=>∃ds,mget M1 a=be (.lst ds)/\R (.int ds.length) M1|_=>False
def AI{p:TX}(hm:X.mg "len"=x8)(ha:ME X e te)(hg:Gl X "len"\zA0)(he:zSE X e []\zA0):ME X (.Call (.Name "len" p) [e] [] pos) (AH te):=⟨(dL gG hg hm PySem.boot_len (bw ha.out pa_nil he) K3 K3 he).anti λs H Q h=>by
 let#[F,z,M,k,rs,R,h1,h2]:=h;refine#[F,z,M,k,rs,_,h1,λd v M1 F1 H1 g1 hx rx m1=>?_];split at hx
 .rename_i a;let#[ds,hm,hR]:=hx;let#[vs,hH,rr]:=m1.ok _ _ (br hm);exact#[.ref a,vs.length,by rw[rep_ptr.mp rx],.inl #[vs,SqL.of hH,rfl],h2 _ _ M1 F1 H1 g1 hR (rep_int.mpr (by rw[rr.length])) m1]
 .exact hx.elim⟩
def mIxP(ta tb:TME):TME:=λz M R=>ta z M λx M1=>tb z M1 λy M2=>kdP x λa=>kdI y λi=>∃ds,mget M2 a=be (.lst ds)/\∃d,atI ds i=be d/\R d M2
def sU(ha:ME X a ta)(hb:ME X b tb)(hs:fN b\zA6):ME X (.Subscript a b pos) (mIxP ta tb):=⟨(pe_ix ix_list ha.out hb.out hs).anti λs H Q h=>by
 let#[F,z,M,k,rs,R,h1,h2]:=h;refine#[F,z,M,k,rs,_,h1,λx u M1 F1 H1 g1 hx rx m1=>?_];refine#[F1,z,M1,k.growM rs.mb g1,rs.growM k.bh g1 m1,_,hx,λy v M2 F2 H2 g2 hy ry m2=>?_];let#[p,rfl,Ov]:=kdP.of hy;let#[i,rfl,ds,hm,d,hd,hR]:=kdI.of Ov;let#[vs,hH,rr]:=m2.ok _ _ (br hm);let#[w,e2,j_]:=rr.at hd;exact#[p,vs,_,w,rep_ptr.mp rx,rep_int.mp ry,SqL.of hH,e2,h2 d w M2 F2 H2 (g1.trans g2) hR j_ m2]⟩
def AJ(to te:TME):TME:=λz M R=>to z M λo M1=>match o with|.ptr a=>(∃ds,mget M1 a=be (.lst ds))/\te z M1 λd M2=>∃ds,mget M2 a=be (.lst ds)/\ds.length<=100000/\R .non (mput M2 a (.lst (ds++[d])))|_=>False
def dU{b7 a8:TX}(ho:ME X o to)(he:ME X e te)(j8:zSE X e []\zA0)
  (b8:(TM o "append" X.env (TR o X.env)=TR o X.env)\zA0)
  (f6:zHF X a8 [e]\zA0)
  (c5:((b7.endLine==a8.line)=true)\zA0):
  ME X (.Call (.Attribute o "append" b7) [e] [] a8) (AJ to te):=⟨(dq PySem.F.plainAttrs_list PySem.F.slot_list_append PySem.F.type_list_append jC ho.out (bw he.out pa_nil j8) b8 f6 c5 j8).anti λs H Q h=>by
 let#[F,z,M,k,rs,R,h1,h2]:=h;refine#[F,z,M,k,rs,_,h1,λx u M1 F1 H1 g1 hx rx m1=>?_];split at hx
 .rename_i a;let#[#[R3,Mp],hx]:=hx;let#[Ow,Ox,R4]:=m1.ok _ _ (br Mp);rw[rep_ptr.mp rx];refine#[.inl #[rfl,Ow,SqL.of Ox],?_];refine#[F1,z,M1,k.growM rs.mb g1,rs.growM k.bh g1 m1,_,hx,λd v M2 F2 H2 g2 hd rd m2=>?_];let#[ds,hm,hl,hR]:=hd;let#[vs,hH,rr]:=m2.ok _ _ (br hm);have hz:vs.length<sizeLine:=by
   rw[rr.length];have h2:(100000:Nat)<sizeLine:=K3
   lia
  refine#[a,vs,v,rfl,rfl,hH,hz,?_];exact h2 _ _ _ F2 _ (g1.trans (g2.trans (GrowM.put g2.fh (m2.fr a (bJ (br hm))) hm))) hR (rep_non.mpr rfl) (m2.put hm #[_,aB,rr.append (fW rd)])
 .exact hx.elim⟩
def frzD:MO->D|.ins x fs=>.obj x fs|.lst ds=>.lst ds|.dti a_=>.dti a_
def mFrz(i:Nat)(t:TMS):TMS:=λE z M=>match z[i]? with|some (be (.ptr a))=>∃o,mget M a=be o/\t E (z.set i (be (frzD o))) (mdel M a)|_=>False
def sV(i:Nat){Mf:List TF}(h:MSs X Mf t):MSs X Mf (mFrz i t):=⟨PSs.anti h.out λE s H q=>by
 let#[F0,F,z,M,k,rs,ED,h,e]:=q;unfold mFrz at h;split at h
 .rename_i a ez;let#[o,hm,h]:=h;have mem:=br hm;have fa:=rs.rm.fr a (bJ mem);have ba:=rs.mb a (bJ mem);let#[v,hv,rv]:=rs.rs.val i _ ez rfl;have R5:=rep_ptr.mp rv;subst R5;have hok:=rs.rm.ok a o mem;let#[ho,f9,Oy]:∃ho,H a=be ho/\∀F',Same F F'->F' a=be ho->Rep X.K F' (frzD o) (.ref a):=by
   cases o with
   |ins x fs=>let#[C,dx,ws,n,h1,h2]:=hok;exact#[_,h1,λF' s' hF=>rep_obj.mpr #[a,C,dx,ws,rfl,n,hF,RepF.mono s' fs ws h2]]
   |lst ds=>let#[vs,h1,h2]:=hok;exact#[_,h1,λF' s' hF=>rep_lst.mpr #[a,vs,rfl,hF,h2.mono s']]
   |dti a_=>exact#[_,hok,λF' s' hF=>rep_dti.mpr #[a,rfl,hF]]
  have s1:Same F (upd F a ho):=aQ fa _;have hs:s.set i (be (.ref a))=s:=by
   apply Ig;intro n;by_cases hn:i=n
   .subst hn;rw[G6 (GO.mp hv).1,hv]
   .rw[GL hn]
  have k1:Kept J.B F0 (upd F a ho) H:=⟨k.bh,λb u q=>by
   by_cases hb:b=a
   .subst hb;rw[aB]at q;cases q;exact f9
   .rw[ar hb]at q;exact k.fh b u q,k.f0.trans s1,λb h1 h2=>by
   by_cases hb:b=a
   .subst hb;exact absurd ba h2
   .rw[ar hb];exact k.out b h1 h2,k.eb,k.jf,k.jo⟩
  have r0:RepS X.K J.B (upd F a ho) H z s:=#[rs.rs.len,λi d e n=>let ⟨v,q1,q2⟩:=rs.rs.val i d e n;#[v,q1,q2.mono s1],λi ds e=>absurd e (rs.no i ds),rs.rs.apart];have R6:RepM X.K (upd F a ho) H (mdel M a):=⟨rs.rm.nd.sublist del_sub,λb q hb=>by
   let#[ne,hb]:=ky rs.rm.nd hb;exact(rs.rm.ok b q hb).mono s1 λ_ z=>z,λb hb=>by
   let#[#[b',q],i6,rfl]:=GV.mp hb;let#[ne,Mq]:=ky rs.rm.nd i6;rw[ar ne];exact rs.rm.fr _ (bJ Mq)⟩
  have z0:RepZ X.K J.B (upd F a ho) H z s (mdel M a):=#[r0,rs.no,R6,λb hb=>rs.mb b (del_sub.subset hb)];have z1:=z0.set (i:=i) (Oy _ s1 aB);rw[hs]at z1;exact#[F0,_,_,_,k1,z1,ED,h,e]
 .exact h.elim⟩
end
def kE{K:Ex}{F:Hp}{N:List J7}{ds:List D}{vs:List V}(rs:Reps K F ds vs):∀(i:Nat) d,(startD N ds)[i]?≠be (be (.own d)):=by
 intro i d e;unfold startD at e;by_cases hi:i<ds.length
 .rw[Hm (by simpa using hi),GU]at e;cases q:ds[i]? with
  |none=>rw[q]at e;cases e
  |some x=>
   rw[q]at e;cases e;let#[v,_,q2]:=rs.get q;exact rep_own q2
 .rw[HC (by simpa using hi),Ix]at e;split at e
  .cases e
  .cases e
def growM_nil{M':MS}{F H F' H':Hp}(g:GrowM [] M' F H F' H'):Grow F H F' H':=#[g.ff,g.fh,λb o h=>g.hh b o (λz=>nomatch z) h,λb h1 h2=>g.out b (λz=>nomatch z) h1 h2]
section
variable {P:SB}{w:TJ}{K:Ex}{mg:J7->Option KB}{base:Heap}
variable{x:J7}{ps:List J7}{S:SpM}
def CalMM.toX{n:Nat}{S0:SpX}(C:CalMM P w K mg base n x ps S)(h:∀ds R RX,S0 ds R RX->S ds [] (λd _=>R d) λx fs _=>RX x fs):CalX P w K mg base n x ps S0:=by
 let#[f,fd,F,hb,hk,hm]:=C;refine#[f,fd,F.imp λvs H Q E q=>?_,hb,hk,hm];let#[F,ds,fh,rs,R,RX,hS,q1,q2]:=q;exact#[F,ds,[],fh,rs,RepM.nil,_,_,h ds R RX hS,λd v M' F' H' g hd rd _=>q1 d v F' H' (growM_nil g) hd rd,λy fs C od M' F' H' g hR er _=>q2 y fs C od F' H' (growM_nil g) hR er]
open Classical in
def Fun.okM{x qual:J7}{st:TF}{f:KF}{fd:TQ}{N ps:List J7}{k:Nat}{S:SpM}{dV:KB}(T:FunG K dV x qual st f fd)(F:FnScope N ps (ah st))(len:∀ds M R RX,S ds M R RX->ds.length=ps.length)
  (a9:∀(cdv:KB) (A:TK) (outer:List Uw) (s:KM) (H:Hp) (E:XK) (J:Jm),Room k (A.deeper (TY qual (ah st) s.heap.objs.size f cdv))->XOkM (cxOf (CX1 P w) P w K mg base N qual (ah st) f cdv A outer s H E)->
   ∃t,MSs (cxOf (CX1 P w) P w K mg base N qual (ah st) f cdv A outer s H E) (aL st) t/\∀ds M R RX,(∀z,J.RM z=λM' x fs=>RX x fs M')->S ds M R RX->t {nx:=λ_ M'=>R .non M',rt:=R} (startD N ds) M):FnOk P w K mg base (CX1 P w) (k+1) f fd ps (lSpM K S):=by
 refine Fun.okC T F (λvs H Q E h=>?_) (λcdv A outer s H vs Q E hr h=>?_)
 .let#[F,ds,M,fh,rs,rm,R,RX,h,_]:=h;rw[rs.length];exact len ds M R RX h
 .let#[F,ds,M,fh,rs,rm,R,RX,h,q,qx]:=h
  let B:Hp:=λb=>if b∈av M then x8 else H b
  have Qy:∀{b:KF},b∈av M->B b=none:=λ{b} h=>if_pos h;have No:∀{b:KF},b∉av M->B b=H b:=λ{b} h=>if_neg h
  letI:Jm:={B:=B,F0:=F,RX:=λ_ _ _=>False,RM:=λ_ M' x fs=>RX x fs M'}
  have gr:∀{M':MS} {F' H':Hp},Kept B F F' H'->(∀a,a∈av M'->B a=x8)->GrowM M M' F H F' H':=λ{M' F' H'} k mb=>⟨k.f0,k.fh,λb o nb e=>k.bh b o (by rw[No nb];exact e),λb nb h1 h2=>k.out b h1 (by rw[No nb];exact h2),λb hb=>by
   by_cases nb:b∈av M
   .exact .inl nb
   .right;rw[<-No nb];exact mb b hb⟩
  have hx:XOkM (cxOf (CX1 P w) P w K mg base N qual (ah st) f cdv A outer s H E):=by
   intro σ z M' F' H' s' e C od y fs I kk rr hR er ⟨He,ne,_,hx⟩;have hE:E (.ref C) od H':=qx y fs C od M' F' H' (gr kk rr.mb) hR er rr.rm;rcases hx with⟨sl,vs,h1,h2⟩|⟨T,fl,h1,h2,h3,_⟩
   .exact jF I h1 h2 He ne hE
   .exact ki I h1 ne h2 He h3 hE
  let#[t,ht,hq]:=a9 cdv A outer s H E inferInstance hr hx;have k0:Kept B F F H:=⟨λb o e=>by
   by_cases nb:b∈av M
   .rw[Qy nb]at e;cases e
   .rw[No nb]at e;exact e,fh,Same.refl F,λ_ h _=>h,rfl,Same.refl F,λ_ h _=>h⟩
  have r0:RepZ K B F H (startD N ds) (L2.start N vs) M:=#[dM rs,kE rs,rm,λa h=>Qy h];exact#[_,ht.out,F,F,startD N ds,M,k0,r0,_,hq ds M R RX (λ_=>rfl) h,#[λz' s' M' F' H' k hn r=>q _ _ M' F' H' (gr k r.mb) hn (rep_non.mpr rfl) r.rm,λd v M' F' H' k hd rd Oz mb=>q d v M' F' H' (gr k mb) hd rd Oz,λ_ _ _ _ _ _ h _=>h.elim,λ_ _ _ _ _ _ h _=>h.elim]]
variable{N:List J7}
def Tx.okM{st:TF}{k:Nat}(T:Tx K mg x st ps)(F:FnScope N ps (ah st))(len:∀ds M R RX,S ds M R RX->ds.length=ps.length)
  (a9:∀(f:KF) (cdv:KB) (A:TK) (outer:List Uw) (s:KM) (H:Hp) (E:XK) (J:Jm),Room k (A.deeper (TY x (ah st) s.heap.objs.size f cdv))->XOkM (cxOf (CX1 P w) P w K mg base N x (ah st) f cdv A outer s H E)->
   ∃t,MSs (cxOf (CX1 P w) P w K mg base N x (ah st) f cdv A outer s H E) (aL st) t/\∀ds M R RX,(∀z,J.RM z=λM' x fs=>RX x fs M')->S ds M R RX->t {nx:=λ_ M'=>R .non M',rt:=R} (startD N ds) M):CalMM P w K mg base (k+1) x ps S:=by
 let#[f,fd,T,hb,hm]:=T;exact#[f,fd,Fun.okM T F len λcdv A outer s H E J hr hx=>a9 f cdv A outer s H E J hr hx,hb,T.kp,hm]
def Txm(K:Ex)(x m:J7)(qual:J7)(st:TF)(ps:List J7):Prop:=
 ∃C f fd,nsIn K Pi x=be (be (.ref C))/\Cls K C/\Meth K C m f/\Fun K m qual st f fd/\Binds K fd ps []
def Txm.okM{m qual:J7}{st:TF}{k:Nat}(T:Txm K x m qual st ps)(F:FnScope N ps (ah st))(len:∀ds M R RX,S ds M R RX->ds.length=ps.length)
  (a9:∀(f:KF) (cdv:KB) (A:TK) (outer:List Uw) (s:KM) (H:Hp) (E:XK) (J:Jm),Room k (A.deeper (TY qual (ah st) s.heap.objs.size f cdv))->XOkM (cxOf (CX1 P w) P w K mg base N qual (ah st) f cdv A outer s H E)->
   ∃t,MSs (cxOf (CX1 P w) P w K mg base N qual (ah st) f cdv A outer s H E) (aL st) t/\∀ds M R RX,(∀z,J.RM z=λM' x fs=>RX x fs M')->S ds M R RX->t {nx:=λ_ M'=>R .non M',rt:=R} (startD N ds) M):CalMth P w K mg base (k+1) x m ps (lSpM K S):=by
 let#[C,f,fd,h1,h2,h3,T,hb]:=T;exact#[C,f,fd,h1,h2,h3,Fun.okM T F len λcdv A outer s H E J hr hx=>a9 f cdv A outer s H E J hr hx,hb]
end
end My
namespace L2
section
variable {X:Cx}{pins:List (KF×T5)}{σ:St}{H:Hp}{s:KM}{h':Heap}
def Inv.turned2{t':Nat}{e it:KF}(I:Inv X pins σ H s)(k:∀b o,b≠e->b≠it->s.heap.get? b=be o->h'.get? b=be o)(he:FpOk X pins H e)(hi:FpOk X pins H it):Inv X pins σ H {s with heap:=h',toks:=t'}:=by
 let#[e0,e1,e2,e3,e4,e5]:=he;let#[i0,i1,i2,i3,i4,i5]:=hi;have KW:∀b u,H b=be u->b≠e/\b≠it:=λb u q=>#[(λz=>by rw[z,e0]at q;cases q),(λz=>by rw[z,i0]at q;cases q)];have nc:∀{b:KF},b∉[e,it]->b≠e/\b≠it:=λ{b} h=>#[λz=>h (by simp[z]),λz=>h (by simp[z])];refine I.step (g':=s.gens) (d':=s.drawn) (ch:=[e,it]) (λb hb=>?_) (λb o _ _ hc q _=>k b o (nc hc).1 (nc hc).2 q) (λb o _ _ hc q _=>#[o.slots,k b o (nc hc).1 (nc hc).2 q]) (λ_ _ _ _ n=>n)
  (λb o hc q=>#[o,k b o (nc hc).1 (nc hc).2 q]) (λ_ _ q=>q) (λ_ _ _ q=>q) (λb ps q=>#[[].toArray,by rw[q];simp]) (λm hm=>?_) (λb u q=>?_) I.bare
 .rcases GA.mp hb with z|z
  .rw[z];exact#[e3,e1,e4,e5]
  .rw[Gu.mp z];exact#[i3,i1,i4,i5]
 .let#[o,es,ep,ho,r]:=hm;exact#[o,es,ep,k _ o (Ne.symm e1) (Ne.symm i1) ho,r]
 .refine(I.hok b u q).stay (λc v hc q'=>k c v ?_ ?_ q') (λ_ q=>q) λ_ _ q=>q
  .rcases hc with z|z
   .rw[z];exact(KW b u q).1
   .exact(KW c _ z).1
  .rcases hc with z|z
   .rw[z];exact(KW b u q).2
   .exact(KW c _ z).2
end
def Itel(K:Ex)(a:KF):It:=
 #[λi H=>∃xs x,SqL K H a xs/\xs[i]?=be x,λi H x H'=>∃T v,H T=x8/\x=.ref T/\H'=upd H T (.tup [.int i,v])/\∀xs,SqL K H a xs->xs[i]?=be v,λi H=>∃xs,SqL K H a xs/\xs.length<=i]
def Ites(x:J7):It:=#[λi _=>i<x.length,λi H v H'=>∃T c,H T=x8/\v=.ref T/\H'=upd H T (.tup [.int i,.str #[[c].toArray]])/\x.cps[i]?=be c,λi _=>i=x.length]
variable{P:SB}{w:TJ}
def AK{H:Hp}{h:Heap}{T:KF}{i:Int}{t:VF}{v:V}{u:KB}(r:RelV v u)(q:h.get? T=be {cls:=.type "tuple",data:=.seq [.int i t,u].toArray}):ObjOk P w H h T (.tup [.int i,v]):=
 #[by show 2<=sizeLine;decide,[.int i t,u],.cons #[t,rfl] (.cons r .nil),#[_,q,rfl,_,rfl]]
def sW{X:Cx}{pins:List (KF×T5)}{σ:St}{H:Hp}{s:KM}{h':Heap}{t':Nat}{e it:KF}{i:Int}{t:VF}{v:V}{u:KB}(I:Inv X pins σ H s)(he:FpOk X pins H e)(hi:FpOk X pins H it)(le:e<s.heap.objs.size)(li:it<s.heap.objs.size)(r:RelV v u)
  (hT:h'.get? s.heap.objs.size=be {cls:=.type "tuple",data:=.seq [.int i t,u].toArray}) (hk:∀b o,b≠e->b≠it->s.heap.get? b=be o->h'.get? b=be o):Inv X pins σ (upd H s.heap.objs.size (.tup [.int i,v])) {s with heap:=h',toks:=t'}:=by
 have I1:Inv X pins σ (upd H s.heap.objs.size (.tup [.int i,v])) {s with heap:=s.heap.push {cls:=.type "tuple",data:=.seq [.int i t,u].toArray},toks:=t'}:=
  I.laid (λb o q=>Heap.get?_push_of_some _ q) (Gv _) (AK r (Heap.get?_push_size _ rfl))
 have fp:∀{b:KF},FpOk X pins H b->b<s.heap.objs.size->FpOk X pins (upd H s.heap.objs.size (.tup [.int i,v])) b:=λ{b} h l=>#[by rw[ar (GH l)];exact h.1,h.2];refine I1.turned2 (h':=h') (t':=t') (λb o h1 h2 q=>?_) (fp he le) (fp hi li);rcases Heap.get?_push_cases (show(s.heap.push {cls:=.type "tuple",data:=.seq [.int i t,u].toArray}).get? b=be o from q)with⟨rfl,rfl⟩|q2
 .exact hT
 .exact hk b o h1 h2 q2
variable{v5:List SZ}
def AL{K:Ex}{x1:Nat}{tp:TX}(a e it:KF)(Lw:e≠it):Turn P w K (.Tuple v5 x1 tp) (Itel K a) [e,it] e (λi h=>(∃f8,IsEnum h e it i f8)/\h.IsListIter it a i) where
 mem:=K8
 obj:=λi h st b hb=>by
  let#[#[f8,he],hit]:=st;rcases GA.mp hb with z|z
  .rw[z];exact#[_,he,λv z=>by cases z]
  .rw[Gu.mp z];let#[o,ho,c,d]:=hit;exact#[o,ho,λv z=>by rw[d]at z;cases z]
 keep:=λi h h' st k=>#[let ⟨f8,he⟩:=st.1;#[f8,k e K8 _ he],st.2.at λo q=>k it K8 o q]
 item:=by
  intro X hP hw hK hc i pins s σ H E I hf st hg;subst hP hw hK;let#[xs,x,hq,hx]:=hg;let#[its,rv,p,hz]:=I.list hq;let#[u,hu,ru]:=rv.get hx;let#[#[f8,he],hit]:=st;have fe:=hf e K8;have fi:=hf it K8;have le:e<s.heap.objs.size:=Heap.lt_size he;have li:it<s.heap.objs.size:=by let#[o,ho,_]:=hit;exact Heap.lt_size ho
  refine wpAny_pyNext_enum_item he hit p.isList (x:=u) (by simpa using hu) Lw λh' G' Lh hT k_ hk=>?_;refine#[_,rfl,U3 G' λh2 OA m4=>?_];have s_:Heap.SameBut e h' h2:=m4;have nT:s.heap.objs.size≠e:=Hi le;have I1:Inv X pins σ (upd H s.heap.objs.size (.tup [.int i,x])) {s with heap:=h2,toks:=s.toks+1}:=sW I fe fi le li ru ((s_.2 _ nT).trans hT) λb o h1 h3 q=>(s_.2 b h1).trans (hk b o h1 h3 q);refine#[.ref s.heap.objs.size,_,I1,rfl,#[_,x,I.hok.fresh (Gv _),rfl,rfl,λys hy=>by rw[I.list_inj hy hq];exact hx],#[#[u,by simpa using OA],Lh.at λo q=>(s_.2 it (Ne.symm Lw)).trans q],λb hb=>?_];rcases GA.mp hb with z|z
  .rw[z,ar (GH le)];exact fe.1
  .rw[Gu.mp z,ar (GH li)];exact fi.1
 done:=by
  intro X hP hw hK hc i pins s σ H E I hf st hg;subst hP hw hK;let#[xs,hq,hx]:=hg;let#[its,rv,p,hz]:=I.list hq;let#[#[f8,he],hit]:=st;have hl:=rv.length;let#[f0,f1,f2,f3,f4,f5]:=hf it K8;exact wpAny_pyNext_enum_end (I.ok.hd hc) he hit p.isList (by simp;lia) λh' eb=>#[rfl,I.turned (t':=s.toks) (λb o hb q=>eb b o hb q) f0 f1 f3 f4 f5]
 self:=λ_ _ _ _ _ st h=>let ⟨⟨f8,he⟩,_⟩:=st;Uz he h
def AM{K:Ex}{x1:Nat}{tp:TX}(x:J7)(t:VF)(e it:KF)(Lw:e≠it):Turn P w K (.Tuple v5 x1 tp) (Ites x) [e,it] e (λi h=>(∃f8,IsEnum h e it i f8)/\h.IsStrIter it "str_ascii_iterator" x t i) where
 mem:=K8
 obj:=λi h st b hb=>by
  let#[#[f8,he],hit]:=st;rcases GA.mp hb with z|z
  .rw[z];exact#[_,he,λv z=>by cases z]
  .rw[Gu.mp z];let#[o,ho,c,d]:=hit;exact#[o,ho,λv z=>by rw[d]at z;cases z]
 keep:=λi h h' st k=>#[let ⟨f8,he⟩:=st.1;#[f8,k e K8 _ he],let ⟨o,ho,r⟩:=st.2;#[o,k it K8 o ho,r]]
 item:=by
  intro X hP hw hK hc i pins s σ H E I hf st hg;subst hP hw hK;have hi:i<x.cps.size:=hg;let#[#[f8,he],hit]:=st;have fe:=hf e K8;have fi:=hf it K8;have le:e<s.heap.objs.size:=Heap.lt_size he;have li:it<s.heap.objs.size:=by let#[o,ho,_]:=hit;exact Heap.lt_size ho
  refine wpAny_pyNext_enum_itemD (Draws.strAscii (A:=X.A.in1) (by exact I.ok.hd hc) it x t) he hit hi Lw (by simp[Lw]) λu h' tk hP G' Lh hT k_ hk=>?_;let#[c,tu,w_,rfl]:=hP;refine#[_,rfl,U3 G' λh2 OA m4=>?_];have s_:Heap.SameBut e h' h2:=m4;have nT:s.heap.objs.size≠e:=Hi le;have I1:Inv X pins σ (upd H s.heap.objs.size (.tup [.int i,.str #[[c].toArray]])) {s with heap:=h2,toks:=tk+1}:=sW I fe fi le li #[tu,rfl] ((s_.2 _ nT).trans hT) λb o h1 h3 q=>(s_.2 b h1).trans (hk b o h1 h3 q);refine#[.ref s.heap.objs.size,_,I1,rfl,#[_,c,I.hok.fresh (Gv _),rfl,rfl,w_],#[#[_,by simpa using OA],let ⟨o,ho,r⟩:=Lh;#[o,(s_.2 it (Ne.symm Lw)).trans ho,r]],λb hb=>?_];rcases GA.mp hb with z|z
  .rw[z,ar (GH le)];exact fe.1
  .rw[Gu.mp z,ar (GH li)];exact fi.1
 done:=by
  intro X hP hw hK hc i pins s σ H E I hf st hg;subst hP hw hK;have hi:i=x.cps.size:=hg;subst hi;let#[#[f8,he],hit]:=st;let#[f0,f1,f2,f3,f4,f5]:=hf it K8;exact wpAny_pyNext_enum_endD (Draws.strAscii (A:=X.A.in1) (by exact I.ok.hd hc) it x t) he hit λh' eb=>#[rfl,I.turned (t':=s.toks) (λb o hb q=>eb b o hb q) f0 f1 f3 f4 f5]
 self:=λ_ _ _ _ _ st h=>let ⟨⟨f8,he⟩,_⟩:=st;Uz he h
def iEnL(K:Ex)(ta:TA):TI:=λσ H R=>ta σ H λvs H1=>∃a,vs=[.ref a]/\(∃xs,SqL K H1 a xs)/\R (Itel K a) H1
def iEnS(ta:TA):TI:=λσ H R=>ta σ H λvs H1=>∃x,vs=[.str x]/\x.cps.all (·<128)=true/\R (Ites x) H1
section
variable {X:Cx}{v5:List SZ}{x1:Nat}{tp p pos:TX}{l:SZ}{ta:TA}
def AN(hg:Gl X "enumerate")(hm:X.mg "enumerate"=x8)(ha:PA X [l] ta)(hs:(TL [l] X.env=[(false,TR l X.env)])\zA0):PI X (.Tuple v5 x1 tp) (.Call (.Name "enumerate" p) [l] [] pos) (iEnL X.K ta):=by
 intro pins s σ H R I h;refine Call_ (eN I hg hm PyProof.Rows.boot_enumerate (PyProof.Rows.callWith_type1 (thn (ha pos pins s σ H _ I h) λus s1 ⟨vs,H1,I1,r1,q1⟩=>?_) hs rfl));let#[a,rfl,#[xs,hq],q]:=q1;let#[u,rfl,ru]:=vals1 r1;cases ru;let#[its,rv,pl,hz]:=I1.list hq;refine call_enumerate_list pl.isList λh' he hit k_ hk=>?_;have I2:Inv X pins σ H1 {s1 with heap:=h'}:=I1.kept (t':=s1.toks) hk;refine Uz he ?_;have ne:s1.heap.objs.size+1≠s1.heap.objs.size:=Jw _;refine#[s1.heap.objs.size+1,[s1.heap.objs.size+1,s1.heap.objs.size],_,_,H1,rfl,I2,AL a _ _ ne,#[#[_,he],hit],λb hb=>?_,q];rcases GA.mp hb with z|z
 .rw[z];exact I1.fpOk (Hk _) (I1.hok.fresh (Hk _))
 .rw[Gu.mp z];exact I1.fpOk (Gv _) (I1.hok.fresh (Gv _))
def AO(hg:Gl X "enumerate")(hm:X.mg "enumerate"=x8)(ha:PA X [l] ta)(hs:(TL [l] X.env=[(false,TR l X.env)])\zA0):PI X (.Tuple v5 x1 tp) (.Call (.Name "enumerate" p) [l] [] pos) (iEnS ta):=by
 intro pins s σ H R I h;refine Call_ (eN I hg hm PyProof.Rows.boot_enumerate (PyProof.Rows.callWith_type1 (thn (ha pos pins s σ H _ I h) λus s1 ⟨vs,H1,I1,r1,q1⟩=>?_) hs rfl));let#[x,rfl,OB,q]:=q1;let#[u,rfl,t,rfl]:=vals1 r1;refine call_enumerate_str λh' he hit k_ hk=>?_;have I2:Inv X pins σ H1 {s1 with heap:=h'}:=I1.kept (t':=s1.toks) hk;refine Uz he ?_;have ne:s1.heap.objs.size+1≠s1.heap.objs.size:=Jw _;have R7:strIterType x="str_ascii_iterator":=by unfold strIterType;rw[OB];rfl
 rw[R7]at hit;refine#[s1.heap.objs.size+1,[s1.heap.objs.size+1,s1.heap.objs.size],_,_,H1,rfl,I2,AM x t _ _ ne,#[#[_,he],hit],λb hb=>?_,q];rcases GA.mp hb with z|z
 .rw[z];exact I1.fpOk (Hk _) (I1.hok.fresh (Hk _))
 .rw[Gu.mp z];exact I1.fpOk (Gv _) (I1.hok.fresh (Gv _))
end
end L2
namespace My
open Exc
section
variable {X:Cx}[J:Jm]{a b c e o:SZ}{ta tb tc te to:TME}{pos:TX}{st:TF}{rest:List TF}{t u:TMS}
def kF{K:Ex}{F:Hp}:∀(is:List Nat) (ds:List D) (vs:List V) (z:SD),Reps K F ds vs->(∀(i:Nat) d,z[i]?≠be (be (.own d)))->∀(i:Nat) d,(cI is ds z)[i]?≠be (be (.own d))
 |[],_,_,z,_,h=>h
 |_::_,[],_,z,_,h=>h
 |i::is,d::ds,vs,z,r,h=>by
  let#[v,vr,rfl,r1,r2]:=reps_cons.mp r;refine kF is ds vr _ r2 λj q e=>?_;by_cases hj:i=j
  .subst hj;rw[HG]at e;simp at e;have:=r1.noown;rw[e.2]at this;cases this
  .rw[GL hj]at e;exact h j q e
def mItE(t:TME):TMI:=λz M R=>t z M λx M1=>match x with|.lst ds=>R ds M1|_=>False
def AQ(t:TME):TMI:=λz M R=>t z M λx M1=>match x with|.str x=>x.cps.all (·<128)=true/\R (bX x) M1|_=>False
def sX(is:List Nat)(ti:TMI)(tb:TMS):TMS:=λE z M=>ti z M λds M1=>∃W:Nat->SD->MS->Prop,W 0 z M1/\(∀(k:Nat) x z M,ds[k]?=be x->W k z M->tb {E with nx:=W (k+1),ct:=W (k+1),bk:=E.nx} (cI is [.int k,x] z) M)/\∀z M,W ds.length z M->E.nx z M
variable{is:List Nat}
def sY{K:Ex}{F0 F1 H1:Hp}{z:SD}{s:L2.St}{M1:MS}{E:Ends}{ED:EndsM}{It':It}{g:TG}{tb:TMS}{Qz:TS}{ds:List D}(hK:K=X.K)(k1:Kept J.B F0 F1 H1)(s9:RepZ K J.B F1 H1 z s M1)(e:EndsOkM K F0 ED E)(b9:is.length=2)
  (go:∀k F' H',Same F1 F'->Same F' H'->k<ds.length->It'.go k H') (stop:∀F' H',Same F1 F'->Same F' H'->It'.stop ds.length H')
  (yld:∀k F' H' x H'',Same F1 F'->Same F' H'->k<ds.length->It'.yld k H' x H''->∃T d v,H' T=x8/\x=.ref T/\H''=upd H' T (.tup [.int k,v])/\ds[k]?=be d/\Rep K F' d v)
  (hg:∀(dd:List D) (vs:List V) (T:KF) (z:SD) (s:L2.St) (F H:Hp) (Q:L2.St->Hp->Prop),dd.length=2->H T=be (.tup vs)->Reps K F dd vs->RepS K J.B F H z s->(∀s',RepS K J.B F H (cI is dd z) s'->Q s' H)->g (.ref T) s H Q)
  (R8:∀E s H,mS K tb E s H->Qz E s H)
  (hd:∃W:Nat->SD->MS->Prop,W 0 z M1/\(∀(k:Nat) x z M,ds[k]?=be x->W k z M->tb {ED with nx:=W (k+1),ct:=W (k+1),bk:=ED.nx} (cI is [.int k,x] z) M)/\∀z M,W ds.length z M->ED.nx z M):
  ∃W:Nat->Nat->L2.St->Hp->Prop,(∃m,W 0 m s H1)/\∀i m σ H,W i m σ H->
   (It'.stop i H/\E.nx σ H)\/(It'.go i H/\∃N:L2.St->Hp->Prop,(∀σ' H',N σ' H'->∃m',m'<m/\W (i+1) m' σ' H')/\∀x H',It'.yld i H x H'->g x σ H' λσ2 H2=>Qz {E with nx:=N,ct:=N,bk:=E.nx} σ2 H2):=by
 let#[W,w0,e_,out]:=hd;refine#[λk m s' H'=>m=ds.length-k/\k<=ds.length/\∃F' z' M',Kept J.B F0 F' H'/\Same F1 F'/\RepZ K J.B F' H' z' s' M'/\W k z' M',#[ds.length,K8,GT _,F1,z,M1,k1,Same.refl F1,s9,w0],?_];rintro k m s' H'⟨rfl,hk,F',z',M',k',g',r',w'⟩;by_cases j3:k<ds.length
 .refine .inr #[go k F' H' g' k'.fh j3,λs3 H3=>∃F3 z3 M3,Kept J.B F0 F3 H3/\Same F1 F3/\RepZ K J.B F3 H3 z3 s3 M3/\W (k+1) z3 M3,λs3 H3 h3=>#[ds.length-(k+1),KZ,rfl,j3,h3],λx H'' hy=>?_];let#[T,d,v,hT,rfl,rfl,hd,rd]:=yld k F' H' x H'' g' k'.fh j3 hy;have gn:=Grow.new k'.fh hT (.tup [.int k,v]);have k2:=k'.grow gn;have r2:=r'.growM k'.bh gn.toM (r'.rm.grow gn);have rp:Reps K (upd F' T (.tup [.int k,v])) [.int k,d] [.int k,v]:=reps_cons.mpr #[_,_,rfl,rep_int.mpr rfl,fW (rd.mono gn.ff)];refine hg [.int k,d] _ T z' s' _ _ _ rfl aB rp r2.rs λs2 Nn=>R8 _ _ _ ?_;have gF:Same F1 (upd F' T (.tup [.int k,v])):=g'.trans gn.ff;refine#[upd F' T (.tup [.int k,v]),upd F' T (.tup [.int k,v]),_,M',#[k2.bh,k2.fh,Same.refl _,λb h1 _=>h1,k2.eb,k2.jf.trans k2.f0,λb h1 h2=>k2.out b (k2.jo b h1 h2) h2],#[Nn,kF is _ _ z' rp r2.no,r2.rm,r2.mb],_,e_ k d z' M' hd w',?_];have up:∀{F3 H3:Hp},Kept J.B (upd F' T (.tup [.int k,v])) F3 H3->Kept J.B F0 F3 H3:=λk3=>#[k3.bh,k3.fh,k2.f0.trans k3.f0,λb h1 h2=>k3.out b (k2.out b h1 h2) h2,k2.eb,k2.jf,k2.jo];exact#[λz3 s3 M3 F3 H3 k3 h3 r3=>#[F3,z3,M3,up k3,gF.trans k3.f0,r3,h3],λd v M3 F3 H3 k3=>e.rt d v M3 F3 H3 (up k3),λz3 s3 M3 F3 H3 k3=>e.nx z3 s3 M3 F3 H3 (up k3),λz3 s3 M3 F3 H3 k3 h3 r3=>#[F3,z3,M3,up k3,gF.trans k3.f0,r3,h3]]
 .have ek:k=ds.length:=by lia
  subst ek;exact .inl #[stop F' H' g' k'.fh,e.nx z' s' M' F' H' k' (out z' M' w') r']
variable{es:List SZ}{body:List TF}
def AR{x1:Nat}{tp p1 p2:TX}{tb:TMS}(hp:Uh (SL X.prog X.w) X.A X.env X.xe)(hc:X.calm=true)(hm:X.mg "enumerate"=x8)(he:ME X e te)(hG:DGs X es is)(hb:MSs X body tb)(b9:(is.length=2)\zA0)(hg:Gl X "enumerate"\zA0)
  (hn:((TN es X.env).length=2)\zA0) (q8:((TN es X.env).findIdx? (·.1)=none)\zA0)
  (hs:(∀y,zFS X (.Call (.Name "enumerate" p1) [e] [] p2) y)\zA3) (Kb:zSE X e []\zA0) (m9:(TL [e] X.env=[(false,TR e X.env)])\zA0):
  MSt X (.For (.Tuple es x1 tp) (.Call (.Name "enumerate" p1) [e] [] p2) body [] pos) (sX is (mItE te) tb):=by
 let#[ug,OC,kk]:=hG;refine#[(fM hp hc (AN hg hm (bw he.out pa_nil Kb) m9) (jm hc OC hn q8) hb.out hs).anti λE s H q=>?_];let#[F0,F,z,M,kp,rs,ED,h,e]:=q;refine#[F,z,M,kp.kf,rs,_,h,λd v M1 F1 H1 g1 hd rd m1=>?_];split at hd
 .rename_i ds;let#[p,vs,rfl,hq,rr]:=rep_lst.mp rd;refine#[p,rfl,#[vs,SqL.of (g1.fh _ _ hq)],sY (It':=Itel X.K p) rfl (kp.growM rs.mb g1) (rs.growM kp.bh g1 m1) e b9 (λk F' H' s1 s2 hk=>?_) (λF' H' s1 s2=>?_) (λk F' H' x H'' s1 s2 hk hy=>?_) (λdd t_ T z s F H Q hl hT rp Kj hQ=>?_) (λ_ _ _ h=>h) hd]
  .have p7:k<vs.length:=by rw[rr.length];exact hk
   exact#[vs,vs[k],SqL.of (s2 _ _ (s1 _ _ hq)),by simp[p7]]
  .exact#[vs,SqL.of (s2 _ _ (s1 _ _ hq)),by rw[rr.length];exact Gv _]
  .let#[T,v,hT,e1,e2,hv]:=hy;let#[d,hd,rd]:=rr.get' (hv vs (SqL.of (s2 _ _ (s1 _ _ hq))));exact#[T,d,v,hT,e1,e2,hd,rd.mono s1]
  .exact#[T,t_,rfl,SqT.of hT,by rw[rp.length];exact hl,kk dd t_ z s J.B F H Q (by rw[hl,b9]) rp Kj hQ]
 .exact hd.elim
def AS{x1:Nat}{tp p1 p2:TX}{tb:TMS}(hp:Uh (SL X.prog X.w) X.A X.env X.xe)(hc:X.calm=true)(hm:X.mg "enumerate"=x8)(he:ME X e te)(hG:DGs X es is)(hb:MSs X body tb)(b9:(is.length=2)\zA0)(hg:Gl X "enumerate"\zA0)
  (hn:((TN es X.env).length=2)\zA0) (q8:((TN es X.env).findIdx? (·.1)=none)\zA0)
  (hs:(∀y,zFS X (.Call (.Name "enumerate" p1) [e] [] p2) y)\zA3) (Kb:zSE X e []\zA0) (m9:(TL [e] X.env=[(false,TR e X.env)])\zA0):
  MSt X (.For (.Tuple es x1 tp) (.Call (.Name "enumerate" p1) [e] [] p2) body [] pos) (sX is (AQ te) tb):=by
 let#[ug,OC,kk]:=hG;refine#[(fM hp hc (AO hg hm (bw he.out pa_nil Kb) m9) (jm hc OC hn q8) hb.out hs).anti λE s H q=>?_];let#[F0,F,z,M,kp,rs,ED,h,e]:=q;refine#[F,z,M,kp.kf,rs,_,h,λd v M1 F1 H1 g1 hd rd m1=>?_];split at hd
 .rename_i x;let#[ha,hd]:=hd;have hl:=sC x;refine#[x,by rw[rep_str.mp rd],ha,sY (It':=Ites x) rfl (kp.growM rs.mb g1) (rs.growM kp.bh g1 m1) e b9 (λk F' H' s1 s2 hk=>?_) (λF' H' s1 s2=>?_) (λk F' H' x H'' s1 s2 hk hy=>?_) (λdd t_ T z s F H Q hl hT rp Kj hQ=>?_) (λ_ _ _ h=>h) hd]
  .rw[hl]at hk;exact hk
  .exact hl
  .let#[T,c,hT,e1,e2,hc]:=hy;exact#[T,.str #[[c].toArray],.str #[[c].toArray],hT,e1,e2,signs_get hc,rep_str.mpr rfl]
  .exact#[T,t_,rfl,SqT.of hT,by rw[rp.length];exact hl,kk dd t_ z s J.B F H Q (by rw[hl,b9]) rp Kj hQ]
 .exact hd.elim
end
end My
namespace L2
section
variable {prog:SB}{w:TJ}{K:Type}[DecidableEq K]{m_:HeapKind prog w K}{A:TK}{E:KB->KM->Prop}{s:KM}{d a:KF}{k:K}{xs:List (K×KF×KB)}
def AT{v:KB}{Q:KB->KM->Prop}(hu:m_.room A)(q_:m_.is s.heap k a)(hm:s.heap.DictOfH m_ d xs)
  (h1:∀p,UZ xs k=be p->Q p.2 {s with toks:=s.toks+m_.draws k})
  (h2:UZ xs k=x8->∀h',h'.DictOfH m_ d (xs++[(k,a,v)])->Heap.SameBut d s.heap h'->Q v {s with heap:=h',toks:=s.toks+m_.draws k})
  (k_:xs.length<=sizeLine):TC (SL prog w) A (U6 d (.ref a) v) Q E s:=by
 let#[o,es,ep,ho,hc,hd,he,QA,hn]:=hm;unfold U6
 try with_reducible refine Ul ?_
 refine Os (m_.pyHash hu q_ ?_);refine Os (wpAny_dictFind_heap (s:={s with toks:=s.toks+m_.draws k}) hu q_ ho hd he QA hn ?_ ?_)
 .intro f7;have OD:k∉xs.map (·.1):=not_mem_keys_of_get f7;refine Os (Vu (Os (wpAny_updateDictKeys (hz:=by have e:=size_of_entries he;lia) (s:={s with toks:=s.toks+m_.draws k}) ho hd (P3 (h2 (atKey_none_of_get f7) _ ⟨_,_,ep+1,Heap.get?_update_self _ ho (Obj.isFreed_of_dict (Obj.data_mapDictKeys hd _)),
   hc.mapDictKeys _,Obj.data_mapDictKeys hd _,?_,?_,?_⟩ (Heap.SameBut.update ..))))))
  .simp[he,entryOfKey]
  .intro x hx;rcases GS.mp hx with hx|hx
   .exact m_.keeps (QA x hx) ho hd (Heap.SameBut.update ..)
   .simp only[Gu]at hx;subst hx;exact m_.keeps q_ ho hd (Heap.SameBut.update ..)
  .rw[GW,HH];refine#[hn,K8,?_];intro x hx y hy;simp only[GK,HF,Gu]at hy;subst hy;exact λe=>OD (e ▸ hx)
 .intro j p hj;refine Os (wpAny_dictEntries (s:={s with toks:=s.toks+m_.draws k}) ho hd ?_);rw[entry_at he j,hj];exact Os (Vu (P3 (h1 p (atKey_of_get hn hj))))
def AU(m_:HeapKind prog w K)(d a:KF)(hd:(d==Ua)=false)(v:KB):
  MeetsIn prog w (Builtin.«dict.setdefault» #[[.ref d,.ref a,v],[]]) (λA R s=>m_.room A.in1/\∃k xs,m_.is s.heap k a/\s.heap.DictOfH m_ d xs/\xs.length<=sizeLine/\
   (∀p,UZ xs k=be p->R (.ok (.ret p.2)) {s with toks:=s.toks+m_.draws k})/\
   (UZ xs k=x8->∀h',h'.DictOfH m_ d (xs++[(k,a,v)])->Heap.SameBut d s.heap h'->R (.ok (.ret v)) {s with heap:=h',toks:=s.toks+m_.draws k})):=
 .of_wp λA R s hh=>by
  let#[hu,k,xs,q_,hm,hz,h1,h2]:=hh;unfold Builtin.«dict.setdefault»;refine Os ?_;unfold Builtin.Dict.keyAndDefault;refine Os (wpAny_notOrdered_dict hm.typeIs ?_);show TC _ _ (pure (d,Value.ref a,be v)) _ _ s;refine P3 ?_;show TC _ _ (if(d==Ua)=true then _ else(U6 d (.ref a) v>>=_)) _ _ s;rw[if_neg (by rw[hd];exact GJ)];exact Os (AT hu q_ hm (λp hp=>P3 #[p.2,rfl,h1 p hp]) (λhn h' K4 Ky=>P3 #[v,rfl,h2 hn h' K4 Ky]) hz)
end
end L2
namespace My
open Exc
def lookD:List ((Int×Int)×Int)->Int->Int->Option Int
 |[],_,_=>x8
 |((a,b),h)::r,x,y=>if a=x/\b=y then be h else lookD r x y
def kG(x y:Int):∀a_:List ((Int×Int)×Int),valV (dtiV a_) [.inl x,.inl y]=(lookD a_ x y).map V.int
 |[]=>rfl
 |((a,b),h)::r=>by
  show valV (([.inl a,.inl b],V.int h)::dtiV r) _=_;unfold lookD;by_cases e:a=x/\b=y
  .rw[if_pos e,kB (by rw[e.1,e.2])];rfl
  .rw[if_neg e,kC (λz=>e (by
    have z':([Sum.inl a,Sum.inl b]:List Key)=[.inl x,.inl y]:=z;injection z' with z1 z2;injection z2 with z2 _;exact#[Sum.inl.inj z1,Sum.inl.inj z2])),kG x y r]
def sdD(a_:List ((Int×Int)×Int))(x y v:Int):List ((Int×Int)×Int):=if(lookD a_ x y).isSome then a_ else a_++[((x,y),v)]
def AV:V->List V->Hp->VK->Prop:=λx vs H Q=>∃a b i j d a_,x=.ref a/\vs=[.ref b,.int d]/\H a=be (.dT (dtiV a_))/\H b=be (.tup [.int i,.int j])/\Q (.int ((lookD a_ i j).getD d)) H
def AW{X:Cx}(hu:X.A.units+1<Ux):MtR X "dict.get" AV:=by
 intro pins s σ H x vs v us Q I rx rv h;let#[a,b,i,j,d,a_,rfl,rfl,ha,hb,q]:=h;let#[u,u',rfl,ru,rd]:=vals2 rv;cases(show v=Value.ref a from rx);refine AG hu I (DGet.t (k:=[.inl i,.inl j]) ha hb) ru rd λw' s' I' j_=>#[.int ((lookD a_ i j).getD d),H,I',?_,q];rw[kG]at j_;cases e:lookD a_ i j with
 |none=>rw[e]at j_;exact j_
 |some z=>rw[e]at j_;exact j_
def rSdT:V->List V->Hp->VK->Prop:=λx vs H Q=>∃a b i j d a_,x=.ref a/\vs=[.ref b,.int d]/\H a=be (.dT (dtiV a_))/\H b=be (.tup [.int i,.int j])/\a_.length<100000/\∀w,Q (.int w) (upd H a (.dT (dtiV (sdD a_ i j d))))
variable{H:Hp}{a:KF}
def AX{o:HO}(h:H a=be o):upd H a o=H:=by
 funext b;by_cases e:b=a
 .subst e;rw[aB,h]
 .rw[ar e]
def AY{X:Cx}(hu:X.A.units+1<Ux):MtR X "dict.setdefault" rSdT:=by
 intro pins s σ H x vs v us Q I rx rv h;let#[a,b,i,j,d,a_,rfl,rfl,ha,hb,hl,q]:=h;let#[u,u',rfl,ru,t,rfl]:=vals2 rv;cases(show v=Value.ref a from rx);cases(show u=Value.ref b from ru);let#[z,hd,xs,x_,dd]:=AC I.hok ha;have b9:xs.length=a_.length:=by rw[<-Paired.length x_];simp[dtiV]
 have big:(100000:Nat)<sizeLine:=K3
 have i6:H b=be (.tup (([.inl i,.inl j]:List Key).map kV)):=hb;have n8:=x_.val [.inl i,.inl j];rw[kG]at n8;refine Vi PySem.F.slot_dict_setdefault dd.typeIs PySem.F.entry_dict_setdefault (PySem.F.args_dict_setdefault_3 _ _ _) (AU (UE (bN X.prog X.w)) a b hd (.int d t)) #[Vy hu,[.inl i,.inl j],xs,key_of I.hok i6,dd,KZ,λp hp=>?_,λhn h' Ml hs=>?_]
 .rw[hp]at n8;cases e:lookD a_ i j with
  |none=>rw[e]at n8;exact n8.elim
  |some w=>
   rw[e]at n8;have:=q w;unfold sdD at this;rw[e]at this;have e2:(if(be w:Option Int).isSome then a_ else a_++[((i,j),d)])=a_:=rfl;rw[e2,AX ha]at this;exact#[.int w,H,I.tok _,n8,this]
 .rw[hn]at n8;cases e:lookD a_ i j with
  |some w=>rw[e]at n8;exact n8.elim
  |none=>
   have e2:sdD a_ i j d=a_++[((i,j),d)]:=by unfold sdD;rw[e];rfl
   have e3:dtiV (sdD a_ i j d)=dtiV a_++[([.inl i,.inl j],.int d)]:=by rw[e2];simp[dtiV]
   let#[o,es,ep,ho,hx,h3,h4,_,h5]:=Ml;have new:ObjOk X.prog X.w (upd H a (.dT (dtiV (sdD a_ i j d)))) h' a (.dT (dtiV (sdD a_ i j d))):=by
    refine#[by rw[e3,GF];simp[dtiV];lia,hd,_,?_,o,es,ep,ho,hx,h3,h4,h5];rw[e3];refine KT.keeps (H:=H) (Paired.snoc (a:=(([.inl i,.inl j]:List Key),V.int d)) (b:=(([.inl i,.inl j]:List Key),b,Value.int d t)) x_ #[rfl,i6,#[t,rfl]]) λc ys ec=>?_;rw[ar (wz ec ha (λz=>nomatch z))];exact ec
   exact#[.int d,_,AD I (by rw[ha];exact True.intro) hs #[o,ho] new,#[t,rfl],q d]
section
variable {X:Cx}[J:Jm]{a b c e o f:SZ}{ta tb tc te to:TME}{pos b7 a8:TX}{t:TMA}
def mD0:TME:=λ_ M R=>R (.dti []) M
def AZ:ME X (.Dict [] [] pos) mD0:=⟨pe_dnewT.anti λs H Q q=>by
 let#[F,z,M,k,rs,R,h1,h2]:=q;intro p hp;have gn:=Grow.new k.fh hp (.dT []);exact h2 _ _ M _ _ gn.toM h1 (rep_dti.mpr #[p,rfl,aB]) (rs.rm.grow gn)⟩
def mDN:TME:=λ_ M R=>∀p,p∉av M->R (.ptr p) ((p,.dti [])::M)
def A1:ME X (.Dict [] [] pos) mDN:=⟨pe_dnewT.anti λs H Q q=>by
 let#[F,z,M,k,rs,R,h1,h2]:=q;intro p hp;exact h2 _ _ _ F _ (GrowM.new k.fh hp) (h1 p λz=>rs.rm.here z hp) (rep_ptr.mpr rfl) (rs.rm.new k.fh hp aB)⟩
def kdK(ds:List D)(k:Int->Int->Int->Prop):Prop:=kd2 ds λa b=>kdT a λl=>kd2 l λx y=>kdI x λi=>kdI y λj=>kdI b (k i j)
def kdK.of{ds:List D}{k:Int->Int->Int->Prop}(h:kdK ds k):∃i j x,ds=[.tup [.int i,.int j],.int x]/\k i j x:=by
 let#[a,b,rfl,h2]:=kd2.of h;let#[l,rfl,h3]:=kdT.of h2;let#[x,y,rfl,h4]:=kd2.of h3;let#[i,rfl,h5]:=kdI.of h4;let#[j,rfl,h6]:=kdI.of h5;let#[v,rfl,h7]:=kdI.of h6;exact#[i,j,v,rfl,h7]
def A2(to:TME)(t:TMA):TME:=λz M R=>to z M λd M1=>match d with|.dti a_=>(t z M1 λds M2=>kdK ds λi j x=>R (.int ((lookD a_ i j).getD x)) M2)|_=>False
def A3(hu:X.A.units+1<Ux)(ho:ME X o to)(ha:MA X [e,f] t)(b8:(TM o "get" X.env (TR o X.env)=TR o X.env)\zA0)
  (f6:zHF X a8 [e,f]\zA0)
  (c5:((b7.endLine==a8.line)=true)\zA0) (j8:zSE X e [f]\zA0) (c9:zPL X a8 [f]\zA0):
  ME X (.Call (.Attribute o "get" b7) [e,f] [] a8) (A2 to t):=⟨(dq PySem.F.plainAttrs_dict PySem.F.slot_dict_get PySem.F.type_dict_get (AW hu) ho.out ha.out b8 f6 c5 j8 c9).anti λs H Q h=>by
 let#[F,z,M,k,rs,R,h1,h2]:=h;refine#[F,z,M,k,rs,_,h1,λx u M1 F1 H1 g1 hx rx m1=>?_];split at hx
 .rename_i a_;let#[p,rfl,hp]:=rep_dti.mp rx;refine#[.inr (.inr (.inl #[rfl,.inr #[_,g1.fh _ _ hp]])),?_];refine#[F1,z,M1,k.growM rs.mb g1,rs.growM k.bh g1 m1,_,hx,λds vs M2 F2 H2 g2 hd rd m2=>?_];let#[i,j,x,rfl,hd]:=kdK.of hd
  focus
   let#[v1,r1,rfl,q1,q2]:=reps_cons.mp rd;let#[v2,r2,rfl,q3,q4]:=reps_cons.mp q2;rw[reps_nil.mp q4,rep_int.mp q3];let#[b,us,rfl,hb,ru]:=rep_tupS.mp q1;have OE:us=[.int i,.int j]:=(Reps.ints (ns:=[i,j])).mp ru;subst OE;exact#[p,b,i,j,x,a_,rfl,rfl,g2.fh _ _ (g2.ff _ _ hp),g2.fh _ _ hb,h2 _ _ M2 F2 H2 (g1.trans g2) hd (rep_int.mpr rfl) m2]
 .exact hx.elim⟩
def mDsd(to:TME)(t:TMA):TME:=λz M R=>to z M λd M1=>match d with|.ptr a=>(∃a_,mget M1 a=be (.dti a_))/\(t z M1 λds M2=>kdK ds λi j x=>∃a_,mget M2 a=be (.dti a_)/\a_.length<100000/\∀w,R (.int w) (mput M2 a (.dti (sdD a_ i j x))))|_=>False
def A4(hu:X.A.units+1<Ux)(ho:ME X o to)(ha:MA X [e,f] t)(b8:(TM o "setdefault" X.env (TR o X.env)=TR o X.env)\zA0)
  (f6:zHF X a8 [e,f]\zA0)
  (c5:((b7.endLine==a8.line)=true)\zA0) (j8:zSE X e [f]\zA0) (c9:zPL X a8 [f]\zA0):
  ME X (.Call (.Attribute o "setdefault" b7) [e,f] [] a8) (mDsd to t):=⟨(dq PySem.F.plainAttrs_dict PySem.F.slot_dict_setdefault PySem.F.type_dict_setdefault (AY hu) ho.out ha.out b8 f6 c5 j8 c9).anti λs H Q h=>by
 let#[F,z,M,k,rs,R,h1,h2]:=h;refine#[F,z,M,k,rs,_,h1,λx u M1 F1 H1 g1 hx rx m1=>?_];split at hx
 .rename_i a;let#[#[S_,Mp],hx]:=hx;rw[rep_ptr.mp rx];refine#[.inr (.inr (.inl #[rfl,.inr #[_,m1.ok _ _ (br Mp)]])),?_];refine#[F1,z,M1,k.growM rs.mb g1,rs.growM k.bh g1 m1,_,hx,λds vs M2 F2 H2 g2 hd rd m2=>?_];let#[i,j,x,rfl,a_,hm,hl,hR]:=kdK.of hd
  focus
   let#[v1,r1,rfl,q1,q2]:=reps_cons.mp rd;let#[v2,r2,rfl,q3,q4]:=reps_cons.mp q2;rw[reps_nil.mp q4,rep_int.mp q3];let#[b,us,rfl,hb,ru]:=rep_tupS.mp q1;have OE:us=[.int i,.int j]:=(Reps.ints (ns:=[i,j])).mp ru;subst OE;refine#[a,b,i,j,x,a_,rfl,rfl,m2.ok _ _ (br hm),g2.fh _ _ hb,hl,λw=>?_];exact h2 _ _ _ F2 _ (g1.trans (g2.trans (GrowM.put g2.fh (m2.fr a (bJ (br hm))) hm))) (hR w) (rep_int.mpr rfl) (m2.put hm aB)
 .exact hx.elim⟩
end
section
variable {P:SB}{w:TJ}{K:Ex}{mg:J7->Option KB}{base:Heap}
open Classical in
def Cls.okIM{x qual:J7}{st:TF}{f C:KF}{fd:TQ}{N:List J7}{p0:J7}{ps:List J7}{k:Nat}{S:SiD}(T:Fun K "__init__" qual st f fd)(hb:Binds K fd (p0::ps) [])(F:FnScope N (p0::ps) (ah st))(len:∀ds R,S ds R->ds.length=ps.length)
  (hns:nsIn K Pi x=be (be (.ref C))) (l9:mg x=be (.ref C)) (mk:Mk K C f)
  (a9:∀(cdv:KB) (A:TK) (outer:List Uw) (s:KM) (H:Hp) (E:XK) (J:Jm),Room k (A.deeper (TY qual (ah st) s.heap.objs.size f cdv))->XOkM (cxOf (CX1 P w) P w K mg base N qual (ah st) f cdv A outer s H E).nox->
   ∃t,MSs (cxOf (CX1 P w) P w K mg base N qual (ah st) f cdv A outer s H E).nox (aL st) t/\∀a ds R,(∀z M x fs,¬J.RM z M x fs)->S ds R->t {nx:=λ_ M'=>∃fs,M'=[(a,.ins x fs)]/\R fs,rt:=λ_ _=>False} (startD N (.ptr a::ds)) [(a,.ins x [])]):CalM P w K mg base (k+1) x (p0::ps) S:=by
 refine#[C,f,fd,hns,l9,mk,Fun.okC T F (λvs H Q E h=>?_) (λcdv A outer s H vs Q E hr h=>?_),hb]
 .let#[a,dx,us,H1,F,ds,rfl,_,_,_,_,_,rs,R,h,_]:=h;rw[Gy,Gy,rs.length,len ds R h]
 .let#[a,dx,us,H1,F1,ds,rfl,rfl,ha,r_,i7,fh,rs,R,h,q]:=h
  let H:Hp:=upd (upd H1 dx (.own a)) a (.ins C dx [])
  let B:Hp:=λb=>if b=a then x8 else H b
  have Mr:B a=none:=if_pos rfl;have hB:∀{b:KF},b≠a->B b=H b:=λ{b} h=>if_neg h;have p8:∀{b:KF} {o:HO},H1 b=be o->b≠a/\H b=be o:=λ{b o} e=>by
   have n1:b≠a:=bG e ha;exact#[n1,by show upd _ _ _ b=_;rw[ar n1,ar (bG e r_)];exact e]
  letI:Jm:={B:=B,F0:=F1,RX:=λ_ _ _=>False,RM:=λ_ _ _ _=>False}
  have hx:XOkM (cxOf (CX1 P w) P w K mg base N qual (ah st) f cdv A outer s H E).nox:=λσ z M' F' H' s' e C od y fs I kk rr hR er _=>hR.elim;let#[t,ht,hq]:=a9 cdv A outer s H E inferInstance hr hx;have Fa:F1 a=none:=fh.free ha;have k0:Kept B F1 F1 H:=⟨λb o e=>by
   by_cases n:b=a
   .rw[n,Mr]at e;cases e
   .rw[hB n]at e;exact e,λb o e=>(p8 (fh b o e)).2,Same.refl F1,λ_ h _=>h,rfl,Same.refl F1,λ_ h _=>h⟩
  have Kj:Reps K F1 (.ptr a::ds) (.ref a::us):=reps_cons.mpr #[_,_,rfl,rep_ptr.mpr rfl,rs];have OF:RepM K F1 H [(a,.ins x [])]:=⟨by simp[av],λb o hb=>by
   have e:=Gu.mp hb;cases e;exact#[C,dx,[],hns,aB,repf_nil.mpr rfl],λb hb=>by
   have e:b=a:=by simpa[av]using hb
   rw[e];exact Fa⟩
  have r0:RepZ K B F1 H (startD N (.ptr a::ds)) (L2.start N (.ref a::us)) [(a,.ins x [])]:=⟨dM Kj,kE Kj,OF,λb hb=>by
   have e:b=a:=by simpa[av]using hb
   rw[e];exact Mr⟩
  refine#[_,ht.out.nox,F1,F1,_,_,k0,r0,_,hq a ds R (λ_ _ _ _ z=>z) h,#[λz' s' M' F' H' kk hn r=>?_,λd v M' F' H' kk hd rd Oz mb=>hd.elim,λ_ _ _ _ _ _ h _=>h.elim,λ_ _ _ _ _ _ h _=>h.elim]];let#[fs,rfl,hR]:=hn;let#[C',Ke,ws,g_,f9,rf]:=r.rm.ok a _ (Gu.mpr rfl);have I_:nsIn K Pi x=be (be (.ref C')):=g_;rw[hns]at I_;cases I_;exact q fs ws Ke F' H' ⟨kk.f0,kk.fh,λb o e=>kk.bh b o (by show B b=be o;rw[hB (p8 e).1];exact(p8 e).2),λb h1 h2=>kk.out b h1 (by
   show B b≠x8;cases e:H1 b with
   |none=>exact absurd e h2
   |some o=>rw[hB (p8 e).1,(p8 e).2];exact λz=>nomatch z)⟩ hR f9 (r.rm.fr a (by simp[av])) rf
end
section
variable {P:SB}{w:TJ}{K:Ex}{mg:J7->Option KB}{base:Heap}{n:Nat}{x m:J7}{ps:List J7}
variable{S:SpM}
def CalMth.one(h:CalMth P w K mg base n x m ps (lSpM K S)):∀y,y∈[x]->CalMth P w K mg base n y m ps (lSpM K ((λ_=>S) y)):=λy hy=>by
 rw[Gu.mp hy];exact h
def sZ{f:KF}{fd:TQ}{sp:Sp}(h:∀vs H Q E,¬sp vs H Q E):FnOk P w K mg base (CX1 P w) n f fd ps sp:=#[λvs H Q E q=>(h _ _ _ _ q).elim,λA outer s H args us vs Q E _ _ _ _ q=>(h _ _ _ _ q).elim]
def tf(h:∀ds M R RX,¬S ds M R RX):∀vs H Q E,¬lSpM K S vs H Q E:=by
 rintro vs H Q E⟨F,ds,M,_,_,_,R,RX,q,_⟩;exact h ds M R RX q
def CalMth.never{qual:J7}{st:TF}(T:Txm K x m qual st ps)(h:∀ds M R RX,¬S ds M R RX):CalMth P w K mg base n x m ps (lSpM K S):=by
 let#[C,f,fd,h1,h2,h3,T,hb]:=T;exact#[C,f,fd,h1,h2,h3,sZ (tf h),hb]
def CalMM.never{st:TF}(T:Tx K mg x st ps)(h:∀ds M R RX,¬S ds M R RX):CalMM P w K mg base n x ps S:=by
 let#[f,fd,T,hb,hm]:=T;exact#[f,fd,sZ (tf h),hb,T.kp,hm]
end
section
variable {X:Cx}[J:Jm]{a b c e:SZ}{ta tb:TME}{pos:TX}
def mUn(r:D->(D->Prop)->Prop)(ta:TME):TME:=λz M R=>ta z M λx M1=>r x λd=>R d M1
end
def kH(S:SpM):SpM:=λds M R RX=>∃M1 M2,M=M1++M2/\S ds M2 (λd M'=>R d (M1++M')) λx fs M'=>RX x fs (M1++M')
def keys_app{M1 M2:MS}:a∈av (M1++M2)↔a∈av M1\/a∈av M2:=by unfold av;rw[GW,GS]
variable{K:Ex}{vs:List V}
def tm{S:SpM}{Q:VK}{E:XK}(h:lSpM K (kH S) vs H Q E):lSpM K S vs H Q E:=by
 let#[F,ds,M,fh,rs,rm,R,RX,#[M1,M2,rfl,hS],q,qx]:=h;have nd:(av M1++av M2).Nodup:=by have:=rm.nd;unfold av at this ⊢;rw[GW]at this;exact this
 have OG:∀{a:KF},a∈av M1->a∉av M2:=λ{a} h1 h2=>(HH.mp nd).2.2 a h1 a h2 rfl;have R9:RepM K F H M2:=#[(HH.mp nd).2.1,λa o h=>rm.ok a o (GX _ h),λa h=>rm.fr a (keys_app.mpr (.inr h))];have up:∀{M':MS} {F' H':Hp},GrowM M2 M' F H F' H'->RepM K F' H' M'->GrowM (M1++M2) (M1++M') F H F' H'/\RepM K F' H' (M1++M'):=λ{M' F' H'} g r=>by
  have C_:∀{a:KF},a∈av M1->H a≠none:=λ{a} h=>rm.here (keys_app.mpr (.inl h));have OH:∀{a:KF},a∈av M1->a∉av M':=λ{a} h1 h2=>by
   rcases g.ks a h2 with z|z
   .exact OG h1 z
   .exact C_ h1 z
  refine#[#[g.ff,g.fh,λb o nb e=>g.hh b o (λz=>nb (keys_app.mpr (.inr z))) e,λb nb h1 h2=>g.out b (λz=>nb (keys_app.mpr (.inr z))) h1 h2,λb hb=>?_],#[?_,λa o h=>?_,λa h=>?_]]
  .rcases keys_app.mp hb with z|z
   .exact .inl (keys_app.mpr (.inl z))
   .exact(g.ks b z).imp (λz=>keys_app.mpr (.inr z)) id
  .unfold av;rw[GW];exact HH.mpr #[(HH.mp nd).1,r.nd,λa h1 b h2 e=>OH h1 (e ▸ h2)]
  .rcases GS.mp h with z|z
   .have ka:a∈av M1:=bJ z;exact(rm.ok a o (HB _ z)).mono g.ff λo e=>g.hh a o (OG ka) e
   .exact r.ok a o z
  .rcases keys_app.mp h with z|z
   .exact g.out a (OG z) (rm.fr a (keys_app.mpr (.inl z))) (C_ z)
   .exact r.fr a z
 exact#[F,ds,M2,fh,rs,R9,_,_,hS,λd v M' F' H' g hd rd m'=>q d v _ F' H' (up g m').1 hd rd (up g m').2,λx fs C od M' F' H' g hR er m'=>qx x fs C od _ F' H' (up g m').1 hR er (up g m').2]
section
variable {P:SB}{w:TJ}{K:Ex}{mg:J7->Option KB}{base:Heap}{n:Nat}{x m:J7}{ps:List J7}{S:SpM}
def CalMM.frame(C:CalMM P w K mg base n x ps S):CalMM P w K mg base n x ps (kH S):=C.imp λ_ _ _ _ h=>tm h
def CalMth.frame(C:CalMth P w K mg base n x m ps (lSpM K S)):CalMth P w K mg base n x m ps (lSpM K (kH S)):=C.imp λ_ _ _ _ h=>tm h
end
def nilX(S:SpX):SpM:=λds M R RX=>M=[]/\∃(R0:D->Prop) (v6:XD),S ds R0 v6/\(∀d M',R0 d->R d M')/\∀x fs M',v6 x fs->RX x fs M'
def CalMM.nilX{P:SB}{w:TJ}{mg:J7->Option KB}{base:Heap}{n:Nat}{x:J7}{ps:List J7}{S:SpX}(C:CalMM P w K mg base n x ps (nilX S)):CalX P w K mg base n x ps S:=C.toX λ_ R RX h=>#[rfl,R,RX,h,λ_ _ h=>h,λ_ _ _ h=>h]
mutual
def cu:D->Bool
 |.non=>true|.bl _=>true|.int _=>true|.str _=>true|.ptr _=>true
 |.tup ds=>flats ds
 |.lst ds=>flats ds
 |_=>false
def flats:List D->Bool
 |[]=>true
 |d::ds=>cu d&&flats ds
end
def cutF(F:Hp)(a:KF):Hp:=λb=>if b=a then x8 else F b
variable{F:Hp}
def gj{b:KF}(h:b≠a):cutF F a b=F b:=if_neg h
mutual
def Rep.cutF{K:Ex}{F:Hp}{a:KF}{C:KF}{dx:KF}{ws:List (J7×V)}(ea:F a=be (.ins C dx ws)):∀(d:D) (v:V),cu d=true->Rep K F d v->Rep K (My.cutF F a) d v
 |.non,v,_,h=>by unfold Rep at h ⊢;exact h
 |.bl b,v,_,h=>by unfold Rep at h ⊢;exact h
 |.int b,v,_,h=>by unfold Rep at h ⊢;exact h
 |.str b,v,_,h=>by unfold Rep at h ⊢;exact h
 |.ptr b,v,_,h=>by unfold Rep at h ⊢;exact h
 |.tup ds,v,n,h=>by
  unfold Rep at h ⊢;let#[p,vs,e,q,r]:=h;have ne:p≠a:=λz=>by rw[z,ea]at q;cases q
  exact#[p,vs,e,by rw[gj ne];exact q,Reps.cutF ea ds vs (by unfold cu at n;exact n) r]
 |.lst ds,v,n,h=>by
  unfold Rep at h ⊢;let#[p,vs,e,q,r]:=h;have ne:p≠a:=λz=>by rw[z,ea]at q;cases q
  exact#[p,vs,e,by rw[gj ne];exact q,Reps.cutF ea ds vs (by unfold cu at n;exact n) r]
 |.rol _,_,n,_=>by unfold cu at n;cases n
 |.obj _ _,_,n,_=>by unfold cu at n;cases n
 |.exc _ _,_,n,_=>by unfold cu at n;cases n
 |.own _,_,n,_=>by unfold cu at n;cases n
 |.dti _,_,n,_=>by unfold cu at n;cases n
def Reps.cutF{K:Ex}{F:Hp}{a:KF}{C:KF}{dx:KF}{ws:List (J7×V)}(ea:F a=be (.ins C dx ws)):∀(ds:List D) (vs:List V),flats ds=true->Reps K F ds vs->Reps K (My.cutF F a) ds vs
 |[],vs,_,h=>by unfold Reps at h ⊢;exact h
 |d::ds,vs,n,h=>by
  unfold flats at n;rw[GY]at n;unfold Reps at h ⊢;let#[v,r,e,q1,q2]:=h;exact#[v,r,e,Rep.cutF ea d v n.1 q1,Reps.cutF ea ds r n.2 q2]
end
def lendD(a:KF)(o:D)(d:D):D:=match d with|.ptr b=>if b=a then o else .ptr b|d=>d
def lend(S:SpX):SpM:=λds M R _=>∃a x fs,mget M a=be (.ins x fs)/\S (ds.map (lendD a (.obj x fs))) (λd=>cu d=true/\R d M) λ_ _=>False
def A5{F2:Hp}{o d:D}{v:V}(g:Same F F2)(ro:Rep K F2 o (.ref a))(h:Rep K F d v):Rep K F2 (lendD a o d) v:=by
 unfold lendD;split
 .rename_i b;split
  .rename_i e;rw[rep_ptr.mp h,e];exact ro
  .exact rep_ptr.mpr (rep_ptr.mp h)
 .exact h.mono g
def A6{F2:Hp}{o:D}(g:Same F F2)(ro:Rep K F2 o (.ref a)){ds:List D}:∀{vs:List V},Reps K F ds vs->Reps K F2 (ds.map (lendD a o)) vs:=by
 induction ds with
 |nil=>intro vs h;rw[reps_nil.mp h];exact reps_nil.mpr rfl
 |cons d ds ih=>
  intro vs h;let#[v,r,rfl,q1,q2]:=reps_cons.mp h;exact reps_cons.mpr #[v,r,rfl,A5 g ro q1,ih q2]
def A7{S:SpX}{Q:VK}{E:XK}(h:lSpM K (lend S) vs H Q E):lSpX K S vs H Q E:=by
 let#[F,ds,M,fh,rs,rm,R,RX,#[a,x,fs,hm,hS],q,qx]:=h;have ma:=br hm;let#[C,dx,ws,n,hH,rf]:=rm.ok _ _ ma;have fa:=rm.fr a (bJ ma);have g:Same F (upd F a (.ins C dx ws)):=aQ fa _;have g2:Same (upd F a (.ins C dx ws)) H:=λb o e=>by
  by_cases hb:b=a
  .subst hb;rw[aB]at e;cases e;exact hH
  .rw[ar hb]at e;exact fh b o e
 have ro:Rep K (upd F a (.ins C dx ws)) (.obj x fs) (.ref a):=by
  unfold Rep;exact#[a,C,dx,ws,rfl,n,aB,RepF.mono g fs ws rf]
 refine#[upd F a (.ins C dx ws),_,g2,A6 g ro rs,_,_,hS,λd v F' H' g' hd rd=>?_,λ_ _ _ _ _ _ _ z=>z.elim];have ea:F' a=be (.ins C dx ws):=g'.ff a _ aB;have ff:Same F (cutF F' a):=λb o e=>by
  have ne:b≠a:=λz=>by rw[z,fa]at e;cases e
  rw[gj ne];exact g'.ff b o (by rw[ar ne];exact e)
 have R_:Same (cutF F' a) H':=λb o e=>by
  by_cases hb:b=a
  .subst hb;unfold cutF at e;rw[if_pos rfl]at e;cases e
  .rw[gj hb]at e;exact g'.fh b o e
 have out:∀b,F b=x8->H b≠x8->cutF F' a b=none:=λb h1 h2=>by
  by_cases hb:b=a
  .subst hb;exact if_pos rfl
  .rw[gj hb];exact g'.out b (by rw[ar hb];exact h1) h2
 exact q d v M (cutF F' a) H' #[ff,R_,λb o _ e=>g'.hh b o e,λb _ h1 h2=>out b h1 h2,λb z=>.inl z] hd.2 (Rep.cutF ea d v hd.1 rd)
  #[rm.nd,λb o hb=>(rm.ok b o hb).mono ff λo e=>g'.hh b o e,λb hb=>out b (rm.fr b hb) (rm.here hb)]
def NoOwn(z:SD):Prop:=∀(i:Nat) ds,z[i]?≠be (be (.own ds))
def ofB(B H:Hp)(M:MS):Hp:=λb=>if b∈av M then H b else B b
def jOf(B H F:Hp)(M:MS):Jx:=#[ofB B H M,F,λ_ _ _=>False]
def endD(E:EndsM)(M:MS):EndsD:=#[λz=>E.nx z M/\NoOwn z,λd=>E.rt d M,λz=>E.bk z M/\NoOwn z,λz=>E.ct z M/\NoOwn z]
def mPS(t:TSD):TMS:=λE z M=>t (endD E M) z
section
variable {X:Cx}[J:Jm]
variable{B H:Hp}{M:MS}
def kI{b:KF}(h:b∈av M):ofB B H M b=H b:=if_pos h
def kJ{b:KF}(h:b∉av M):ofB B H M b=B b:=if_neg h
variable{K:Ex}{F0 F:Hp}{z:SD}{s:L2.St}
def dD{F' H':Hp}(k:Kept J.B F0 F H)(rz:RepZ K J.B F H z s M)(k':@Kept (jOf J.B H F M) (ofB J.B H M) F F' H'):Kept J.B F0 F' H'/\RepM K F' H' M:=by
 have nk:∀b,J.B b≠x8->b∉av M:=λb e z=>e (rz.mb b z);let#[bh,fh,f0,out,_,_,_]:=k';refine#[#[λb o e=>?_,fh,k.f0.trans f0,λb h1 h2=>?_,k.eb,k.jf,k.jo],rz.rm.nd,λb o hb=>(rz.rm.ok b o hb).mono f0 λo e=>?_,λb hb=>?_]
 .exact bh b o (by rw[kJ (nk b (by rw[e];exact λz=>nomatch z))];exact e)
 .exact out b (k.out b h1 h2) (by rw[kJ (nk b h2)];exact h2)
 .exact bh b o (by rw[kI (bJ hb)];exact e)
 .exact out b (rz.rm.fr b hb) (by rw[kI hb];exact rz.rm.here hb)
def gk{B':Hp}(r:RepS K B F H z s)(no:NoOwn z):RepS K B' F H z s:=#[r.len,r.val,λi ds e=>absurd e (no i ds),r.apart]
def tq(k:Kept J.B F0 F H):@Kept (jOf J.B H F M) (ofB J.B H M) F F H:=
 @Kept.mk (jOf J.B H F M) _ _ _ _ (λb o e=>by
  by_cases hb:b∈av M
  .rw[kI hb]at e;exact e
  .rw[kJ hb]at e;exact k.bh b o e) k.fh (Same.refl F) (λ_ h _=>h) rfl (Same.refl F) (λ_ h _=>h)
def tw{ED:EndsM}{D:Ends}(k:Kept J.B F0 F H)(rz:RepZ K J.B F H z s M)(e:EndsOkM K F0 ED D):@EndsOk (jOf J.B H F M) K (ofB J.B H M) F (endD ED M) D:=
 @EndsOk.mk (jOf J.B H F M) _ _ _ _ _ (λz' s' F' H' k' hz r'=>e.nx z' s' M F' H' (dD k rz k').1 hz.1 #[gk r' hz.2,hz.2,(dD k rz k').2,rz.mb])
  (λd v F' H' k' hd rd=>e.rt d v M F' H' (dD k rz k').1 hd rd (dD k rz k').2 rz.mb)
  (λz' s' F' H' k' hz r'=>e.bk z' s' M F' H' (dD k rz k').1 hz.1 #[gk r' hz.2,hz.2,(dD k rz k').2,rz.mb])
  (λz' s' F' H' k' hz r'=>e.ct z' s' M F' H' (dD k rz k').1 hz.1 #[gk r' hz.2,hz.2,(dD k rz k').2,rz.mb])
def tz{st:TF}{t:TSD}(h:∀J':Jx,@WDS X J' st t):MSt X st (mPS t):=⟨λpins s σ H D I q=>by
 let#[F0,F,z,M,k,rz,ED,ht,e]:=q;exact @WDS.out X (jOf J.B H F M) st t (h _) pins s σ H D I #[ofB J.B H M,F,F,z,tq k,gk rz.rs rz.no,_,ht,tw k rz e]⟩
def mTry(tb:Jm->TMS)(th:TH):TMS:=λE z M=>∃RM:SD->MS->XD,(∀J':Jm,J'.RM=RM->tb J' E z M)/\∀z' M' x fs,RM z' M' x fs->th x fs (endD E M') z'
def jTry(B F0:Hp)(RM:SD->MS->XD):Jm:={B:=B,F0:=F0,RX:=λ_ _ _=>False,RM:=RM}
variable{RM:SD->MS->XD}
def Kept.reM(k:Kept J.B F0 F H):@Kept (jTry J.B F0 RM).toJx J.B F0 F H:=@Kept.mk (jTry J.B F0 RM).toJx J.B F0 F H k.bh k.fh k.f0 k.out rfl (Same.refl F0) (λ_ h _=>h)
def Kept.unM{F' H':Hp}(k:Kept J.B F0 F H)(k':@Kept (jTry J.B F0 RM).toJx J.B F0 F' H'):Kept J.B F0 F' H':=by
 let#[a,b,c,d,_,_,_]:=k';exact#[a,b,c,d,k.eb,k.jf,k.jo]
def A8{body:List TF}{h₀:Ud}{hs:List Ud}{pos:TX}{tb:Jm->TMS}{th:TH}
  (hb:∀(pn:List (KF×T5)) (xe:KB->KM->Prop) (J':Jm),Uh (SL X.prog X.w) X.A X.env xe->@XOkM (X.tried pn xe) J'->@MSs (X.tried pn xe) J' body (tb J'))
  (hh:∀J':Jx,@WDH X J' (h₀::hs) th) (f_:(X.ex=[])\zA0) (A_:(X.stack=X.env::X.outer)\zA0) (n_:(X.env.frame=be X.env.locals)\zA0):MSt X (.Try body (h₀::hs) [] [] pos) (mTry tb th):=⟨by
 intro pins s σ H D I h;let#[F0,F,z,M,k,rz,ED,#[RM,h1,h2],ee]:=h;have ok:=I.ok;have hx:@XOkM (X.tried (X.pn++pins) (λe s₁=>TC (SL X.prog X.w) X.A (UF e X.env) (λ_ s₂=>TC (SL X.prog X.w) X.A (UW e x8) (λ_ s₃=>TC (SL X.prog X.w) X.A (U5 e X.env (h₀::hs)) (SP X pins D) X.xe s₃) X.xe s₂) X.xe s₁)) (jTry J.B F0 RM):=by
  intro σ' z' M' F' H' s' e C od x fs I1 kk rr hR er hd;have k2:Kept J.B F0 F' H':=Kept.unM k kk;exact zP (Inv.untried ok I1) hd f_ A_ n_ λs4 T2 I4 hl=>@WDH.out X (jOf J.B H' F' M') _ _ (hh _) pins s4 σ' H' D e C od T2 x fs (ofB J.B H' M') F' F' z' (endD ED M') I4 hl (tq k2) (gk rr.rs rr.no) er (h2 z' M' x fs hR) (tw k2 rr ee)
 refine wpAny_Try_except (T1 (@MSs.out _ (jTry J.B F0 RM) _ _ (hb (X.pn++pins) _ (jTry J.B F0 RM) PassesOwn.looking hx) [] s σ H D (Inv.tried I) ?_) (λf s1 q=>?_) λe s1 q=>q)
 .exact#[F0,F,z,M,Kept.reM k,rz,ED,h1 (jTry J.B F0 RM) rfl,@EndsOkM.mk (jTry J.B F0 RM) _ _ _ _ (λz' s' M' F' H' k'=>ee.nx z' s' M' F' H' (Kept.unM k k')) (λd v M' F' H' k'=>ee.rt d v M' F' H' (Kept.unM k k')) (λz' s' M' F' H' k'=>ee.bk z' s' M' F' H' (Kept.unM k k')) (λz' s' M' F' H' k'=>ee.ct z' s' M' F' H' (Kept.unM k k'))]
 .have q:=SP.untried ok q;cases f with
  |next=>exact Uu q
  |ret v=>exact q
  |brk=>exact q
  |cont=>exact q⟩
end
end My
namespace My
section
variable {K:Ex}{h:Heap}{mg:J7->Option KB}{x y m q f:J7}{st:TF}{ps:List J7}
abbrev NsC(K:Ex)(x:J7)(C:KF):Prop:=nsIn K Pi x=be (be (.ref C))
variable{C:KF}
def NsC.uniq{D:KF}(a:NsC K x C)(b:NsC K x D):C=D:=by
 have e:=a.symm.trans b;cases e;rfl
abbrev BindA(x q:J7)(st:TF)(ps:List J7):Prop:=∀(kV doc pm:KB) (an:Option KF) (cdv ct:KB) (us:List KB),us.length=ps.length->Us (fnOf x q (bC st) (aL st) (ah st) .none kV doc pm an cdv ct) #[us,[]]=pure (ps.zip us)
def FnIn(K:Ex)(x:J7)(st:TF):Prop:=∃f fd,NsC K x f/\Fun K x x st f fd
variable{oc kV dc pm cd ct:KB}{od an:Option KF}{sl:Array (Option KB)}
def fnIn_mk{f:KF}(a:nsIn K Pi x=be (be (.ref f)))(l:K.lookup f=be #[oc,od,.func (fnOf x x (bC st) (aL st) (ah st) .none kV dc pm an cd ct),sl])(c:codeIn K cd x=true)(k:keepIn K (.ref f)=true):FnIn K x st:=#[f,_,a,gK l c k]
def FnIn.tx(T:FnIn K x st)(X:K.In h)(G:h.Ns Pi mg)(b:BindA x x st ps\zA7):Tx K mg x st ps:=by
 let#[f,fd,a,F]:=T;exact#[f,fd,F,F.binds b,mg_of X G a]
def FnIn.law{p:J7}(T:FnIn K x st)(X:K.In h)(G:h.Ns Pi mg){fa:KF}(Ld:mg x=be (.ref fa))(b:∀(kV doc pm:KB) (an:Option KF) (cdv ct v:KB),Us (fnOf x x (bC st) (aL st) (ah st) .none kV doc pm an cdv ct) #[[v],[]]=pure [(p,v)]):∃fd,(∀(s:KM) (v:KB),UJ s fd #[[v],[]] [(p,v)])/\Fun K x x st fa fd:=by
 let#[f,fd,a,F]:=T;have e:=Ld.symm.trans (mg_of X G a);cases e;refine#[fd,λs v=>?_,F];let#[oc,od,kV,doc,pm,an,cdv,ct,osl,rfl,lk,i8]:=F.ex;exact .of_eq (b _ _ _ _ _ _ v)
variable{us:List KB}
def bD{x:J7}{xs:List J7}(h:us.length=(x::xs).length):∃u t,us=u::t/\t.length=xs.length:=by
 cases us with
 |nil=>cases h
 |cons u t=>exact#[u,t,rfl,Nat.succ.inj h]
def len_0(h:us.length=([]:List J7).length):us=[]:=Hr h
variable{x0:J7}
def A9(b:∀(kV doc pm:KB) (an:Option KF) (cdv ct u0:KB),Us (fnOf x q (bC st) (aL st) (ah st) .none kV doc pm an cdv ct) #[[u0],[]]=pure [(x0,u0)]):BindA x q st [x0]:=λkV doc pm an cdv ct us hl=>by
 let#[u0,t0,rfl,h0]:=bD hl;cases len_0 h0;exact b kV doc pm an cdv ct u0
variable{x1:J7}
def bind2(b:∀(kV doc pm:KB) (an:Option KF) (cdv ct u0 u1:KB),Us (fnOf x q (bC st) (aL st) (ah st) .none kV doc pm an cdv ct) #[[u0,u1],[]]=pure [(x0,u0),(x1,u1)]):BindA x q st [x0,x1]:=λkV doc pm an cdv ct us hl=>by
 let#[u0,t0,rfl,h0]:=bD hl;let#[u1,t1,rfl,h1]:=bD h0;cases len_0 h1;exact b kV doc pm an cdv ct u0 u1
variable{x2:J7}
def bind3(b:∀(kV doc pm:KB) (an:Option KF) (cdv ct u0 u1 u2:KB),Us (fnOf x q (bC st) (aL st) (ah st) .none kV doc pm an cdv ct) #[[u0,u1,u2],[]]=pure [(x0,u0),(x1,u1),(x2,u2)]):BindA x q st [x0,x1,x2]:=λkV doc pm an cdv ct us hl=>by
 let#[u0,t0,rfl,h0]:=bD hl;let#[u1,t1,rfl,h1]:=bD h0;let#[u2,t2,rfl,h2]:=bD h1;cases len_0 h2;exact b kV doc pm an cdv ct u0 u1 u2
def bind4{x3:J7}(b:∀(kV doc pm:KB) (an:Option KF) (cdv ct u0 u1 u2 u3:KB),Us (fnOf x q (bC st) (aL st) (ah st) .none kV doc pm an cdv ct) #[[u0,u1,u2,u3],[]]=pure [(x0,u0),(x1,u1),(x2,u2),(x3,u3)]):BindA x q st [x0,x1,x2,x3]:=λkV doc pm an cdv ct us hl=>by
 let#[u0,t0,rfl,h0]:=bD hl;let#[u1,t1,rfl,h1]:=bD h0;let#[u2,t2,rfl,h2]:=bD h1;let#[u3,t3,rfl,h3]:=bD h2;cases len_0 h3;exact b kV doc pm an cdv ct u0 u1 u2 u3
def bind5{x3 x4:J7}(b:∀(kV doc pm:KB) (an:Option KF) (cdv ct u0 u1 u2 u3 u4:KB),Us (fnOf x q (bC st) (aL st) (ah st) .none kV doc pm an cdv ct) #[[u0,u1,u2,u3,u4],[]]=pure [(x0,u0),(x1,u1),(x2,u2),(x3,u3),(x4,u4)]):BindA x q st [x0,x1,x2,x3,x4]:=λkV doc pm an cdv ct us hl=>by
 let#[u0,t0,rfl,h0]:=bD hl;let#[u1,t1,rfl,h1]:=bD h0;let#[u2,t2,rfl,h2]:=bD h1;let#[u3,t3,rfl,h3]:=bD h2;let#[u4,t4,rfl,h4]:=bD h3;cases len_0 h4;exact b kV doc pm an cdv ct u0 u1 u2 u3 u4
structure ClF(K:Ex)(x:Str)(C:KF):Prop where
 ns:NsC K x C
 cl:Cls K C
 ha:GE K (.ref C) "__class__"=be (be (.builtin "object.__class__"))
 hn:specialIn K (.builtin "object.__class__") "__get__"=be (be (.builtin "getset_descriptor.__get__"))
 ht:takesIn K (.builtin "object.__class__")=be true
 hm:Hb K C (.type "object")=be true
def ClIn(K:Ex)(x:J7):Prop:=∃C,ClF K x C
def clIn_mk(a:nsIn K Pi x=be (be (.ref C)))(pg:plainGet K C Str.empty=true)(hd:hasDictIn K C=true)(po:plainOver K C=true)(sa:GE K (.ref C) "__setattr__"=be (be (.builtin "object.__setattr__")))
  (ha:GE K (.ref C) "__class__"=be (be (.builtin "object.__class__"))) (hn:specialIn K (.builtin "object.__class__") "__get__"=be (be (.builtin "getset_descriptor.__get__"))) (ht:takesIn K (.builtin "object.__class__")=be true) (hm:Hb K C (.type "object")=be true):ClIn K x:=#[C,a,#[pg,hd,po,sa],ha,hn,ht,hm]
def ClIn.i(c:ClIn K x)(X:K.In h)(G:h.Ns Pi mg):∃C,ClsI K mg x C:=by
 let#[C,k]:=c;exact#[C,k.ns,mg_of X G k.ns,k.cl,k.ha,k.hn,k.ht,k.hm,zT]
def NoIn(K:Ex)(x f:J7):Prop:=∃C,NsC K x C/\GE K (.ref C) f=be x8
def noIn_mk(a:nsIn K Pi x=be (be (.ref C)))(b:GE K (.ref C) f=be x8):NoIn K x f:=#[C,a,b]
def ClIn.a(c:ClIn K x)(n:NoIn K x f):ClsA K x f:=by
 let#[C,k]:=c;let#[D,a,b]:=n;cases NsC.uniq k.ns a;exact#[C,a,k.cl,b]
def NoIn.all(n:NoIn K x f):∀C,nsIn K Pi x=be (be (.ref C))->GE K (.ref C) f=be none:=λC hC=>by
 let#[D,a,b]:=n;cases NsC.uniq hC a;exact b
def MtIn(K:Ex)(x m q:J7)(st:TF):Prop:=∃C f fd,NsC K x C/\Meth K C m f/\Fun K m q st f fd
def mtIn_mk{f:KF}(a:nsIn K Pi x=be (be (.ref C)))(b:GE K (.ref C) m=be (be (.ref f)))(i:isFn K (.ref f)=true)(l:K.lookup f=be #[oc,od,.func (fnOf m q (bC st) (aL st) (ah st) .none kV dc pm an cd ct),sl])(c:codeIn K cd q=true)(k:keepIn K (.ref f)=true):MtIn K x m q st:=#[C,f,_,a,#[b,i,k],gK l c k]
def MtIn.txm(T:MtIn K x m q st)(c:ClIn K x)(b:BindA m q st ps\zA7):Txm K x m q st ps:=by
 let#[C,k]:=c;let#[D,f,fd,a,mt,F]:=T;cases NsC.uniq k.ns a;exact#[C,f,fd,a,k.cl,mt,F,F.binds b]
def InIn(K:Ex)(x q:J7)(st:TF):Prop:=∃C f fd,NsC K x C/\Mk K C f/\Fun K "__init__" q st f fd
def inIn_mk{f:KF}(a:nsIn K Pi x=be (be (.ref C)))(mk:makesIn K C=true)(b:GE K (.ref C) "__init__"=be (be (.ref f)))(i:isFn K (.ref f)=true)(kp:keepIn K (.ref C)=true)(l:K.lookup f=be #[oc,od,.func (fnOf "__init__" q (bC st) (aL st) (ah st) .none kV dc pm an cd ct),sl])(c:codeIn K cd q=true)(k:keepIn K (.ref f)=true):InIn K x q st:=#[C,f,_,a,#[mk,b,i,kp],gK l c k]
def Txi(K:Ex)(mg:J7->Option KB)(x q:J7)(st:TF)(ps:List J7):Prop:=∃C f fd,NsC K x C/\mg x=be (.ref C)/\Mk K C f/\Fun K "__init__" q st f fd/\Binds K fd ps []
def InIn.txi(T:InIn K x q st)(X:K.In h)(G:h.Ns Pi mg)(b:BindA "__init__" q st ps\zA7):Txi K mg x q st ps:=by
 let#[C,f,fd,a,mk,F]:=T;exact#[C,f,fd,a,mg_of X G a,mk,F,F.binds b]
def CiIn(K:Ex)(x:J7)(i:Int):Prop:=∃t,nsIn K Pi x=be (be (.int i t))
def CsIn(K:Ex)(x y:J7):Prop:=∃t,nsIn K Pi x=be (be (.str y t))
def ciIn_mk{i:Int}{t:VF}(a:nsIn K Pi x=be (be (.int i t))):CiIn K x i:=#[t,a]
def csIn_mk{t:VF}(a:nsIn K Pi x=be (be (.str y t))):CsIn K x y:=#[t,a]
def CiIn.g{i:Int}(c:CiIn K x i)(X:K.In h)(G:h.Ns Pi mg):∃t,mg x=be (.int i t):=let ⟨t,a⟩:=c;#[t,mg_of X G a]
def CsIn.g(c:CsIn K x y)(X:K.In h)(G:h.Ns Pi mg):∃t,mg x=be (.str y t):=let ⟨t,a⟩:=c;#[t,mg_of X G a]
def NnIn(K:Ex)(x:J7):Prop:=nsIn K Pi x=be x8
def nnIn_mk(a:nsIn K Pi x=be x8):NnIn K x:=a
structure ErF(K:Ex)(x:Str)(bm:List KB)(C N:KF):Prop where
 ns:NsC K x C
 kp:keepIn K (.ref C)=true
 ob:∃nm q bs sn sub ab col dd k0 k1 k2 k3 k5,K.lookup C=be (T9 nm q C N bs bm true sn sub ab col dd k0 k1 k2 k3 k5 "ValueError.__new__")
structure ErN(K:Ex)(N:KF):Prop where
 ok:nsOkIn K N=true
 no:nsIn K N "__init__"=be x8
def EbIn(K:Ex):Prop:=∃C N,ErF K "MotifError" Exc.veLine C N/\ErN K N
def EdIn(K:Ex)(x:J7)(C N:KF):Prop:=∃B,NsC K "MotifError" B/\ErF K x (.ref B::Exc.veLine) C N
def E0In(K:Ex)(x:J7):Prop:=∃C N,EdIn K x C N/\ErN K N
def E1In(K:Ex)(x q:J7)(st:TF):Prop:=∃C N f fd,EdIn K x C N/\GE K (.ref C) "__init__"=be (be (.ref f))/\isFn K (.ref f)=true/\Fun K "__init__" q st f fd
def EaIn(K:Ex)(x:J7):Prop:=∃C,NsC K x C/\GE K (.ref C) "__setattr__"=be (be (.builtin "object.__setattr__"))
def EgIn(K:Ex)(x:J7):Prop:=∃C,NsC K x C/\GE K (.ref C) "__getattribute__"=be (be (.builtin "BaseException.__getattribute__"))/\GE K (.ref C) "__getattr__"=be x8
def EiIn(K:Ex)(x:J7):Prop:=∃M,NsC K x M/\readsIn K M (.type "type")=true/\findCls K (.ref M) (.type "type") "__init__"=be (.val (.builtin "ValueError.__init__"))/\specialIn K (.ref M) "__getattribute__"=be (be (.builtin "type.__getattribute__"))
def EmIn(K:Ex)(x y:J7):Prop:=∃C D,NsC K x C/\NsC K y D/\Hb K C (.ref D)=be (subE x y)
section
variable {B C D N:KF}{nm qn:J7}{bs:List KB}{sn:List J7}{sub:List KB}{ab:Bool}{col:Option Bool}{dd:Option KF}{k0 k1 k2 k3 k5:Option KB}{nc:KB}{nd:Option KF}{ne:Array DictEntry}{np:Nat}{nl:Array (Option KB)}
def ebIn_mk(a:nsIn K Pi "MotifError"=be (be (.ref C)))(kp:keepIn K (.ref C)=true)(o:K.lookup C=be (T9 nm qn C N bs Exc.veLine true sn sub ab col dd k0 k1 k2 k3 k5 "ValueError.__new__"))(nk:K.lookup N=be #[nc,nd,.dict ne np,nl])(al:ne.toList.all (λe=>match e.key with|.str _ _=>true|_=>false)=true)(ni:nsIn K N "__init__"=be x8):EbIn K:=#[C,N,#[a,kp,_,_,_,_,_,_,_,_,_,_,_,_,_,o],sk nk al,ni]
def e0In_mk(b:nsIn K Pi "MotifError"=be (be (.ref B)))(a:nsIn K Pi x=be (be (.ref C)))(kp:keepIn K (.ref C)=true)(o:K.lookup C=be (T9 nm qn C N bs (.ref B::Exc.veLine) true sn sub ab col dd k0 k1 k2 k3 k5 "ValueError.__new__"))(nk:K.lookup N=be #[nc,nd,.dict ne np,nl])(al:ne.toList.all (λe=>match e.key with|.str _ _=>true|_=>false)=true)(ni:nsIn K N "__init__"=be x8):E0In K x:=#[C,N,#[B,b,a,kp,_,_,_,_,_,_,_,_,_,_,_,_,_,o],sk nk al,ni]
def e1In_mk{f:KF}{oc:KB}{od an:Option KF}{sl:Array (Option KB)}{kV dc pm cd ct:KB}(b:nsIn K Pi "MotifError"=be (be (.ref B)))(a:nsIn K Pi x=be (be (.ref C)))(kp:keepIn K (.ref C)=true)(o:K.lookup C=be (T9 nm qn C N bs (.ref B::Exc.veLine) true sn sub ab col dd k0 k1 k2 k3 k5 "ValueError.__new__"))
  (j:GE K (.ref C) "__init__"=be (be (.ref f))) (i:isFn K (.ref f)=true) (l:K.lookup f=be #[oc,od,.func (fnOf "__init__" q (bC st) (aL st) (ah st) .none kV dc pm an cd ct),sl]) (c:codeIn K cd q=true) (k:keepIn K (.ref f)=true):E1In K x q st:=#[C,N,f,_,#[B,b,a,kp,_,_,_,_,_,_,_,_,_,_,_,_,_,o],j,i,gK l c k]
def eaIn_mk(a:nsIn K Pi x=be (be (.ref C)))(b:GE K (.ref C) "__setattr__"=be (be (.builtin "object.__setattr__"))):EaIn K x:=#[C,a,b]
def egIn_mk(a:nsIn K Pi x=be (be (.ref C)))(b:GE K (.ref C) "__getattribute__"=be (be (.builtin "BaseException.__getattribute__")))(c:GE K (.ref C) "__getattr__"=be x8):EgIn K x:=#[C,a,b,c]
def eiIn_mk(a:nsIn K Pi x=be (be (.ref C)))(b:readsIn K C (.type "type")=true)(c:findCls K (.ref C) (.type "type") "__init__"=be (.val (.builtin "ValueError.__init__")))(d:specialIn K (.ref C) "__getattribute__"=be (be (.builtin "type.__getattribute__"))):EiIn K x:=#[C,a,b,c,d]
def emIn_mkT(e:subE x y=true)(a:nsIn K Pi x=be (be (.ref C)))(c:nsIn K Pi y=be (be (.ref D)))(d:Hb K C (.ref D)=be true):EmIn K x y:=#[C,D,a,c,e ▸ d]
def emIn_mkF(e:subE x y=false)(a:nsIn K Pi x=be (be (.ref C)))(c:nsIn K Pi y=be (be (.ref D)))(d:Hb K C (.ref D)=be false):EmIn K x y:=#[C,D,a,c,e ▸ d]
end
def EdIn.k{N:KF}(e:EdIn K x C N)(b:EbIn K)(X:K.In h)(G:h.Ns Pi mg):∃bm,ErrK K mg x C N bm:=by
 let#[B,hB,k]:=e;let#[B',N',kb,n]:=b;cases NsC.uniq kb.ns hB;let#[_,_,_,_,_,_,_,_,_,_,_,_,_,o]:=kb.ob;exact#[_,k.ns,mg_of X G k.ns,k.kp,k.ob,zS o rfl n.ok n.no]
def E0In.k(e:E0In K x)(b:EbIn K)(X:K.In h)(G:h.Ns Pi mg):∃C N bm,ErrK K mg x C N bm/\ErrN K N:=by
 let#[C,N,k,n]:=e;let#[bm,z]:=k.k b X G;exact#[C,N,bm,z,n.ok,n.no]
def Txe(K:Ex)(mg:J7->Option KB)(x q:J7)(st:TF)(ps:List J7):Prop:=∃C N bm f fd,ErrK K mg x C N bm/\GE K (.ref C) "__init__"=be (be (.ref f))/\isFn K (.ref f)=true/\Fun K "__init__" q st f fd/\Binds K fd ps []
def E1In.txe(e:E1In K x q st)(b:EbIn K)(X:K.In h)(G:h.Ns Pi mg)(bi:BindA "__init__" q st ps\zA7):Txe K mg x q st ps:=by
 let#[C,N,f,fd,k,i,j,F]:=e;let#[bm,z]:=k.k b X G;exact#[C,N,bm,f,fd,z,i,j,F,F.binds bi]
def ErrK.a'{N:KF}{bm:List KB}(k:ErrK K mg x C N bm)(a:EaIn K x):∃C cd,ErrA K x C cd:=by
 let#[D,hD,sa]:=a;cases NsC.uniq k.ns hD;exact#[C,k.a sa]
def E1In.a(e:E1In K x q st)(b:EbIn K)(a:EaIn K x)(X:K.In h)(G:h.Ns Pi mg):∃C cd,ErrA K x C cd:=by
 let#[C,N,f,fd,k,_]:=e;let#[bm,z]:=k.k b X G;exact z.a' a
def E1In.c(e:E1In K x q st)(b:EbIn K)(X:K.In h)(G:h.Ns Pi mg):∃C N bm,ErrK K mg x C N bm:=by
 let#[C,N,f,fd,k,_]:=e;let#[bm,z]:=k.k b X G;exact#[C,N,bm,z]
def EiIn.b(e:EiIn K x)(X:K.In h)(G:h.Ns Pi mg):∃M,BaseK K mg x M:=by
 let#[M,a,b,c,d]:=e;exact#[M,mg_of X G a,b,c,d]
def EgIn.g(e:EgIn K x)(a:∃C cd,ErrA K x C cd)(n:NoIn K x f):ErrG K f x:=by
 let#[C,h1,h2,h3]:=e;let#[D,cd,ea]:=a;cases NsC.uniq ea.ns h1;exact#[C,cd,ea,h2,h3,n.all C h1]
def AllP(p:J7->Prop):List J7->Prop
 |[]=>True
 |a::l=>p a/\AllP p l
def AllP.mem{p:J7->Prop}:∀{l:List J7},AllP p l->∀x∈l,p x
 |_::_,h,_,.head _=>h.1
 |_::_,h,_,.tail _ m=>AllP.mem h.2 _ m
def Ba{es:List J7}(c:AllP (λx=>∃C N bm,ErrK K mg x C N bm) es)(s:AllP (λx=>AllP (λy=>EmIn K x y) es) es):ErrsK K mg es:=by
 refine#[c.mem,λx hx y hy C C' h1 h2=>?_];let#[A,B,a,b,m]:=(s.mem x hx).mem y hy;cases NsC.uniq a h1;cases NsC.uniq b h2;exact m
end
structure Bx where
 P:SB
 w:TJ
 K:Ex
 mg:J7->Option KB
 base:Heap
abbrev Bx.T(V:Bx)(x:J7)(st:TF)(ps:List J7):Prop:=Tx V.K V.mg x st ps
abbrev Bx.Tm(V:Bx)(x m q:J7)(st:TF)(ps:List J7):Prop:=Txm V.K x m q st ps
abbrev Bx.Ti(V:Bx)(x q:J7)(st:TF)(ps:List J7):Prop:=Txi V.K V.mg x q st ps
abbrev Bx.Te(V:Bx)(x q:J7)(st:TF)(ps:List J7):Prop:=Txe V.K V.mg x q st ps
abbrev Bx.Ek(V:Bx)(es:List J7):Prop:=ErrsK V.K V.mg es
abbrev Bx.m(V:Bx)(x:J7):Prop:=V.mg x=x8
abbrev Bx.gi(V:Bx)(x:J7)(i:Int):Prop:=∃t,V.mg x=be (.int i t)
abbrev Bx.gs(V:Bx)(x y:J7):Prop:=∃t,V.mg x=be (.str y t)
abbrev Bx.a(V:Bx)(x f:J7):Prop:=ClsA V.K x f
abbrev Bx.i(V:Bx)(x:J7):Prop:=∃C,ClsI V.K V.mg x C
abbrev Bx.D(V:Bx)(n:Nat)(x:J7)(ps:List J7)(S:SpD):Prop:=CalD V.P V.w V.K V.mg V.base n x ps S
abbrev Bx.X(V:Bx)(n:Nat)(x:J7)(ps:List J7)(S:SpX):Prop:=CalX V.P V.w V.K V.mg V.base n x ps S
abbrev Bx.MM(V:Bx)(n:Nat)(x:J7)(ps:List J7)(S:SpM):Prop:=CalMM V.P V.w V.K V.mg V.base n x ps S
abbrev Bx.M(V:Bx)(n:Nat)(x:J7)(ps:List J7)(S:SiD):Prop:=CalM V.P V.w V.K V.mg V.base n x ps S
abbrev Bx.E(V:Bx)(n:Nat)(x:J7)(ps:List J7)(S:SiD):Prop:=CalE V.P V.w V.K V.mg V.base n x ps S
abbrev Bx.Q(V:Bx)(n:Nat)(x m:J7)(ps:List J7)(S:SpM):Prop:=CalMth V.P V.w V.K V.mg V.base n x m ps (lSpM V.K S)
abbrev Bx.n(V:Bx)(x:J7):Prop:=∃C N bm,ErrK V.K V.mg x C N bm/\ErrN V.K N
abbrev Bx.b(V:Bx)(x:J7):Prop:=∃M,BaseK V.K V.mg x M
abbrev Bx.ea(V:Bx)(x:J7):Prop:=∃C cd,ErrA V.K x C cd
abbrev Bx.xf(V:Bx)(x f:J7):Prop:=∀C,nsIn V.K Pi x=be (be (.ref C))->GE V.K (.ref C) f=be x8
abbrev Bx.x(V:Bx)(f:J7)(ys:List J7):Prop:=∀y∈ys,ErrG V.K f y
section
variable {P:SB}{w:TJ}{K:Ex}{mg:J7->Option KB}{base:Heap}
variable{x qual p0:J7}{st:TF}{N ps:List J7}{k:Nat}{S:SiD}
def Txi.okI(T:Txi K mg x qual st (p0::ps))(F:FnScope (p0::N) (p0::ps) (ah st))(len:∀ds R,S ds R->ds.length=ps.length)
  (a9:∀(f:KF) (cdv:KB) (A:TK) (outer:List Uw) (s:KM) (H:Hp) (E:XK) (J:Jx),Room k (A.deeper (TY qual (ah st) s.heap.objs.size f cdv))->
   ∃t,WDI (cxOf (Exc.CX1 P w) P w K mg base (p0::N) qual (ah st) f cdv A outer s H E).nox x (aL st) t/\∀ds R,S ds R->t (x8::startD N ds) [] R):CalM P w K mg base (k+1) x (p0::ps) S:=by
 let#[C,f,fd,a,b,c,d,e]:=T;exact Cls.okIW d e F len a b c (a9 f)
def Txi.okIM(T:Txi K mg x qual st (p0::ps))(F:FnScope N (p0::ps) (ah st))(len:∀ds R,S ds R->ds.length=ps.length)
  (a9:∀(f:KF) (cdv:KB) (A:TK) (outer:List Uw) (s:KM) (H:Hp) (E:XK) (J:Jm),Room k (A.deeper (TY qual (ah st) s.heap.objs.size f cdv))->XOkM (cxOf (Exc.CX1 P w) P w K mg base N qual (ah st) f cdv A outer s H E).nox->
   ∃t,MSs (cxOf (Exc.CX1 P w) P w K mg base N qual (ah st) f cdv A outer s H E).nox (aL st) t/\∀a ds R,(∀z M x fs,¬J.RM z M x fs)->S ds R->t {nx:=λ_ M'=>∃fs,M'=[(a,.ins x fs)]/\R fs,rt:=λ_ _=>False} (startD N (.ptr a::ds)) [(a,.ins x [])]):CalM P w K mg base (k+1) x (p0::ps) S:=by
 let#[C,f,fd,a,b,c,d,e]:=T;exact Cls.okIM d e F len a b c (a9 f)
def Txe.okE(T:Txe K mg x qual st (p0::ps))(F:FnScope (p0::N) (p0::ps) (ah st))(len:∀ds R,S ds R->ds.length=ps.length)
  (a9:∀(f:KF) (cdv:KB) (A:TK) (outer:List Uw) (s:KM) (H:Hp) (E:XK) (J:Jx),Room k (A.deeper (TY qual (ah st) s.heap.objs.size f cdv))->
   ∃t,WDX (cxOf (Exc.CX1 P w) P w K mg base (p0::N) qual (ah st) f cdv A outer s H E).nox x (aL st) t/\∀ds R,S ds R->t (x8::startD N ds) [] R):CalE P w K mg base (k+1) x (p0::ps) S:=by
 let#[C,N',bm,f,fd,a,b,c,d,e]:=T;exact Cls.okEW d e F len a b c (a9 f)
end
section
variable {X:Cx}[J:Jx]{a b c e o j6 iter:SZ}{es:List SZ}{ta tb tc te to ti tj:TD}{tt:TDT}{t:TDA}{pos px:TX}{x:J7}{scope:Uc}
def Bb(K:Ex):R2:=λx y H Q=>∃p xs i z,x=.ref p/\y=.int i/\0<=i/\SqL K H p xs/\xs[i.toNat]?=be z/\Q z H
def Bc:PGet X (Bb X.K):=by
 intro pins s σ H x y v u Q I rx ry h;let#[p,xs,i,z,rfl,rfl,h0,hq,he,q]:=h;cases rx;let#[t,rfl]:=ry;let#[its,r,pl,hz]:=I.list hq;let#[w,ew,j_]:=r.get he;have hl:=r.length;have hn:=line63;have hi:=(GO.mp he).1;exact wpAny_getItem_list pl.isList h0 KZ (by simpa using ew) #[z,H,I,j_,q]
end
section
variable {X:Cx}[J:Jx]{a b c e o:SZ}{es:List SZ}{ta tb tc te to:TD}{t:TDA}{pos:TX}
def rSIndex2:RTx:=λy ds R=>match ds with|[.str p,.int i]=>∃k rest,Builtin.Str.occurrences y p (PySem.fromIndex y.length i) y.length 1=k::rest/\R (.int (k:Nat))|_=>False
def Bd(x y:J7)(i:Int)(t u v:VF)(k:Nat)(rest:List Nat)(h:Builtin.Str.occurrences x y (PySem.fromIndex x.length i) x.length 1=k::rest):Gives (Builtin.«str.index» #[[.str x t,.str y u,.int i v],[]]) (.int k):=by
 show Gives (match Builtin.Str.occurrences x y (PySem.fromIndex x.length i) (min x.length x.length) 1 with|i::_=>retInt i|[]=>(do rule "str.index.not-found";raiseError "ValueError" "substring not found")) _;rw[Nat.min_self,h];exact .of_eq rfl
def Be:MtS X "str.index" rSIndex2:=by
 refine#[λx vs H Q=>∃y p i k rest,x=.str y/\vs=[.str p,.int i]/\Builtin.Str.occurrences y p (PySem.fromIndex y.length i) y.length 1=k::rest/\Q (.int (k:Nat)) H,?_,?_]
 .intro pins s σ H x vs v us Q I rx rv h;let#[y,p,i,k,rest,rfl,rfl,ho,q]:=h;let#[t,rfl]:=rx;let#[_,_,rfl,#[t',rfl],t2,rfl]:=Vals.two rv;exact call_gives PySem.F.slot_str_index (U4 _ _ _) PySem.F.entry_str_index (PySem.F.args_str_index_3 _ _ _) (Bd y p i t t' t2 k rest ho) #[.int _,H,I.tok _,#[_,rfl],q]
 .intro y ds vs F H R Q r h q;unfold rSIndex2 at h;split at h
  .let#[k,rest,ho,h]:=h;let#[v,vr,rfl,h1,h2]:=reps_cons.mp r;let#[v2,RW,rfl,h3,h4]:=reps_cons.mp h2;rw[reps_nil.mp h4,rep_str.mp h1,rep_int.mp h3];exact#[_,_,_,k,rest,rfl,rfl,ho,q _ _ (λ_=>rep_int.mpr rfl) h]
  .exact h.elim
def Bf{b7 a8:TX}(ho:WDE X o to)(ha:WDA X [a,b] t)(b8:(TM o "index" X.env (TR o X.env)=TR o X.env)\zA0)
  (f6:zHF X a8 [a,b]\zA0)
  (c5:((b7.endLine==a8.line)=true)\zA0) (hs:zSE X a [b]\zA0) (k8:zPL X a8 [b]\zA0):WDE X (.Call (.Attribute o "index" b7) [a,b] [] a8) (dTx rSIndex2 to t):=#[ku PySem.F.slot_str_index PySem.F.type_str_index Be ho.out ha.out b8 f6 c5 hs k8]
def rLIx(K:Ex):V->List V->Hp->VK->Prop:=λx vs H Q=>∃l xs y,x=.ref l/\vs=[y]/\SqL K H l xs/\bz y=true/\xs.all bz=true/\xs.findIdx (λw=>eqV w y)<xs.length/\Q (.int (xs.findIdx (λw=>eqV w y):Nat)) H
def Bg{x:V}{xs:List V}{us:List KB}(h:Vals xs us)(f:xs.all bz=true):us.findIdx (eqU x)=xs.findIdx λy=>eqV y x:=by
 induction h with
 |nil=>rfl
 |cons r _ ih=>
  rw[Hd,GY]at f;rw[Hy,Hy,jB r f.1,ih f.2]
def Bh:MtR X "list.index" (rLIx X.K):=by
 intro pins s σ H x vs v us Q I rx rv h;let#[l,xs,y,rfl,rfl,hq,fy,fs,hj,q]:=h;cases rx;let#[u,rfl,ry]:=Vals.one rv;let#[its,r,pl,hz]:=I.list hq;let#[#[cls,dd,data,sl],ho,hc,n,hd]:=pl.isList;simp only at hc hd;subst hc hd;have e:=Bg (x:=y) r fs;have hl:=r.length;rw[<-e]at hj q;have Np:its.findIdx (eqU y)<its.length:=KZ
 have Sa:sizeLine<2^63-1:=K3
 refine UI PySem.F.slot_list_index #[_,ho,rfl] PySem.F.entry_list_index (PySem.F.args_list_index_2 _ _)
  (SeqAt.list_indexAt l its.toArray n dd sl u (eqU y) (its.findIdx (eqU y)) (by simpa using Np) KZ ?_ ?_) #[ho,λw hw=>mem_eqAt ry fy r fs w (by simpa using hw),#[.int _,H,I.tok _,#[_,rfl],q]]
 .simpa using List.findIdx_getElem (w:=Np)
 .intro m hm j3;simpa using List.not_of_lt_findIdx j3
def dLIx(to te:TD):TD:=λz R=>to z λx=>match x with|.lst ys=>te z λy=>(bo y=true/\ys.all bo=true)/\ys.findIdx (λw=>eqF w y)<ys.length/\R (.int (ys.findIdx (λw=>eqF w y):Nat))|_=>False
variable{K:Ex}
def Bi{H:Hp}{x:D}{u:V}(rx:Rep K H x u)(fx:bo x=true){ys:List D}:∀{vs:List V},Reps K H ys vs->ys.all bo=true->vs.findIdx (λw=>eqV w u)=ys.findIdx λy=>eqF y x:=by
 induction ys with
 |nil=>intro vs r _;rw[reps_nil.mp r];rfl
 |cons y ys ih=>
  intro vs r f;let#[v,vr,rfl,r1,r2]:=reps_cons.mp r;rw[Hd,GY]at f;rw[Hy,Hy,ih r2 f.2,jU r1 rx f.1 fx]
def Bj{b7 a8:TX}(ho:WDE X o to)(he:WDE X e te)(b8:(TM o "index" X.env (TR o X.env)=TR o X.env)\zA0)
  (f6:zHF X a8 [e]\zA0)
  (c5:((b7.endLine==a8.line)=true)\zA0) (hs:zSE X e []\zA0):WDE X (.Call (.Attribute o "index" b7) [e] [] a8) (dLIx to te):=⟨(dq PySem.F.plainAttrs_list PySem.F.slot_list_index PySem.F.type_list_index Bh ho.out (bw he.out pa_nil hs) b8 f6 c5 hs).anti λs H Q q=>by
 let#[B,F,z,kf,rs,R,h1,h2]:=q;refine#[B,F,z,kf,rs,_,h1,λx u F1 H1 g1 hx rx=>?_];split at hx
 .let#[l,vs,rfl,hq,rr]:=rep_lst.mp rx;refine#[.inl #[rfl,vs,g1.fh.seq (SqL.of hq)],B,F1,z,kf.grow g1,rs.grow g1,_,hx,λd v F2 H2 g2 hd rd=>?_];let#[#[f1,f2],hj,hR]:=hd;have OI:=rr.mono g2.ff;have e:=Bi rd f1 OI f2;have hl:=OI.length;refine#[l,vs,v,rfl,rfl,g2.fh.seq (g2.ff.seq (SqL.of hq)),fV rd f1,cR OI f2,by rw[e];lia,?_];rw[e];exact h2 _ _ F2 H2 (g1.trans g2) hR (rep_int.mpr rfl)
 .exact hx.elim⟩
def chV(x:J7):List V:=x.cps.toList.map λc=>V.str #[[c].toArray]
def Bk{α β:Type}{F:α->β->Prop}:∀{l:List α} {m:List β},l.length=m.length->(∀(k:Nat) a b,l[k]?=be a->m[k]?=be b->F a b)->Paired F l m:=by
 intro l;induction l with
 |nil=>intro m h _;cases m with|nil=>exact .nil|cons _ _=>cases h
 |cons a l ih=>
  intro m h g;cases m with
  |nil=>cases h
  |cons b m=>exact .cons (g 0 a b rfl rfl) (ih (by simpa using h) λk a b h1 h2=>g (k+1) a b h1 h2)
def Bl(hc:X.calm=true):bH X (.type "list") (λxs H Q=>∃z,xs=[.str z]/\z.length<=1000000/\∀l,H l=x8->Q (.ref l) (upd H l (.lst (chV z)))):=by
 intro pins s σ H xs us Q I r h;let#[z,rfl,hz,q]:=h;let#[u,rfl,t,rfl]:=vals1 r;have Sa:1000000<=sizeLine:=K3
 have hl:z.cps.size=z.length:=rfl;refine PySem.call_list_str (I.ok.hd hc) z t (λh' tk g7 c' kp e it=>?_) KZ;have r':Vals (chV z) g7.toList:=Bk (by unfold chV;rw[GB];simp[it.1]) λk a b h1 h2=>by
  unfold chV at h1;rw[GU]at h1;let#[c,u,e1,rfl]:=it.2 k b (by simpa using h2);have e2:z.cps.toList[k]?=be c:=by simpa using e1
  rw[e2]at h1;cases h1;exact#[u,rfl]
 exact#[.ref s.heap.objs.size,_,I.laid (t':=tk) kp (Gv _) (show ObjOk X.prog X.w _ h' _ (.lst (chV z))from#[by unfold chV;rw[GB];simp;lia,g7.toList,c',r',by simpa using e]),rfl,q _ (I.hok.fresh (Gv _))]
def rdListS:RDn:=λds R=>match ds with|[.str z]=>z.length<=1000000/\R (.lst (bX z))|_=>False
def Bm{H:Hp}(l:List Nat):Reps K H (l.map λc=>D.str #[[c].toArray]) (l.map λc=>V.str #[[c].toArray]):=by
 induction l with
 |nil=>exact reps_nil.mpr rfl
 |cons c l ih=>exact reps_cons.mpr #[_,_,rfl,rep_str.mpr rfl,ih]
def Bn:cA K (λxs H Q=>∃z,xs=[.str z]/\z.length<=1000000/\∀l,H l=x8->Q (.ref l) (upd H l (.lst (chV z)))) rdListS:=by
 intro ds vs F H R Q fh h rx q;unfold rdListS at h;split at h
 .let#[v,r,rfl,h1,h2]:=reps_cons.mp rx;rw[reps_nil.mp h2,rep_str.mp h1];exact#[_,rfl,h.1,λl hl=>q _ _ _ _ (Grow.new fh hl _) h.2 (rep_lst.mpr #[l,_,rfl,aB,Bm _])]
 .exact h.elim
def il{p:TX}(hc:X.calm=true)(hm:X.mg "list"=x8)(ha:WDA X [e] t)(hg:Gl X "list"\zA0)(he:zSE X e []\zA0):WDE X (.Call (.Name "list" p) [e] [] pos) (dCB rdListS t):=#[gR (Bl hc) Bn hm PyProof.Rows.boot_list ha.out hg K3 K3 he]
end
mutual
def noL:D->Bool
 |.non=>true|.bl _=>true|.int _=>true|.str _=>true|.ptr _=>true|.dti _=>true
 |.tup ds=>noLs ds
 |.obj _ fs=>noLF fs
 |_=>false
def noLs:List D->Bool
 |[]=>true
 |d::ds=>noL d&&noLs ds
def noLF:List (J7×D)->Bool
 |[]=>true
 |(_,d)::ds=>noL d&&noLF ds
end
def nlF(F:Hp):Hp:=λb=>match F b with|some (.lst _)=>x8|o=>o
end My
end
section
namespace My
open PySem PySem.Spec PyProof.Rows L2
variable{w:Int}
def b64B(h:0<w)(h':w<=33554432):-(2^64)<w/\w<2^64:=KZ
variable{s:Int}
def s64B(h:0<=s)(h':s<w)(Ta:w<=33554432):-(2^64)<s/\s<2^64:=KZ
def d30B(h:0<w)(h':w<=33554432):0<w/\w<1073741824:=KZ
variable{x y:Int}
def ab24(h:x.natAbs<=12)(h':y.natAbs<=12):(x+y).natAbs<=24:=GD (IH x y) (Ih h h')
def sq0(a:Int):0<=a*a:=(Int.le_total 0 a).elim (λq=>II q q) (λq=>Int.mul_nonneg_of_nonpos_of_nonpos q q)
def u64(h:w=1\/w=-1\/w=0):-(2^64)<w/\w<2^64:=KZ
variable{k:Nat}
def n64(h:w.natAbs<=k)(hk:(k<=1073741823)\zA1):-(2^64)<w/\w<2^64:=KZ
variable{a b:Int}
def i64(h:a<=w)(h':w<=b)(ha:( -1000000000001<=a)\zA1)(hb:(b<=1000000000001)\zA1):-(2^64)<w/\w<2^64:=KZ
def Bo{X Y Z A B r:Nat}(h1:X<=Y)(h2:X=Z+2*B)(h3:1*A<=Z)(h5:Y<=A+r)(h6:r<B):False:=LV
def fdm(a b:Int)(hb:b≠0):(a-a.fdiv b*b).natAbs<b.natAbs/\(a.fdiv b).natAbs<=a.natAbs+1:=by
 have e:=Int.fmod_def a b;have e2:a-a.fdiv b*b=a.fmod b:=by rw[e,G2]
 rw[e2];have r:(a.fmod b).natAbs<b.natAbs:=by
  rcases(KZ:0<b\/b<0)with h|h
  .have h1:=Jy a h;have h2:=Jz a h;lia
  .have h1:=Jy (-a) (show 0< -b by lia);have h2:=Jz (-a) (show 0< -b by lia);rw[Int.neg_fmod_neg]at h1 h2;lia
 refine#[r,?_];have e3:(b*a.fdiv b).natAbs=b.natAbs*(a.fdiv b).natAbs:=Hg _ _;have e4:=Int.mul_fdiv_self a b;rcases HS (a.natAbs+1) (a.fdiv b).natAbs with c|c
 .have h1:b.natAbs*(a.natAbs+2)<=b.natAbs*(a.fdiv b).natAbs:=Jt _ c;have h2:b.natAbs*(a.natAbs+2)=b.natAbs*a.natAbs+2*b.natAbs:=by rw[Nat.mul_add,IA _ 2]
  have h3:1*a.natAbs<=b.natAbs*a.natAbs:=Nat.mul_le_mul_right _ KZ;have h5:(b*a.fdiv b).natAbs<=a.natAbs+(a.fmod b).natAbs:=by rw[e4];exact JA a _
  rw[e3]at h5;exact(Bo h1 h2 h3 h5 r).elim
 .exact c
def Uni(a b c d p0 p1 q0 q1:Int):Prop:=∃m n k l:Int,(m*l-n*k=1\/m*l-n*k=-1)/\p0=m*a+n*c/\p1=m*b+n*d/\q0=k*a+l*c/\q1=k*b+l*d
def Uni.refl(a b c d:Int):Uni a b c d a b c d:=#[1,0,0,1,.inl K3,KZ,KZ,KZ,KZ]
variable{d p0 p1 q0 q1:Int}
def Uni.step{c:Int}(t:Int)(h:Uni a b c d p0 p1 q0 q1):Uni a b c d q0 q1 (p0-t*q0) (p1-t*q1):=by
 let#[m,n,k,l,hd,rfl,rfl,rfl,rfl]:=h;refine#[k,l,m-t*k,n-t*l,?_,rfl,rfl,Mg,Mg];rcases hd with h|h
 .right;grind
 .left;grind
def Uni.neg{c:Int}(h:Uni a b c d p0 p1 q0 q1):Uni a b c d (-p0) (-p1) q0 q1:=by
 let#[m,n,k,l,hd,rfl,rfl,rfl,rfl]:=h;refine#[-m,-n,k,l,?_,Mg,Mg,rfl,rfl];rcases hd with h|h
 .right;grind
 .left;grind
def Uni.inv{c:Int}(h:Uni a b c d p0 p1 q0 q1):Uni p0 p1 q0 q1 a b c d:=by
 let#[m,n,k,l,hd,rfl,rfl,rfl,rfl]:=h;rcases hd with h|h
 .exact#[l,-n,-k,m,.inl Mg,Mg,Mg,Mg,Mg]
 .exact#[-l,n,k,-m,.inr Mg,Mg,Mg,Mg,Mg]
def Uni.det{c:Int}(h:Uni a b c d p0 p1 q0 q1):p0*q1-p1*q0=a*d-b*c\/p0*q1-p1*q0=-(a*d-b*c):=by
 let#[m,n,k,l,hd,rfl,rfl,rfl,rfl]:=h;rcases hd with h|h
 .left;grind
 .right;grind
def Lev(a b c d p0 p1 q0:Int):Prop:=0<=p1/\Uni a b c d p0 p1 q0 0
def FamOf(a b c d w h s:Int):Prop:=0<w/\0<h/\0<=s/\s<w/\Uni a b c d w 0 s h
def Bp(x:Int):(if x<0 then -x else x)=x\/(if x<0 then -x else x)=-x:=by
 split<;>simp
def Bq(h:x≠0):0<(if x<0 then -x else x):=by split<;>lia
def gl{c:Int}(hn:¬a*d=b*c)(h:Lev a b c d p0 p1 q0):FamOf a b c d (if q0<0 then -q0 else q0) p1 (p0%(if q0<0 then -q0 else q0)):=by
 let#[hp,hu]:=h;have dt:=hu.det;have Sb:q0≠0:=by
  rintro rfl;simp at dt;lia
 have Tb:p1≠0:=by
  rintro rfl;simp at dt;lia
 have hw:=Bq Sb;have hs:=Bp q0;generalize (if q0<0 then -q0 else q0)=w at hw hs;refine#[hw,KZ,IJ _ KZ,IK _ hw,?_];have em:=HV p0 w;generalize p0%w=s at em;generalize p0/w=t at em;let#[m,n,k,l,hd,e1,e2,e3,e4]:=hu;rcases hs with e|e
 .refine#[k,l,m-t*k,n-t*l,?_,Mg,Mg,Mg,Mg];rcases hd with h|h
  .right;grind
  .left;grind
 .refine#[-k,-l,m+t*k,n+t*l,?_,Mg,Mg,Mg,Mg];rcases hd with h|h
  .left;grind
  .right;grind
variable{h i j:Int}
def in_fam(hh:0<h)(ex:x=i*w+j*s)(ey:y=j*h):y%h=0/\(x-y/h*s)%w=0:=by
 subst ex ey;rw[G3 _ KZ];refine#[JB _ _,?_];have e:i*w+j*s-j*s=i*w:=KZ
 rw[e];exact JB _ _
variable{u:Int}
def tD{c v:Int}(eu:u=i*a+j*c)(ev:v=i*b+j*d):(u*d-v*c).fmod (a*d-b*c)=0/\(a*v-b*u).fmod (a*d-b*c)=0:=by
 subst eu ev;refine#[JC #[i,Mg],JC #[j,Mg]]
def FamOf.cells{c:Int}(f:FamOf a b c d w h s):w*h=a*d-b*c\/w*h=-(a*d-b*c):=by
 have:=f.2.2.2.2.det;simpa using this
def bB{A B:Nat}(h1:a.natAbs<=A)(h2:d.natAbs<=B):(a*d).natAbs<=A*B:=by
 rw[Hg];exact HI h1 h2
variable{g:Int}
def Br{c gap:Int}{N:Nat}(hg:0<g)(c0:0<=c)(cg:c<=g)(h:gap.natAbs<=N):(c*gap/g).natAbs<=N:=by
 have h1:(c*gap).natAbs<=g.natAbs*N:=by rw[Hg];exact HI LV h
 have e:((g.natAbs*N:Nat):Int)=N*g:=by rw[Int.natCast_mul,Int.natAbs_of_nonneg LV,G2]
 have l1:=Js (a:=-(N:Int)) (b:=c*gap) hg (by rw[JD];omega);have l2:=Int.ediv_le_of_le_mul (a:=c*gap) (b:=(N:Int)) hg LV;omega
def cU(hw:0<w)(hh:0<h):w<=w*h/\h<=w*h:=by
 have h1:=IL (show 1<=h by lia) (show 0<=w by lia);have h2:=G0 (show 1<=w by lia) (show 0<=h by lia);lia
def FamOf.bd{c:Int}(f:FamOf a b c d w h s){N:Nat}(hN:(a*d-b*c).natAbs<=N):w<=N/\h<=N/\s<N:=by
 let#[h1,h2]:=cU f.1 f.2.1;have h3:w*h<=N:=by
  rcases f.cells with e|e<;>rw[e]
  .exact Ha JE (JF.mpr hN)
  .exact Ha JE (JF.mpr (by rw[IM];exact hN))
 exact#[Ha h1 h3,Ha h2 h3,Int.lt_of_lt_of_le f.2.2.2.1 (Ha h1 h3)]
def Meas(x y g u:Int):Prop:=0<=g/\(∃i,x=i*g)/\(∃j,y=j*g)/\∃n,g=u*x+n*y
def tE{q:Int}(h:0<=g/\∃m n k l:Int,(m*l-n*k=1\/m*l-n*k=-1)/\u=m*1+n*0/\g=m*x+n*y/\q=k*1+l*0/\0=k*x+l*y):Meas x y g u:=by
 let#[h0,m,n,k,l,hd,e1,e2,e3,e4]:=h;refine#[h0,?_,?_,n,Mg]
 .rcases hd with h|h
  .exact#[l,Mg]
  .exact#[-l,Mg]
 .rcases hd with h|h
  .exact#[-k,Mg]
  .exact#[k,Mg]
def Meas.pos(h:Meas x y g u)(hx:0<x):0<g:=by
 let#[h0,#[i,hi],_]:=h;rcases(KZ:g=0\/0<g)with e|e
 .subst e;simp at hi;lia
 .exact e
def Meas.le(h:Meas x y g u)(hx:0<x):g<=x:=by
 have hg:=h.pos hx;let#[h0,#[i,hi],_]:=h;have Tc:0<i:=by
  rcases(KZ:i<=0\/0<i)with e|e
  .have:=Hs e h0;lia
  .exact e
 have:=G0 (show 1<=i by lia) h0;lia
structure MetR(w1 h1 s1 w2 h2 s2 w h s A:Int):Prop where
 w0:0<w
 h0:0<h
 s0:0<=s
 sw:s<w
 in1:∃i,w=i*w1
 in2:∃i,w=i*w2
 up1:∃i j,s=i*w1+j*s1/\h=j*h1
 up2:∃i j,s=i*w2+j*s2/\h=j*h2
 A0:0<A
 cells:w*h*A=w1*h1*w2*h2
 d11:A∣w1*h1
 d12:A∣w1*h2
 d21:A∣w2*h1
 d22:A∣w2*h2
 ds:A∣s1*h2-h1*s2
 all:∀x y:Int,(∃i j,x=i*w1+j*s1/\y=j*h1)->(∃i j,x=i*w2+j*s2/\y=j*h2)->∃i j,x=i*w+j*s/\y=j*h
 comb:∀G:Int,G∣w1*h1->G∣w1*h2->G∣w2*h1->G∣w2*h2->G∣s1*h2-h1*s2->G∣A
def dW(h:0<x*y)(hy:0<y):0<x:=by
 rcases(KZ:x<=0\/0<x)with e|e
 .have:=Hs e (show 0<=y by lia);lia
 .exact e
def kK{c:Int}(ha:0<a)(h:a*b=a*c):b=c:=IN KZ h
def r1(k j c:Int):k*(j*c)=j*(c*k):=Mg
def r2(j u c n d:Int):j*(u*c+n*d)=u*(j*c)+n*d*j:=Mg
def r3(u j d n j1:Int):u*(j*d)+n*d*j1=d*(u*j+n*j1):=Mg
def r4(j u c n d:Int):j*(u*c+n*d)=u*c*j+n*(j*d):=Mg
def r5(u c j n j1:Int):u*c*j+n*(j1*c)=c*(u*j+n*j1):=Mg
def r6(g e i1 a i2 b d T s1 c s2:Int)(q:i1*(a*(e*g))+d*T*s1=i2*(b*(e*g))+c*T*s2):g*(e*(i1*a-i2*b))=T*(c*s2-d*s1):=Mg
def r7(g T f:Int):g*(T*f)=T*(f*g):=Mg
def r8(T v e q f:Int):T*(v*e+q*f)=v*T*e+q*(T*f):=Mg
def r9(v T e q m:Int):v*T*e+q*(e*m)=e*(v*T+q*m):=Mg
def r10(e r f:Int):e*r*f=e*(r*f):=Mg
def r11(i u a n b:Int):i*(u*a+n*b)=u*(i*a)+n*b*i:=Mg
def r12(u r f i2 b n i1:Int):u*(r*f+i2*b)+n*b*i1=u*(r*f)+b*(u*i2+n*i1):=Mg
def r13(u r f b M a e g d s1 t:Int):(u*(r*f)+b*M)*(a*(e*g))+d*(e*r)*s1=(M+r*t)*(a*b*(e*g))+r*(e*(d*s1)+f*u*(a*(e*g))-a*b*(e*g)*t):=Mg
def r14(d e r c k:Int):d*(e*r)*(c*k)=r*(c*d*k*e):=Mg
variable{e f gg u' s1 s2:Int}
def Bs{c k n n' v q t i1 j1 i2 j2:Int}(hk:0<k)(Kk:0<gg)(he:0<e)
  (v7:u*a+n*b=1) (t5:u'*c+n'*d=1) (gap:c*s2-d*s1=f*gg) (v8:v*e+q*f=1)
  (hs:s=e*(d*s1)+f*u*(a*(e*gg))-a*b*(e*gg)*t) (x1:x=i1*(a*(e*gg))+j1*s1) (y1:y=j1*(c*k)) (x2:x=i2*(b*(e*gg))+j2*s2) (y2:y=j2*(d*k)):
  ∃i j,x=i*(a*b*(e*gg))+j*s/\y=j*(c*d*k*e):=by
 have h1:j1*c=j2*d:=kK hk (by rw[r1 k j1 c,r1 k j2 d,<-y1,<-y2]);have Nq:j1=d*(u'*j2+n'*j1):=by
  have p:=r2 j1 u' c n' d;rw[t5,h1,r3]at p;lia
 have QB:j2=c*(u'*j2+n'*j1):=by
  have p:=r4 j2 u' c n' d;rw[t5,<-h1,r5]at p;lia
 generalize u'*j2+n'*j1=T at Nq QB;have q1:i1*(a*(e*gg))+d*T*s1=i2*(b*(e*gg))+c*T*s2:=by rw[<-Nq,<-QB,<-x1,<-x2]
 have h2:e*(i1*a-i2*b)=T*f:=kK Kk (by rw[r6 gg e i1 a i2 b d T s1 c s2 q1,r7,gap]);have eT:T=e*(v*T+q*(i1*a-i2*b)):=by
  have p:=r8 T v e q f;rw[v8,<-h2,r9]at p;lia
 generalize hr:v*T+q*(i1*a-i2*b)=r at eT;have h3:i1*a-i2*b=r*f:=kK he (by rw[h2,eT,r10]);have h4:i1=u*(r*f)+b*(u*i2+n*i1):=by
  have p:=r11 i1 u a n b;have q3:i1*a=r*f+i2*b:=KZ
  rw[v7,q3,r12]at p;lia
 generalize u*i2+n*i1=M at h4;refine#[M+r*t,r,?_,?_]
 .rw[hs,x1,Nq,eT,<-r13,<-h4]
 .rw[y1,Nq,eT,r14]
def Bt{c k n n' v q t:Int}(ha:0<a)(hb:0<b)(hc:0<c)(hd:0<d)(he:0<e)(hk:0<k)(Kk:0<gg)
  (v7:u*a+n*b=1) (t5:u'*c+n'*d=1) (gap:c*s2-d*s1=f*gg) (v8:v*e+q*f=1)
  (hs:s=e*(d*s1)+f*u*(a*(e*gg))-a*b*(e*gg)*t) (m1:0<=s) (m2:s<a*b*(e*gg)):
  MetR (a*(e*gg)) (c*k) s1 (b*(e*gg)) (d*k) s2 (a*b*(e*gg)) (c*d*k*e) s (k*gg):=by
 have hg:0<e*gg:=GN he Kk;have hW:0<a*b*(e*gg):=GN (GN ha hb) hg;have OJ:d*s1=c*s2-f*gg:=KZ
 have ua:u*a=1-n*b:=KZ
 refine#[hW,GN (GN (GN hc hd) hk) he,m1,m2,#[b,?_],#[a,?_],#[f*u-t*b,d*e,?_,?_],#[-(f*n)-t*a,c*e,?_,?_],GN hk Kk,?_,#[a*e*c,?_],#[a*e*d,?_],#[b*e*c,?_],#[b*e*d,?_],#[-f,?_],?_,?_]
 .grind
 .grind
 .grind
 .grind
 .rw[hs,OJ];have x2:f*u*(a*(e*gg))=f*(u*a)*(e*gg):=by grind
  rw[x2,ua];grind
 .grind
 .grind
 .grind
 .grind
 .grind
 .grind
 .have:s1*(d*k)-c*k*s2=-(k*(c*s2-d*s1)):=by grind
  rw[this,gap];grind
 .rintro x y⟨i1,j1,x1,z1⟩ ⟨i2,j2,x2,z2⟩;exact Bs hk Kk he v7 t5 gap v8 hs x1 z1 x2 z2
 .rintro G⟨y1,z1⟩ ⟨y2,z2⟩ ⟨y3,z3⟩ ⟨y4,z4⟩ ⟨y5,z5⟩;refine#[v*(u'*u*y1+n'*u*y2+u'*n*y3+n'*n*y4)-q*y5,?_];have k1:k*(e*gg)=G*(u'*u*y1+n'*u*y2+u'*n*y3+n'*n*y4):=by
   have p1:k*(e*gg)=(u'*c+n'*d)*(u*a+n*b)*(k*(e*gg)):=by rw[v7,t5];grind
   have p2:(u'*c+n'*d)*(u*a+n*b)*(k*(e*gg))=u'*u*(a*(e*gg)*(c*k))+n'*u*(a*(e*gg)*(d*k))+u'*n*(b*(e*gg)*(c*k))+n'*n*(b*(e*gg)*(d*k)):=Mg
   rw[p1,p2,z1,z2,z3,z4];grind
  have k2:k*(f*gg)=-(G*y5):=by
   rw[<-z5,<-gap];grind
  have k3:k*gg=(v*e+q*f)*(k*gg):=by rw[v8];grind
  have k4:(v*e+q*f)*(k*gg)=v*(k*(e*gg))+q*(k*(f*gg)):=Mg
  rw[k3,k4,k1,k2];grind
variable{w1 h1 w2 h2:Int}
def im{k v9:Int}(v_:0<w1)(KA:0<w2)(QC:0<h1)(J2:0<h2)
  (M1:Meas w1 w2 g u) (M2:Meas h1 h2 k u')
  (M3:Meas g (h1*h2/k/h2*s2-h1*h2/k/h1*s1) gg v9):
  MetR w1 h1 s1 w2 h2 s2 (w1*w2/g) (h1*h2/k*(g/gg)) ((g/gg*(h1*h2/k/h1*s1)+g/gg*(h1*h2/k/h2*s2-h1*h2/k/h1*s1)/g*u*w1)%(w1*w2/g)) (k*gg):=by
 have hg:=M1.pos v_;have hk:=M2.pos QC;have Kk:=M3.pos hg;let#[_,#[a,ea],#[b,eb],n,en]:=M1;let#[_,#[c,ec],#[d,ed],n',Tf]:=M2;have ha:0<a:=dW (ea ▸ v_) hg;have hb:0<b:=dW (eb ▸ KA) hg;have hc:0<c:=dW (ec ▸ QC) hk;have hd:0<d:=dW (ed ▸ J2) hk;have v7:u*a+n*b=1:=by
  have p:(u*a+n*b)*g=1*g:=by
   have:(u*a+n*b)*g=u*(a*g)+n*(b*g):=by grind
   rw[this,<-ea,<-eb];lia
  exact HJ KZ p
 have t5:u'*c+n'*d=1:=by
  have p:(u'*c+n'*d)*k=1*k:=by
   have:(u'*c+n'*d)*k=u'*(c*k)+n'*(d*k):=by grind
   rw[this,<-ec,<-ed];lia
  exact HJ KZ p
 have eW:w1*w2/g=a*b*g:=by
  have:w1*w2=(a*b*g)*g:=by rw[ea,eb];grind
  rw[this];exact G3 _ KZ
 have eR:h1*h2/k=c*d*k:=by
  have:h1*h2=(c*d*k)*k:=by rw[ec,ed];grind
  rw[this];exact G3 _ KZ
 have Sc:h1*h2/k/h1=d:=by
  rw[eR];have:c*d*k=d*h1:=by rw[ec];grind
  rw[this];exact G3 _ KZ
 have Sd:h1*h2/k/h2=c:=by
  rw[eR];have:c*d*k=c*h2:=by rw[ed];grind
  rw[this];exact G3 _ KZ
 rw[Sc,Sd]at M3 ⊢;let#[_,#[e,ee],#[f,ef],q,eq]:=M3;have he:0<e:=dW (ee ▸ hg) Kk;have v8:v9*e+q*f=1:=by
  have p:(v9*e+q*f)*gg=1*gg:=by
   have:(v9*e+q*f)*gg=v9*(e*gg)+q*(f*gg):=by grind
   rw[this,<-ee,<-ef];lia
  exact HJ KZ p
 have eC:g/gg=e:=by rw[ee];exact G3 _ KZ
 have eS:e*(c*s2-d*s1)/g=f:=by
  have:e*(c*s2-d*s1)=f*g:=by rw[ef,ee];grind
  rw[this];exact G3 _ KZ
 rw[eC,eS,eW,eR];have hW:0<a*b*g:=GN (GN ha hb) hg;have em:=HV (e*(d*s1)+f*u*w1) (a*b*g);have m1:=IJ (e*(d*s1)+f*u*w1) (show a*b*g≠0 by lia);have m2:=IK (e*(d*s1)+f*u*w1) hW;generalize (e*(d*s1)+f*u*w1)%(a*b*g)=s at em m1 m2 ⊢;generalize (e*(d*s1)+f*u*w1)/(a*b*g)=t at em;subst ea eb ec ed;subst ee;exact Bt ha hb hc hd he hk Kk v7 t5 ef v8 em m1 m2
def kL(hx:0<x)(hy:0<y)(M:Meas x y g u):0<x*y/g/\x*y/g<=x*y/\x*y/g/x*1<=y/\0<=x*y/g/x/\x*y/g/y<=x/\0<=x*y/g/y:=by
 have hg:=M.pos hx;let#[_,#[a,ea],#[b,eb],_]:=M;have ha:0<a:=dW (ea ▸ hx) hg;have hb:0<b:=dW (eb ▸ hy) hg;have e1:x*y/g=a*b*g:=by
  have:x*y=(a*b*g)*g:=by rw[ea,eb];grind
  rw[this];exact G3 _ KZ
 have e2:a*b*g/x=b:=by
  have:a*b*g=b*x:=by rw[ea];grind
  rw[this];exact G3 _ KZ
 have e3:a*b*g/y=a:=by
  have:a*b*g=a*y:=by rw[eb];grind
  rw[this];exact G3 _ KZ
 have p1:0<a*b*g:=GN (GN ha hb) hg;have q1:=(cU (w:=b) (h:=g) hb hg).1;have q2:=(cU (w:=a) (h:=g) ha hg).1;have q3:x*y=a*b*g*g:=by rw[ea,eb];grind
 have q4:=(cU (w:=a*b*g) (h:=g) p1 hg).1;rw[e1,e2,e3];lia
def cell(ns:List Int)(k:Int):Int:=ns.getD k.toNat 0
variable{ns:List Int}
def tF{k:Int}(h0:0<=k)(h1:k<(ns.length:Int)):atI (ns.map D.int) k=be (.int (cell ns k)):=by
 let#[j,rfl]:∃j:Nat,k=(j:Int):=#[k.toNat,KZ];have hk:j<ns.length:=KZ
 refine dm ?_;rw[GU,GP hk];simp[cell,G9,GP hk]
def Bu{k:Int}(h1:(ns.length:Int)<=k):cell ns k=0:=by
 have hk:ns.length<=k.toNat:=KZ
 simp[cell,G9,Hq hk]
def cC(h:0<b):0<=a%b:=IJ a KZ
def cD(h:0<b):a%b<b:=IK a h
def Bv:SpD:=λds R=>∃(ns:List Int) (k:Int),ds=[.rol (ns.map D.int),.int k]/\0<=k/\R (.int (cell ns k))
def Bw:SpD:=λds R=>∃i:Int,ds=[.int i]/\R (.bl true)
def By:SpD:=λds R=>∃w h s x y:Int,ds=[.tup [.int w,.int h,.int s],.int x,.int y]/\0<w/\0<h/\h<1073741824/\0<=s/\s<1073741824/\
 R (.bl (decide (y%h=0/\(x-y/h*s)%w=0)))
def Bz:SpD:=λds R=>∃a b c d u v:Int,ds=[.tup [.int a,.int b],.tup [.int c,.int d],.int u,.int v]/\a.natAbs<1073741824/\b.natAbs<1073741824/\c.natAbs<1073741824/\d.natAbs<1073741824/\
 ¬a*d=b*c/\R (.bl (decide ((u*d-v*c).fmod (a*d-b*c)=0/\(a*v-b*u).fmod (a*d-b*c)=0)))
def BA:SpD:=λds R=>∃x y:Int,ds=[.int x,.int y]/\∀g:Int,0<=g->g∣x->g∣y->(∀e,e∣x->e∣y->e∣g)->R (.int g)
def tG:e∣(if x<0 then -x else x)↔e∣x:=by
 split
 .exact Int.dvd_neg
 .exact Iff.rfl
def tH(hb:e∣b):e∣a%b↔e∣a:=by
 have e1:=HV a b;rw[e1];constructor
 .intro h;have:=IP h (JG (c:=a/b) hb);simpa using this
 .intro h;exact Int.dvd_sub h (JG hb)
def BB:SpD:=λds R=>∃w h s x y:Int,ds=[.tup [.int w,.int h,.int s],.int x,.int y]/\0<w/\0<h/\h<1073741824/\0<=s/\s<1073741824/\
 R (.tup [.int ((x-y/h*s)%w),.int (y%h)])
def BC:SpD:=λds R=>∃a b c d:Int,ds=[.tup [.int a,.int b],.tup [.int c,.int d]]/\b.natAbs<4611686018427387904/\d.natAbs<4611686018427387904/\
 ∀p0 p1 q0,Lev a b c d p0 p1 q0->R (.tup [.tup [.int p0,.int p1],.tup [.int q0,.int 0]])
def BD:SpD:=λds R=>∃a b c d:Int,ds=[.tup [.int a,.int b],.tup [.int c,.int d]]/\a.natAbs<4611686018427387904/\b.natAbs<4611686018427387904/\c.natAbs<4611686018427387904/\d.natAbs<4611686018427387904/\
 (a*d=b*c->R .non)/\(¬a*d=b*c->∀w h s,FamOf a b c d w h s->R (.tup [.int w,.int h,.int s]))
def BE:SpD:=λds R=>∃w h s:Int,ds=[.tup [.int w,.int h,.int s]]/\0<w/\R (.tup [.int w,.int h,.int (-s%w)])
def BF:SpD:=λds R=>∃w h s:Int,ds=[.tup [.int w,.int h,.int s]]/\0<w/\0<h/\w<4611686018427387904/\h<4611686018427387904/\0<=s/\s<4611686018427387904/\
 ∀w' h' s',FamOf 0 w (-h) s w' h' s'->R (.tup [.int w',.int h',.int s'])
def BG:SpD:=λds R=>∃x y:Int,ds=[.int x,.int y]/\x.natAbs<4611686018427387904/\y.natAbs<4611686018427387904/\∀g u,Meas x y g u->R (.tup [.int g,.int u])
def BH:SpD:=λds R=>∃w1 h1 s1 w2 h2 s2:Int,ds=[.tup [.int w1,.int h1,.int s1],.tup [.int w2,.int h2,.int s2]]/\0<w1/\w1<=33554432/\0<h1/\h1<=33554432/\0<=s1/\s1<w1/\0<w2/\w2<=33554432/\0<h2/\h2<=33554432/\0<=s2/\s2<w2/\
 ∀w h s A,MetR w1 h1 s1 w2 h2 s2 w h s A->R (.tup [.int w,.int h,.int s])
def Drawn(xs:List Int):Prop:=∀x∈xs,0<=x/\x<5040
variable{xs:List Int}
def Drawn.at(h:Drawn xs)(k:Int):0<=cell xs k/\cell xs k<5040:=by
 by_cases hk:k.toNat<xs.length
 .have:cell xs k=xs[k.toNat]:=by simp[cell,G9,GP hk]
  rw[this];exact h _ (Hf hk)
 .have:cell xs k=0:=by simp[cell,G9,Hq (Ib hk)]
  lia
def cE{k:Int}(h0:0<=k)(h:k.toNat<xs.length):atI (xs.map D.int) k=be (.int (cell xs k)):=tF h0 KZ
def tI{v:Int}:xs.map D.int++[D.int v]=(xs++[v]).map D.int:=K8
def tJ{v:Int}(h:Drawn xs)(h1:0<=v)(h2:v<5040):Drawn (xs++[v]):=by
 intro x hx;rcases GS.mp hx with q|q
 .exact h x q
 .rw[Gu.mp q];exact#[h1,h2]
def BI:SpD:=λds R=>∃(ns:List Int) (k:Int) (n:Nat),ds=[.rol (ns.map D.int),.int k,.int n]/\0<=k/\n<=100/\∀xs:List Int,xs.length=n->Drawn xs->R (.lst (xs.map D.int))
def BJ:SpD:=λds R=>∃xs:List Int,ds=[.lst (xs.map D.int)]/\8<=xs.length/\Drawn xs/\
 ∀a b c d:Int,(-12<=a/\a<=12)->(-12<=b/\b<=12)->(-12<=c/\c<=12)->(-12<=d/\d<=12)->¬a*d=b*c->R (.lst [.tup [.int a,.int b],.tup [.int c,.int d]])
abbrev cs(x:J7):List Nat:=x.cps.toList
def bF(x:J7):(cs x).length=x.length:=by simp[Str.length]
def tK:cs ""=[]:=rfl
def cf(x y:J7):cs (x++y)=cs x++cs y:=by
 show((x++y:J7)).cps.toList=_;rw[show(x++y:J7).cps=x.cps++y.cps from rfl,Array.toList_append]
def ay(x y:J7):(x++y).length=x.length+y.length:=by rw[<-bF,cf,GF,bF,bF]
def isSign(c:Nat):Prop:=c=46\/(49<=c/\c<=54)
def gm:∀(L:List J7),cT (L.map D.str)=be L
 |[]=>rfl
 |x::L=>by simp[cT,gm L]
def fw(x:J7):Prop:=0<x.length/\x.length<=7/\∀c∈cs x,isSign c
def BK{x:J7}(h:fw x)(v:Int):∃c,(x.length<=1000000/\atI (cs x) (v%(x.length:Int))=be c)/\isSign c:=by
 have h1:=cC (a:=v) (show 0<(x.length:Int)by have:=h.1;lia);have h2:=cD (a:=v) (show 0<(x.length:Int)by have:=h.1;lia);let#[j,ej]:∃j:Nat,v%(x.length:Int)=(j:Int):=#[(v%(x.length:Int)).toNat,KZ];have hj:j<(cs x).length:=by rw[bF];lia
 refine#[(cs x)[j],#[by have:=h.2.1;lia,?_],h.2.2 _ (Hf hj)];rw[ej];exact dm (GP hj)
def BL:fw "1.23456":=#[KK,KK,by unfold isSign;decide+kernel]
def BM:fw "12":=#[KK,KK,by unfold isSign;decide+kernel]
def BN:fw "1.":=#[KK,KK,by unfold isSign;decide+kernel]
def BO:fw "...2":=#[KK,KK,by unfold isSign;decide+kernel]
def BP(k:Int):∃x,atI [D.str "1.23456",D.str "12",D.str "1.",D.str "...2"] (k%4)=be (.str x)/\fw x:=by
 rcases(KZ:k%4=0\/k%4=1\/k%4=2\/k%4=3)with e|e|e|e<;>rw[e]
 .exact#[_,rfl,BL]
 .exact#[_,rfl,BM]
 .exact#[_,rfl,BN]
 .exact#[_,rfl,BO]
def BQ(k:Int):∃m,atI [D.int 1,D.int 70] (k%2)=be (.int m)/\(m=1\/m=70):=by
 rcases(KZ:k%2=0\/k%2=1)with e|e<;>rw[e]
 .exact#[1,rfl,.inl rfl]
 .exact#[70,rfl,.inr rfl]
structure Rows(L:List Str):Prop where
 many:1<=L.length/\L.length<=8
 wide:∃w,(1<=w/\w<=8)/\∀l∈L,l.length=w/\∀c∈cs l,isSign c
variable{L:List J7}
def Rows.of{w t:Nat}(h1:1<=t)(h2:t<=8)(hl:L.length=t)(w1:1<=w)(w2:w<=8)(h:∀l∈L,l.length=w/\∀c∈cs l,isSign c):Rows L:=#[KZ,w,#[w1,w2],h]
variable{c:Nat}
def BR{x:J7}{i:Nat}(h1:x.length=i)(h2:∀c∈cs x,isSign c)(hc:isSign c):(x++#[[c].toArray]:J7).length=i+1/\∀c'∈cs (x++#[[c].toArray]),isSign c':=by
 refine#[by rw[ay,h1];rfl,λc' q=>?_];rw[cf]at q;rcases GS.mp q with q|q
 .exact h2 _ q
 .have:c'=c:=by simpa[cs]using q
  rw[this];exact hc
def BS{x:J7}:L.map D.str++[D.str x]=(L++[x]).map D.str:=K8
def dE(L:List J7)(a b c d:Int):Str:=("["++Txt.join "/" L)++((((((((";":J7)++(toString a:String))++",")++(toString b:String))++";")++(toString c:String))++",")++(toString d:String))++"]"
def bK(h:-12<=a/\a<=12):((toString a:String):J7).length<=3:=by
 have key:∀k:Fin 25,((toString (((k.val:Nat):Int)-12):String):J7).length<=3:=KK
 have:=key #[(a+12).toNat,KZ];have e:(((a+12).toNat:Nat):Int)-12=a:=KZ
 rw[e]at this;exact this
def B12(a:Int):Prop:=-12<=a/\a<=12
def tL{w:Nat}(h:∀l∈L,l.length=w):(L.map (·.length)).sum=L.length*w:=by
 induction L with
 |nil=>simp
 |cons x L ih=>
  rw[GK,JH,ih (λl hl=>h l (Gx _ hl)),h x Gz,Gy,Ia,Iz]
def tM(h:Rows L):(L.map (·.length)).sum+L.length*("/":J7).length<=72:=by
 let#[h1,w,hw,h2]:=h;rw[tL (λl hl=>(h2 l hl).1)];have e:("/":J7).length=1:=rfl;rw[e];have:=HI h1.2 hw.2;lia
def BT:SpD:=λds R=>∃xs:List Int,ds=[.lst (xs.map D.int)]/\40<=xs.length/\Drawn xs/\∀L:List J7,Rows L->R (.lst (L.map D.str))
def BU:SpD:=λds R=>∃(L:List J7) (a b c d:Int),ds=[.lst (L.map D.str),.tup [.int a,.int b],.tup [.int c,.int d]]/\Rows L/\B12 a/\B12 b/\B12 c/\B12 d/\R (.str (dE L a b c d))
structure Leaf where
 rows:List J7
 a:Int
 b:Int
 c:Int
 d:Int
 w0:Int
 w1:Int
 w2:Int
 w3:Int
 w4:Int
 w5:Int
 hues:List Int
def Leaf.D(l:Leaf):My.D:=.tup [.lst (l.rows.map D.str),.tup [.int l.a,.int l.b],.tup [.int l.c,.int l.d],.tup [.int l.w0,.int l.w1,.int l.w2,.int l.w3,.int l.w4,.int l.w5],.lst (l.hues.map D.int)]
structure Leaf.Ok(l:Leaf):Prop where
 rows:Rows l.rows
 a:B12 l.a
 b:B12 l.b
 c:B12 l.c
 d:B12 l.d
 ne:¬l.a*l.d=l.b*l.c
 w0:l.w0.natAbs<=1
 w1:l.w1.natAbs<=1
 w2:l.w2.natAbs<=1
 w3:l.w3.natAbs<=1
 w4:l.w4.natAbs<=1000
 w5:l.w5.natAbs<=1000
 many:l.hues.length=7
 hue:∀h∈l.hues,0<=h/\h<=6
def onB(a b c d u v:Int):Bool:=decide ((u*d-v*c).fmod (a*d-b*c)=0/\(a*v-b*u).fmod (a*d-b*c)=0)
def scanRow(f:Int->Bool):Nat->List Nat->Option Nat
 |_,[]=>x8
 |i,c::r=>if c≠46/\f i=true then be c else scanRow f (i+1) r
def cJ(f:Int->Int->Bool):Nat->List J7->Option Nat
 |_,[]=>x8
 |j,l::r=>match scanRow (λi=>f i j) 0 (cs l)with|some c=>be c|none=>cJ f (j+1) r
def Leaf.hit(l:Leaf)(x y:Int):Option Nat:=cJ (λi j=>onB l.a l.b l.c l.d (l.w0*x+l.w1*y+l.w4-i) (l.w2*x+l.w3*y+l.w5-j)) 0 l.rows
def Leaf.shows(l:Leaf)(x y:Int):Int:=match l.hit x y with|some c=>cell l.hues ((c:Int)-48)|none=>0
def one_sign:(#[[c].toArray]:J7)="."↔c=46:=by
 constructor
 .intro h;have:([c].toArray:Array Nat)=(".":J7).cps:=congrArg Str.cps h;have e:([c].toArray:Array Nat).toList=(".":J7).cps.toList:=by rw[this]
  have e2:(".":J7).cps.toList=[46]:=rfl;rw[e2]at e;simpa using e
 .rintro rfl;rfl
def digit_of(h:49<=c/\c<=54):PySem.intText? (#[[c].toArray]:J7)=be ((c:Int)-48):=by
 rcases(KZ:c=49\/c=50\/c=51\/c=52\/c=53\/c=54)with e|e|e|e|e|e<;>subst e<;>decide+kernel
def range_int{n:Int}{x:D}(h:((GQ n.toNat).map λk=>D.int ((k:Nat):Int))[k]?=be x):k<n.toNat/\x=.int (k:Int):=by
 have hk:k<n.toNat:=by simpa using(GO.mp h).1
 refine#[hk,?_];simp[hk]at h;exact h.symm
def cV{n:Int}:((GQ n.toNat).map λk=>D.int ((k:Nat):Int)).length=n.toNat:=K8
def bu:List Leaf->Int->Int->Int
 |[],_,_=>0
 |l::r,x,y=>if l.shows x y≠0 then l.shows x y else bu r x y
variable{hs:List Int}
def BV(h:∀h∈hs,0<=h/\h<=6)(k:Int):0<=cell hs k/\cell hs k<=6:=by
 by_cases hk:k.toNat<hs.length
 .have:cell hs k=hs[k.toNat]:=by simp[cell,G9,GP hk]
  rw[this];exact h _ (Hf hk)
 .have:cell hs k=0:=by simp[cell,G9,Hq (Ib hk)]
  lia
def Leaf.shows_le{l:Leaf}(h:l.Ok)(x y:Int):0<=l.shows x y/\l.shows x y<=6:=by
 unfold Leaf.shows;split
 .exact BV h.hue _
 .lia
def tN:∀{ls:List Leaf} (x y:Int),(∀l∈ls,l.Ok)->0<=bu ls x y/\bu ls x y<=6
 |[],_,_,_=>by simp[bu]
 |l::r,x,y,h=>by
  unfold bu;split
  .exact Leaf.shows_le (h l Gz) x y
  .exact tN x y λl' q=>h l' (Gx _ q)
def bx(L:List J7)(a b c d:Int):Leaf:=#[L,a,b,c,d,1,0,0,1,0,0,[0,1,2,3,4,5,6]]
inductive Pat where
 |mot (L:List Str) (a b c d:Int)
 |over (p q:Pat)
 |sh (a b:Int) (p:Pat)
 |mir (p:Pat)
 |tur (p:Pat)
 |hue (f g:Int) (p:Pat)
def Pat.text:Pat->J7
 |.mot L a b c d=>dE L a b c d
 |.over p q=>(((("(":J7)++p.text)++"|")++q.text)++")"
 |.sh a b p=>((((("s":J7)++(toString a:String))++",")++(toString b:String))++":")++p.text
 |.mir p=>("m":J7)++p.text
 |.tur p=>("t":J7)++p.text
 |.hue f g p=>((("h":J7)++(toString f:String))++(toString g:String))++p.text
def Pat.depth:Pat->Nat
 |.mot ..=>0
 |.over p q=>1+max p.depth q.depth
 |.sh _ _ p=>p.depth+1
 |.mir p=>p.depth+1
 |.tur p=>p.depth+1
 |.hue _ _ p=>p.depth+1
def Leaf.by(l:Leaf)(b0 b1 b2 b3 b4 b5:Int):Leaf:=
 {l with w0:=l.w0*b0+l.w1*b2,w1:=l.w0*b1+l.w1*b3,w2:=l.w2*b0+l.w3*b2,w3:=l.w2*b1+l.w3*b3,w4:=l.w4+l.w0*b4+l.w1*b5,w5:=l.w5+l.w2*b4+l.w3*b5}
def bL(f g h:Int):Int:=if h=f then g else h
def Leaf.dye(l:Leaf)(f g:Int):Leaf:={l with hues:=l.hues.map (bL f g)}
def Pat.leaves:Pat->List Leaf
 |.mot L a b c d=>[bx L a b c d]
 |.over p q=>p.leaves++q.leaves
 |.sh a b p=>p.leaves.map (λl=>l.by 1 0 0 1 (-a) (-b))
 |.mir p=>p.leaves.map (λl=>l.by (-1) 0 0 1 0 0)
 |.tur p=>p.leaves.map (λl=>l.by 0 1 (-1) 0 0 0)
 |.hue f g p=>p.leaves.map (λl=>(l.by 1 0 0 1 0 0).dye f g)
def Pat.show:Pat->Int->Int->Int
 |.mot L a b c d,x,y=>(bx L a b c d).shows x y
 |.over p q,x,y=>if p.show x y≠0 then p.show x y else q.show x y
 |.sh a b p,x,y=>p.show (x-a) (y-b)
 |.mir p,x,y=>p.show (-x) y
 |.tur p,x,y=>p.show y (-x)
 |.hue f g p,x,y=>bL f g (p.show x y)
def Pat.Wf:Pat->Prop
 |.mot L a b c d=>Rows L/\B12 a/\B12 b/\B12 c/\B12 d/\¬a*d=b*c
 |.over p q=>p.Wf/\q.Wf
 |.sh a b p=>B12 a/\B12 b/\p.Wf
 |.mir p=>p.Wf
 |.tur p=>p.Wf
 |.hue f g p=>(1<=f/\f<=6)/\(1<=g/\g<=6)/\p.Wf
def Leaf.by_shows(l:Leaf)(b0 b1 b2 b3 b4 b5 x y:Int):(l.by b0 b1 b2 b3 b4 b5).shows x y=l.shows (b0*x+b1*y+b4) (b2*x+b3*y+b5):=by
 have e1:(l.w0*b0+l.w1*b2)*x+(l.w0*b1+l.w1*b3)*y+(l.w4+l.w0*b4+l.w1*b5)=l.w0*(b0*x+b1*y+b4)+l.w1*(b2*x+b3*y+b5)+l.w4:=Mg
 have e2:(l.w2*b0+l.w3*b2)*x+(l.w2*b1+l.w3*b3)*y+(l.w5+l.w2*b4+l.w3*b5)=l.w2*(b0*x+b1*y+b4)+l.w3*(b2*x+b3*y+b5)+l.w5:=Mg
 simp only[Leaf.shows,Leaf.hit,Leaf.by,e1,e2]
def gp(b0 b1 b2 b3 b4 b5 x y:Int):∀ls:List Leaf,bu (ls.map (λl=>l.by b0 b1 b2 b3 b4 b5)) x y=bu ls (b0*x+b1*y+b4) (b2*x+b3*y+b5)
 |[]=>rfl
 |l::r=>by
  rw[GK,bu,bu,Leaf.by_shows,gp b0 b1 b2 b3 b4 b5 x y r]
def scanRow_sign{f:Int->Bool}:∀{cs:List Nat} {i c:Nat},(∀c∈cs,isSign c)->scanRow f i cs=be c->49<=c/\c<=54
 |[],_,_,_,h=>by cases h
 |a::r,i,c,hs,h=>by
  rw[scanRow]at h;split at h
  .rename_i q;cases h;have:=hs a Gz;unfold isSign at this;have:=q.1;lia
  .exact scanRow_sign (λc q=>hs c (Gx _ q)) h
def kM{f:Int->Int->Bool}:∀{L:List J7} {j c:Nat},(∀l∈L,∀c∈cs l,isSign c)->cJ f j L=be c->49<=c/\c<=54
 |[],_,_,_,h=>by cases h
 |a::r,j,c,hs,h=>by
  rw[cJ]at h;split at h
  .rename_i q;cases h;exact scanRow_sign (hs a Gz) q
  .exact kM (λl q=>hs l (Gx _ q)) h
def BW{k:Int}(h:k.toNat<hs.length):cell (hs.map (bL f g)) k=bL f g (cell hs k):=by
 simp[cell,G9,GU,GP h]
def Leaf.dye_shows{l:Leaf}(ok:l.Ok)(hf:1<=f)(x y:Int):(l.dye f g).shows x y=bL f g (l.shows x y):=by
 have e:(l.dye f g).hit x y=l.hit x y:=rfl;unfold Leaf.shows;rw[e];cases h:l.hit x y with
 |none=>simp[bL];lia
 |some c=>
  have hc:49<=c/\c<=54:=kM (λl' q=>let ⟨_,_,_,h⟩:=ok.rows;(h l' q).2) h;exact BW (by rw[ok.many];lia)
def tO(hf:1<=f)(hg:1<=g):bL f g h=0↔h=0:=by
 unfold bL;split<;>lia
def tP{f g:Int}(hf:1<=f)(hg:1<=g)(x y:Int):∀ls:List Leaf,(∀l∈ls,l.Ok)->bu (ls.map (λl=>l.dye f g)) x y=bL f g (bu ls x y)
 |[],_=>by simp[bu,bL];lia
 |l::r,h=>by
  rw[GK,bu,bu,Leaf.dye_shows (h l Gz) hf,tP hf hg x y r λl q=>h l (Gx _ q)];by_cases z:l.shows x y=0
  .rw[if_neg (λq=>q ((tO hf hg).mpr z)),if_neg (λq=>q z)]
  .rw[if_pos (λq=>z ((tO hf hg).mp q)),if_pos z]
def tQ(x y:Int):∀(a b:List Leaf),bu (a++b) x y=if bu a x y≠0 then bu a x y else bu b x y
 |[],b=>by simp[bu]
 |l::r,b=>by
  rw[G5,bu,bu];by_cases z:l.shows x y≠0
  .rw[if_pos z,if_pos z,if_pos z]
  .rw[if_neg z,if_neg z,tQ x y r b]
structure Leaf.Near(l:Leaf)(n:Nat):Prop where
 u0:(l.w0.natAbs=1/\l.w1=0/\l.w2=0/\l.w3.natAbs=1)\/(l.w0=0/\l.w1.natAbs=1/\l.w2.natAbs=1/\l.w3=0)
 w4:l.w4.natAbs<=24*n
 w5:l.w5.natAbs<=24*n
variable{n:Nat}
def Leaf.Near.mono{l:Leaf}{m:Nat}(h:l.Near n)(k:n<=m):l.Near m:=#[h.u0,by have:=h.w4;lia,by have:=h.w5;lia]
def Leaf.Near.unit{l:Leaf}(h:l.Near n):(l.w0=1\/l.w0=-1\/l.w0=0)/\(l.w1=1\/l.w1=-1\/l.w1=0)/\(l.w2=1\/l.w2=-1\/l.w2=0)/\(l.w3=1\/l.w3=-1\/l.w3=0):=by
 have k:∀{w:Int},w.natAbs=1->w=1\/w=-1\/w=0:=λ{w} e=>(Int.natAbs_eq w).imp (λz=>by rw[z,e];rfl) λz=>.inl (by rw[z,e];rfl);rcases h.u0 with⟨p,q,r,t⟩|⟨p,q,r,t⟩
 .exact#[k p,.inr (.inr q),.inr (.inr r),k t]
 .exact#[.inr (.inr p),k q,k r,.inr (.inr t)]
def tR(h:w=1\/w=-1\/w=0):w.natAbs<=1:=by rcases h with rfl|rfl|rfl<;>decide
def near_add{v:Int}(h:e.natAbs<=24*n)(hw:w=1\/w=-1\/w=0)(hv:v=1\/v=-1\/v=0)(ha:B12 a)(hb:B12 b):(e+w* -a+v* -b).natAbs<=24*(n+1):=by
 have m:∀{w a:Int},(w=1\/w=-1\/w=0)->B12 a->(w* -a).natAbs<=12:=λ{w a} hw ha=>by
  rw[Hg,IM];exact HI (tR hw) (show a.natAbs<=12 by unfold B12 at ha;clear hw;lia)
 rw[show 24*(n+1)=24*n+12+12 from rfl];exact GD (IH _ _) (Ih (GD (IH _ _) (Ih h (m hw ha))) (m hv hb))
def BX{l:Leaf}(h:l.Near n)(ha:B12 a)(hb:B12 b):(l.by 1 0 0 1 (-a) (-b)).Near (n+1):=by
 let#[h0,h1,h2,h3]:=h.unit;exact#[by simpa[Leaf.by]using h.u0,near_add h.w4 h0 h1 ha hb,near_add h.w5 h2 h3 ha hb]
def BY{l:Leaf}(h:l.Near n):(l.by (-1) 0 0 1 0 0).Near (n+1):=by
 have p:=h.w4;have q:=h.w5;exact#[by simpa[Leaf.by]using h.u0,by simp[Leaf.by];lia,by simp[Leaf.by];lia]
def BZ{l:Leaf}(h:l.Near n):(l.by 0 1 (-1) 0 0 0).Near (n+1):=by
 have p:=h.w4;have q:=h.w5;refine#[?_,by simp[Leaf.by];lia,by simp[Leaf.by];lia];rcases h.u0 with⟨a,b,c,d⟩|⟨a,b,c,d⟩
 .exact .inr (by simp[Leaf.by,a,b,c,d])
 .exact .inl (by simp[Leaf.by,a,b,c,d])
def tS{l:Leaf}(h:l.Near n):((l.by 1 0 0 1 0 0).dye f g).Near (n+1):=by
 have p:=h.w4;have q:=h.w5;exact#[by simpa[Leaf.by,Leaf.dye]using h.u0,by simp[Leaf.by,Leaf.dye];lia,by simp[Leaf.by,Leaf.dye];lia]
structure Leaf.Good(l:Leaf):Prop where
 rows:Rows l.rows
 a:B12 l.a
 b:B12 l.b
 c:B12 l.c
 d:B12 l.d
 ne:¬l.a*l.d=l.b*l.c
 many:l.hues.length=7
 hue:∀h∈l.hues,0<=h/\h<=6
def Leaf.ok_of{l:Leaf}(g:l.Good)(h:l.Near n)(hn:n<=40):l.Ok:=by
 have:=h.u0;have:=h.w4;have:=h.w5;exact#[g.rows,g.a,g.b,g.c,g.d,g.ne,KZ,KZ,KZ,KZ,KZ,KZ,g.many,g.hue]
def Pat.leaf_good:∀{p:Pat},p.Wf->∀l∈p.leaves,l.Good/\l.Near p.depth
 |.mot L a b c d,h,l,q=>by
  have:l=bx L a b c d:=by simpa[Pat.leaves]using q
  subst this;let#[h1,h2,h3,h4,h5,h6]:=h;exact#[#[h1,h2,h3,h4,h5,h6,rfl,by intro h q;simp[bx]at q;lia],#[by simp[bx],by simp[bx],by simp[bx]]]
 |.over p r,h,l,q=>by
  rcases GS.mp q with q|q
  .let#[g,n]:=Pat.leaf_good h.1 l q;exact#[g,n.mono (by simp only[Pat.depth];lia)]
  .let#[g,n]:=Pat.leaf_good h.2 l q;exact#[g,n.mono (by simp only[Pat.depth];lia)]
 |.sh a b p,h,l,q=>by
  let#[l',q',rfl]:=GV.mp q;let#[g,n]:=Pat.leaf_good h.2.2 l' q';exact#[#[g.rows,g.a,g.b,g.c,g.d,g.ne,g.many,g.hue],BX n h.1 h.2.1]
 |.mir p,h,l,q=>by
  let#[l',q',rfl]:=GV.mp q;let#[g,n]:=Pat.leaf_good (p:=p) h l' q';exact#[#[g.rows,g.a,g.b,g.c,g.d,g.ne,g.many,g.hue],BY n]
 |.tur p,h,l,q=>by
  let#[l',q',rfl]:=GV.mp q;let#[g,n]:=Pat.leaf_good (p:=p) h l' q';exact#[#[g.rows,g.a,g.b,g.c,g.d,g.ne,g.many,g.hue],BZ n]
 |.hue f k p,h,l,q=>by
  let#[l',q',rfl]:=GV.mp q;let#[g,n]:=Pat.leaf_good (p:=p) h.2.2 l' q';refine#[#[g.rows,g.a,g.b,g.c,g.d,g.ne,?_,λv hv=>?_],tS n]
  .show(l'.hues.map _).length=7;rw[GB];exact g.many
  .let#[u,hu,rfl]:=GV.mp hv;have:=g.hue u hu;have:=h.2.1;unfold bL;split<;>lia
variable{p:Pat}
def Pat.leaf_ok(h:p.Wf)(hd:p.depth<=40):∀l∈p.leaves,l.Ok:=λl q=>Leaf.ok_of (Pat.leaf_good h l q).1 (Pat.leaf_good h l q).2 hd
def Pat.show_leaves:∀{p:Pat},p.Wf->p.depth<=40->∀x y,bu p.leaves x y=p.show x y
 |.mot L a b c d,_,_,x,y=>by
  simp only[Pat.leaves,Pat.show,bu];split
  .rfl
  .lia
 |.over p q,h,hd,x,y=>by
  simp only[Pat.depth]at hd;rw[Pat.leaves,tQ,Pat.show_leaves h.1 KZ,Pat.show_leaves h.2 KZ,Pat.show]
 |.sh a b p,h,hd,x,y=>by
  simp only[Pat.depth]at hd;rw[Pat.leaves,gp,Pat.show_leaves h.2.2 KZ,Pat.show];congr 1<;>lia
 |.mir p,h,hd,x,y=>by
  simp only[Pat.depth]at hd;rw[Pat.leaves,gp,Pat.show_leaves (p:=p) h KZ,Pat.show];congr 1<;>lia
 |.tur p,h,hd,x,y=>by
  simp only[Pat.depth]at hd;rw[Pat.leaves,gp,Pat.show_leaves (p:=p) h KZ,Pat.show];congr 1<;>lia
 |.hue f g p,h,hd,x,y=>by
  simp only[Pat.depth]at hd;have e:p.leaves.map (λl=>(l.by 1 0 0 1 0 0).dye f g)=(p.leaves.map (λl=>l.by 1 0 0 1 0 0)).map (λl=>l.dye f g):=by rw[Hz];rfl
  rw[Pat.leaves,e,tP h.1.1 h.2.1.1,gp,Pat.show_leaves h.2.2 KZ,Pat.show]
  .congr 2<;>lia
  .intro l q;let#[l',q',rfl]:=GV.mp q;let#[g',n]:=Pat.leaf_good h.2.2 l' q';have n':=tS (f:=f) (g:=g) n;have:(l'.by 1 0 0 1 0 0).Near (p.depth+1):=#[n'.u0,n'.w4,n'.w5];exact Leaf.ok_of #[g'.rows,g'.a,g'.b,g'.c,g'.d,g'.ne,g'.many,g'.hue] this KZ
def Pat.D(p:Pat):My.D:=.lst [.str p.text,.int p.depth,.lst (p.leaves.map Leaf.D)]
def Leaf.T(dy:Bool)(f8 new b0 b1 b2 b3 b4 b5:Int)(l:Leaf):Leaf:=if dy then(l.by b0 b1 b2 b3 b4 b5).dye f8 new else l.by b0 b1 b2 b3 b4 b5
def fz(h:1<=a/\a<=6):((toString a:String):J7).length<=3:=bK KZ
def tT(p:Pat)(H:Prop)(R:My.D->Prop):Prop:=(5<=p.depth->R p.D)/\(p.depth<5->R (Pat.mir p).D/\R (Pat.tur p).D/\(∀a b,B12 a->B12 b->R (Pat.sh a b p).D)/\(H->∀f g:Int,(1<=f/\f<=6)->(1<=g/\g<=6)->R (Pat.hue f g p).D))
variable{A:Int}
def B0{R:My.D->Prop}(h:tT p (j=3) R)(hd:p.depth<5){k B f8 new:Int}(hA:B12 A)(hB:B12 B)(ho:1<=f8/\f8<=6)(hn:1<=new/\new<=6)(hj:0<=j/\j<4):
  ∃(hs:J7) (b0 b1 b2 b3 b4 b5:Int),atI [D.str "m",D.str "t",D.str ((((("s":J7)++(toString A:String))++",")++(toString B:String))++":"),D.str ((("h":J7)++(toString f8:String))++(toString new:String))] j=be (.str hs)/\
   atI ([D.tup [.int (-1),.int 0,.int 0,.int 1,.int 0,.int 0],D.tup [.int 0,.int 1,.int (-1),.int 0,.int 0,.int 0]]++[D.tup [.int 1,.int 0,.int 0,.int 1,.int (-A),.int (-B)],D.tup [.int 1,.int 0,.int 0,.int 1,.int 0,.int 0]]) j=be (.tup [.int b0,.int b1,.int b2,.int b3,.int b4,.int b5])/\
   (b0.natAbs<=1/\b1.natAbs<=1/\b2.natAbs<=1/\b3.natAbs<=1/\b4.natAbs<=12/\b5.natAbs<=12)/\hs.length<=20/\
   R (.lst [.str (hs++p.text),.int (p.depth+1),.lst ((p.leaves.map (Leaf.T (decide (j=3)) f8 new b0 b1 b2 b3 b4 b5)).map Leaf.D)]):=by
 let#[h1,h2,h3,h4]:=h.2 hd;have l1:("s":J7).length=1:=rfl;have l2:(",":J7).length=1:=rfl;have l3:(":":J7).length=1:=rfl;have l4:("h":J7).length=1:=rfl;have lA:=bK hA;have lB:=bK hB;have lo:=fz ho;have ln:=fz hn;have eD:∀n:Nat,D.int ((n+1:Nat):Int)=D.int ((n:Int)+1):=λn=>by congr 1
 unfold B12 at hA hB;rcases(KZ:j=0\/j=1\/j=2\/j=3)with rfl|rfl|rfl|rfl
 .exact#[_,_,_,_,_,_,_,rfl,rfl,KZ,K3,h1]
 .exact#[_,_,_,_,_,_,_,rfl,rfl,KZ,K3,h2]
 .refine#[_,_,_,_,_,_,_,rfl,rfl,KZ,?_,h3 A B hA hB]
  repeat rw[ay]
  lia
 .refine#[_,_,_,_,_,_,_,rfl,rfl,KZ,?_,h4 rfl f8 new ho hn]
  repeat rw[ay]
  lia
def B1(h f8 new:Int):atI [D.int h,D.int new] (if decide (h=f8)=true then(1:Int)else 0)=be (.int (bL f8 new h)):=by
 unfold bL;by_cases e:h=f8
 .rw[if_pos e,if_pos (by simpa using e)];rfl
 .rw[if_neg e,if_neg (by simpa using e)];rfl
def take_snoc{α:Type}{xs:List α}{x:α}(h:xs[k]?=be x):xs.take (k+1)=xs.take k++[x]:=by
 have hk:k<xs.length:=(GO.mp h).1;rw[Jp,h];rfl
def Pat.leaves_len:∀(p:Pat),p.leaves.length<=2^p.depth
 |.mot ..=>Gv _
 |.over p q=>by
  have h1:=p.leaves_len;have h2:=q.leaves_len;have m1:2^p.depth<=2^(max p.depth q.depth):=HK K3 (JI _ _);have m2:2^q.depth<=2^(max p.depth q.depth):=HK K3 (JJ _ _);rw[Pat.leaves,GF,Pat.depth,JK];lia
 |.sh a b p=>by rw[Pat.leaves,GB,Pat.depth,Ht];have:=p.leaves_len;lia
 |.mir p=>by rw[Pat.leaves,GB,Pat.depth,Ht];have:=p.leaves_len;lia
 |.tur p=>by rw[Pat.leaves,GB,Pat.depth,Ht];have:=p.leaves_len;lia
 |.hue f g p=>by rw[Pat.leaves,GB,Pat.depth,Ht];have:=p.leaves_len;lia
def Pat.leaves_32(h:p.depth<=5):p.leaves.length<=32:=GD p.leaves_len (HK K3 h)
def tU{c v:Int}(hn:¬a*d=b*c)(h:(u*d-v*c).fmod (a*d-b*c)=0/\(a*v-b*u).fmod (a*d-b*c)=0):∃i j,u=i*a+j*c/\v=i*b+j*d:=by
 have hz:a*d-b*c≠0:=LV
 let#[i,ei]:(a*d-b*c)∣(u*d-v*c):=#[_,(JL h.1).symm];let#[j,ej]:(a*d-b*c)∣(a*v-b*u):=#[_,(JL h.2).symm];refine#[i,j,?_,?_]
 .have:(a*d-b*c)*u=(a*d-b*c)*(i*a+j*c):=by
   have q1:(a*d-b*c)*u=a*(u*d-v*c)+c*(a*v-b*u):=Mg
   rw[q1,ei,ej];grind
  exact IN hz this
 .have:(a*d-b*c)*v=(a*d-b*c)*(i*b+j*d):=by
   have q1:(a*d-b*c)*v=b*(u*d-v*c)+d*(a*v-b*u):=Mg
   rw[q1,ei,ej];grind
  exact IN hz this
def Uni.trans{c x0 x1 y0 y1:Int}(h:Uni a b c d p0 p1 q0 q1)(k:Uni p0 p1 q0 q1 x0 x1 y0 y1):Uni a b c d x0 x1 y0 y1:=by
 let#[m,n,k1,l,hd,rfl,rfl,rfl,rfl]:=h;let#[m',n',k',l',gt,rfl,rfl,rfl,rfl]:=k;have dt:(m'*m+n'*k1)*(k'*n+l'*l)-(m'*n+n'*l)*(k'*m+l'*k1)=(m'*l'-n'*k')*(m*l-n*k1):=Mg
 refine#[m'*m+n'*k1,m'*n+n'*l,k'*m+l'*k1,k'*n+l'*l,?_,Mg,Mg,Mg,Mg];rw[dt];rcases hd with e|e<;>rcases gt with e'|e'<;>rw[e,e']<;>decide
def fA:∀(n:Nat) (a b c d:Int),d.natAbs<=n->∃p0 p1 q0,Lev a b c d p0 p1 q0
 |n,a,b,c,d,hn=>by
  by_cases hd:d=0
  .subst hd;by_cases hb:0<=b
   .exact#[a,b,c,hb,Uni.refl a b c 0]
   .exact#[-a,-b,c,KZ,(Uni.refl a b c 0).neg]
  .match n,hn with
   |0,hn=>exact absurd (KZ:d=0) hd
   |n+1,hn=>
    have lt:=(fdm b d hd).1;let#[p0,p1,q0,h0,hu]:=fA n c d (a-b.fdiv d*c) (b-b.fdiv d*d) KZ;exact#[p0,p1,q0,h0,((Uni.refl a b c d).step (b.fdiv d)).trans hu]
def B2{c:Int}(hn:¬a*d=b*c)(g0:0<=g)(g1:g∣b)(g2:g∣d)(g3:∀e,e∣b->e∣d->e∣g):
  ∃w s,FamOf a b c d w g s:=by
 let#[p0,p1,q0,hL]:=fA d.natAbs a b c d (Gv _);have hF:=gl hn hL;have hp:=hF.2.1;let#[m,n,k,l,_,e1,e2,e3,e4]:=hL.2;let#[m',n',k',l',_,f1,f2,f3,f4]:=hL.2.inv;have d1:p1∣g:=g3 p1 #[m',by rw[f2];grind] #[k',by rw[f4];grind];have d2:g∣p1:=by
  rw[e2];exact IP (Ii g1) (Ii g2)
 have:p1=g:=JM KZ g0 d1 d2;subst this;exact#[_,_,hF]
def FamOf.uniq_lean{c:Int}(f:FamOf a b c d w h s)(e1:x=i*a+j*c)(e2:h=i*b+j*d)(h0:0<=x)(h1:x<=s):x=s:=by
 let#[hw,hh,hs,K6,hu]:=f;let#[m,n,k,l,_,f1,f2,f3,f4]:=hu.inv;have ex:x=(i*m+j*k)*w+(i*n+j*l)*s:=by rw[e1,f1,f3];grind
 have eh:h=(i*n+j*l)*h:=by
  have:i*b+j*d=(i*n+j*l)*h:=by rw[f2,f4];grind
  rw[<-this];exact e2
 have one:i*n+j*l=1:=by
  have:(i*n+j*l)*h=1*h:=by lia
  exact HJ KZ this
 rw[one]at ex;generalize i*m+j*k=t at ex;have:t*w=x-s:=KZ
 rcases(KZ:t<=-1\/t=0\/1<=t)with z|z|z
 .have:=G0 z (show 0<=w by lia);lia
 .subst z;lia
 .have:=G0 z (show 0<=w by lia);lia
def notT{c:Prop}[Decidable c](h:(!decide c)=true):¬c:=by
 intro q;rw[decide_eq_true q]at h;cases h
def notF{c:Prop}[Decidable c](h:¬(!decide c)=true):c:=by
 rcases Classical.em c with q|q
 .exact q
 .rw[decide_eq_false q]at h;exact absurd rfl h
def Leaf.o0(l:Leaf):Int:=l.w0*l.a+l.w2*l.b
def Leaf.o1(l:Leaf):Int:=l.w1*l.a+l.w3*l.b
def Leaf.t0(l:Leaf):Int:=l.w0*l.c+l.w2*l.d
def Leaf.t1(l:Leaf):Int:=l.w1*l.c+l.w3*l.d
def dF(h:w=1\/w=-1\/w=0)(ha:B12 a):(w*a).natAbs<=12:=by
 rw[Hg];exact HI (tR h) (show a.natAbs<=12 by unfold B12 at ha;clear h;lia)
def tV(ha:B12 a)(hb:B12 b):(a*b).natAbs<=144:=by
 unfold B12 at ha hb;rw[Hg];exact GD (HI (show a.natAbs<=12 by lia) (show b.natAbs<=12 by lia)) K3
def Leaf.sizes{l:Leaf}(g:l.Good)(h:l.Near n):l.o0.natAbs<=24/\l.o1.natAbs<=24/\l.t0.natAbs<=24/\l.t1.natAbs<=24/\¬l.o0*l.t1=l.o1*l.t0/\(l.o0*l.t1-l.o1*l.t0).natAbs<=288:=by
 let#[h0,h1,h2,h3]:=h.unit;have a0:=dF h0 g.a;have a1:=dF h1 g.a;have b2:=dF h2 g.b;have b3:=dF h3 g.b;have c0:=dF h0 g.c;have c1:=dF h1 g.c;have d2:=dF h2 g.d;have d3:=dF h3 g.d;have dt:l.o0*l.t1-l.o1*l.t0=(l.w0*l.w3-l.w1*l.w2)*(l.a*l.d-l.b*l.c):=by unfold Leaf.o0 Leaf.o1 Leaf.t0 Leaf.t1;grind
 have dw:(l.w0*l.w3-l.w1*l.w2).natAbs=1:=by
  rcases h.u0 with⟨p,q,r,t⟩|⟨p,q,r,t⟩
  .rw[q,JN,Int.sub_zero,Hg,p,t]
  .rw[p,JN,Int.zero_sub,IM,Hg,q,r]
 have da:(l.o0*l.t1-l.o1*l.t0).natAbs=(l.a*l.d-l.b*l.c).natAbs:=by rw[dt,Hg,dw,Nat.one_mul]
 refine#[ab24 a0 b2,ab24 a1 b3,ab24 c0 d2,ab24 c1 d3,λz=>g.ne ?_,?_]
 .rw[z,Int.sub_self]at da;exact Int.sub_eq_zero.mp (Ji.mp da.symm)
 .rw[da];exact GD (JA _ _) (Ih (tV g.a g.d) (tV g.b g.c))
def B3:SpD:=λds R=>∃(l:Leaf) (n:Nat),ds=[l.D]/\l.Good/\l.Near n/\∀w h s:Int,FamOf l.o0 l.o1 l.t0 l.t1 w h s->w*h<=288->R (.tup [.int w,.int h,.int s])
def B4(h1:y%h=0/\(x-y/h*s)%w=0):∃i j,x=i*w+j*s/\y=j*h:=by
 refine#[(x-y/h*s)/w,y/h,?_,?_]
 .have:=HL (x-y/h*s) w;rw[h1.2]at this;rw[G2 w]at this;lia
 .have:=HL y h;rw[h1.1,G2 h]at this;lia
def cX(x y:Int):∃g u,Meas x y g u:=by
 let#[p0,p1,q0,hL]:=fA y.natAbs 1 x 0 y (Gv _);exact#[p1,p0,tE #[hL.1,hL.2]]
def Meas.gcd{G:Int}(h:Meas x y g u)(g0:0<=G)(g1:G∣x)(g2:G∣y)(g3:∀e,e∣x->e∣y->e∣G):G=g:=by
 let#[h0,#[i,ei],#[j,ej],n,en]:=h;refine JM g0 h0 ?_ (g3 g #[i,by rw[ei,G2]] #[j,by rw[ej,G2]]);rw[en];exact IP (Ii g1) (Ii g2)
structure Fm(w h s:Int):Prop where
 w0:0<w
 w1:w<=720
 h0:0<h
 h1:h<=720
 s0:0<=s
 sw:s<w
def B5(f:Fm w1 h1 s1)(k:Fm w2 h2 s2):∃g u w h s A,Meas w1 w2 g u/\w=w1*w2/g/\MetR w1 h1 s1 w2 h2 s2 w h s A:=by
 let#[g,u,M1]:=cX w1 w2;let#[k',u',M2]:=cX h1 h2;let#[gg,v9,M3]:=cX g (h1*h2/k'/h2*s2-h1*h2/k'/h1*s1);exact#[g,u,_,_,_,_,M1,rfl,im f.w0 k.w0 f.h0 k.h0 M1 M2 M3]
def MetR.high(M:MetR w1 h1 s1 w2 h2 s2 w h s A)(hh:0<h1)(hj:1<=j)(e1:∃i,x=i*w1+j*s1)(e2:∃i k,x=i*w2+k*s2/\j*h1=k*h2):h<=j*h1/\(j*h1=h->0<=x->x<w->x=s):=by
 let#[i,e1]:=e1;let#[i',k,e3,e4]:=e2;let#[a,b,e5,e6]:=M.all x (j*h1) #[i,j,e1,rfl] #[i',k,e3,e4];have hp:0<j*h1:=GN KZ hh;have hb:1<=b:=by
  rcases(KZ:b<=0\/1<=b)with z|z
  .have:=Hs z (show 0<=h by have:=M.h0;lia);lia
  .exact z
 refine#[?_,λe x0 x1=>?_]
 .have:=G0 hb (show 0<=h by have:=M.h0;lia);lia
 .have ob:b=1:=by
   have:b*h=1*h:=by lia
   exact HJ (by have:=M.h0;lia) this
  rw[ob]at e5;have s0:=M.s0;have sw:=M.sw;have:a*w=x-s:=KZ
  rcases(KZ:a<=-1\/a=0\/1<=a)with z|z|z
  .have:=G0 z (show 0<=w by lia);lia
  .subst z;lia
  .have:=G0 z (show 0<=w by lia);lia
def B6:SpD:=λds R=>∃w1 h1 s1 w2 h2 s2:Int,ds=[.tup [.int w1,.int h1,.int s1],.tup [.int w2,.int h2,.int s2]]/\Fm w1 h1 s1/\Fm w2 h2 s2/\
 ∀w h s A,MetR w1 h1 s1 w2 h2 s2 w h s A->(w*h<=720->R (.tup [.int w,.int h,.int s]))/\(720<w*h->R .non)
def B7{S:Int}(hw:0<w1)(hx:x<w1)(x0:0<=x)(hS:0<=S)(e:S=i*w1+s)(e2:∃i',x=i'*w1+s):∃k,S=x+k*w1/\0<=k:=by
 let#[i',e2]:=e2;refine#[i-i',Mg,?_];rcases(KZ:i-i'<=-1\/0<=i-i')with z|z
 .have:=G0 z (show 0<=w1 by lia);have:(i-i')*w1=S-x:=by grind
  lia
 .exact z
def InF(w h s x y:Int):Prop:=∃i j,x=i*w+j*s/\y=j*h
def Leaf.Lat(l:Leaf)(x y:Int):Prop:=∃i j,x=i*l.o0+j*l.t0/\y=i*l.o1+j*l.t1
def FamOf.lat{c:Int}(f:FamOf a b c d w h s)(x y:Int):InF w h s x y↔∃i j,x=i*a+j*c/\y=i*b+j*d:=by
 let#[_,_,_,_,hu]:=f;let#[m,n,k,l,_,e1,e2,e3,e4]:=id hu;let#[m',n',k',l',_,f1,f2,f3,f4]:=hu.inv;constructor
 .rintro⟨i,j,rfl,rfl⟩;refine#[i*m+j*k,i*n+j*l,by rw[e1,e3];grind,?_];have z:i*0+j*h=(i*m+j*k)*b+(i*n+j*l)*d:=by rw[e2,e4];grind
  lia
 .rintro⟨i,j,rfl,rfl⟩;refine#[i*m'+j*k',i*n'+j*l',by rw[f1,f3];grind,by rw[f2,f4];grind]
def MetR.lat(M:MetR w1 h1 s1 w2 h2 s2 w h s A)(x y:Int):InF w h s x y↔InF w1 h1 s1 x y/\InF w2 h2 s2 x y:=by
 constructor
 .rintro⟨i,j,rfl,rfl⟩;let#[a1,e1]:=M.in1;let#[a2,e2]:=M.in2;let#[b1,c1,e3,e4]:=M.up1;let#[b2,c2,e5,e6]:=M.up2;refine#[#[i*a1+j*b1,j*c1,?_,?_],#[i*a2+j*b2,j*c2,?_,?_]]
  .rw[e1,e3];grind
  .rw[e4];grind
  .rw[e2,e5];grind
  .rw[e6];grind
 .rintro⟨h1,h2⟩;exact M.all x y h1 h2
variable{w' h' s':Int}
def InF.le(hw:0<w)(hh:0<h)(Lx:0<w')(OK:0<h')(sub:∀x y,InF w' h' s' x y->InF w h s x y):w*h<=w'*h'/\w<=w'/\h<=h':=by
 let#[i,j,e1,e2]:=sub w' 0 #[1,0,KZ,KZ];have j0:j=0:=by
  rcases Ij.mp e2.symm with z|z
  .exact z
  .lia
 subst j0;have i1:1<=i:=by
  rcases(KZ:i<=0\/1<=i)with z|z
  .have:=Hs z (show 0<=w by lia);lia
  .exact z
 let#[i',j',e3,e4]:=sub s' h' #[0,1,KZ,KZ];have j1:1<=j':=by
  rcases(KZ:j'<=0\/1<=j')with z|z
  .have:=Hs z (show 0<=h by lia);lia
  .exact z
 have a1:=G0 i1 (show 0<=w by lia);have a2:=G0 j1 (show 0<=h by lia);have b1:w<=w':=KZ
 have b2:h<=h':=KZ
 exact#[JO b1 b2 KZ KZ,b1,b2]
def InF.uniq(hw:0<w)(hh:0<h)(hs:0<=s)(K6:s<w)(Lx:0<w')(OK:0<h')(Ky:0<=s')(Se:s'<w')(e:∀x y,InF w h s x y↔InF w' h' s' x y):w=w'/\h=h'/\s=s':=by
 let#[_,a1,a2]:=InF.le hw hh Lx OK (λx y q=>(e x y).mpr q);let#[_,b1,b2]:=InF.le Lx OK hw hh (λx y q=>(e x y).mp q);have ew:w=w':=KZ
 have eh:h=h':=KZ
 subst ew eh;refine#[rfl,rfl,?_];let#[i,j,e1,e2]:=(e s h).mp #[0,1,KZ,KZ];have j1:j=1:=by
  have:j*h=1*h:=by lia
  exact HJ KZ this
 subst j1;have:i*w=s-s':=KZ
 rcases(KZ:i<=-1\/i=0\/1<=i)with z|z|z
 .have:=G0 z (show 0<=w by lia);lia
 .subst z;lia
 .have:=G0 z (show 0<=w by lia);lia
structure Fam0(w h s:Int):Prop where
 w0:0<w
 h0:0<h
 s0:0<=s
 sw:s<w
def tW(f:Fam0 w1 h1 s1)(k:Fam0 w2 h2 s2):∃w h s,Fam0 w h s/\∀x y,InF w h s x y↔InF w1 h1 s1 x y/\InF w2 h2 s2 x y:=by
 let#[g,u,M1]:=cX w1 w2;let#[k',u',M2]:=cX h1 h2;let#[gg,v9,M3]:=cX g (h1*h2/k'/h2*s2-h1*h2/k'/h1*s1);have M:=im f.w0 k.w0 f.h0 k.h0 M1 M2 M3;exact#[_,_,_,#[M.w0,M.h0,M.s0,M.sw],M.lat]
def Leaf.fam_ex{l:Leaf}(g:l.Good)(h:l.Near n):∃w k s,Fam0 w k s/\∀x y,InF w k s x y↔l.Lat x y:=by
 let#[_,_,_,_,ne,_]:=Leaf.sizes g h;let#[p0,p1,q0,hL]:=fA l.t1.natAbs l.o0 l.o1 l.t0 l.t1 (Gv _);have f:=gl ne hL;exact#[_,_,_,#[f.1,f.2.1,f.2.2.1,f.2.2.2.1],f.lat]
def bS(ls:List Leaf)(x y:Int):Prop:=∀l∈ls,l.Lat x y
def tX{n:Nat}:∀(ls:List Leaf) (w h s:Int),Fam0 w h s->(∀l∈ls,l.Good/\l.Near n)->∃w' h' s',Fam0 w' h' s'/\∀x y,InF w' h' s' x y↔InF w h s x y/\bS ls x y
 |[],w,h,s,f,_=>#[w,h,s,f,λx y=>#[λq=>#[q,λl z=>by cases z],λq=>q.1]]
 |l::r,w,h,s,f,g=>by
  let#[w1,h1,s1,f1,e1]:=Leaf.fam_ex (g l Gz).1 (g l Gz).2;let#[w2,h2,s2,f2,e2]:=tW f f1;let#[w3,h3,s3,f3,e3]:=tX r w2 h2 s2 f2 λl' q=>g l' (Gx _ q);refine#[w3,h3,s3,f3,λx y=>?_];rw[e3,e2,e1];constructor
  .rintro⟨⟨a,b⟩,c⟩;exact#[a,λl' q=>(GA.mp q).elim (λz=>z ▸ b) (c l')]
  .rintro⟨a,b⟩;exact#[#[a,b l Gz],λl' q=>b l' (Gx _ q)]
def cut1(d:D)(ds:List D):cutD (d::ds) (be 1) x8=ds:=by
 unfold cutD;have e1:HT.sIx (d::ds).length 0 (be 1)=1:=by simp[HT.sIx]
 have e2:HT.sIx (d::ds).length (d::ds).length x8=(d::ds).length:=by simp[HT.sIx]
 rw[e1,e2,List.drop_one,List.tail_cons,Gy,Ik,Il]
def B8:SpD:=λds R=>∃(ls:List Leaf) (n:Nat),ds=[.lst (ls.map Leaf.D)]/\ls≠[]/\(∀l∈ls,l.Good/\l.Near n)/\
 ∀w h s:Int,Fam0 w h s->(∀x y,InF w h s x y↔bS ls x y)->(w*h<=720->R (.tup [.int w,.int h,.int s]))/\(720<w*h->R .non)
def Pat.Lat:Pat->Int->Int->Prop
 |.mot _ a b c d,x,y=>∃i j,x=i*a+j*c/\y=i*b+j*d
 |.over p q,x,y=>p.Lat x y/\q.Lat x y
 |.sh _ _ p,x,y=>p.Lat x y
 |.mir p,x,y=>p.Lat (-x) y
 |.tur p,x,y=>p.Lat y (-x)
 |.hue _ _ p,x,y=>p.Lat x y
def Leaf.by_lat(l:Leaf)(b0 b1 b2 b3 b4 b5 x y:Int):(l.by b0 b1 b2 b3 b4 b5).Lat x y↔∃u v,l.Lat u v/\x=b0*u+b2*v/\y=b1*u+b3*v:=by
 have e0:(l.by b0 b1 b2 b3 b4 b5).o0=b0*l.o0+b2*l.o1:=by simp only[Leaf.o0,Leaf.o1,Leaf.by];grind
 have e1:(l.by b0 b1 b2 b3 b4 b5).o1=b1*l.o0+b3*l.o1:=by simp only[Leaf.o0,Leaf.o1,Leaf.by];grind
 have e2:(l.by b0 b1 b2 b3 b4 b5).t0=b0*l.t0+b2*l.t1:=by simp only[Leaf.t0,Leaf.t1,Leaf.by];grind
 have e3:(l.by b0 b1 b2 b3 b4 b5).t1=b1*l.t0+b3*l.t1:=by simp only[Leaf.t0,Leaf.t1,Leaf.by];grind
 unfold Leaf.Lat;rw[e0,e1,e2,e3];generalize l.o0=o0;generalize l.o1=o1;generalize l.t0=t0;generalize l.t1=t1;constructor
 .rintro⟨i,j,rfl,rfl⟩;exact#[_,_,#[i,j,rfl,rfl],Mg,Mg]
 .rintro⟨_,_,⟨i,j,rfl,rfl⟩,rfl,rfl⟩;exact#[i,j,Mg,Mg]
def Leaf.dye_lat(l:Leaf)(f g x y:Int):(l.dye f g).Lat x y↔l.Lat x y:=Iff.rfl
def B9(a b:List Leaf)(x y:Int):bS (a++b) x y↔bS a x y/\bS b x y:=by
 constructor
 .intro h;exact#[λl q=>h l (HB _ q),λl q=>h l (GX _ q)]
 .rintro⟨h1,h2⟩ l q;rcases GS.mp q with q|q
  .exact h1 l q
  .exact h2 l q
def latAll_map{f:Leaf->Leaf}{v:Int}(hf:∀l:Leaf,(f l).Lat x y↔l.Lat u v)(ls:List Leaf):bS (ls.map f) x y↔bS ls u v:=by
 constructor
 .intro h l q;exact(hf l).mp (h _ (GV.mpr #[l,q,rfl]))
 .intro h l q;let#[l',q',rfl]:=GV.mp q;exact(hf l').mpr (h l' q')
def tY(l:Leaf)(e f x y:Int):(l.by 1 0 0 1 e f).Lat x y↔l.Lat x y:=by
 rw[Leaf.by_lat];constructor
 .rintro⟨u,v,h,e1,e2⟩;have e1:x=u:=by lia
  have e2:y=v:=KZ
  rw[e1,e2];exact h
 .intro h;exact#[x,y,h,KZ,KZ]
def Pat.lat_leaves:∀(p:Pat) (x y:Int),bS p.leaves x y↔p.Lat x y
 | .mot L a b c d,x,y=>by
  have e0:(bx L a b c d).o0=a:=by simp[Leaf.o0,bx]
  have e1:(bx L a b c d).o1=b:=by simp[Leaf.o1,bx]
  have e2:(bx L a b c d).t0=c:=by simp[Leaf.t0,bx]
  have e3:(bx L a b c d).t1=d:=by simp[Leaf.t1,bx]
  have e:(bx L a b c d).Lat x y↔(Pat.mot L a b c d).Lat x y:=by
   unfold Leaf.Lat;rw[e0,e1,e2,e3];exact Iff.rfl
  rw[<-e];constructor
  .intro h;exact h _ Gz
  .intro h l q;rw[Gu.mp q];exact h
 |.over p q,x,y=>by rw[Pat.leaves,B9,Pat.lat_leaves p,Pat.lat_leaves q,Pat.Lat]
 |.sh a b p,x,y=>by rw[Pat.leaves,latAll_map (λl=>tY l _ _ x y),Pat.lat_leaves p,Pat.Lat]
 | .mir p,x,y=>by
  have e:∀l:Leaf,(l.by (-1) 0 0 1 0 0).Lat x y↔l.Lat (-x) y:=λl=>by
   rw[Leaf.by_lat];constructor
   .rintro⟨u,v,h,e1,e2⟩;have e1:-x=u:=by lia
    have e2:y=v:=KZ
    rw[e1,e2];exact h
   .intro h;exact#[-x,y,h,KZ,KZ]
  rw[Pat.leaves,latAll_map e,Pat.lat_leaves p,Pat.Lat]
 | .tur p,x,y=>by
  have e:∀l:Leaf,(l.by 0 1 (-1) 0 0 0).Lat x y↔l.Lat y (-x):=λl=>by
   rw[Leaf.by_lat];constructor
   .rintro⟨u,v,h,e1,e2⟩;have e1:-x=v:=by lia
    have e2:y=u:=KZ
    rw[e1,e2];exact h
   .intro h;exact#[y,-x,h,KZ,KZ]
  rw[Pat.leaves,latAll_map e,Pat.lat_leaves p,Pat.Lat]
 |.hue f g p,x,y=>by
  rw[Pat.leaves,latAll_map (λl=>(Leaf.dye_lat _ f g x y).trans (tY l _ _ x y)),Pat.lat_leaves p,Pat.Lat]
structure Pat.Fam(p:Pat)(w h s:Int):Prop where
 f:Fam0 w h s
 lat:∀x y,InF w h s x y↔p.Lat x y
def Pat.Fam.uniq(a:p.Fam w h s)(b:p.Fam w' h' s'):w=w'/\h=h'/\s=s':=
 InF.uniq a.f.w0 a.f.h0 a.f.s0 a.f.sw b.f.w0 b.f.h0 b.f.s0 b.f.sw λx y=>(a.lat x y).trans (b.lat x y).symm
def Pat.Fam.mot{c:Int}(k:FamOf a b c d w h s):(Pat.mot L a b c d).Fam w h s:=#[#[k.1,k.2.1,k.2.2.1,k.2.2.2.1],k.lat]
def Pat.Fam.sh(a b:Int)(k:p.Fam w h s):(Pat.sh a b p).Fam w h s:=#[k.f,k.lat]
def Pat.Fam.hue(a b:Int)(k:p.Fam w h s):(Pat.hue a b p).Fam w h s:=#[k.f,k.lat]
def Pat.Fam.mir(k:p.Fam w h s):(Pat.mir p).Fam w h (-s%w):=by
 refine#[#[k.f.w0,k.f.h0,cC k.f.w0,cD k.f.w0],λx y=>?_];show _↔p.Lat (-x) y;rw[<-k.lat];have e:=HV (-s) w;generalize -s%w=r at e;generalize -s/w=t at e;constructor
 .rintro⟨i,j,rfl,rfl⟩;exact#[j*t-i,j,by rw[e];grind,rfl]
 .rintro⟨i,j,ex,rfl⟩;exact#[j*t-i,j,by rw[e];grind,rfl]
def Pat.Fam.tur(k:p.Fam w h s)(f:FamOf 0 w (-h) s w' h' s'):(Pat.tur p).Fam w' h' s':=by
 refine#[#[f.1,f.2.1,f.2.2.1,f.2.2.2.1],λx y=>?_];show _↔p.Lat y (-x);rw[<-k.lat,f.lat];constructor
 .rintro⟨i,j,rfl,rfl⟩;exact#[i,j,Mg,Mg]
 .rintro⟨i,j,ex,ey⟩;exact#[i,j,Mg,Mg]
variable{q:Pat}
def Pat.Fam.over(k1:p.Fam w1 h1 s1)(k2:q.Fam w2 h2 s2)(M:MetR w1 h1 s1 w2 h2 s2 w h s A):(Pat.over p q).Fam w h s:=by
 refine#[#[M.w0,M.h0,M.s0,M.sw],λx y=>?_];rw[M.lat,k1.lat,k2.lat];exact Iff.rfl
def kN(hw:0<w)(hh:0<h):∃w' h' s',FamOf 0 w (-h) s w' h' s'/\w'*h'=w*h:=by
 have hp:0<w*h:=GN hw hh;have hn:¬0*s=w* -h:=by rw[Im];lia
 let#[p0,p1,q0,hL]:=fA s.natAbs 0 w (-h) s (Gv _);have f:=gl hn hL;refine#[_,_,_,f,?_];have Lv:=GN f.1 f.2.1;have c:=f.cells;rw[Im]at c;lia
def kO{c:Int}(hn:¬a*d=b*c):∃w h s,FamOf a b c d w h s/\(Pat.mot L a b c d).Fam w h s:=by
 let#[p0,p1,q0,hL]:=fA d.natAbs a b c d (Gv _);have f:=gl hn hL;exact#[_,_,_,f,.mot f]
def Pat.fam_ex:∀{p:Pat},p.Wf->∃w h s,p.Fam w h s
 |.mot L a b c d,h=>by
  let#[w,k,s,_,f]:=kO (L:=L) h.2.2.2.2.2;exact#[w,k,s,f]
 |.over p q,h=>by
  let#[w1,h1,s1,f1]:=Pat.fam_ex h.1;let#[w2,h2,s2,f2]:=Pat.fam_ex h.2;let#[w,k,s,f,e]:=tW f1.f f2.f;refine#[w,k,s,f,λx y=>?_];rw[e,f1.lat,f2.lat];exact Iff.rfl
 |.sh a b p,h=>by
  let#[w,k,s,f]:=Pat.fam_ex h.2.2;exact#[w,k,s,f.sh a b]
 |.mir p,h=>by
  let#[w,k,s,f]:=Pat.fam_ex (p:=p) h;exact#[w,k,_,f.mir]
 |.tur p,h=>by
  let#[w,k,s,f]:=Pat.fam_ex (p:=p) h;let#[w',k',s',f',_]:=kN (s:=s) f.f.w0 f.f.h0;exact#[w',k',s',f.tur f']
 |.hue a b p,h=>by
  let#[w,k,s,f]:=Pat.fam_ex h.2.2;exact#[w,k,s,f.hue a b]
def Pat.Fits(p:Pat):Prop:=∃w h s,p.Fam w h s/\w*h<=720
def Pat.fits_mot{c:Int}(ha:B12 a)(hb:B12 b)(hc:B12 c)(hd:B12 d)(hn:¬a*d=b*c):(Pat.mot L a b c d).Fits:=by
 let#[w,h,s,k,f]:=kO (L:=L) hn;refine#[w,h,s,f,?_];have kc:=k.cells;unfold B12 at*;have m1:=bB (a:=a) (d:=d) (A:=12) (B:=12) KZ KZ;have m2:=bB (a:=b) (d:=c) (A:=12) (B:=12) KZ KZ;lia
def tZ{c:Int}(hL:Rows L)(ha:B12 a)(hb:B12 b)(hc:B12 c)(hd:B12 d):(dE L a b c d).length<=100:=by
 have la:=bK ha;have lb:=bK hb;have lc:=bK hc;have ld:=bK hd;have l1:(";":J7).length=1:=rfl;have l2:(",":J7).length=1:=rfl;have l3:("[":J7).length=1:=rfl;have l4:("]":J7).length=1:=rfl;have ls:=tM hL;have lj:=StrLaws.join_length_le "/" L;have lg:(Txt.join "/" L).length<=72:=by
  have e:Txt.join "/" L=Str.join "/" L:=StrLaws.glued_eq_join _ _;rw[e];exact GD lj ls
 unfold dE
 repeat rw[ay]
 lia
def Pat.leaves_pos:∀p:Pat,0<p.leaves.length
 |.mot ..=>Nat.zero_lt_one
 |.over p q=>by rw[Pat.leaves,GF];have:=p.leaves_pos;lia
 |.sh _ _ p=>by rw[Pat.leaves,GB];exact p.leaves_pos
 |.mir p=>by rw[Pat.leaves,GB];exact p.leaves_pos
 |.tur p=>by rw[Pat.leaves,GB];exact p.leaves_pos
 |.hue _ _ p=>by rw[Pat.leaves,GB];exact p.leaves_pos
structure Pat.Ok(p:Pat):Prop where
 wf:p.Wf
 deep:p.depth<=5
 fits:p.Fits
inductive Wt where
 |sign (c:Nat)|pat (d:Nat)|lin (w h k:Nat)|hue|num|fig|more
 deriving DecidableEq
abbrev isSg(c:Nat):Bool:=c==46||(49<=c&&c<=54)
def motW(r:List Wt):List Wt:=.lin 0 0 0::.num::.sign 44::.num::.sign 59::.num::.sign 44::.num::.sign 93::r
def aZ(d c:Nat)(r:List Wt):Option (List Wt):=
 if c=91 then be (motW r)
 else if d=5 then x8
 else if c=40 then be (.pat (d+1)::.sign 124::.pat (d+1)::.sign 41::r)
 else if c=115 then be (.num::.sign 44::.num::.sign 58::.pat (d+1)::r)
 else if c=104 then be (.hue::.hue::.pat (d+1)::r)
 else if c=109\/c=116 then be (.pat (d+1)::r)
 else x8
def goesOn(w h k c:Nat)(r:List Wt):Option (List Wt):=
 if isSg c then(if h<(if 0<k then w else 8)then be (.lin w (h+1) k::r)else x8)
 else if h=0\/(0<k/\h<w)then x8
 else if c=47 then(if k<7 then be (.lin h 0 (k+1)::r)else x8)
 else if c=59 then be r
 else x8
def aF:List Wt->Nat->Option (List Wt)
 |[],_=>x8
 |.sign s::r,c=>if c=s then be r else x8
 |.pat d::r,c=>aZ d c r
 |.lin w h k::r,c=>goesOn w h k c r
 |.hue::r,c=>if 49<=c/\c<=54 then be r else x8
 |.more::r,_=>be r
 |.num::r,c=>if c=49 then be (.more::r)else if c=45 then be (.fig::r)else if 48<=c/\c<=57 then be r else x8
 |.fig::r,c=>if c=49 then be (.more::r)else if 50<=c/\c<=57 then be r else x8
def aN(st:List Wt)(c:Nat):List Wt:=match st with
 |.more::r=>if 48<=c/\c<=50 then st else r
 |_=>st
def step(st:List Wt)(c:Nat):Option (List Wt):=aF (aN st c) c
def walk:List Wt->List Nat->Nat->Option Nat
 |st,[],k=>if st=[]then x8 else be k
 |st,c::l,k=>match step st c with
  |none=>be k
  |some st'=>walk st' l (k+1)
def cv(t:J7):Option Nat:=walk [.pat 0] (cs t) 0
def Pat.Syn:Pat->Prop
 |.mot L a b c d=>Rows L/\B12 a/\B12 b/\B12 c/\B12 d
 |.over p q=>p.Syn/\q.Syn
 |.sh a b p=>B12 a/\B12 b/\p.Syn
 |.mir p=>p.Syn
 |.tur p=>p.Syn
 |.hue f g p=>(1<=f/\f<=6)/\(1<=g/\g<=6)/\p.Syn
def Pat.Wf.syn:∀{p:Pat},p.Wf->p.Syn
 |.mot ..,h=>#[h.1,h.2.1,h.2.2.1,h.2.2.2.1,h.2.2.2.2.1]
 |.over p q,h=>#[Pat.Wf.syn h.1,Pat.Wf.syn h.2]
 |.sh a b p,h=>#[h.1,h.2.1,Pat.Wf.syn h.2.2]
 |.mir p,h=>Pat.Wf.syn (p:=p) h
 |.tur p,h=>Pat.Wf.syn (p:=p) h
 |.hue f g p,h=>#[h.1,h.2.1,Pat.Wf.syn h.2.2]
variable{l:List Nat}{st:List Wt}
def aO{st':List Wt}(h:step st c=be st'):walk st (c::l) k=walk st' l (k+1):=by
 rw[walk,h]
def numL(a:Int):List Nat:=cs (toString a:String)
def ub(h:B12 a){P:Int->Prop}(hP:∀k:Fin 25,P (((k.val:Nat):Int)-12)):P a:=by
 unfold B12 at h;have:=hP #[(a+12).toNat,KZ];have e:(((a+12).toNat:Nat):Int)-12=a:=KZ
 rw[e]at this;exact this
def isNumL(l:List Nat):Prop:=(∃c,(48<=c/\c<=57)/\l=[c])\/(∃c,(48<=c/\c<=50)/\l=[49,c])\/(∃c,(49<=c/\c<=57)/\l=[45,c])\/∃c,(48<=c/\c<=50)/\l=[45,49,c]
def numL_is(h:B12 a):isNumL (numL a):=by
 have key:∀k:Fin 25,(numL (((k.val:Nat):Int)-12))∈([[45,49,50],[45,49,49],[45,49,48],[45,57],[45,56],[45,55],[45,54],[45,53],[45,52],[45,51],[45,50],[45,49],[48],[49],[50],[51],[52],[53],[54],[55],[56],[57],[49,48],[49,49],[49,50]]:List (List Nat)):=KK
 have h1:=ub (P:=λa=>numL a∈([[45,49,50],[45,49,49],[45,49,48],[45,57],[45,56],[45,55],[45,54],[45,53],[45,52],[45,51],[45,50],[45,49],[48],[49],[50],[51],[52],[53],[54],[55],[56],[57],[49,48],[49,49],[49,50]]:List (List Nat))) h key;revert h1;generalize numL a=l;intro h1;unfold isNumL;simp only[GA,HA,or_false]at h1;rcases h1 with e|e|e|e|e|e|e|e|e|e|e|e|e|e|e|e|e|e|e|e|e|e|e|e|e<;>subst e
 all_goals first
  |exact .inl ⟨_,K3,rfl⟩
  |exact .inr (.inl ⟨_,K3,rfl⟩)
  |exact .inr (.inr (.inl ⟨_,K3,rfl⟩))
  |exact .inr (.inr (.inr ⟨_,K3,rfl⟩))
def Ca(h:isNumL l):∃a,B12 a/\numL a=l:=by
 have key:∀c:Fin 58,(48<=c.val->∃k:Fin 25,numL (((k.val:Nat):Int)-12)=[c.val])/\(48<=c.val->c.val<=50->∃k:Fin 25,numL (((k.val:Nat):Int)-12)=[49,c.val])/\(49<=c.val->∃k:Fin 25,numL (((k.val:Nat):Int)-12)=[45,c.val])/\(48<=c.val->c.val<=50->∃k:Fin 25,numL (((k.val:Nat):Int)-12)=[45,49,c.val]):=KK
 have c_:∀k:Fin 25,B12 (((k.val:Nat):Int)-12):=λk=>by unfold B12;have:=k.isLt;lia
 rcases h with⟨c,hc,rfl⟩|⟨c,hc,rfl⟩|⟨c,hc,rfl⟩|⟨c,hc,rfl⟩
 .let#[k,e]:=(key #[c,KZ]).1 (by show 48<=c;lia);exact#[_,c_ k,e]
 .let#[k,e]:=(key #[c,KZ]).2.1 (by show 48<=c;lia) (by show c<=50;lia);exact#[_,c_ k,e]
 .let#[k,e]:=(key #[c,KZ]).2.2.1 (by show 49<=c;lia);exact#[_,c_ k,e]
 .let#[k,e]:=(key #[c,KZ]).2.2.2 (by show 48<=c;lia) (by show c<=50;lia);exact#[_,c_ k,e]
def endS(c:Nat):Prop:=c=44\/c=59\/c=58\/c=93
def fB(h:isNumL l)(hc:endS c)(r:List Wt)(t:List Nat)(k:Nat):walk (.num::.sign c::r) (l++c::t) k=walk r t (k+l.length+1):=by
 unfold endS at hc;have OL:¬(48<=c/\c<=50):=KZ
 have c_:∀k,walk (.sign c::r) (c::t) k=walk r t (k+1):=λk=>aO Nb;have Ms:∀k,walk (.more::.sign c::r) (c::t) k=walk r t (k+1):=λk=>aO (by simp[step,aN,aF,OL]);rcases h with⟨x,hx,rfl⟩|⟨x,hx,rfl⟩|⟨x,hx,rfl⟩|⟨x,hx,rfl⟩
 .by_cases e:x=49
  .subst e;show walk _ (49::c::t) k=_;rw[aO (st':=.more::.sign c::r) Nb,Ms];simp
  .show walk _ (x::c::t) k=_;rw[aO (st':=.sign c::r) (by simp[step,aN,aF,e,hx,show¬x=45 by lia]),c_];simp
 .show walk _ (49::x::c::t) k=_;rw[aO (st':=.more::.sign c::r) Nb,aO (st':=.sign c::r) (by simp[step,aN,aF,hx]),c_];simp
 .show walk _ (45::x::c::t) k=_;rw[aO (st':=.fig::.sign c::r) Nb];by_cases e:x=49
  .subst e;rw[aO (st':=.more::.sign c::r) Nb,Ms];simp
  .rw[aO (st':=.sign c::r) (by simp[step,aN,aF,e,show 50<=x/\x<=57 by lia]),c_];simp
 .show walk _ (45::49::x::c::t) k=_;rw[aO (st':=.fig::.sign c::r) Nb,aO (st':=.more::.sign c::r) Nb,aO (st':=.sign c::r) (by simp[step,aN,aF,hx]),c_];simp
def rowsL:List (List Nat)->List Nat
 |[]=>[]
 |[x]=>x
 |x::y::r=>x++47::rowsL (y::r)
def Cb(h:isSign c):isSg c=true:=by
 unfold isSign at h;unfold isSg;rcases h with h|h
 .subst h;rfl
 .have:(decide (49<=c)&&decide (c<=54))=true:=by simp[h]
  rw[this,Ic]
def isSign_of(h:isSg c=true):isSign c:=by
 unfold isSg at h;unfold isSign;simp at h;lia
variable{r:List Wt}
def dX{w h:Nat}:step (.lin w h k::r) c=goesOn w h k c r:=Nb
def fC{w k:Nat}{r:List Wt}:∀(x:List Nat) (h:Nat) (t:List Nat) (j:Nat),(∀c∈x,isSign c)->h+x.length<=(if 0<k then w else 8)->walk (.lin w h k::r) (x++t) j=walk (.lin w (h+x.length) k::r) t (j+x.length)
 |[],h,t,j,_,_=>rfl
 |c::x,h,t,j,hs,hl=>by
  rw[Gy]at hl ⊢;have h1:step (.lin w h k::r) c=be (.lin w (h+1) k::r):=by
   rw[dX];unfold goesOn;rw[if_pos (Cb (hs c Gz)),if_pos KZ]
  rw[G5,aO h1,fC x (h+1) t (j+1) (λc q=>hs c (Gx _ q)) KZ];rw[show h+1+x.length=h+(x.length+1)by lia,show j+1+x.length=j+(x.length+1)by lia]
def uc{wd:Nat}(hw:1<=wd/\wd<=8){r:List Wt}:∀(L:List (List Nat)) (w0 k:Nat) (t:List Nat) (j:Nat),L≠[]->(∀x∈L,x.length=wd/\∀c∈x,isSign c)->k+L.length<=8->(0<k->w0=wd)->walk (.lin w0 0 k::r) (rowsL L++59::t) j=walk r t (j+(rowsL L).length+1)
 |[],_,_,_,_,ne,_,_,_=>absurd rfl ne
 |[x],w0,k,t,j,_,hs,hl,hk=>by
  let#[h1,h2]:=hs x Gz;have hb:0+x.length<=(if 0<k then w0 else 8):=by split<;>lia
  have ns:isSg 59=false:=rfl;have h3:step (.lin w0 (0+x.length) k::r) 59=be r:=by
   rw[dX];unfold goesOn;rw[ns,if_neg GJ,if_neg KZ,if_neg K3,if_pos rfl]
  show walk (.lin w0 0 k::r) (x++59::t) j=walk r t (j+x.length+1);rw[fC x 0 _ j h2 hb,aO h3]
 |x::y::L,w0,k,t,j,_,hs,hl,hk=>by
  let#[h1,h2]:=hs x Gz;rw[Gy,Gy]at hl;have hb:0+x.length<=(if 0<k then w0 else 8):=by split<;>lia
  have ns:isSg 47=false:=rfl;have h3:step (.lin w0 (0+x.length) k::r) 47=be (.lin (0+x.length) 0 (k+1)::r):=by
   rw[dX];unfold goesOn;rw[ns,if_neg GJ,if_neg KZ,if_pos rfl,if_pos KZ]
  show walk (.lin w0 0 k::r) ((x++47::rowsL (y::L))++59::t) j=walk r t (j+(x++47::rowsL (y::L)).length+1);rw[GZ,G5,fC x 0 _ j h2 hb,aO h3,uc hw (y::L) (0+x.length) (k+1) t _ (λz=>nomatch z) (λz q=>hs z (Gx _ q)) (by rw[Gy];lia) (λ_=>KZ)];rw[GF,Gy];congr 1;lia
def motL(L:List (List Nat))(a b c d:Int):List Nat:=91::(rowsL L++59::(numL a++44::(numL b++59::(numL c++44::(numL d++[93])))))
def Pat.tl:Pat->List Nat
 |.mot L a b c d=>motL (L.map cs) a b c d
 |.over p q=>40::(p.tl++124::(q.tl++[41]))
 |.sh a b p=>115::(numL a++44::(numL b++58::p.tl))
 |.mir p=>109::p.tl
 |.tur p=>116::p.tl
 |.hue f g p=>104::(numL f++(numL g++p.tl))
def join_rows:∀L:List J7,cs (Str.join "/" L)=rowsL (L.map cs)
 |[]=>rfl
 |[x]=>rfl
 |x::y::L=>by
  show cs (x++"/"++Str.join "/" (y::L))=cs x++47::rowsL ((y::L).map cs);rw[cf,cf,join_rows (y::L),GZ];rfl
def cK:∀p:Pat,cs p.text=p.tl
 |.mot L a b c d=>by
  show cs (dE L a b c d)=motL (L.map cs) a b c d;unfold dE motL;have e:Txt.join "/" L=Str.join "/" L:=StrLaws.glued_eq_join _ _;rw[e]
  repeat rw[cf]
  rw[join_rows];simp only[GZ];rfl
 |.over p q=>by
  rw[Pat.text,Pat.tl]
  repeat rw[cf]
  rw[cK p,cK q];simp only[GZ];rfl
 |.sh a b p=>by
  rw[Pat.text,Pat.tl]
  repeat rw[cf]
  rw[cK p];simp only[GZ];rfl
 |.mir p=>by
  rw[Pat.text,Pat.tl,cf,cK p];rfl
 |.tur p=>by
  rw[Pat.text,Pat.tl,cf,cK p];rfl
 |.hue f g p=>by
  rw[Pat.text,Pat.tl]
  repeat rw[cf]
  rw[cK p];simp only[GZ];rfl
def ud(p:Pat):p.text.length=p.tl.length:=by rw[<-bF,cK]
def hueL(h:1<=f/\f<=6):numL f=[(48+f).toNat]:=by
 have key:∀k:Fin 6,numL (((k.val:Nat):Int)+1)=[49+k.val]:=KK
 have:=key #[(f-1).toNat,KZ];have e:(((f-1).toNat:Nat):Int)+1=f:=KZ
 rw[e]at this;rw[this];congr 1;show 49+(f-1).toNat=(48+f).toNat;lia
def bT{d:Nat}:step (.pat d::r) c=aZ d c r:=Nb
def ue(h:1<=f/\f<=6)(r:List Wt)(t:List Nat)(k:Nat):walk (.hue::r) (numL f++t) k=walk r t (k+1):=by
 rw[hueL h];show walk (.hue::r) ((48+f).toNat::t) k=_;exact aO (by simp[step,aN,aF];lia)
def Cd{c:Int}(hL:Rows L)(ha:B12 a)(hb:B12 b)(hc:B12 c)(hd:B12 d)(n:Nat)(r:List Wt)(t:List Nat)(k:Nat):walk (.pat n::r) (motL (L.map cs) a b c d++t) k=walk r t (k+(motL (L.map cs) a b c d).length):=by
 let#[h1,w,hw,hs]:=hL;have Ky:∀x∈L.map cs,x.length=w/\∀c∈x,isSign c:=λx hx=>by
  let#[l,q1,q2]:=GV.mp hx;subst q2;exact#[by rw[bF];exact(hs l q1).1,(hs l q1).2]
 have i7:L.map cs≠[]:=λz=>by have:=congrArg HM z;simp at this;subst this;simp at h1
 unfold motL;simp only[G5,GZ,HP];have c_:∀k,walk (.sign 93::r) (93::t) k=walk r t (k+1):=λk=>aO Nb;rw[aO (st':=motW r) (by rw[bT];simp[aZ])];unfold motW;rw[uc hw (L.map cs) 0 0 _ _ i7 Ky (by rw[GB];lia) (λz=>absurd z KZ)];rw[fB (numL_is ha) (.inl rfl),fB (numL_is hb) (.inr (.inl rfl)),fB (numL_is hc) (.inl rfl),fB (numL_is hd) (.inr (.inr (.inr rfl)))];congr 1;simp only[Gy,GF,HR];lia
def cL:∀{p:Pat},p.Syn->∀(d:Nat) (r:List Wt) (t:List Nat) (k:Nat),p.depth+d<=5->walk (.pat d::r) (p.tl++t) k=walk r t (k+p.tl.length)
 |.mot L a b c e,h,d,r,t,k,_=>Cd h.1 h.2.1 h.2.2.1 h.2.2.2.1 h.2.2.2.2 d r t k
 |.over p q,h,d,r,t,k,hd=>by
  rw[Pat.depth]at hd;have h1:step (.pat d::r) 40=be (.pat (d+1)::.sign 124::.pat (d+1)::.sign 41::r):=S5
  rw[Pat.tl];simp only[G5,GZ,HP];rw[aO h1,cL h.1 (d+1) _ _ _ KZ,aO (st':=.pat (d+1)::.sign 41::r) Nb,cL h.2 (d+1) _ _ _ KZ,aO (st':=r) Nb];congr 1;simp only[Gy,GF,HR];lia
 |.sh a b p,h,d,r,t,k,hd=>by
  rw[Pat.depth]at hd;have h1:step (.pat d::r) 115=be (.num::.sign 44::.num::.sign 58::.pat (d+1)::r):=S5
  rw[Pat.tl];simp only[G5,GZ];rw[aO h1,fB (numL_is h.1) (.inl rfl),fB (numL_is h.2.1) (.inr (.inr (.inl rfl))),cL h.2.2 (d+1) _ _ _ KZ];congr 1;simp only[Gy,GF];lia
 |.mir p,h,d,r,t,k,hd=>by
  rw[Pat.depth]at hd;have h1:step (.pat d::r) 109=be (.pat (d+1)::r):=S5
  rw[Pat.tl,G5,aO h1,cL (p:=p) h (d+1) _ _ _ KZ,Gy];congr 1;lia
 |.tur p,h,d,r,t,k,hd=>by
  rw[Pat.depth]at hd;have h1:step (.pat d::r) 116=be (.pat (d+1)::r):=S5
  rw[Pat.tl,G5,aO h1,cL (p:=p) h (d+1) _ _ _ KZ,Gy];congr 1;lia
 |.hue f g p,h,d,r,t,k,hd=>by
  rw[Pat.depth]at hd;have h1:step (.pat d::r) 104=be (.hue::.hue::.pat (d+1)::r):=S5
  rw[Pat.tl];simp only[G5,GZ];rw[aO h1,ue h.1,ue h.2.1,cL h.2.2 (d+1) _ _ _ KZ];rw[hueL h.1,hueL h.2.1];congr 1;simp only[Gy,GF,HR];lia
def uf(h:p.Syn)(hd:p.depth<=5):cv p.text=none:=by
 unfold cv;rw[cK];have:=cL h 0 [] [] 0 KZ;rw[G1]at this;rw[this];rfl
def kP{x y:J7}(h:cs x=cs y):x=y:=by
 let#[a]:=x;let#[b]:=y;have:a=b:=JP.mp h;rw[this]
def Pat.lineAt:Pat->Nat->Option Nat
 |.mot _ a b c d,k=>if a*d=b*c then be k else x8
 |.over p q,k=>match p.lineAt (k+1)with
  |some j=>be j
  |none=>q.lineAt (k+1+p.tl.length+1)
 |.sh a b p,k=>p.lineAt (k+1+(numL a).length+1+(numL b).length+1)
 |.mir p,k=>p.lineAt (k+1)
 |.tur p,k=>p.lineAt (k+1)
 |.hue _ _ p,k=>p.lineAt (k+3)
def Pat.line_wf:∀{p:Pat} (k:Nat),p.Syn->p.lineAt k=x8->p.Wf
 |.mot L a b c d,k,h,e=>by
  refine#[h.1,h.2.1,h.2.2.1,h.2.2.2.1,h.2.2.2.2,λz=>?_];rw[Pat.lineAt,if_pos z]at e;cases e
 |.over p q,k,h,e=>by
  rw[Pat.lineAt]at e;cases hp:p.lineAt (k+1)with
  |some j=>rw[hp]at e;cases e
  |none=>rw[hp]at e;exact#[Pat.line_wf _ h.1 hp,Pat.line_wf _ h.2 e]
 |.sh a b p,k,h,e=>#[h.1,h.2.1,Pat.line_wf _ h.2.2 (by rw[Pat.lineAt]at e;exact e)]
 |.mir p,k,h,e=>Pat.line_wf (p:=p) (k+1) h (by rw[Pat.lineAt]at e;exact e)
 |.tur p,k,h,e=>Pat.line_wf (p:=p) (k+1) h (by rw[Pat.lineAt]at e;exact e)
 |.hue f g p,k,h,e=>#[h.1,h.2.1,Pat.line_wf _ h.2.2 (by rw[Pat.lineAt]at e;exact e)]
def Pat.wf_line:∀{p:Pat} (k:Nat),p.Wf->p.lineAt k=x8
 |.mot L a b c d,k,h=>by rw[Pat.lineAt,if_neg h.2.2.2.2.2]
 |.over p q,k,h=>by
  rw[Pat.lineAt,Pat.wf_line (p:=p) _ h.1];exact Pat.wf_line (p:=q) _ h.2
 |.sh a b p,k,h=>by rw[Pat.lineAt];exact Pat.wf_line (p:=p) _ h.2.2
 |.mir p,k,h=>by rw[Pat.lineAt];exact Pat.wf_line (p:=p) _ h
 |.tur p,k,h=>by rw[Pat.lineAt];exact Pat.wf_line (p:=p) _ h
 |.hue f g p,k,h=>by rw[Pat.lineAt];exact Pat.wf_line (p:=p) _ h.2.2
def Pat.syn_len:∀{p:Pat},p.Syn->p.text.length+10<=110*2^p.depth
 |.mot L a b c d,h=>by
  have:=tZ h.1 h.2.1 h.2.2.1 h.2.2.2.1 h.2.2.2.2;show(dE L a b c d).length+10<=110*2^0;lia
 |.over p q,h=>by
  have h1:=Pat.syn_len h.1;have h2:=Pat.syn_len h.2;have m1:2^p.depth<=2^(max p.depth q.depth):=HK K3 (JI _ _);have m2:2^q.depth<=2^(max p.depth q.depth):=HK K3 (JJ _ _);have l1:("(":J7).length=1:=rfl;have l2:("|":J7).length=1:=rfl;have l3:(")":J7).length=1:=rfl;rw[Pat.text,Pat.depth,JK]
  repeat rw[ay]
  lia
 |.sh a b p,h=>by
  have h1:=Pat.syn_len h.2.2;have la:=bK h.1;have lb:=bK h.2.1;have l1:("s":J7).length=1:=rfl;have l2:(",":J7).length=1:=rfl;have l3:(":":J7).length=1:=rfl;have:0<2^p.depth:=Io K3;rw[Pat.text,Pat.depth,Ht]
  repeat rw[ay]
  lia
 |.mir p,h=>by
  have h1:=Pat.syn_len (p:=p) h;have l1:("m":J7).length=1:=rfl;have:0<2^p.depth:=Io K3;rw[Pat.text,Pat.depth,Ht,ay];lia
 |.tur p,h=>by
  have h1:=Pat.syn_len (p:=p) h;have l1:("t":J7).length=1:=rfl;have:0<2^p.depth:=Io K3;rw[Pat.text,Pat.depth,Ht,ay];lia
 |.hue f g p,h=>by
  have h1:=Pat.syn_len h.2.2;have la:=fz h.1;have lb:=fz h.2.1;have l1:("h":J7).length=1:=rfl;have:0<2^p.depth:=Io K3;rw[Pat.text,Pat.depth,Ht]
  repeat rw[ay]
  lia
def Pat.syn_short(h:p.Syn)(hd:p.depth<=5):p.text.length<=3510:=by
 have h1:=Pat.syn_len h;have h2:2^p.depth<=2^5:=HK K3 hd;lia
variable{B:Prop}
def ifT{c A:Prop}[Decidable c](h:c)(a:A):if c then A else B:=by rw[if_pos h];exact a
def ifdT{p A:Prop}[Decidable p](h:p)(a:A):if decide p=true then A else B:=by rw[if_pos (decide_eq_true h)];exact a
def ifdF{p A:Prop}[Decidable p](h:¬p)(b:B):if decide p=true then A else B:=by rw[if_neg (by simpa using h)];exact b
def rdF(t:J7)(k:Nat):List (J7×D):=[("text",.str t),("place",.int k)]
def RdM(a:KF)(t:J7)(k:Nat):MS:=[(a,.ins "Reading" (rdF t k))]
variable{o:MO}
def cM{a:KF}:mget [(a,o)] a=be o:=by unfold mget;rw[if_pos rfl]
def fD{a:KF}{o':MO}:mput [(a,o)] a o'=[(a,o')]:=by unfold mput;rw[if_pos rfl]
variable{t:J7}
def aW{a:KF}:mget (RdM a t k) a=be (.ins "Reading" (rdF t k)):=cM
def kQ:(rdF t k).lookup ("text":J7)=be (.str t):=rfl
def dG:(rdF t k).lookup ("place":J7)=be (.int k):=by
 unfold rdF;rw[GM,show(("place":J7)==("text":J7))=false by decide+kernel];rfl
def Ce:putD ("place":J7) (.int ((k:Int)+1)) (rdF t k)=rdF t (k+1):=by
 unfold rdF putD;rw[if_neg KK];unfold putD;rw[if_pos rfl];rfl
def cY:(rdF t k).lookup ("may_take":J7)=none:=by
 unfold rdF;rw[GM,show(("may_take":J7)==("text":J7))=false by decide+kernel,GM,show(("may_take":J7)==("place":J7))=false by decide+kernel];rfl
def ci:(rdF t k).lookup ("take":J7)=none:=by
 unfold rdF;rw[GM,show(("take":J7)==("text":J7))=false by decide+kernel,GM,show(("take":J7)==("place":J7))=false by decide+kernel];rfl
structure At(t:Str)(k:Nat)(l:List Nat):Prop where
 eq:(cs t).drop k=l
 le:k<=t.length
 sz:t.length<=100000
def At.nil(h:At t k []):k=t.length:=by
 have h1:=congrArg HM h.eq;rw[HD,bF]at h1;have:=h.le;simp at h1;lia
def At.lt(h:At t k (c::l)):k<t.length:=by
 have h1:=congrArg HM h.eq;rw[HD,bF]at h1;simp at h1;lia
def At.get(h:At t k (c::l)):(cs t)[k]?=be c:=by
 have h1:=congrArg (·[0]?) h.eq;simpa using h1
def At.next(h:At t k (c::l)):At t (k+1) l:=by
 refine#[?_,h.lt,h.sz];have h1:=congrArg (HU 1) h.eq;rw[JQ]at h1;simpa using h1
def At.app{t:J7}:∀{x l:List Nat} {k:Nat},At t k (x++l)->At t (k+x.length) l
 |[],_,_,h=>h
 |c::x,l,k,h=>by
  have h1:At t (k+1+x.length) l:=At.app (At.next h);have e:k+1+x.length=k+(c::x).length:=by rw[Gy];lia
  rw[e]at h1;exact h1
variable{al:J7}
def uh:(!(!(Builtin.Str.occurrences al #[[c].toArray] 0 al.length 1).isEmpty))=!decide (c∈cs al):=by
 rw[StrLaws.found_one]
def mayS(al:J7):List Nat->J7|c::_=>if c∈cs al then#[[c].toArray]else ""|[]=>""
def mayN(al:J7):List Nat->Nat|c::_=>if c∈cs al then 1 else 0|[]=>0
def dY(h:c∈cs al):mayS al (c::l)=#[[c].toArray]:=if_pos h
def dZ(h:c∈cs al):mayN al (c::l)=1:=if_pos h
def dH(h:c∉cs al):mayS al (c::l)="":=if_neg h
def dI(h:c∉cs al):mayN al (c::l)=0:=if_neg h
def Cf:SiD:=λds R=>∃t:J7,ds=[.str t]/\R (rdF t 0)
def Cg:SpM:=λds M R RX=>∃(a:KF) (t:J7) (k:Nat) (l:List Nat) (al:J7),ds=[.ptr a,.str al]/\M=RdM a t k/\At t k l/\R (.str (mayS al l)) (RdM a t (k+mayN al l))
def Ch:SpM:=λds M R RX=>∃(a:KF) (t:J7) (k:Nat) (l:List Nat) (al:J7),ds=[.ptr a,.str al]/\M=RdM a t k/\At t k l/\
 (∀c l',l=c::l'->c∈cs al->R (.str #[[c].toArray]) (RdM a t (k+1)))/\((∀c l',l=c::l'->c∉cs al)->∀M',RX "WrongSign" [("place",.int k)] M')
def walk_bad(h1:st≠[])(h:∀c l',l=c::l'->step st c=x8):walk st l k=be k:=by
 cases l with
 |nil=>rw[walk,if_neg h1]
 |cons c l=>rw[walk,h c l rfl]
def eo{e:Nat}(h:∀l',l≠e::l'):walk (.sign e::r) l k=be k:=
 walk_bad (λz=>nomatch z) λc l' q=>by
  have:c≠e:=λz=>h l' (z ▸ q);simp[step,aN,aF,this]
def eA{e:Nat}:walk (.sign e::r) (e::l) k=walk r l (k+1):=aO Nb
def Ci{e:Nat}(h:∀d l',l=d::l'->¬(48<=d/\d<=50)):walk (.more::.sign e::r) l k=walk (.sign e::r) l k:=by
 cases l with
 |nil=>simp[walk]
 |cons d l=>
  have:step (.more::.sign e::r) d=step (.sign e::r) d:=by simp[step,aN,h d l rfl]
  rw[walk,walk,this]
variable{pre:List Nat}
def Cj(hp:pre=[]\/pre=[45])(hc:49<=c/\c<=57){x l3:List Nat}(hx:(c=49/\∃d,(48<=d/\d<=50)/\x=[d])\/(x=[]/\(c=49->∀d l',l3=d::l'->¬(48<=d/\d<=50))))(k e:Nat)(r:List Wt)(hl:l=pre++c::(x++l3)):
  walk (.num::.sign e::r) l k=walk (.sign e::r) l3 (k+(pre++c::x).length):=by
 subst hl;have fig:∀k,walk (.fig::.sign e::r) (c::(x++l3)) k=walk (.sign e::r) l3 (k+(c::x).length):=λk=>by
  rcases hx with⟨rfl,d,hd,rfl⟩|⟨rfl,h⟩
  .rw[aO (st':=.more::.sign e::r) Nb];show walk _ (d::l3) _=_;rw[aO (st':=.sign e::r) (by simp[step,aN,aF,hd])];rfl
  .by_cases e1:c=49
   .subst e1;rw[aO (st':=.more::.sign e::r) Nb];show walk _ l3 _=_;rw[Ci (h rfl)];rfl
   .rw[aO (st':=.sign e::r) (by simp[step,aN,aF,e1,show 50<=c/\c<=57 by lia])];rfl
 rcases hp with rfl|rfl
 .have same:step (.num::.sign e::r) c=step (.fig::.sign e::r) c:=by
   by_cases e1:c=49
   .subst e1;simp[step,aN,aF]
   .simp[step,aN,aF,e1,show¬c=45 by lia,show 48<=c/\c<=57 by lia,show 50<=c/\c<=57 by lia]
  have:=fig k;rw[walk]at this;show walk _ (c::(x++l3)) k=_;rw[walk,same,this];simp
 .show walk _ (45::c::(x++l3)) k=_;rw[aO (st':=.fig::.sign e::r) Nb,fig];congr 1;simp only[GF,Gy,HR];lia
def Ck(hp:pre=[]\/pre=[45]){l1:List Nat}(hl:l=pre++l1)(h:∀c l',l1=c::l'->¬(49<=c/\c<=57))(h0:pre=[]->∀c l',l1=c::l'->c≠48/\c≠45)(k:Nat)(r:List Wt):walk (.num::r) l k=be (k+pre.length):=by
 subst hl;rcases hp with rfl|rfl
 .refine walk_bad (λz=>nomatch z) λc l' q=>?_;have h1:=h c l' q;have h2:=h0 rfl c l' q;simp[step,aN,aF,h2.2,show¬c=49 by lia,show¬(48<=c/\c<=57)by lia]
 .show walk _ (45::l1) k=_;rw[aO (st':=.fig::r) Nb];refine walk_bad (λz=>nomatch z) λc l' q=>?_;have h1:=h c l' q;simp[step,aN,aF,show¬c=49 by lia,show¬(50<=c/\c<=57)by lia]
def kR(h:B12 x):PySem.intText? #[(numL x).toArray]=be x:=
 ub (P:=λx=>PySem.intText? #[(numL x).toArray]=be x) h KK
def str_of_list(x y:List Nat):((#[x.toArray]:J7)++#[y.toArray]:J7)=#[(x++y).toArray]:=by
 apply kP;rw[cf]
def digits19:c∈cs "123456789"↔49<=c/\c<=57:=by
 refine#[λh=>?_,λ⟨h1,h2⟩=>?_]
 .exact(show ∀c∈cs "123456789",49<=c/\c<=57 by decide+kernel) c h
 .let#[k,rfl]:=Nat.le.dest h1;exact(show ∀k,k<9->49+k∈cs "123456789" by decide+kernel) k KZ
def digits02:c∈cs "012"↔48<=c/\c<=50:=by
 have e:cs "012"=[48,49,50]:=rfl;rw[e];simp;lia
def Cl(w:List Nat)(c:Nat):Txt.endswith #[(w++[c]).toArray] "1"=decide (c=49):=by
 unfold Txt.endswith;have e1:("1":J7).length=1:=rfl;have e2:(#[(w++[c]).toArray]:J7).length=w.length+1:=by simp[Str.length]
 rw[e1,e2];have e3:decide (0+1<=w.length+1)=true:=K8
 rw[e3,Bool.true_and,Ik];unfold Builtin.Str.subAt;have e4:(#[(w++[c]).toArray]:J7).cps.extract w.length (w.length+("1":J7).length)=[c].toArray:=by
  apply JP.mp;simp[Array.toList_extract,e1]
 rw[e4];have e5:("1":J7).cps=[49].toArray:=rfl;rw[e5];by_cases h:c=49
 .subst h;rfl
 .simp[h]
def Cm:SpM:=λds M R RX=>∃(a:KF) (t:J7) (k:Nat) (l:List Nat),ds=[.ptr a]/\M=RdM a t k/\At t k l/\
 (∀x l',B12 x->l=numL x++l'->(∀e r,walk (.num::.sign e::r) l k=walk (.sign e::r) l' (k+(numL x).length))->R (.int x) (RdM a t (k+(numL x).length)))/\
 (∀j:Nat,(∀r,walk (.num::r) l k=be j)->∀M',RX "WrongSign" [("place",.int j)] M')
def Cn:SpM:=λds M R RX=>∃(a:KF) (t:J7) (k:Nat) (l:List Nat),ds=[.ptr a]/\M=RdM a t k/\At t k l/\
 (∀x y l',B12 x->B12 y->l=numL x++44::(numL y++l')->(∀e r,walk (.num::.sign 44::.num::.sign e::r) l k=walk (.sign e::r) l' (k+(numL x).length+1+(numL y).length))->R (.tup [.int x,.int y]) (RdM a t (k+(numL x).length+1+(numL y).length)))/\
 (∀j:Nat,(∀r,walk (.num::.sign 44::.num::r) l k=be j)->∀M',RX "WrongSign" [("place",.int j)] M')
def sgPre:Nat->List Nat->List Nat
 |0,_=>[]
 |_+1,[]=>[]
 |n+1,c::l=>if isSg c=true then c::sgPre n l else[]
def fE(n c:Nat)(l:List Nat):sgPre (n+1) (c::l)=if isSg c=true then c::sgPre n l else[]:=rfl
def sgPre_succ:∀(n:Nat) (l:List Nat),(∃c l',l=sgPre n l++c::l'/\(sgPre n l).length=n/\isSg c=true/\sgPre (n+1) l=sgPre n l++[c])\/(∃l',l=sgPre n l++l'/\(∀c OM,l'=c::OM->isSg c=false)/\∀m,n<=m->sgPre m l=sgPre n l)
 |0,[]=>.inr #[[],rfl,(λ_ _ q=>nomatch q),λm _=>by cases m<;>rfl]
 |0,c::l=>by
  by_cases h:isSg c=true
  .exact .inl #[c,l,rfl,rfl,h,by rw[fE,if_pos h];rfl]
  .refine .inr #[c::l,rfl,λ_ _ q=>?_,λm _=>?_]
   .cases q;simpa using h
   .cases m with
    |zero=>rfl
    |succ m=>rw[fE,if_neg h];rfl
 |n+1,[]=>.inr #[[],rfl,(λ_ _ q=>nomatch q),λm _=>by cases m<;>rfl]
 |n+1,c::l=>by
  by_cases h:isSg c=true
  .have e:∀m,sgPre (m+1) (c::l)=c::sgPre m l:=λm=>by rw[fE,if_pos h]
   rcases sgPre_succ n l with⟨d,l',h1,h2,h3,h4⟩|⟨l',h1,h2,h3⟩
   .refine .inl #[d,l',?_,by rw[e,Gy,h2],h3,by rw[e,e,h4];rfl];rw[e];exact congrArg (c::·) h1
   .refine .inr #[l',?_,h2,λm hm=>?_]
    .rw[e];exact congrArg (c::·) h1
    .cases m with
     |zero=>lia
     |succ m=>rw[e,e,h3 m KZ]
  .refine .inr #[c::l,?_,λ_ _ q=>?_,λm hm=>?_]
   .rw[fE,if_neg h];rfl
   .cases q;simpa using h
   .cases m with
    |zero=>lia
    |succ m=>rw[fE,if_neg h,fE,if_neg h]
def io:∀(n:Nat) (l:List Nat),(sgPre n l).length<=n
 |0,_=>Gv _
 |n+1,[]=>GT _
 |n+1,c::l=>by
  rw[sgPre];split
  .rw[Gy];exact Nat.succ_le_succ (io n l)
  .exact GT _
def sgPre_sign:∀(n:Nat) (l:List Nat),∀c∈sgPre n l,isSign c
 |0,_,_,h=>by cases h
 |n+1,[],_,h=>by cases h
 |n+1,c::l,d,h=>by
  rw[sgPre]at h;split at h
  .rename_i q;rcases GA.mp h with e|e
   .rw[e];exact isSign_of q
   .exact sgPre_sign n l d e
  .cases h
def sgPre_split(n:Nat)(l:List Nat):∃l',l=sgPre n l++l'/\((sgPre n l).length=n\/∀c OM,l'=c::OM->isSg c=false):=by
 rcases sgPre_succ n l with⟨d,l',h1,h2,h3,h4⟩|⟨l',h1,h2,h3⟩
 .exact#[d::l',h1,.inl h2]
 .exact#[l',h1,.inr h2]
def signs_is:c∈cs ".123456"↔isSg c=true:=by
 have e:cs ".123456"=[46,49,50,51,52,53,54]:=rfl;rw[e];simp;lia
def len_of_list(x:List Nat):(#[x.toArray]:J7).length=x.length:=by simp[Str.length]
def Co:SpM:=λds M R RX=>∃(a:KF) (t:J7) (k:Nat) (l:List Nat) (n m:Nat),ds=[.ptr a,.int n,.int m]/\M=RdM a t k/\At t k l/\n<=m/\m<=8/\
 (n<=(sgPre m l).length->R (.str #[(sgPre m l).toArray]) (RdM a t (k+(sgPre m l).length)))/\((sgPre m l).length<n->∀M',RX "WrongSign" [("place",.int ((k+(sgPre m l).length:Nat):Int))] M')
def Cp{p a:KF}(h:p≠a):mget ((p,o)::RdM a t k) a=be (.ins "Reading" (rdF t k)):=by
 unfold mget;rw[if_neg h];exact cM
variable{M:MS}
def cZ{p:KF}:mget ((p,o)::M) p=be o:=by unfold mget;rw[if_pos rfl]
def ui{p:KF}{o':MO}:mput ((p,o)::M) p o'=(p,o')::M:=by unfold mput;rw[if_pos rfl]
def kS{p:KF}:mdel ((p,o)::M) p=M:=by unfold mdel;rw[if_pos rfl]
structure RowsL(L:List (List Nat))(w:Nat):Prop where
 many:1<=L.length/\L.length<=8
 w1:1<=w
 w8:w<=8
 each:∀x∈L,x.length=w/\∀c∈x,isSign c
def ip:∀(L:List (List Nat)) (x:List Nat),L≠[]->rowsL (L++[x])=rowsL L++47::x
 |[],_,h=>absurd rfl h
 |[y],x,_=>rfl
 |y::z::L,x,_=>by
  show y++47::rowsL ((z::L)++[x])=(y++47::rowsL (z::L))++47::x;rw[ip (z::L) x (λq=>nomatch q)];simp
structure LinAt(w h n:Nat)(l:List Nat):Prop where
 h1:1<=h
 n1:1<=n
 one:n=1->h=8\/∀c l',l=c::l'->isSg c=false
 more:2<=n->w=h
def Cq{w h:Nat}(H:LinAt w h n l)(hn:n<=8)(stop:n=8\/∀l',l≠47::l')(r:List Wt)(p:Nat):walk (.lin w h (n-1)::r) l p=walk (.sign 59::r) l p:=by
 cases l with
 |nil=>simp[walk]
 |cons c l=>
  have key:step (.lin w h (n-1)::r) c=step (.sign 59::r) c:=by
   rw[dX];unfold goesOn;have Sf:step (.sign 59::r) c=if c=59 then be r else none:=Nb
   rw[Sf];have h1:=H.h1;by_cases hs:isSg c=true
   .rw[if_pos hs];have nc:¬c=59:=by rintro rfl;cases hs
    rw[if_neg nc];refine if_neg ?_;by_cases n1:n=1
    .rcases H.one n1 with e|e
     .subst n1;simp;lia
     .rw[e c l rfl]at hs;cases hs
    .have QE:=H.n1;have:=H.more KZ;rw[if_pos KZ];lia
   .rw[if_neg hs];have g:¬(h=0\/(0<n-1/\h<w)):=by
     have QE:=H.n1;rintro(z|⟨z1,z2⟩)
     .lia
     .have:=H.more KZ;lia
    rw[if_neg g];by_cases QF:c=47
    .subst QF;rw[if_pos rfl,if_neg (c:=47=59) K3];refine if_neg ?_;rcases stop with e|e
     .lia
     .exact absurd rfl (e l)
    .rw[if_neg QF]
  rw[walk,walk,key]
def uj{w h:Nat}(H:LinAt w h n (47::l))(hn:n<8)(r:List Wt)(p:Nat):walk (.lin w h (n-1)::r) (47::l) p=walk (.lin h 0 n::r) l (p+1):=by
 refine aO ?_;rw[dX];unfold goesOn;have h1:=H.h1;have QE:=H.n1;have ns:isSg 47=false:=rfl;rw[ns,if_neg GJ,if_neg (by
  rintro(z|⟨z1,z2⟩)
  .lia
  .have:=H.more KZ;lia),if_pos rfl,if_pos KZ]
 congr 3;lia
def uk{w:Nat}{x:List Nat}(hs:∀c∈x,isSign c)(hx:x.length<w)(hw:w<=8)(hn:n=0->x=[])(hl:∀c l',l=c::l'->isSg c=false)(r:List Wt)(p:Nat):walk (.lin w 0 n::r) (x++l) p=be (p+x.length):=by
 rw[fC x 0 l p hs (by split<;>lia)];refine walk_bad (λz=>nomatch z) λc l' q=>?_;rw[dX];unfold goesOn;rw[hl c l' q,if_neg GJ];refine if_pos ?_;by_cases n0:n=0
 .left;rw[hn n0];rfl
 .right;exact#[KZ,KZ]
def lstD(L:List (List Nat)):List D:=L.map λx=>D.str #[x.toArray]
def Cr:SpM:=λds M R RX=>∃(a:KF) (t:J7) (k:Nat) (l:List Nat),ds=[.ptr a]/\M=RdM a t k/\At t k l/\
 (∀(L:List (List Nat)) (w:Nat) l',RowsL L w->l=rowsL L++l'->(∀r,walk (.lin 0 0 0::r) l k=walk (.sign 59::r) l' (k+(rowsL L).length))->R (.lst (lstD L)) (RdM a t (k+(rowsL L).length)))/\
 (∀j:Nat,(∀r,walk (.lin 0 0 0::r) l k=be j)->∀M',RX "WrongSign" [("place",.int j)] M')
def hmX(w h s:Int)(i j:Int):Int:=(i-j/h*s)%w
def hRow(w h s:Int)(j:Nat):Nat->List Nat->List ((Int×Int)×Int)->List ((Int×Int)×Int)
 |_,[],kv=>kv
 |i,c::r,kv=>hRow w h s j (i+1) r (if c=46 then kv else sdD kv (hmX w h s i j) ((j:Int)%h) ((c:Int)-48))
def hAll(w h s:Int):Nat->List (List Nat)->List ((Int×Int)×Int)->List ((Int×Int)×Int)
 |_,[],kv=>kv
 |j,x::r,kv=>hAll w h s (j+1) r (hRow w h s j 0 x kv)
def ul(kv:List ((Int×Int)×Int))(x y v:Int):(sdD kv x y v).length<=kv.length+1:=by
 unfold sdD;split
 .lia
 .rw[GF];simp
def Cs(h:49<=c/\c<=54):∃i rest,Builtin.Str.occurrences ".123456" #[[c].toArray] 0 (".123456":J7).length 1=i::rest/\((i:Nat):Int)=(c:Int)-48:=by
 rcases(KZ:c=49\/c=50\/c=51\/c=52\/c=53\/c=54)with e|e|e|e|e|e<;>subst e
 .exact#[1,[],KK,K3]
 .exact#[2,[],KK,K3]
 .exact#[3,[],KK,K3]
 .exact#[4,[],KK,K3]
 .exact#[5,[],KK,K3]
 .exact#[6,[],KK,K3]
def Ct{x:List Nat}(h:∀c∈x,isSign c):(#[x.toArray]:J7).cps.all (·<128)=true:=by
 rw[<-Jo,Ho];intro c hc;have:=h c hc;unfold isSign at this;simp;lia
def Cu{L:List (List Nat)}{j:Nat}{d:D}(h:(lstD L)[j]?=be d):∃x,L[j]?=be x/\d=.str #[x.toArray]:=by
 unfold lstD at h;rw[GU]at h;cases e:L[j]? with
 |none=>rw[e]at h;cases h
 |some x=>rw[e]at h;cases h;exact#[x,rfl,rfl]
def Cw{x:List Nat}{i:Nat}{d:D}(h:(bX #[x.toArray])[i]?=be d):∃c,x[i]?=be c/\d=.str #[[c].toArray]:=by
 unfold bX at h;rw[GU]at h;cases e:x[i]? with
 |none=>simp[e]at h
 |some c=>simp[e]at h;exact#[c,rfl,h.symm]
def um{α:Type}{l:List α}{i:Nat}{x:α}(h:l[i]?=be x):l.drop i=x::l.drop (i+1):=by
 have hi:i<l.length:=(GO.mp h).1;rw[Ip hi];congr 1;rw[GP hi]at h;exact Option.some.inj h
def Cy:SpM:=λds M R RX=>∃(L:List (List Nat)) (wd:Nat) (w h s:Int),ds=[.lst (lstD L),.tup [.int w,.int h,.int s]]/\RowsL L wd/\0<w/\0<h/\h<1073741824/\0<=s/\s<1073741824/\R (.dti (hAll w h s 0 L [])) M
def moF(k:Nat)(sh:D)(hu:List ((Int×Int)×Int)):List (J7×D):=[("place",.int k),("shifts",sh),("hues",.dti hu)]
def Cz:SiD:=λds R=>∃(k:Nat) (L:List (List Nat)) (wd:Nat) (a b c d:Int),ds=[.int k,.lst (lstD L),.tup [.int a,.int b],.tup [.int c,.int d]]/\RowsL L wd/\B12 a/\B12 b/\B12 c/\B12 d/\
 (a*d=b*c->R (moF k .non []))/\(¬a*d=b*c->∀w h s,FamOf a b c d w h s->R (moF k (.tup [.int w,.int h,.int s]) (hAll w h s 0 L [])))
variable{v:My.D}
def CA:putD ("place":J7) v []=([("place",v)]:List (J7×D)):=rfl
def uo{u:D}:putD ("shifts":J7) v [("place",u)]=([("place",u),("shifts",v)]:List (J7×D)):=by
 unfold putD;rw[if_neg KK];rfl
def uq{t u:D}:putD ("hues":J7) v [("place",t),("shifts",u)]=([("place",t),("shifts",u),("hues",v)]:List (J7×D)):=by
 unfold putD;rw[if_neg KK];unfold putD;rw[if_neg KK];rfl
def kT{u:D}:([("place",u),("shifts",v)]:List (J7×D)).lookup ("shifts":J7)=be v:=by
 rw[GM,show(("shifts":J7)==("place":J7))=false by decide+kernel];rfl
def CB:SiD:=λds R=>∃(x y:J7) (fs gs:List (J7×D)),ds=[.obj x fs,.obj y gs]/\R [("above",.obj x fs),("below",.obj y gs)]
def CC:SiD:=λds R=>∃(x:J7) (fs:List (J7×D)) (a b:Int),ds=[.obj x fs,.int a,.int b]/\R [("form",.obj x fs),("x",.int a),("y",.int b)]
def CD:SiD:=λds R=>∃(x:J7) (fs:List (J7×D)),ds=[.obj x fs]/\R [("form",.obj x fs)]
def CF:SiD:=λds R=>∃(x:J7) (fs:List (J7×D)),ds=[.obj x fs]/\R [("form",.obj x fs)]
def CG:SiD:=λds R=>∃(x:J7) (fs:List (J7×D)) (a b:Int),ds=[.obj x fs,.int a,.int b]/\R [("form",.obj x fs),("old",.int a),("new",.int b)]
def FormOf:Pat->Nat->D->Prop
 |.mot L a b c d,k,v=>∃sh hu,v=.obj "Motif" (moF k sh hu)/\(a*d=b*c->sh=.non)/\(¬a*d=b*c->∃w h s,FamOf a b c d w h s/\sh=.tup [.int w,.int h,.int s]/\hu=hAll w h s 0 (L.map cs) [])
 |.over p q,k,v=>∃u u',v=.obj "Over" [("above",u),("below",u')]/\FormOf p (k+1) u/\FormOf q (k+1+p.tl.length+1) u'
 |.sh a b p,k,v=>∃u,v=.obj "Shifted" [("form",u),("x",.int a),("y",.int b)]/\FormOf p (k+1+(numL a).length+1+(numL b).length+1) u
 |.mir p,k,v=>∃u,v=.obj "Mirror" [("form",u)]/\FormOf p (k+1) u
 |.tur p,k,v=>∃u,v=.obj "Turn" [("form",u)]/\FormOf p (k+1) u
 |.hue f g p,k,v=>∃u,v=.obj "Rehue" [("form",u),("old",.int f),("new",.int g)]/\FormOf p (k+3) u
def Pat.cls:Pat->J7
 |.mot ..=>"Motif"|.over ..=>"Over"|.sh ..=>"Shifted"|.mir ..=>"Mirror"|.tur ..=>"Turn"|.hue ..=>"Rehue"
def FormOf.nl:∀{k:Nat} {v:D},FormOf p k v->noL v=true:=by
 induction p with
 |mot L a b c d=>
  intro k v h;let#[sh,hu,rfl,h1,h2]:=h;have hs:noL sh=true:=by
   by_cases e:a*d=b*c
   .rw[h1 e];rfl
   .let#[w,h,s,_,rfl,_]:=h2 e;rfl
  simp[noL,noLF,moF,hs]
 |over p q i j=>
  intro k v h;let#[u,u',rfl,h1,h2]:=h;simp[noL,noLF,i h1,j h2]
 |sh a b p i=>
  intro k v h;let#[u,rfl,h1]:=h;simp[noL,noLF,i h1]
 |mir p i=>
  intro k v h;let#[u,rfl,h1]:=h;simp[noL,noLF,i h1]
 |tur p i=>
  intro k v h;let#[u,rfl,h1]:=h;simp[noL,noLF,i h1]
 |hue f g p i=>
  intro k v h;let#[u,rfl,h1]:=h;simp[noL,noLF,i h1]
def FormOf.obj(h:FormOf p k v):∃fs,v=.obj p.cls fs:=by
 cases p with
 |mot L a b c d=>let#[sh,hu,rfl,_]:=h;exact#[_,rfl]
 |over p q=>let#[_,_,rfl,_]:=h;exact#[_,rfl]
 |sh a b p=>let#[_,rfl,_]:=h;exact#[_,rfl]
 |mir p=>let#[_,rfl,_]:=h;exact#[_,rfl]
 |tur p=>let#[_,rfl,_]:=h;exact#[_,rfl]
 |hue f g p=>let#[_,rfl,_]:=h;exact#[_,rfl]
def CH{L:List (List Nat)}{w:Nat}(h:RowsL L w):Rows (L.map λx=>(#[x.toArray]:J7))/\(L.map λx=>(#[x.toArray]:J7)).map cs=L:=by
 refine#[#[by rw[GB];exact h.many,w,#[h.w1,h.w8],λl hl=>?_],?_]
 .let#[x,hx,rfl]:=GV.mp hl;let#[h1,h2]:=h.each x hx;exact#[by rw[len_of_list];exact h1,h2]
 .rw[Hz];simp[Function.comp_def,cs]
def CI:SpM:=λds M R RX=>∃(a:KF) (t:J7) (k:Nat) (l:List Nat),ds=[.ptr a]/\M=RdM a t k/\At t k l/\
 (∀p l',p.Syn->p.depth=0->l=p.tl++l'->∀v,FormOf p k v->R v (RdM a t (k+p.tl.length)))/\
 (∀j:Nat,(∀r,walk (.pat 5::r) l k=be j)->∀M',RX "WrongSign" [("place",.int j)] M')
def CJ{d:Nat}(h:d=5\/∀c l',l=c::l'->c∉cs "(smth"):walk (.pat d::r) l k=walk (.pat 5::r) l k:=by
 rcases h with rfl|h
 .rfl
 .cases l with
  |nil=>simp[walk]
  |cons c l=>
   have hc:=h c l rfl;have e:cs "(smth"=[40,115,109,116,104]:=rfl;rw[e]at hc;simp only[GA,HA,or_false,not_or]at hc;have:step (.pat d::r) c=step (.pat 5::r) c:=by
    rw[bT,bT];unfold aZ;by_cases Nr:c=91
    .rw[if_pos Nr,if_pos Nr]
    .rw[if_neg Nr,if_neg Nr,if_pos rfl];split
     .rfl
     .rw[if_neg hc.1,if_neg hc.2.1,if_neg hc.2.2.2.2,if_neg (by rintro(z|z);exact hc.2.2.1 z;exact hc.2.2.2.1 z)]
   rw[walk,walk,this]
def hue_dig:c∈cs "123456"↔49<=c/\c<=54:=by
 have e:cs "123456"=[49,50,51,52,53,54]:=rfl;rw[e];simp;lia
def iq(h:49<=c/\c<=54):numL ((c:Int)-48)=[c]:=by
 rw[hueL KZ];congr 1;lia
def kU(h:49<=c/\c<=54):walk (.hue::r) (c::l) k=walk r l (k+1):=aO (by simp[step,aN,aF,h])
def ut(h:∀c l',l=c::l'->c∉cs "123456"):walk (.hue::r) l k=be k:=
 walk_bad (λz=>nomatch z) λc l' q=>by
  have:=λz=>h c l' q (hue_dig.mpr z);simp only[step,aN,aF];exact if_neg this
def dJ(j:Nat):SpM:=λds M R RX=>∃(a:KF) (t:J7) (k:Nat) (l:List Nat) (d:Nat),ds=[.ptr a,.int d]/\M=RdM a t k/\At t k l/\d+j=6/\1<=j/\
 (∀p l',p.Syn->p.depth+d<=5->l=p.tl++l'->∀v,FormOf p k v->R v (RdM a t (k+p.tl.length)))/\(∀i:Nat,(∀r,walk (.pat d::r) l k=be i)->∀M',RX "WrongSign" [("place",.int i)] M')
variable{R:My.D->MS->Prop}{ds:List My.D}{RX:XDM}
def CK:¬dJ 0 ds M R RX:=by
 rintro⟨_,_,_,_,_,_,_,_,_,h,_⟩;exact absurd h K3
def uu(j:Nat):SpM:=λds M R RX=>∃(a:KF) (t:J7) (k:Nat) (l:List Nat) (d:Nat),ds=[.ptr a,.int d]/\M=RdM a t k/\At t k l/\d+j=6/\1<=j/\
 (∀p q l',p.Syn->q.Syn->p.depth+d<=5->q.depth+d<=5->l=p.tl++124::(q.tl++41::l')->∀u u',FormOf p k u->FormOf q (k+p.tl.length+1) u'->R (.obj "Over" [("above",u),("below",u')]) (RdM a t (k+p.tl.length+1+q.tl.length+1)))/\
 (∀i:Nat,(∀r,walk (.pat d::.sign 124::.pat d::.sign 41::r) l k=be i)->∀M',RX "WrongSign" [("place",.int i)] M')
def uw(j:Nat):SpM:=λds M R RX=>∃(a:KF) (t:J7) (k:Nat) (l:List Nat) (d:Nat),ds=[.ptr a,.int d]/\M=RdM a t k/\At t k l/\d+j=6/\1<=j/\
 (∀x y p l',B12 x->B12 y->p.Syn->p.depth+d<=5->l=numL x++44::(numL y++58::(p.tl++l'))->∀u,FormOf p (k+(numL x).length+1+(numL y).length+1) u->R (.obj "Shifted" [("form",u),("x",.int x),("y",.int y)]) (RdM a t (k+(numL x).length+1+(numL y).length+1+p.tl.length)))/\
 (∀i:Nat,(∀r,walk (.num::.sign 44::.num::.sign 58::.pat d::r) l k=be i)->∀M',RX "WrongSign" [("place",.int i)] M')
def ux(j:Nat):SpM:=λds M R RX=>∃(a:KF) (t:J7) (k:Nat) (l:List Nat) (d:Nat),ds=[.ptr a,.int d]/\M=RdM a t k/\At t k l/\d+j=6/\1<=j/\
 (∀c e p l',(49<=c/\c<=54)->(49<=e/\e<=54)->p.Syn->p.depth+d<=5->l=c::e::(p.tl++l')->∀u,FormOf p (k+2) u->R (.obj "Rehue" [("form",u),("old",.int ((c:Int)-48)),("new",.int ((e:Int)-48))]) (RdM a t (k+2+p.tl.length)))/\
 (∀i:Nat,(∀r,walk (.hue::.hue::.pat d::r) l k=be i)->∀M',RX "WrongSign" [("place",.int i)] M')
def Pat.Area(p:Pat)(N:Int):Prop:=∃w h s,p.Fam w h s/\w*h<=N
def Pat.Fits.wide(h:p.Fits):p.Area 33554432:=by
 let#[w,k,s,f,b]:=h;exact#[w,k,s,f,KZ]
def Pat.Area.small{N:Int}(h:p.Area N){k:Int}(f:p.Fam w k s):0<w/\w<=N/\0<k/\k<=N/\0<=s/\s<w:=by
 let#[w',k',s',f',hb]:=h;let#[rfl,rfl,rfl]:=f.uniq f';let#[h1,h2]:=cU f.f.w0 f.f.h0;exact#[f.f.w0,KZ,f.f.h0,KZ,f.f.s0,f.f.sw]
def Pat.Area.tur{N:Int}(h:p.Area N):(Pat.tur p).Area N:=by
 let#[w,k,s,f,b]:=h;let#[w2,h2,s2,g,e]:=kN (s:=s) f.f.w0 f.f.h0;exact#[_,_,_,f.tur g,KZ]
def Pat.Cal:Pat->Prop
 |.mot ..=>True
 |.over p q=>p.Cal/\q.Cal/\(p.Wf->q.Wf->p.Area 33554432/\q.Area 33554432)
 |.sh _ _ p=>p.Cal
 |.mir p=>p.Cal
 |.tur p=>p.Cal/\(p.Wf->p.Area 33554432)
 |.hue _ _ p=>p.Cal
def Pat.cls_mem(p:Pat):p.cls∈(["Motif","Over","Shifted","Mirror","Turn","Rehue"]:List J7):=by
 cases p<;>simp[Pat.cls]
def no_look{f g:J7}{r:List (J7×D)}(h:(f==g)=false)(hr:r.lookup f=x8):(((g,v)::r:List (J7×D))).lookup f=none:=by
 rw[GM,h];exact hr
def FormOf.objm(h:FormOf p k v):∃fs,v=.obj p.cls fs/\fs.lookup ("family":J7)=x8/\fs.lookup ("shows":J7)=none:=by
 cases p with
 |mot L a b c d=>let#[sh,hu,rfl,_]:=h;exact#[_,rfl,no_look KK (no_look KK (no_look KK rfl)),no_look KK (no_look KK (no_look KK rfl))]
 |over p q=>let#[_,_,rfl,_]:=h;exact#[_,rfl,no_look KK (no_look KK rfl),no_look KK (no_look KK rfl)]
 |sh a b p=>let#[_,rfl,_]:=h;exact#[_,rfl,no_look KK (no_look KK (no_look KK rfl)),no_look KK (no_look KK (no_look KK rfl))]
 |mir p=>let#[_,rfl,_]:=h;exact#[_,rfl,no_look KK rfl,no_look KK rfl]
 |tur p=>let#[_,rfl,_]:=h;exact#[_,rfl,no_look KK rfl,no_look KK rfl]
 |hue f g p=>let#[_,rfl,_]:=h;exact#[_,rfl,no_look KK (no_look KK (no_look KK rfl)),no_look KK (no_look KK (no_look KK rfl))]
variable{hu:List ((Int×Int)×Int)}
def kW{sh:D}:(moF k sh hu).lookup ("shifts":J7)=be sh:=by
 unfold moF;rw[GM,show(("shifts":J7)==("place":J7))=false by decide+kernel];rfl
def CL{sh:D}:(moF k sh hu).lookup ("place":J7)=be (.int k):=rfl
def CM{sh:D}:(moF k sh hu).lookup ("hues":J7)=be (.dti hu):=by
 unfold moF;rw[GM,show(("hues":J7)==("place":J7))=false by decide+kernel,GM,show(("hues":J7)==("shifts":J7))=false by decide+kernel];rfl
def fF{f g:J7}{u:D}{r:List (J7×D)}(h:(g==f)=false):(((f,u)::(g,v)::r:List (J7×D))).lookup g=be v:=by
 rw[GM,h,GM,beq_self_eq_true]
def kX{e f g:J7}{t u:D}{r:List (J7×D)}(h1:(g==e)=false)(h2:(g==f)=false):(((e,t)::(f,u)::(g,v)::r:List (J7×D))).lookup g=be v:=by
 rw[GM,h1];exact fF h2
def Pat.Fits.small(h:p.Fits){k:Int}(f:p.Fam w k s):0<w/\w<=720/\0<k/\k<=720/\0<=s/\s<w:=by
 let#[w',k',s',f',hb]:=h;let#[rfl,rfl,rfl]:=f.uniq f';let#[h1,h2]:=cU f.f.w0 f.f.h0;exact#[f.f.w0,KZ,f.f.h0,KZ,f.f.s0,f.f.sw]
def bZ(j:Nat)(x:J7):SpX:=λds R RX=>∃(p:Pat) (k:Nat) (v:D),ds=[v]/\FormOf p k v/\p.Syn/\p.depth<j/\p.cls=x/\p.Cal/\(∀i:Nat,p.lineAt k=be i->RX "OneLine" [("place",.int i)])/\(p.lineAt k=x8->∀w h s,p.Fam w h s->R (.tup [.int w,.int h,.int s]))
def fG{x:J7}:¬ofX (bZ 0 x) ds M R RX:=by
 rintro⟨_,_,_,_,_,_,h,_⟩;exact absurd h (HW _)
def lookD_app(x y v X Y:Int):∀kv:List ((Int×Int)×Int),lookD (kv++[((x,y),v)]) X Y=match lookD kv X Y with|some u=>be u|none=>if x=X/\y=Y then be v else x8
 |[]=>rfl
 |((a,b),h)::r=>by
  show lookD (((a,b),h)::(r++[((x,y),v)])) X Y=_;unfold lookD;by_cases e:a=X/\b=Y
  .rw[if_pos e,if_pos e]
  .rw[if_neg e,if_neg e];exact lookD_app x y v X Y r
def CN(kv:List ((Int×Int)×Int))(x y v X Y:Int):lookD (sdD kv x y v) X Y=match lookD kv X Y with|some u=>be u|none=>if x=X/\y=Y then be v else none:=by
 unfold sdD;split
 .rename_i hs;cases e:lookD kv X Y with
  |some u=>rfl
  |none=>
   show x8=_;rw[if_neg];rintro⟨rfl,rfl⟩;rw[e]at hs;cases hs
 .exact lookD_app x y v X Y kv
def look_row(w h s:Int)(j:Nat)(X Y:Int):∀(x:List Nat) (i:Nat) (kv:List ((Int×Int)×Int)),lookD (hRow w h s j i x kv) X Y=match lookD kv X Y with|some u=>be u|none=>(scanRow (λi=>decide (hmX w h s i j=X/\(j:Int)%h=Y)) i x).map λc=>(c:Int)-48
 |[],i,kv=>by
  rw[hRow,scanRow];cases lookD kv X Y<;>rfl
 |c::r,i,kv=>by
  rw[hRow,look_row w h s j X Y r (i+1),scanRow];by_cases KC:c=46
  .rw[if_pos KC,if_neg (c:=c≠46/\_) (λz=>z.1 KC)]
  .rw[if_neg KC,CN];cases lookD kv X Y with
   |some u=>rfl
   |none=>
    by_cases e:hmX w h s i j=X/\(j:Int)%h=Y
    .rw[if_pos (c:=c≠46/\_) #[KC,decide_eq_true e]];show(match (if hmX w h s i j=X/\(j:Int)%h=Y then be ((c:Int)-48)else x8)with|some u=>be u|none=>_)=_;rw[if_pos e];rfl
    .rw[if_neg (c:=c≠46/\_) (λz=>e (of_decide_eq_true z.2))];show(match (if hmX w h s i j=X/\(j:Int)%h=Y then be ((c:Int)-48)else x8)with|some u=>be u|none=>_)=_;rw[if_neg e]
def uy(w h s X Y:Int):∀(L:List J7) (j:Nat) (kv:List ((Int×Int)×Int)),lookD (hAll w h s j (L.map cs) kv) X Y=match lookD kv X Y with|some u=>be u|none=>(cJ (λi j=>decide (hmX w h s i j=X/\j%h=Y)) j L).map λc=>(c:Int)-48
 |[],j,kv=>by
  rw[HF,hAll,cJ];cases lookD kv X Y<;>rfl
 |x::r,j,kv=>by
  rw[GK,hAll,uy w h s X Y r (j+1),look_row,cJ];cases lookD kv X Y with
  |some u=>rfl
  |none=>
   show(match (scanRow (λi=>decide (hmX w h s i j=X/\(j:Int)%h=Y)) 0 (cs x)).map (λc=>(c:Int)-48)with|some u=>be u|none=>_)=_;cases scanRow (λi=>decide (hmX w h s i j=X/\(j:Int)%h=Y)) 0 (cs x)<;>rfl
def CO{c:Int}(F:FamOf a b c d w h s)(hn:¬a*d=b*c)(x y i j:Int):decide (hmX w h s i j=hmX w h s x y/\j%h=y%h)=onB a b c d (x-i) (y-j):=by
 have hw:=F.1;have hh:=F.2.1;have key:(hmX w h s i j=hmX w h s x y/\j%h=y%h)↔InF w h s (x-i) (y-j):=by
  unfold hmX;constructor
  .rintro⟨e1,e2⟩;have dy:=HL y h;have dj:=HL j h;have m1:=HL (x-y/h*s) w;have m2:=HL (i-j/h*s) w;refine#[(x-y/h*s)/w-(i-j/h*s)/w,y/h-j/h,?_,?_]
   .rw[IQ,IQ,G2 ((x-y/h*s)/w) w,G2 ((i-j/h*s)/w) w];lia
   .rw[IQ,G2 (y/h) h,G2 (j/h) h];lia
  .rintro⟨m,q,ex,ey⟩;have Sg:y=j+q*h:=by lia
   have P7:x=i+(m*w+q*s):=KZ
   subst P7 Sg;rw[JR,Int.add_mul_ediv_right _ _ KZ];refine#[?_,rfl];have e:i+(m*w+q*s)-(j/h+q)*s=i-j/h*s+m*w:=by rw[Int.add_mul];lia
   rw[e,JR]
 unfold onB;congr 1;apply propext;rw[key,F.lat];constructor
 .rintro⟨m,q,eu,ev⟩;exact tD eu ev
 .exact λz=>tU hn z
def CP(h:49<=c/\c<=54):cell [0,1,2,3,4,5,6] ((c:Int)-48)=(c:Int)-48:=by
 rcases(KZ:c=49\/c=50\/c=51\/c=52\/c=53\/c=54)with e|e|e|e|e|e<;>subst e<;>rfl
def motif_shows{c:Int}(hL:Rows L)(F:FamOf a b c d w h s)(hn:¬a*d=b*c)(x y:Int):(lookD (hAll w h s 0 (L.map cs) []) (hmX w h s x y) (y%h)).getD 0=(bx L a b c d).shows x y:=by
 rw[uy];show((cJ (λi j=>decide (hmX w h s i j=hmX w h s x y/\j%h=y%h)) 0 L).map λc=>(c:Int)-48).getD 0=_;have e:(λi j=>decide (hmX w h s i j=hmX w h s x y/\j%h=y%h))=λi j=>onB a b c d (1*x+0*y+0-i) (0*x+1*y+0-j):=by
  funext i j;rw[CO F hn];congr 1<;>lia
 rw[e];show _=match cJ (λi j=>onB a b c d (1*x+0*y+0-i) (0*x+1*y+0-j)) 0 L with|some c=>cell [0,1,2,3,4,5,6] ((c:Int)-48)|none=>0
 cases q:cJ (λi j=>onB a b c d (1*x+0*y+0-i) (0*x+1*y+0-j)) 0 L with
 |none=>rfl
 |some c=>
  have hc:49<=c/\c<=54:=kM (λl' q=>let ⟨_,_,_,h⟩:=hL;(h l' q).2) q;exact(CP hc).symm
def ca(j:Nat)(x:J7):SpX:=λds R RX=>∃(p:Pat) (k:Nat) (v:D) (X Y:Int),ds=[v,.int X,.int Y]/\FormOf p k v/\p.Wf/\p.depth<j/\p.cls=x/\R (.int (p.show X Y))
def fH{x:J7}:¬ofX (ca 0 x) ds M R RX:=by
 rintro⟨_,_,_,_,_,_,_,_,h,_⟩;exact absurd h (HW _)
structure PatOf(p:Pat)(w h s:Int)(fs:List (Str×D)):Prop extends Pat.Fam p w h s where
 form:∃k v,fs.lookup ("form":J7)=be v/\FormOf p k v
 nl:noLF fs=true
def bv(p:Pat)(d:D):Prop:=∃w h s fs,d=.obj "Pattern" fs/\fs.lookup ("text":J7)=be (.str p.text)/\fs.lookup ("shifts":J7)=be (.tup [.int w,.int h,.int s])/\PatOf p w h s fs
def bU(x:Int):Prop:=-1000000000000<=x/\x<=1000000000000
def Pat.show_le(h:p.Wf)(hd:p.depth<=40)(x y:Int):0<=p.show x y/\p.show x y<=6:=by
 rw[<-Pat.show_leaves h hd];exact tN x y (Pat.leaf_ok h hd)
def fJ(h:Int):Nat:=if h=0 then 46 else(48+h).toNat
def gq(p:Pat)(x y:Int)(n:Nat):Str:=#[((GQ n).map λ(k:Nat)=>fJ (p.show (x+(k:Int)) y)).toArray]
def CQ(h0:0<=h)(h6:h<=6):atI (cs ".123456") h=be (fJ h):=by
 rcases(KZ:h=0\/h=1\/h=2\/h=3\/h=4\/h=5\/h=6)with e|e|e|e|e|e|e<;>subst e<;>decide+kernel
def Pat.Fits.over_parts(hp:p.Wf)(hq:q.Wf)(h:(Pat.over p q).Fits):p.Fits/\q.Fits:=by
 let#[w,k,s,f,hb]:=h;let#[w1,k1,s1,f1]:=Pat.fam_ex hp;let#[w2,k2,s2,f2]:=Pat.fam_ex hq;have l1:=(InF.le f1.f.w0 f1.f.h0 f.f.w0 f.f.h0 (λx y z=>(f1.lat x y).mpr ((f.lat x y).mp z).1)).1;have l2:=(InF.le f2.f.w0 f2.f.h0 f.f.w0 f.f.h0 (λx y z=>(f2.lat x y).mpr ((f.lat x y).mp z).2)).1;exact#[#[w1,k1,s1,f1,KZ],#[w2,k2,s2,f2,KZ]]
def Pat.Fits.of_sh(h:(Pat.sh a b p).Fits):p.Fits:=by
 let#[w,k,s,f,hb]:=h;exact#[w,k,s,#[f.f,f.lat],hb]
def Pat.Fits.of_hue(h:(Pat.hue a b p).Fits):p.Fits:=by
 let#[w,k,s,f,hb]:=h;exact#[w,k,s,#[f.f,f.lat],hb]
def Pat.Fits.of_mir(hp:p.Wf)(h:(Pat.mir p).Fits):p.Fits:=by
 let#[w,k,s,f,hb]:=h;let#[w1,k1,s1,f1]:=Pat.fam_ex hp;let#[rfl,rfl,_]:=f.uniq f1.mir;exact#[_,_,_,f1,hb]
def Pat.Fits.of_tur(hp:p.Wf)(h:(Pat.tur p).Fits):p.Fits:=by
 let#[w,k,s,f,hb]:=h;let#[w1,k1,s1,f1]:=Pat.fam_ex hp;let#[w',k',s',f',e]:=kN (s:=s1) f1.f.w0 f1.f.h0;let#[rfl,rfl,_]:=f.uniq (f1.tur f');exact#[_,_,_,f1,KZ]
def Pat.cal_of:∀{p:Pat},p.Wf->p.Fits->p.Cal
 |.mot ..,_,_=>trivial
 |.over p q,h,f=>by
  let#[f1,f2]:=Pat.Fits.over_parts h.1 h.2 f;exact#[Pat.cal_of h.1 f1,Pat.cal_of h.2 f2,λ_ _=>#[f1.wide,f2.wide]]
 |.sh a b p,h,f=>Pat.cal_of (p:=p) h.2.2 f.of_sh
 |.mir p,h,f=>Pat.cal_of (p:=p) h (f.of_mir h)
 |.tur p,h,f=>#[Pat.cal_of (p:=p) h (f.of_tur h),λ_=>Pat.Fits.wide (p:=p) (f.of_tur h)]
 |.hue a b p,h,f=>Pat.cal_of (p:=p) h.2.2 f.of_hue
def Pat.cal_w:∀{p:Pat} {w h s:Int},p.Wf->p.Cal->p.Fam w h s->w<=1125899906842624
 |.mot L a b c d,w,h,s,ge,_,f=>by
  have:=(Pat.fits_mot (L:=L) ge.2.1 ge.2.2.1 ge.2.2.2.1 ge.2.2.2.2.1 ge.2.2.2.2.2).small f;lia
 | .over p q,w,h,s,ge,hc,f=>by
  let#[f1,f2]:=hc.2.2 ge.1 ge.2;let#[w1,k1,s1,g1]:=Pat.fam_ex ge.1;let#[w2,k2,s2,g2]:=Pat.fam_ex ge.2;have a1:=f1.small g1;have a2:=f2.small g2;have Ly:InF w h s (w1*w2) 0:=(f.lat _ _).mpr #[(g1.lat _ _).mp #[w2,0,by rw[G2];lia,KZ],(g2.lat _ _).mp #[w1,0,KZ,KZ]];let#[i,j,e1,e2]:=Ly;have hj:j=0:=by
   rcases Ij.mp e2.symm with z|z
   .exact z
   .have:=f.f.h0;lia
  subst hj;have hp:0<w1*w2:=GN a1.1 a2.1;have e3:w1*w2=i*w:=KZ
  have hi:0<i:=by
   have:=f.f.w0;rcases(KZ:i<=0\/0<i)with z|z
   .have:=Hs z (show 0<=w by lia);lia
   .exact z
  have h1:=G0 (show 1<=i by lia) (show 0<=w by have:=f.f.w0;lia);have h2:=bB (a:=w1) (d:=w2) (A:=33554432) (B:=33554432) KZ KZ;lia
 |.sh a b p,w,h,s,ge,hc,f=>Pat.cal_w (p:=p) ge.2.2 hc #[f.f,f.lat]
 |.mir p,w,h,s,ge,hc,f=>by
  let#[w1,k1,s1,f1]:=Pat.fam_ex (p:=p) ge;let#[rfl,_,_]:=f.uniq f1.mir;exact Pat.cal_w (p:=p) ge hc f1
 |.tur p,w,h,s,ge,hc,f=>by
  have:=(hc.2 ge).tur.small f;lia
 |.hue a b p,w,h,s,ge,hc,f=>Pat.cal_w (p:=p) ge.2.2 hc #[f.f,f.lat]
def uz:∀L:List J7,cs (Str.join "" L)=L.flatMap cs
 |[]=>rfl
 |[x]=>by simp[Str.join]
 |x::y::r=>by
  show cs (x++""++Str.join "" (y::r))=_;rw[cf,cf,uz (y::r),tK];simp
def join_one(f:Nat->Nat)(n:Nat):Str.join "" ((GQ n).map λi=>(#[[f i].toArray]:J7))=#[((GQ n).map f).toArray]:=by
 apply kP;rw[uz,List.flatMap_map];show(GQ n).flatMap (λi=>[f i])=(GQ n).map f;rw[List.map_eq_flatMap]
def db{e:Nat}:∀{a b x y:List Nat},e∉a->e∉b->a++e::x=b++e::y->a=b/\x=y
 |[],[],x,y,_,_,h=>by cases h;exact#[rfl,rfl]
 |[],c::b,x,y,_,hb,h=>by
  cases h;exact absurd Gz hb
 |c::a,[],x,y,ha,_,h=>by
  cases h;exact absurd Gz ha
 |c::a,d::b,x,y,ha,hb,h=>by
  have h':c::(a++e::x)=d::(b++e::y):=h;injection h' with h1 h2;let#[e1,e2]:=db (λz=>ha (Gx _ z)) (λz=>hb (Gx _ z)) h2;exact#[by rw[h1,e1],e2]
def fK(ha:B12 a)(hb:B12 b)(h:numL a=numL b):a=b:=by
 have h1:=kR ha;rw[h,kR hb]at h1;exact(Option.some.inj h1).symm
def num_chars(ha:B12 a):∀c∈numL a,c=45\/(48<=c/\c<=57):=by
 rcases numL_is ha with⟨c,hc,e⟩|⟨c,hc,e⟩|⟨c,hc,e⟩|⟨c,hc,e⟩<;>rw[e]<;>simp<;>lia
def cw(ha:B12 a){e:Nat}(he:endS e):e∉numL a:=λz=>by
 have:=num_chars ha e z;unfold endS at he;lia
def rowsL_chars:∀{L:List (List Nat)},(∀x∈L,∀c∈x,isSign c)->∀c∈rowsL L,isSign c\/c=47
 |[],_,c,h=>by cases h
 |[x],hx,c,h=>.inl (hx x Gz c h)
 |x::y::L,hx,c,h=>by
  have h':c∈x++47::rowsL (y::L):=h;rcases GS.mp h' with z|z
  .exact .inl (hx x Gz c z)
  .rcases GA.mp z with z|z
   .exact .inr z
   .exact rowsL_chars (λx q=>hx x (Gx _ q)) c z
def gu(h:isSign c):c≠47/\c≠59:=by unfold isSign at h;lia
def va:∀{L M:List (List Nat)},L≠[]->M≠[]->(∀x∈L,∀c∈x,isSign c)->(∀x∈M,∀c∈x,isSign c)->rowsL L=rowsL M->L=M
 |[],_,h,_,_,_,_=>absurd rfl h
 |_,[],_,h,_,_,_=>absurd rfl h
 |[x],[y],_,_,_,_,h=>by rw[show x=y from h]
 |[x],y::z::M,_,_,hx,_,h=>by
  have h':x=y++47::rowsL (z::M):=h;have:(47:Nat)∈x:=by rw[h'];simp
  exact absurd rfl (gu (hx x Gz 47 this)).1
 |x::z::L,[y],_,_,_,hy,h=>by
  have h':x++47::rowsL (z::L)=y:=h;have:(47:Nat)∈y:=by rw[<-h'];simp
  exact absurd rfl (gu (hy y Gz 47 this)).1
 |x::z::L,y::z'::M,_,_,hx,hy,h=>by
  have h':x++47::rowsL (z::L)=y++47::rowsL (z'::M):=h;let#[e1,e2]:=db (λq=>(gu (hx x Gz 47 q)).1 rfl) (λq=>(gu (hy y Gz 47 q)).1 rfl) h';rw[e1,va (L:=z::L) (M:=z'::M) (λq=>nomatch q) (λq=>nomatch q) (λx q=>hx x (Gx _ q)) (λx q=>hy x (Gx _ q)) e2]
def vb:∀{L M:List J7},L.map cs=M.map cs->L=M
 |[],[],_=>rfl
 |[],_::_,h=>by cases h
 |_::_,[],h=>by cases h
 |x::L,y::M,h=>by
  rw[GK,GK]at h;injection h with h1 h2;rw[kP h1,vb h2]
def CS{L':List J7}{c a' b' c' d':Int}{x y:List Nat}(h:(Pat.mot L a b c d).Syn)(h':(Pat.mot L' a' b' c' d').Syn)(e:(Pat.mot L a b c d).tl++x=(Pat.mot L' a' b' c' d').tl++y):Pat.mot L a b c d=Pat.mot L' a' b' c' d'/\x=y:=by
 have e0:91::(rowsL (L.map cs)++59::(numL a++44::(numL b++59::(numL c++44::(numL d++93::x)))))=91::(rowsL (L'.map cs)++59::(numL a'++44::(numL b'++59::(numL c'++44::(numL d'++93::y))))):=by
  simpa[Pat.tl,motL]using e
 injection e0 with _ e1;have sg:∀{L:List J7},Rows L->∀x∈L.map cs,∀c∈x,isSign c:=λ{L} hL x hx=>by
  let#[l,hl,rfl]:=GV.mp hx;let#[_,w,_,q]:=hL;exact(q l hl).2
 have QG:∀{L:List J7},Rows L->(59:Nat)∉rowsL (L.map cs):=λ{L} hL z=>by
  rcases rowsL_chars (sg hL) 59 z with q|q
  .exact(gu q).2 rfl
  .cases q
 have ne:∀{L:List J7},Rows L->L.map cs≠[]:=λ{L} hL z=>by
  have h1:=hL.many.1;have h2:=congrArg HM z;rw[GB]at h2;simp at h2;rw[h2]at h1;simp at h1
 let#[q1,e2]:=db (QG h.1) (QG h'.1) e1;let#[q2,e3]:=db (cw h.2.1 (.inl rfl)) (cw h'.2.1 (.inl rfl)) e2;let#[q3,e4]:=db (cw h.2.2.1 (.inr (.inl rfl))) (cw h'.2.2.1 (.inr (.inl rfl))) e3;let#[q4,e5]:=db (cw h.2.2.2.1 (.inl rfl)) (cw h'.2.2.2.1 (.inl rfl)) e4;let#[q5,e6]:=db (cw h.2.2.2.2 (.inr (.inr (.inr rfl)))) (cw h'.2.2.2.2 (.inr (.inr (.inr rfl)))) e5;rw[vb (va (ne h.1) (ne h'.1) (sg h.1) (sg h'.1) q1),fK h.2.1 h'.2.1 q2,fK h.2.2.1 h'.2.2.1 q3,fK h.2.2.2.1 h'.2.2.2.1 q4,fK h.2.2.2.2 h'.2.2.2.2 q5];exact#[rfl,e6]
def Pat.head:Pat->Nat
 |.mot ..=>91|.over ..=>40|.sh ..=>115|.mir ..=>109|.tur ..=>116|.hue ..=>104
def Pat.tl_head(p:Pat):∃l,p.tl=p.head::l:=by cases p<;>exact#[_,rfl]
def eB{x y:List Nat}(e:p.tl++x=q.tl++y):p.head=q.head:=by
 let#[l1,e1]:=p.tl_head;let#[l2,e2]:=q.tl_head;rw[e1,e2]at e;have e':p.head::(l1++x)=q.head::(l2++y):=e;injection e'
def vc(h:1<=f/\f<=6)(h':1<=g/\g<=6)(e:(48+f).toNat=(48+g).toNat):f=g:=KZ
def CT{x y:List Nat}(hp:p.Syn)(hq:q.Syn)(e:p.tl++x=q.tl++y):p=q/\x=y:=by
 have hh:=eB e;induction p generalizing q x y with
 |mot=>
  cases q with
  |mot=>exact CS hp hq e
  |_=>simp[Pat.head]at hh
 |over p q i1 i2=>
  cases q with
  |over p' q'=>
   have e0:40::(p.tl++124::(q.tl++41::x))=40::(p'.tl++124::(q'.tl++41::y)):=by simpa[Pat.tl]using e
   injection e0 with _ e1;let#[rfl,e2]:=i1 hp.1 hq.1 e1 (eB e1);injection e2 with _ e3;let#[rfl,e4]:=i2 hp.2 hq.2 e3 (eB e3);injection e4 with _ e5;exact#[rfl,e5]
  |_=>simp[Pat.head]at hh
 |sh a b p i=>
  cases q with
  |sh a' b' p'=>
   have e0:115::(numL a++44::(numL b++58::(p.tl++x)))=115::(numL a'++44::(numL b'++58::(p'.tl++y))):=by simpa[Pat.tl]using e
   injection e0 with _ e1;let#[q2,e3]:=db (cw hp.1 (.inl rfl)) (cw hq.1 (.inl rfl)) e1;let#[q3,e4]:=db (cw hp.2.1 (.inr (.inr (.inl rfl)))) (cw hq.2.1 (.inr (.inr (.inl rfl)))) e3;let#[rfl,e5]:=i hp.2.2 hq.2.2 e4 (eB e4);rw[fK hp.1 hq.1 q2,fK hp.2.1 hq.2.1 q3];exact#[rfl,e5]
  |_=>simp[Pat.head]at hh
 |mir p i=>
  cases q with
  |mir p'=>
   have e0:109::(p.tl++x)=109::(p'.tl++y):=e;injection e0 with _ e1;let#[rfl,e5]:=i (q:=p') hp hq e1 (eB e1);exact#[rfl,e5]
  |_=>simp[Pat.head]at hh
 |tur p i=>
  cases q with
  |tur p'=>
   have e0:116::(p.tl++x)=116::(p'.tl++y):=e;injection e0 with _ e1;let#[rfl,e5]:=i (q:=p') hp hq e1 (eB e1);exact#[rfl,e5]
  |_=>simp[Pat.head]at hh
 |hue f g p i=>
  cases q with
  |hue f' g' p'=>
   have e0:104::(numL f++(numL g++(p.tl++x)))=104::(numL f'++(numL g'++(p'.tl++y))):=by simpa[Pat.tl]using e
   rw[hueL hp.1,hueL hp.2.1,hueL hq.1,hueL hq.2.1]at e0;have e1:104::(48+f).toNat::(48+g).toNat::(p.tl++x)=104::(48+f').toNat::(48+g').toNat::(p'.tl++y):=e0;injection e1 with _ e2;injection e2 with e3 e4;injection e4 with e5 e6;let#[rfl,e7]:=i hp.2.2 hq.2.2 e6 (eB e6);rw[vc hp.1 hq.1 e3,vc hp.2.1 hq.2.1 e5];exact#[rfl,e7]
  |_=>simp[Pat.head]at hh
def CU:SiD:=λds R=>∃(t:J7) (w h s:Int) (x:J7) (fs:List (J7×D)),ds=[.str t,.tup [.int w,.int h,.int s],.obj x fs]/\R [("text",.str t),("shifts",.tup [.int w,.int h,.int s]),("form",.obj x fs)]
def CV:SiD:=λds R=>∃i:Int,ds=[.int i]/\R [("place",.int i)]
def CW:SiD:=λds R=>∃i:Int,ds=[.int i]/\R [("place",.int i)]
def S_read:SpX:=λds R RX=>(∃(t:J7) (k:Nat),ds=[.str t]/\t.length<=100000/\cv t=be k/\RX "WrongSign" [("place",.int k)])\/
 ∃p:Pat,ds=[.str p.text]/\p.Syn/\p.depth<=5/\p.Cal/\(∀k:Nat,p.lineAt 0=be k->RX "OneLine" [("place",.int k)])/\(p.lineAt 0=x8->¬p.Fits->RX "TooGreat" [])/\(p.lineAt 0=x8->p.Fits->∀d,bv p d->R d)
def CY{R:D->Prop}(ok:p.Ok)(h:∀d,bv p d->R d):so S_read [.str p.text] R:=
 .inr #[p,rfl,ok.wf.syn,ok.deep,Pat.cal_of ok.wf ok.fits,(λk e=>by rw[Pat.wf_line 0 ok.wf]at e;cases e),λ_ z=>z ok.fits,λ_ _=>h]
def CZ:SpX:=λds R RX=>∃x y:Int,ds=[.int x,.int y]/\(bU x/\bU y->R .non)/\(¬(bU x/\bU y)->RX "TooFar" [])
def C0:SpX:=λds R RX=>∃(p:Pat) (d:D) (x y:Int),ds=[d,.int x,.int y]/\bv p d/\p.Ok/\(bU x/\bU y->R (.int (p.show x y)))/\(¬(bU x/\bU y)->RX "TooFar" [])
def C1:SpD:=λds R=>∃(p:Pat) (d:D) (x y:Int) (n:Nat),ds=[d,.int x,.int y,.int n]/\bv p d/\p.Ok/\n<=1000/\bU x/\bU (x+n-1)/\bU y/\R (.str (gq p x y n))
def rowD(p:Pat)(x y:Int)(n:Nat):List D:=(GQ n).map λ(i:Nat)=>D.str #[[fJ (p.show (x+(i:Int)) y)].toArray]
def C3(p:Pat)(x y:Int)(k:Nat):rowD p x y k++[D.str #[[fJ (p.show (x+(k:Int)) y)].toArray]]=rowD p x y (k+1):=by
 unfold rowD;rw[IG,GW];rfl
def C4(p:Pat)(x y:Int)(hn:n<=1000):∃ys,cT (rowD p x y n)=be ys/\(ys.map (·.length)).sum+ys.length*("":J7).length<=1000000/\Txt.join "" ys=gq p x y n:=by
 have e1:rowD p x y n=((GQ n).map λ(i:Nat)=>(#[[fJ (p.show (x+(i:Int)) y)].toArray]:J7)).map D.str:=by unfold rowD;rw[Hz];rfl
 rw[e1];refine#[_,gm _,?_,(StrLaws.glued_eq_join _ _).trans (join_one (λi=>fJ (p.show (x+(i:Int)) y)) n)];rw[tL (w:=1) (λl hl=>by let#[i,_,rfl]:=GV.mp hl;rfl),GB,JS,show("":J7).length=0 from rfl];lia
def C5:SpD:=λds R=>∃xs:List Int,ds=[.tup (xs.map D.int),.tup (xs.map D.int)]/\xs.length<=1000/\R (.bl true)
end My
end
section
open PySem PySem.Spec PyProof.Rows L2
namespace My
open Exc
section
variable {X:Cx}[J:Jm]{a b c e:SZ}{ta tb te:TME}{pos:TX}
def mTru(te:TME):TMT:=λz M R=>te z M λd M1=>match d with|.bl k=>R k M1|_=>False
abbrev TMO:=SD->MS->(Option Int->MS->Prop)->Prop
def C6:TMO:=λ_ M R=>R x8 M
def C7(te:TME):TMO:=λz M R=>te z M λx M1=>match x with|.int i=>R (be i) M1|_=>False
def mO(K:Ex)[J:Jm](t:TMO):TO:=λs H Q=>∃F z M,Kept J.B J.F0 F H/\RepZ K J.B F H z s M/\∃R:Option Int->MS->Prop,t z M R/\∀o M' F' H',GrowM M M' F H F' H'->R o M'->RepM K F' H' M'->Q o H'
structure MPO(X:Cx)[Jm](e:Option SZ)(t:TMO):Prop where
 out:PO X e (mO X.K t)
def vd:MPO X x8 C6:=⟨PO.anti jz λs H Q q=>by
 let#[F,z,M,k,rs,R,h1,h2]:=q;exact h2 x8 M F H (GrowM.refl k.fh) h1 rs.rm⟩
def ve(he:ME X e te):MPO X (be e) (C7 te):=⟨PO.anti (jA he.out) λs H Q q=>by
 let#[F,z,M,k,rs,R,h1,h2]:=q;refine#[F,z,M,k,rs,_,h1,λx u M1 F1 H1 g1 hx rx m1=>?_];split at hx
 .exact#[_,rep_int.mp rx,h2 _ M1 F1 H1 g1 hx m1]
 .exact hx.elim⟩
def mSl(ta:TME)(tl th:TMO):TME:=λz M R=>ta z M λx M1=>tl z M1 λlo M2=>th z M2 λhi M3=>rdSl x lo hi λd=>R d M3
def C8{lo hi:Option SZ}{tl th:TMO}{p2:TX}(ha:ME X a ta)(hl:MPO X lo tl)(hu:MPO X hi th):ME X (.Subscript a (.Slice lo hi x8 p2) pos) (mSl ta tl th):=⟨(gI (SlR.or sv (SlR.or gJ qy)) ha.out hl.out hu.out).anti λs H Q q=>by
 let#[F,z,M,k,rs,R,h1,h2]:=q;refine#[F,z,M,k,rs,_,h1,λx u M1 F1 H1 g1 hx rx m1=>?_];have k1:=k.growM rs.mb g1;have r1:=rs.growM k.bh g1 m1;refine#[F1,z,M1,k1,r1,_,hx,λlo M2 F2 H2 g2 hy m2=>?_];refine#[F2,z,M2,k1.growM r1.mb g2,r1.growM k1.bh g2 m2,_,hy,λhi M3 F3 H3 g3 hw m3=>?_];have g:=g1.trans (g2.trans g3);have Ki:=(rx.mono g2.ff).mono g3.ff;unfold rdSl at hw;split at hw
 .exact .inl #[_,rep_str.mp Ki,GD hw.1 K3,h2 _ _ M3 F3 H3 g hw.2 (rep_str.mpr rfl) m3]
 .let#[l,vs,rfl,hq,rr]:=rep_lst.mp Ki;refine .inr (.inl #[l,vs,rfl,SqL.of (g3.fh _ _ hq),λp hp=>?_]);exact h2 _ _ M3 _ _ (g.trans (Grow.new g3.fh hp _).toM) hw (rep_lst.mpr #[p,_,rfl,aB,(rr.cut _ _).mono (aQ (g3.fh.free hp) _)]) (m3.grow (Grow.new g3.fh hp _))
 .let#[l,vs,rfl,hq,rr]:=rep_rol.mp Ki;refine .inr (.inl #[l,vs,rfl,g3.fh.seq hq,λp hp=>?_]);exact h2 _ _ M3 _ _ (g.trans (Grow.new g3.fh hp _).toM) hw (rep_lst.mpr #[p,_,rfl,aB,(rr.cut _ _).mono (aQ (g3.fh.free hp) _)]) (m3.grow (Grow.new g3.fh hp _))
 .let#[l,vs,rfl,hq,rr]:=rep_tup_mp Ki;refine .inr (.inr #[l,vs,rfl,g3.fh.tup hq,by rw[rr.length];exact hw.1,λp hp=>?_]);exact h2 _ _ M3 _ _ (g.trans (Grow.new g3.fh hp _).toM) hw.2 (rep_tupS.mpr #[p,_,rfl,aB,(rr.cut _ _).mono (aQ (g3.fh.free hp) _)]) (m3.grow (Grow.new g3.fh hp _))
 .exact hw.elim⟩
end
end My
namespace Exc
open PySem PySem.Spec PyProof.Rows PySem.W L2
section
variable {prog:SB}{w:TJ}{A:TK}{E:KB->KM->Prop}{s:KM}{K:Ex}{x C dx:KF}{ox:T5}{cd:Vb}{name:J7}{v:KB}{vs:Array KB}{mA:J7->Option KB}{ns:List J7}
def C9{Q:Unit->KM->Prop}(X:K.In s.heap)(hx:s.heap.get? x=be ox)(j5:ox.cls=.ref C)(z8:ox.data=.fields vs)(hd:ox.dict=be dx)(QH:s.heap.Ns1 dx mA)(hw:PySem.Within mA ns)(hz:ns.length<=1000)(hc:clsIn K C=be cd)(hm:aS cd.mro=true)(hh:cd.hasDict=true)
  (hs:findIn K (.ref C) "__setattr__"=be (be (.builtin "object.__setattr__"))) (hf:findIn K (.ref C) name=be x8)
  (h:∀h',h'.Ns1 dx (λy=>if y=name then be v else mA y)->Heap.SameBut dx s.heap h'->∀tk,Q () {s with heap:=h',toks:=tk}):
  TC (SL prog w) A (VB (.ref x) name v) Q E s:=by
 have hn:notCls ox=true:=by unfold notCls;rw[z8]
 let#[od,es,ep,ON,KD]:=id QH;have I:InstAt s.heap x ox C (be od):=#[hx,j5,hn,by rw[hd];exact ON];refine set_plain X I hs ?_;have SF:=PySem.F.store_object;have ne:cd.mro.isEmpty=false:=Qa
 have sub:Looks (SL prog w) s.heap (UQ (.ref x) (.type "object")) true:=I.type.andThen (looks_mroIn X Qt);refine Ur SF.slot.plain SF.entry (@check_slot (SL prog w) _ _ _ "object.__setattr__" "object" "__setattr__" (.ref x) [.str name s.toks,v] [] _ SF.kind SF.split sub (SF.args (.ref x) (.str name s.toks) v) ?_);have K4:Looks (SL prog w) s.heap (mroOf (.ref C)) cd.mro:=(looks_clsIn X hc).andThen .now;rw[osa_eq,refuse_eq];refine Os (Os (I.type.here (s:={s with toks:=s.toks+1}) (Os (K4.here (s:={s with toks:=s.toks+1}) ?_))));rw[jD _ hm];refine P3 (Os (I.type.here (s:={s with toks:=s.toks+1}) (Os ((looks_findIn X hf).here (s:={s with toks:=s.toks+1}) (Os (Looks.now.here (s:={s with toks:=s.toks+1}) ?_))))));let#[oc,Qn,Qo,osl]:=ox;dsimp only at j5 hd z8;subst j5 hd z8;refine Os (P3 (Os (Os (U2 hx (Os ((looks_clsIn X hc).here (s:={s with toks:=s.toks+1}) ?_))))));rw[hh];rw[if_neg K3];refine P3 ?_;show TC _ _ (Builtin.ObjectAttr.storeInDict dx (.str name s.toks) name v) _ _ _;unfold Builtin.ObjectAttr.storeInDict Builtin.ObjectAttr.newKeyGuard;refine Os (P3 (Os (Vc QH λh' g_ hs=>?_)));let#[oD,Qc,Qe,LW,LX,LY]:=g_.count (PySem.Within.cons name v hw);refine Os (UV LW (by rw[LX];exact UX (GD LY (by rw[Gy,UA];lia))) ?_);exact P3 (h h' g_ hs _)
end
end Exc
namespace My
open Exc
section
variable {X:Cx}[J:Jx]{x f:J7}{e:SZ}{te:TD}{pos c8 p:TX}{rest:List TF}{tr:TID}
def vf{β:Type}{y:J7}{z:β}:∀{ws:List (J7×β)},ws.lookup y=be z->y∈ws.map (·.1)
 |[],h=>nomatch h
 |(g,d)::ws,h=>by
  rw[GM]at h;split at h
  .rename_i hg;rw[GK,show y=g by simpa using hg];exact Gz
  .exact Gx _ (vf h)
def Da(f:J7)(te:TD)(tr:TID):TID:=λz fs R=>(fs≠[]/\fs.length<=100)/\te z λd=>tr z ((f,d)::fs) R
def Db{sx:J7}{ps:TX}(hA:∃C cd,ErrA X.K x C cd)(hf:∀C,nsIn X.K Pi x=be (be (.ref C))->GE X.K (.ref C) f=be x8)(he:WDE X e te)(hr:WDX X x rest tr)(hN:(X.N[0]?=be sx)\zA0)(hv:Vis X.env.scope sx\zA5)(hd:zND sx\zA1)
  (i8:zNC sx\zA1) (hs:(T7 e (be (.Attribute (.Name sx ps) f c8)) pos.line X.env=pure false)\zA0):WDX X x (.Assign [.Attribute (.Name sx ps) f c8] e pos::rest) (Da f te tr):=⟨by
 have he:=he.out;have hr:=hr.out;let#[C,cd,er]:=hA;have Ld:=hf C er.ns;have step:PS X (.Assign [.Attribute (.Name sx ps) f c8] e pos) (λE σ H=>∃e b ws,σ[0]?=be (be (.ref e))/\
   lE X.K te σ H (λv H1=>H1 e=be (XN e C (be b))/\H1 b=be (.xd ws)/\ws.length<=100/\E.nx σ (upd H1 b (.xd ((f,v)::ws))))):=by
  intro pins s σ H D I h;let#[ea,b,ws,h0,h]:=h;refine Uj (thn (he pins s σ H _ I h) λu s1 ⟨y,H1,I1,ry,v3,hb,hl,Lb⟩=>thn (dh (i:=0) hN hv hd i8 pins s1 σ H1 (λv H'=>v=.ref ea/\H'=H1) I1 #[.ref ea,h0,rfl,rfl]) λov s2 hh=>?_) hs;let#[v0,H2,I2,r0,e1,e2]:=hh;subst e1 e2;obtain rfl:ov=Value.ref ea:=r0;let#[t0,sl,k9]:=XN.get I2.hok v3;let#[mA,hns,x_]:=(show ObjOk X.prog X.w H2 s2.heap b (.xd ws)from I2.hok b _ hb);have hw:PySem.Within mA (ws.map (·.1)):=λy' hy=>by
   have:=x_ y';cases hq:ws.lookup y' with
   |none=>
    rw[hq]at this;cases hm:mA y' with
    |none=>exact absurd hm hy
    |some z=>rw[hm]at this;exact this.elim
   |some z=>exact vf hq
  refine C9 (K:=X.K) (C:=C) (cd:=cd) I2.kIn k9 rfl rfl rfl hns hw (by rw[GB];lia) er.cl er.mro er.hd er.sa Ld λh' g1 g2 tk=>?_;let#[od,es,ep,ON,Tg]:=id g1;have OO:∀c,H2 c=x8->c≠b:=λc q z=>by rw[z,hb]at q;cases q
  have z_:∀c o,H2 c=be o->(∀fs,o≠.xd fs)->upd H2 b (.xd ((f,y)::ws)) c=be o:=λc o q n=>by
   have n1:c≠b:=λz=>by rw[z,hb]at q;cases q;exact n _ rfl
   rw[ar n1];exact q
  refine#[σ,_,?_,Lb];refine I2.un (h':=h') (t':=tk) #[λc o q n _ _=>(g2.2 c (OO c n)).trans q,λc o q n _ _=>#[o.slots,(g2.2 c (OO c n)).trans q],λc o q n _=>?_,λc o q _=>?_,λc xs q=>z_ c _ q (λφ z=>nomatch z),λc o u q=>z_ c _ q (λφ z=>nomatch z),λc ps q=>#[[].toArray,by rw[z_ c _ q (λφ z=>nomatch z)];simp]] λa o q=>?_
  .rw[ar (OO c n)];exact n
  .by_cases hc:c=b
   .rw[hc];exact#[od,ON]
   .exact#[o,(g2.2 c hc).trans q]
  .by_cases hc:a=b
   .subst hc;rw[aB]at q;cases q;refine#[_,g1,λg=>?_];rw[GM];by_cases hg:g=f
    .subst hg;simp;exact ry
    .have:(g==f)=false:=by simpa using hg
     rw[this,if_neg hg];exact x_ g
   .rw[ar hc]at q;refine(I2.hok a o q).stay (λc u i6 r=>?_) (λc r=>z_ c _ r (λφ z=>nomatch z)) λc xs r=>z_ c _ r (λφ z=>nomatch z);refine(g2.2 c λz=>?_).trans r;rcases i6 with e1|e1
    .exact hc (e1 ▸ z)
    .rw[z,hb]at e1;cases e1
 refine(eO step hr).anti λE s H q=>?_;let#[C',a,od,ws,F,z,fs,hn,h0,f9,hB,j9,k,rs,rf,gt,R,#[#[i7,hl],hR],kk]:=q;rw[er.ns]at hn;cases hn;rcases gt with⟨_,rfl⟩|⟨b,rfl,h1,h2,h3,h4,h5⟩
 .cases fs with
  |nil=>exact absurd rfl i7
  |cons c fs=>let#[g,d]:=c;let#[v,r,h,_]:=repf_cons.mp rf;cases h
 refine#[a,b,ws,h0,_,F,z,k,rs,_,hR,λd v F1 H1 g hx rv=>#[g.hh a _ f9,g.hh b _ h1,?_,?_]]
 .have:∀{fs:List (J7×D)} {ws:List (J7×V)},RepF X.K F fs ws->ws.length=fs.length:=λ{fs}=>by
   induction fs with
   |nil=>intro ws r;rw[repf_nil.mp r];rfl
   |cons c fs ih=>let#[g,d]:=c;intro ws r;let#[v,r',rfl,_,h]:=repf_cons.mp r;rw[Gy,Gy,ih h]
  rw[this rf];exact hl
 .have Sh:=g.hh b _ h1;have La:F1 b=none:=g.out b h3 (by rw[h1];exact λz=>nomatch z);have Kf:F1 a=none:=g.out a j9 (by rw[f9];exact λz=>nomatch z);have k1:=k.grow g;have s9:=rs.grow g;have same:∀{G:Hp},G b=x8->Same G H1->Same G (upd H1 b (.xd ((f,v)::ws))):=λ{G} gb gs c o q=>by
   have n2:c≠b:=λz=>by rw[z,gb]at q;cases q
   rw[ar n2];exact gs c o q
  refine#[C,a,be b,(f,v)::ws,F1,z,(f,d)::fs,er.ns,h0,by rw[ar (Ne.symm h4)];exact g.hh a _ f9,hB,Kf,#[same h2 k1.bh,same La k1.fh,k1.f0,k1.out,k1.eb,k1.jf,k1.jo],?_,repf_cons.mpr #[v,ws,rfl,rv,RepF.mono g.ff fs ws rf],.inr #[b,rfl,aB,h2,La,h4,λz=>nomatch z],R,hx,kk];refine#[s9.len,s9.val,λi ds e'=>?_,s9.apart];let#[c,vs,q1,q2,q]:=s9.own i ds e';have n2:c≠b:=λz=>by rw[z,Sh]at q2;cases q2
  exact#[c,vs,q1,by rw[ar n2];exact q2,q]⟩
end
def subM(N M:MS):Prop:=(∀e,e∈N->e∈M)/\(av N).Nodup
variable{N M:MS}
def subM.keys(s:subM N M){a:KF}(h:a∈av N):a∈av M:=by
 let#[#[b,o],h1,rfl]:=GV.mp h;exact bJ (s.1 _ h1)
variable{H:Hp}
def RepM.sub{K:Ex}{F:Hp}(r:RepM K F H M)(s:subM N M):RepM K F H N:=#[s.2,λa o h=>r.ok a o (s.1 _ h),λa h=>r.fr a (s.keys h)]
def GrowM.sub{F F' H':Hp}{M':MS}(g:GrowM M M' F H F' H')(s:subM N M'):GrowM M N F H F' H':=#[g.ff,g.fh,g.hh,g.out,λb h=>g.ks b (s.keys h)]
def fL(S:SpM):SpM:=λds M R RX=>∃(R0:D->MS->Prop) (v6:XDM),S ds M R0 v6/\R=(λd M'=>∃N,subM N M'/\R0 d N)/\RX=λx fs M'=>∃N,subM N M'/\v6 x fs N
def kY{K:Ex}{S:SpM}{vs:List V}{Q:VK}{E:XK}(h:lSpM K S vs H Q E):lSpM K (fL S) vs H Q E:=by
 let#[F,ds,M,fh,rs,rm,R,RX,hS,q,qx]:=h;refine#[F,ds,M,fh,rs,rm,_,_,#[R,RX,hS,rfl,rfl],λd v M' F' H' g hd rd m'=>?_,λx fs C od M' F' H' g hR er m'=>?_]
 .let#[N,s,hd]:=hd;exact q d v N F' H' (g.sub s) hd rd (m'.sub s)
 .let#[N,s,hR]:=hR;exact qx x fs C od N F' H' (g.sub s) hR er (m'.sub s)
section
variable {P:SB}{w:TJ}{K:Ex}{mg:J7->Option KB}{base:Heap}{n:Nat}{x m:J7}{ps:List J7}{S:SpM}
def CalMM.drop(C:CalMM P w K mg base n x ps (fL S)):CalMM P w K mg base n x ps S:=C.imp λ_ _ _ _ h=>kY h
def CalMth.drop(C:CalMth P w K mg base n x m ps (lSpM K (fL S))):CalMth P w K mg base n x m ps (lSpM K S):=C.imp λ_ _ _ _ h=>kY h
def CalMth.lendD{S:SpD}(C:CalMth P w K mg base n x m ps (lSp K S)):CalMth P w K mg base n x m ps (lSpM K (My.lend λds R _=>S ds R)):=C.imp λ_ _ _ _ h=>by
 let#[F,ds,fh,rs,R,RX,hS,q,_]:=A7 h;exact#[F,ds,fh,rs,R,hS,q]
def Txm.okDW{qual:J7}{st:TF}{N:List J7}{k:Nat}{S:SpD}(T:Txm K x m qual st ps)(F:FnScope N ps (ah st))(len:∀ds R,S ds R->ds.length=ps.length)
  (a9:∀(f:KF) (cdv:KB) (A:TK) (outer:List Uw) (s:KM) (H:Hp) (E:XK) (J:Jx),Room k (A.deeper (TY qual (ah st) s.heap.objs.size f cdv))->
   ∃t,WDSs (cxOf (CX1 P w) P w K mg base N qual (ah st) f cdv A outer s H E).nox (aL st) t/\∀ds R,S ds R->t {nx:=λ_=>R .non,rt:=R} (startD N ds)):CalMth P w K mg base (k+1) x m ps (lSp K S):=by
 let#[C,f,fd,h1,h2,h3,T,hb]:=T;exact#[C,f,fd,h1,h2,h3,L2.Fun.okDW T F len (a9 f),hb]
end
def ir(P:SB)(w:TJ)(K:Ex)(mg:J7->Option KB)(base:Heap)(n:Nat)(x m:J7)(ps:List J7)(dd:List D)(sp:Sp):Prop:=
 ∃C f fd g6 t6,nsIn K Pi x=be (be (.ref C))/\Cls K C/\Meth K C m f/\FnOk P w K mg base (CX1 P w) n f fd ps sp/\Binds K fd ps t6/\Vals g6 t6/\∀F,Reps K F dd g6
section
variable {X:Cx}{k:Nat}{f:KF}{fd:TQ}{ps:List J7}{sp:Sp}{E:XK}
def Dc{pins:List (KF×T5)}{σ:L2.St}{H:Hp}{s:KM}{Q:VK}{us t6:List KB}{vs g6:List V}(F:FnOk X.prog X.w X.K X.mg X.base (CX1 X.prog X.w) k f fd ps sp)(hr:Room k X.A)(hb:Binds X.K fd ps t6)(hd:Vals g6 t6)
  (hx:∀e s',CX1 X.prog X.w X.stack H s E e s'->X.xe e s') (I:Inv X pins σ H s) (r:Vals vs us) (h:sp (vs++g6) H Q E):TC (SL X.prog X.w) X.A (call (.ref f) us) (EP X pins σ Q) X.xe s:=by
 have r2:=r.append hd;have hl:(us++t6).length=ps.length:=by rw[<-L2.Vals.length r2];exact F.len _ _ _ _ h
 have i6:=hb s us I.kIn hl;refine Ue (Ub (F.run X.A X.stack s H #[us,[]] (us++t6) (vs++g6) Q E hr I.env0 i6 r2 h) λr s' hq=>?_);cases r with
 |error e=>exact hx e s' hq
 |ok fl=>
  cases fl with
  |ret u=>exact I.after hq
  |next=>exact False.elim hq
  |brk=>exact False.elim hq
  |cont=>exact False.elim hq
end
section
variable {X:Cx}[J:Jm]{a b c e o:SZ}{ta tb te:TME}{pos p b7 a8:TX}{n m:Nat}{ps:List J7}{S:SpM}{x:J7}{es:List SZ}{t:TMA}
def Dd(x m:J7)(dd:List D)(S:SpM)(to:TME):TME:=λz M R=>to z M λd M1=>∃fs,dA M1 d x fs/\fs.lookup m=x8/\S (d::dd) M1 R λx fs M'=>J.RM z M' x fs
def De{nm:J7}{dd:List D}{pl:Vj Bool}(C:ir X.prog X.w X.K X.mg X.base n x nm ps dd (lSpM X.K S))(hx:XOkM X)(hr:Room m X.A)(ho:ME X o te)(f_:(X.ex=[])\zA0)(hn:(n<=m)\zA1)
  (ht:TR (.Call (.Attribute o nm b7) [] [] pos) X.env=(do
   let ov <-TR o X.env
   UG b7.atName
   let (f,first) <-UH [ov] (UO ov nm pl)
   Vp pos f first (Uy pos (TL [] X.env)) (UU pos (UB [] X.env))):=by rfl):
  ME X (.Call (.Attribute o nm b7) [] [] pos) (Dd x nm dd S te):=by
 refine#[λpins s σ H Q I h=>?_];let#[Fr,z,M,k,rs,R,h1,h2]:=h;refine methodCall_KW (pl:=pl) (thn (ho.out pins s σ H (λv H1=>∃d M1 F1,GrowM M M1 Fr H F1 H1/\Rep X.K F1 d v/\RepM X.K F1 H1 M1/\∃fs,dA M1 d x fs/\fs.lookup nm=x8/\S (d::dd) M1 R λx fs M'=>J.RM z M' x fs) I #[Fr,z,M,k,rs,_,h1,λd v M1 F1 H1 g1 hd rd m1=>#[d,M1,F1,g1,rd,m1,hd]]) λu s1 hh=>?_) ht;let#[v,H1,I1,rv,d,M1,F1,g1,rd,m1,fs,hi,hl,hq]:=hh;let#[C',f,fd,g6,t6,hns,j5,Kz,F,hb,hd,Si]:=C;let#[a,C2,dx,ws,rfl,p9,hH,rf]:=ig g1.fh m1 rd hi;rw[hns]at p9;cases p9;obtain rfl:u=Value.ref a:=rv;refine jv I1 hH j5 Kz (rf.none hl) ?_;refine callWith_K0 (first:=[.ref a]) I1.kIn Kz.kp (Dc (E:=EX X z σ) (us:=[.ref a]) (vs:=[.ref a]) F (hr.mono hn) hb hd (λe s' hq=>hx.out f_ I1 hq) I1 (.cons rfl .nil) ?_);exact ii k rs g1 m1 (reps_cons.mpr #[_,_,rfl,rd,Si F1]) hq h2
def Df(ta tb:TME):TME:=λz M R=>ta z M λx M1=>tb z M1 λy M2=>kdP x λa=>kdP y λb=>∃ds es,mget M2 a=be (.lst ds)/\mget M2 b=be (.lst es)/\ds.length+es.length<=100000/\∀p,p∉av M2->R (.ptr p) ((p,.lst (ds++es))::M2)
def Dg(ha:ME X a ta)(hb:ME X b tb):ME X (.BinOp a .Add b pos) (Df ta tb):=⟨(gD qE ha.out hb.out).anti λs H Q h=>by
 let#[F,z,M,k,rs,R,h1,h2]:=h;refine#[F,z,M,k,rs,_,h1,λx u M1 F1 H1 g1 hx rx m1=>?_];refine#[F1,z,M1,k.growM rs.mb g1,rs.growM k.bh g1 m1,_,hx,λy v M2 F2 H2 g2 hy ry m2=>?_];let#[p,rfl,Ov]:=kdP.of hy;let#[q,rfl,ds,es,hm,K4,hl,hR]:=kdP.of Ov
 focus
  let#[us,hH,ru]:=m2.ok _ _ (br hm);let#[vs,Mt,rv]:=m2.ok _ _ (br K4);refine#[p,q,us,vs,rep_ptr.mp rx,rep_ptr.mp ry,hH,Mt,by rw[ru.length,rv.length];exact GD hl K3,λr hr=>?_];exact h2 _ _ _ F2 _ ((g1.trans g2).trans (GrowM.new g2.fh hr)) (hR r λz=>m2.here z hr) (rep_ptr.mpr rfl) (m2.new g2.fh hr #[_,aB,ru.append rv])⟩
def mSlP(ta:TME)(tl th:TMO):TME:=λz M R=>ta z M λx M1=>tl z M1 λlo M2=>th z M2 λhi M3=>match x with|.ptr a=>∃ds,mget M3 a=be (.lst ds)/\∀p,p∉av M3->R (.ptr p) ((p,.lst (cutD ds lo hi))::M3)|_=>False
def Dh{lo hi:Option SZ}{tl th:TMO}{p2:TX}(ha:ME X a ta)(hl:MPO X lo tl)(hu:MPO X hi th):ME X (.Subscript a (.Slice lo hi x8 p2) pos) (mSlP ta tl th):=⟨(gI gJ ha.out hl.out hu.out).anti λs H Q q=>by
 let#[F,z,M,k,rs,R,h1,h2]:=q;refine#[F,z,M,k,rs,_,h1,λx u M1 F1 H1 g1 hx rx m1=>?_];have k1:=k.growM rs.mb g1;have r1:=rs.growM k.bh g1 m1;refine#[F1,z,M1,k1,r1,_,hx,λlo M2 F2 H2 g2 hy m2=>?_];refine#[F2,z,M2,k1.growM r1.mb g2,r1.growM k1.bh g2 m2,_,hy,λhi M3 F3 H3 g3 hw m3=>?_];have g:=g1.trans (g2.trans g3);split at hw
 .rename_i l;let#[ds,hm,hR]:=hw;let#[us,hH,ru]:=m3.ok _ _ (br hm);refine#[l,us,rep_ptr.mp rx,SqL.of hH,λr hr=>?_];exact h2 _ _ _ F3 _ (g.trans (GrowM.new g3.fh hr)) (hR r λz=>m3.here z hr) (rep_ptr.mpr rfl) (m3.new g3.fh hr #[_,aB,ru.cut _ _])
 .exact hw.elim⟩
def Di(to:TME):TME:=λz M R=>to z M λo M1=>match o with|.ptr a=>∃ds d,mget M1 a=be (.lst ds)/\ds[ds.length-1]?=be d/\R d (mput M1 a (.lst ds.dropLast))|_=>False
def vg(ho:ME X o ta)(b8:(TM o "pop" X.env (TR o X.env)=TR o X.env)\zA0)(c5:((b7.endLine==a8.line)=true)\zA0):ME X (.Call (.Attribute o "pop" b7) [] [] a8) (Di ta):=⟨(yf PySem.F.plainAttrs_list PySem.F.slot_list_pop PySem.F.type_list_pop yk ho.out b8 c5).anti λs H Q q=>by
 let#[F,z,M,k,rs,R,h1,h2]:=q;refine#[F,z,M,k,rs,_,h1,λx u M1 F1 H1 g1 hx rx m1=>?_];split at hx
 .rename_i l;let#[ds,d,hm,hl,hR]:=hx;let#[us,hH,ru]:=m1.ok _ _ (br hm);let#[v,hv,rv]:=ru.get hl;rw[rep_ptr.mp rx];exact#[.inl #[rfl,us,SqL.of hH],l,us,v,rfl,rfl,hH,by rw[ru.length];exact hv,h2 _ _ _ F1 _ (g1.trans (GrowM.put g1.fh (m1.fr l (bJ (br hm))) hm)) hR rv (m1.put hm #[_,aB,ru.init])]
 .exact hx.elim⟩
end
section
variable {K:Ex}{x m q:J7}{st:TF}{ps:List J7}
def MdIn(K:Ex)(x m q:J7)(st:TF)(i:Int):Prop:=∃C f fd T,NsC K x C/\Meth K C m f/\FunG K (.ref T) m q st f fd/\∃tc td n ts t,K.lookup T=be #[tc,td,.seq [.int i t].toArray n,ts]
def mdIn_mk{C f T:KF}{i:Int}{oc tc:KB}{od an td:Option KF}{sl ts:Array (Option KB)}{n:Nat}{t:VF}{kV dc pm cd ct:KB}(a:nsIn K Pi x=be (be (.ref C)))(b:GE K (.ref C) m=be (be (.ref f)))(j:isFn K (.ref f)=true)(l:K.lookup f=be #[oc,od,.func (fnOf m q (bC st) (aL st) (ah st) (.ref T) kV dc pm an cd ct),sl])(c:codeIn K cd q=true)(k:keepIn K (.ref f)=true)
  (d:K.lookup T=be #[tc,td,.seq [.int i t].toArray n,ts]):MdIn K x m q st i:=#[C,f,_,T,a,#[b,j,k],#[#[_,_,_,_,_,_,_,_,_,rfl,l,c],k],_,_,_,_,_,d]
def Dj(m q:J7)(st:TF)(x0 x1:J7):Prop:=∀(s:KM) (T:KF) (o:T5) (its:Array KB) (n:Nat) (v:KB) (kV doc pm:KB) (an:Option KF) (cdv ct u0 u1:KB),s.heap.get? T=be o->o.data=.seq [v].toArray n->
 UJ s (fnOf m q (bC st) (aL st) (ah st) (.ref T) kV doc pm an cdv ct) #[[u0,u1],[]] [(x0,u0),(x1,u1)]/\UJ s (fnOf m q (bC st) (aL st) (ah st) (.ref T) kV doc pm an cdv ct) #[[u0],[]] [(x0,u0),(x1,v)]
def Txd(K:Ex)(x m qual:J7)(st:TF)(ps:List J7)(dd:List D):Prop:=
 ∃C f fd dV g6 t6,nsIn K Pi x=be (be (.ref C))/\Cls K C/\Meth K C m f/\FunG K dV m qual st f fd/\Binds K fd ps []/\Binds K fd ps t6/\Vals g6 t6/\∀F,Reps K F dd g6
def MdIn.txd{i:Int}{x0 x1:J7}(T:MdIn K x m q st i)(c:ClIn K x)(b:Dj m q st x0 x1):Txd K x m q st [x0,x1] [.int i]:=by
 let#[C,k]:=c;let#[D,f,fd,T,a,mt,F,tc,td,n,ts,t,hT]:=T;cases NsC.uniq k.ns a;have F':=F;let#[oc,od,kV,doc,pm,an,cdv,ct,osl,rfl,lk,i8]:=F'.ex;refine#[C,f,_,_,[.int i],[.int i t],a,k.cl,mt,F,λs us hK hl=>?_,λs us hK hl=>?_,.cons #[t,rfl] .nil,λF=>reps_cons.mpr #[_,_,rfl,rep_int.mpr rfl,reps_nil.mpr rfl]]
 .rw[G1]at hl ⊢;let#[u0,t0,rfl,h0]:=bD hl;let#[u1,t1,rfl,h1]:=bD h0;cases len_0 h1;exact(b s T _ [].toArray n (.int i t) kV doc pm an cdv ct u0 u1 (hK _ _ hT) rfl).1
 .rw[GF]at hl;have NZ:us.length=[x0].length:=Nat.succ.inj hl;let#[u0,t0,rfl,h0]:=bD NZ;cases len_0 h0;exact(b s T _ [].toArray n (.int i t) kV doc pm an cdv ct u0 u0 (hK _ _ hT) rfl).2
end
section
variable {P:SB}{w:TJ}{K:Ex}{mg:J7->Option KB}{base:Heap}
variable{N ps:List J7}{dd:List My.D}
def Txd.okM{x m qual:J7}{st:TF}{k:Nat}{S:SpM}(T:Txd K x m qual st ps dd)(F:FnScope N ps (ah st))(len:∀ds M R RX,S ds M R RX->ds.length=ps.length)
  (a9:∀(f:KF) (cdv:KB) (A:TK) (outer:List Uw) (s:KM) (H:Hp) (E:XK) (J:Jm),Room k (A.deeper (TY qual (ah st) s.heap.objs.size f cdv))->XOkM (cxOf (CX1 P w) P w K mg base N qual (ah st) f cdv A outer s H E)->
   ∃t,MSs (cxOf (CX1 P w) P w K mg base N qual (ah st) f cdv A outer s H E) (aL st) t/\∀ds M R RX,(∀z,J.RM z=λM' x fs=>RX x fs M')->S ds M R RX->t {nx:=λ_ M'=>R .non M',rt:=R} (startD N ds) M):CalMth P w K mg base (k+1) x m ps (lSpM K S)/\ir P w K mg base (k+1) x m ps dd (lSpM K S):=by
 let#[C,f,fd,dV,g6,t6,h1,h2,h3,T,hb,i6,hv,hd]:=T;have ok:=Fun.okM (P:=P) (w:=w) (mg:=mg) (base:=base) T F len λcdv A outer s H E J hr hx=>a9 f cdv A outer s H E J hr hx;exact#[#[C,f,fd,h1,h2,h3,ok,hb],C,f,fd,g6,t6,h1,h2,h3,ok,i6,hv,hd]
def Txd.okMd{x m qual:J7}{st:TF}{k:Nat}{S:SpM}(T:Txd K x m qual st ps dd)(F:FnScope N ps (ah st))(len:∀ds M R RX,fL S ds M R RX->ds.length=ps.length)
  (a9:∀(f:KF) (cdv:KB) (A:TK) (outer:List Uw) (s:KM) (H:Hp) (E:XK) (J:Jm),Room k (A.deeper (TY qual (ah st) s.heap.objs.size f cdv))->XOkM (cxOf (CX1 P w) P w K mg base N qual (ah st) f cdv A outer s H E)->
   ∃t,MSs (cxOf (CX1 P w) P w K mg base N qual (ah st) f cdv A outer s H E) (aL st) t/\∀ds M R RX,(∀z,J.RM z=λM' x fs=>RX x fs M')->fL S ds M R RX->t {nx:=λ_ M'=>R .non M',rt:=R} (startD N ds) M):CalMth P w K mg base (k+1) x m ps (lSpM K S)/\ir P w K mg base (k+1) x m ps dd (lSpM K S):=by
 let#[a,C,f,fd,g6,t6,h1,h2,h3,ok,hb,hv,hd]:=Txd.okM (S:=fL S) T F len a9;exact#[a.drop,C,f,fd,g6,t6,h1,h2,h3,ok.imp λ_ _ _ _ h=>kY h,hb,hv,hd]
def nilD(S:SpD):SpM:=λds M R _=>M=[]/\∃R0:D->Prop,S ds R0/\R=λd _=>R0 d
def Dk{n:Nat}{f:KF}{fd:TQ}{S:SpD}(F:FnOk P w K mg base (CX1 P w) n f fd ps (lSpM K (nilD S))):FnOk P w K mg base (CX1 P w) n f fd ps (lSp K S):=F.imp λvs H Q E q=>by
 let#[F,ds,fh,rs,R,hS,q1]:=q;exact#[F,ds,[],fh,rs,RepM.nil,_,λ_ _ _=>False,#[rfl,R,hS,rfl],λd v M' F' H' g hd rd _=>q1 d v F' H' (growM_nil g) hd rd,λ_ _ _ _ _ _ _ _ z=>z.elim]
end
section
variable {X:Cx}[J:Jm]{a:SZ}{ta:TME}{tA:TMT}{pos:TX}
def kZ(ha:ME X a ta)(he:(∀g5,isTrue a X.env g5=(do let v <-g5;UG a.pos;UH [v] (truthy v)))\zA3):MT X a (mTru ta):=⟨(qd ha.out he).anti λs H Q q=>by
 let#[F,z,M,k,rs,R,h1,h2]:=q;refine#[F,z,M,k,rs,_,h1,λx u M1 F1 H1 g1 hx rx m1=>?_];split at hx
 .rw[rep_bl.mp rx];exact#[_,rfl,h2 _ M1 F1 H1 g1 hx m1]
 .exact hx.elim⟩
def mNot(tA:TMT):TMT:=λz M R=>tA z M λk M1=>R (!k) M1
def lf(ha:MT X a tA):MT X (.UnaryOp .Not a pos) (mNot tA):=⟨(pI ha.out).anti λs H Q q=>by
 let#[F,z,M,k,rs,R,h1,h2]:=q;exact#[F,z,M,k,rs,_,h1,λk M1 F1 H1 g1 hx m1=>h2 _ M1 F1 H1 g1 hx m1]⟩
end
abbrev Bx.QD(V:Bx)(n:Nat)(x m:J7)(ps:List J7)(S:SpD):Prop:=CalMth V.P V.w V.K V.mg V.base n x m ps (lSp V.K S)
abbrev Bx.Qd(V:Bx)(n:Nat)(x m:J7)(ps:List J7)(dd:List My.D)(S:SpM):Prop:=ir V.P V.w V.K V.mg V.base n x m ps dd (lSpM V.K S)
abbrev Bx.Td(V:Bx)(x m q:J7)(st:TF)(ps:List J7)(dd:List My.D):Prop:=Txd V.K x m q st ps dd
section
variable {X:Cx}[J:Jm]{a b c e o:SZ}{ta tb te:TME}{pos:TX}
def Dl{p p2:TX}{y:J7}{t:String}(hm:X.mg "isinstance"=x8)(N2:X.mg y=x8)(ha:ME X a ta)(hv:T3 y=be (.type t))
  (hk:∀x:D,cQ x=true->kitOne X.K (.type (tyD x)) (.type t)=be (cP t x)) (hg:Gl X "isinstance"\zA0) (Me:Gl X y\zA0) (hn:(y≠"__name__")\zA1) (d9:zND y\zA1)
  (j8:(TL [a,.Name y p2] X.env=(false,TR a X.env)::TL [.Name y p2] X.env)\zA0) (m4:(TL [.Name y p2] X.env=(false,TR (.Name y p2) X.env)::TL [] X.env)\zA0) (c9:((Uy pos (TL [.Name y p2] X.env)).any (·.1)=false)\zA0):ME X (.Call (.Name "isinstance" p) [a,.Name y p2] [] pos) (mUn (rn t) ta):=⟨(dL rk hg hm PyProof.Rows.boot_isinstance (bw ha.out (bw (pD (v:=.ty t) Me N2 hv rfl hn d9) pa_nil m4) j8) K3 K3 j8 c9).anti λs H Q q=>by
 let#[F,z,M,k,rs,R,h1,h2]:=q;refine#[F,z,M,k,rs,_,h1,λx u M1 F1 H1 g1 hx rx m1=>?_];have no:cQ x=true/\R (.bl (cP t x)) M1:=by
  cases x with
  |obj C b=>exact False.elim hx
  |exc C b=>exact False.elim hx
  |ptr b=>exact False.elim hx
  |dti b=>exact False.elim hx
  |_=>exact#[rfl,hx]
 exact#[u,tyD x,t,_,rfl,rl g1.fh rx no.1,hk x no.1,h2 _ _ M1 F1 H1 g1 no.2 (rep_bl.mpr rfl) m1]⟩
def Dm(is:List Nat)(te:TME):TMS:=λE z M=>te z M λx M1=>match x with|.lst ds=>ds.length=is.length/\E.nx (cI is ds z) M1|_=>False
def Dn{es:List SZ}{k:Nat}{is:List Nat}{p:TX}(hc:X.calm=true)(he:ME X e te)(hg:DGs X es is)(hn:((TN es X.env).length=is.length)\zA0)(q8:((TN es X.env).findIdx? (·.1)=none)\zA0)
  (hs:(Um [.Tuple es k p] e pos.line X.env=pure false)\zA0) (hw:(Uo [.Tuple es k p] e X.env=pure none)\zA0) (h1:((TN [.Tuple es k p] X.env).map (·.2)=[UD (.Tuple es k p) X.env])\zA0):MSt X (.Assign [.Tuple es k p] e pos) (Dm is te):=⟨by
 let#[u,hu,kk]:=hg;refine(jn he.out (rM hc hu hn q8) hs hw h1).anti λE s H q=>?_;let#[F0,F,z,M,k,rs,ED,h,e]:=q;refine#[F,z,M,k.kf,rs,_,h,λd v M1 F1 H1 g hd rd m1=>?_];have r1:=rs.growM k.bh g m1;split at hd
 .let#[p,vs,rfl,hq,rr]:=rep_lst.mp rd;exact#[p,vs,rfl,SqL.of (g.fh _ _ hq),by rw[rr.length];exact hd.1,kk _ vs z s J.B F1 H1 _ hd.1 rr r1.rs λs' r'=>e.nx _ _ M1 F1 H1 (k.growM rs.mb g) hd.2 #[r',kF is _ _ z rr r1.no,m1,r1.mb]]
 .exact hd.elim⟩
end
end My
namespace My
section
variable {X:Cx}
def rNeT(K:Ex):R2:=λx y H Q=>∃a b xs ys,x=.ref a/\y=.ref b/\SqT K H a xs/\SqT K H b ys/\xs.all bz=true/\ys.all bz=true/\Q (.bl (!eqVs xs ys)) H
def Do(hu:X.A.units+1<Ux):OpR X (TU .NotEq) (rNeT X.K):=by
 intro pins s σ H x y v u Q I rx ry h;let#[a,b,xs,ys,rfl,rfl,ha,hb,fx,fy,q]:=h;cases rx;cases ry;let#[its,r1,p1,_]:=I.tuple ha;let#[h_,r2,p2,_]:=I.tuple hb;refine SeqAt.RcNeAt.tuples (e:=λj=>eqV (xs.getD j .non) (ys.getD j .non)) p1 p2 KZ (λj h1 h2=>?_) _ _ _ _ #[.bl (!eqVs xs ys),H,I,?_,q]
 .rw[GC]at h1 h2;simp only[Jj];exact eqAt_V (Vals.getD r1 h1) (Vals.getD r2 h2) (flat_getD fx) (flat_getD fy)
 .rw[<-jT,GC,GC,<-L2.Vals.length r1,<-L2.Vals.length r2];rfl
def vh:RD2:=λx y R=>kdT x λxs=>kdT y λys=>(xs.all bo=true/\ys.all bo=true)/\R (.bl (!eqFs xs ys))
def Dp{K:Ex}:bb K (rNeT K) vh:=by
 intro x y u v F H R Q fh h rx ry q;let#[xs,rfl,h2]:=kdT.of h;let#[ys,rfl,#[f1,f2],h3]:=kdT.of h2;let#[a,us,rfl,hq,rr]:=rep_tup_mp rx;let#[b,vs,rfl,m8,x9]:=rep_tup_mp ry;exact#[a,b,us,vs,rfl,rfl,fh.tup hq,fh.tup m8,cR rr f1,cR x9 f2,q _ _ F H (Grow.refl fh) h3 (rep_bl.mpr (by rw[jV rr x9 f1 f2]))]
def Dq(K:Ex):R2:=λx y H Q=>∃a b xs,x=.ref a/\y=.ref b/\SqL K H a xs/\SqL K H b []/\Q (.bl (!xs.isEmpty)) H
def Dr(hu:X.A.units<Ux):OpR X (TU .NotEq) (Dq X.K):=by
 intro pins s σ H x y v u Q I rx ry h;let#[a,b,xs,rfl,rfl,ha,hb,q]:=h;cases rx;cases ry;let#[its,r1,p1,_]:=I.list ha;let#[h_,r2,p2,_]:=I.list hb;have e2:h_=[]:=Hr (L2.Vals.length r2).symm;have e1:=L2.Vals.length r1;subst e2;cases xs with
 |nil=>
  have e3:its=[]:=Hr e1.symm;subst e3;exact SeqAt.RcNeAt.lists (e:=λ_=>true) p1.isList p2.isList rfl hu (λj h1 _=>absurd h1 (HW j)) _ _ _ _ #[.bl false,H,I,rfl,q]
 |cons x xs=>
  refine SeqAt.RcNeAt.lists_lengths p1.isList p2.isList ?_ hu _ _ _ _ #[.bl true,H,I,rfl,q];rw[GC,GC,<-e1];rfl
variable {a b c e:SZ}{ta tb:TD}{pos:TX}
def Ds[Jx](hu:X.A.units+1<Ux)(ha:WDE X a ta)(hb:WDE X b tb):WDT X (.Compare a [.NotEq] [b] pos) (dTst (dOp vh ta tb)):=#[cq (Do hu) Dp ha.out hb.out (nomark _)]
end
section
variable {X:Cx}[J:Jm]{a b c e:SZ}{ta tb te:TME}{pos p2:TX}
def Dt(hu:X.A.units+1<Ux)(ha:ME X a ta)(hb:ME X b tb):MT X (.Compare a [.Eq] [b] pos) (mTst (mOp jW ta tb)):=dS (rq hu) rA ha hb (nomark _)
def Du(ta:TME):TMT:=λz M R=>ta z M λx M1=>match x with|.ptr a=>∃ds,mget M1 a=be (.lst ds)/\R (!ds.isEmpty) M1|_=>False
def vi(hu:X.A.units+1<Ux)(ha:ME X a ta):MT X (.Compare a [.NotEq] [.List [] p2] pos) (Du ta):=⟨(gE (Dr KZ) ha.out (fv (pos:=p2) bp).out (nomark _)).anti λs H Q q=>by
 let#[F,z,M,k,rs,R,h1,h2]:=q;refine#[F,z,M,k,rs,_,h1,λx u M1 F1 H1 g1 hx rx m1=>?_];split at hx
 .rename_i p;let#[ds,hm,hR]:=hx;refine#[F1,z,M1,k.growM rs.mb g1,rs.growM k.bh g1 m1,λy M2=>∃p',p'∉av M1/\y=.ptr p'/\M2=(p',.lst [])::M1,#[K3,λp' hp=>#[p',hp,rfl,rfl]],λy v M2 F2 H2 g2 hy ry m2=>?_];let#[p',hp,rfl,rfl]:=hy;let#[us,hH,ru]:=m2.ok _ _ (Gx _ (br hm));let#[vs,Mt,rv]:=m2.ok _ _ Gz;have ev:=reps_nil.mp rv;subst ev;have e3:us.isEmpty=ds.isEmpty:=by have:=ru.length;cases us<;>cases ds<;>simp at this ⊢
  exact#[p,p',us,rep_ptr.mp rx,rep_ptr.mp ry,SqL.of hH,SqL.of Mt,#[_,rfl,h2 _ _ F2 H2 (g1.trans #[g2.ff,g2.fh,g2.hh,g2.out,λb h=>.inl h]) (by rw[e3];exact hR) #[(G7.mp m2.nd).2,λb o hb=>m2.ok b o (Gx _ hb),λb hb=>m2.fr b (Gx _ hb)]]]
 .exact hx.elim⟩
end
section
variable {X:Cx}{a b:SZ}{ta tb:TD}{pos p2:TX}
def Dv(K:Ex):R2:=λx y H Q=>∃a b xs,x=.ref a/\y=.ref b/\SqL K H a xs/\SqL K H b []/\Q (.bl xs.isEmpty) H
def Dw(hu:X.A.units<Ux):OpR X (TU .Eq) (Dv X.K):=by
 intro pins s σ H x y v u Q I rx ry h;let#[a,b,xs,rfl,rfl,ha,hb,q]:=h;cases rx;cases ry;let#[its,r1,p1,_]:=I.list ha;let#[h_,r2,p2,_]:=I.list hb;have e2:h_=[]:=Hr (L2.Vals.length r2).symm;have e1:=L2.Vals.length r1;subst e2;cases xs with
 |nil=>
  have e3:its=[]:=Hr e1.symm;subst e3;exact SeqAt.RcAt.lists (e:=λ_=>true) p1.isList p2.isList rfl hu (λj h1 _=>absurd h1 (HW j)) _ _ _ _ #[.bl true,H,I,rfl,q]
 |cons x xs=>
  refine SeqAt.RcAt.lists_lengths p1.isList p2.isList ?_ hu _ _ _ _ #[.bl false,H,I,rfl,q];rw[GC,GC,<-e1];rfl
end
section
variable {X:Cx}[J:Jm]{a o e:SZ}{ta to te:TME}{pos p2:TX}
def Dx(ta:TME):TMT:=λz M R=>ta z M λx M1=>kdP x λa=>∃ds,mget M1 a=be (.lst ds)/\R ds.isEmpty M1
def Dy(hu:X.A.units+1<Ux)(ha:ME X a ta):MT X (.Compare a [.Eq] [.List [] p2] pos) (Dx ta):=⟨(gE (Dw LV) ha.out (fv (pos:=p2) bp).out (nomark _)).anti λs H Q q=>by
 let#[F,z,M,k,rs,R,h1,h2]:=q;refine#[F,z,M,k,rs,_,h1,λx u M1 F1 H1 g1 hx rx m1=>?_];let#[p,rfl,ds,hm,hR]:=kdP.of hx;refine#[F1,z,M1,k.growM rs.mb g1,rs.growM k.bh g1 m1,λy M2=>∃p',p'∉av M1/\y=.ptr p'/\M2=(p',.lst [])::M1,#[K3,λp' hp=>#[p',hp,rfl,rfl]],λy v M2 F2 H2 g2 hy ry m2=>?_];let#[p',hp,rfl,rfl]:=hy;let#[us,hH,ru]:=m2.ok _ _ (Gx _ (br hm));let#[vs,Mt,rv]:=m2.ok _ _ Gz;have ev:=reps_nil.mp rv;subst ev;have e3:us.isEmpty=ds.isEmpty:=by have:=ru.length;cases us<;>cases ds<;>simp at this ⊢
 exact#[p,p',us,rep_ptr.mp rx,rep_ptr.mp ry,SqL.of hH,SqL.of Mt,#[_,rfl,h2 _ _ F2 H2 (g1.trans #[g2.ff,g2.fh,g2.hh,g2.out,λb h=>.inl h]) (by rw[e3];exact hR) #[(G7.mp m2.nd).2,λb o hb=>m2.ok b o (Gx _ hb),λb hb=>m2.fr b (Gx _ hb)]]]⟩
def Dz(to te:TME):TME:=λz M R=>to z M λo M1=>kdP o λa=>(∃ds,mget M1 a=be (.lst ds))/\te z M1 λd M2=>kdL d λxs=>∃ds,mget M2 a=be (.lst ds)/\ds.length+xs.length<=100000/\R .non (mput M2 a (.lst (ds++xs)))
def iu{b7 a8:TX}(ho:ME X o to)(he:ME X e te)(j8:zSE X e []\zA0)
  (b8:(TM o "extend" X.env (TR o X.env)=TR o X.env)\zA0)
  (f6:zHF X a8 [e]\zA0)
  (c5:((b7.endLine==a8.line)=true)\zA0):
  ME X (.Call (.Attribute o "extend" b7) [e] [] a8) (Dz to te):=⟨(dq PySem.F.plainAttrs_list PySem.F.slot_list_extend PySem.F.type_list_extend yj ho.out (bw he.out pa_nil j8) b8 f6 c5 j8).anti λs H Q h=>by
 let#[F,z,M,k,rs,R,h1,h2]:=h;refine#[F,z,M,k,rs,_,h1,λx u M1 F1 H1 g1 hx rx m1=>?_];let#[a,rfl,#[R3,Mp],hx]:=kdP.of hx;let#[Ow,Ox,R4]:=m1.ok _ _ (br Mp);rw[rep_ptr.mp rx];refine#[.inl #[rfl,Ow,SqL.of Ox],?_];refine#[F1,z,M1,k.growM rs.mb g1,rs.growM k.bh g1 m1,_,hx,λd v M2 F2 H2 g2 hd rd m2=>?_];let#[xs,rfl,ds,hm,hl,hR]:=kdL.of hd;let#[vs,hH,rr]:=m2.ok _ _ (br hm);let#[l,us,rfl,hq,ru]:=rep_lst.mp rd;refine#[a,l,vs,us,rfl,rfl,hH,g2.fh _ _ hq,?_,?_]
 .rw[rr.length,ru.length];exact GD hl K3
 .exact h2 _ _ _ F2 _ (g1.trans (g2.trans (GrowM.put g2.fh (m2.fr a (bJ (br hm))) hm))) hR (rep_non.mpr rfl) (m2.put hm #[_,aB,rr.append ru])⟩
end
section
variable {X:Cx}[J:Jx]{a b e:SZ}{ta tb te:TD}{pos:TX}
def DB(i:Nat)(ta tb:TD):TSD:=λE z=>ta z λx=>tb z λy=>kdL x λxs=>kdI y λn=>(-(2^62)<=n/\n<=1000000/\xs.length*n.toNat<=1000000)/\E.nx (z.set i (be (.own (GI n.toNat xs).flatten)))
def DC(i:Nat){x:J7}{c8 p2:TX}(hN:X.N.Nodup)(ha:WDE X a ta)(hb:WDE X b tb)(hi:(X.N[i]?=be x)\zA0)(hx:Loc X.env.scope x\zA4)(hs:(T7 (.BinOp a .Mult b p2) (be (.Name x c8)) pos.line X.env=pure false)\zA0)
  (hf:zFN X x\zA2):WDS X (.Assign [.Name x c8] (.BinOp a .Mult b p2) pos) (DB i ta tb):=⟨(gB hN hi hx (gD qF ha.out hb.out) hs hf).anti λE s H q=>by
 let#[B,F0,F,z,k,rs,ED,h,e]:=q;refine#[B,F,z,k.kf,rs,_,h,λx u F1 H1 g1 hx rx=>?_];refine#[B,F1,z,k.kf.grow g1,rs.grow g1,_,hx,λy v F2 H2 g2 hy ry=>?_];let#[xs,rfl,hy]:=kdL.of hy;let#[n,rfl,#[h1,h2,h3],hn]:=kdI.of hy;let#[l,vs,rfl,hq,rr]:=rep_lst.mp (rx.mono g2.ff);refine#[l,_,vs,rfl,rep_int.mp ry,g2.fh _ _ hq,LV,LV,by rw[rr.length];exact GD h3 K3,λp hp=>?_];have k1:=(k.grow g1).grow g2;have r1:=(rs.grow g1).grow g2;have hB:B p=none:=k1.bh.free hp;have hF:F2 p=none:=k1.fh.free hp;refine e.nx _ _ F2 _ #[k1.bh.trans (aQ hp _),k1.fh.trans (aQ hp _),k1.f0,k1.out,k1.eb,k1.jf,k1.jo] hn (r1.setOwn hB hF (Reps.rep rr _) λj dj hj e1 e2=>?_);let#[a,us,q1,q2,_]:=r1.own j dj e1;rw[e2]at q1;cases q1;rw[hp]at q2;cases q2⟩
def dOAugS(i:Nat)(ti te:TD):TSD:=λE z=>match z[i]? with
 |some (be (.own ds))=>ti z λy=>kdI y λk=>∃n:J7,0<=k/\ds[k.toNat]?=be (.str n)/\te z λd=>kdS d λm=>n.length+m.length<=1000000/\E.nx (z.set i (be (.own (ds.set k.toNat (.str (n++m))))))
 |_=>False
def DD(i:Nat){x:J7}{p1 p2:TX}(hb:WDE X b tb)(he:WDE X e te)(hN:(X.N[i]?=be x)\zA0)(hv:Vis X.env.scope x\zA5)(hd:zND x\zA1)
  (i8:zNC x\zA1)
  (ha:(∀ov iv new,augStore b ov iv new=(do UH [new,ov,iv] (setItem ov iv new);release [new,ov,iv] [];pure .next))\zA8):
  WDS X (.AugAssign (.Subscript (.Name x p1) b p2) .Add e pos) (dOAugS i tb te):=⟨(wV (dh hN hv hd i8) hb.out Bc he.out xw xY ha).anti λE s H q=>by
 let#[B,F0,F,z,k,rs,ED,h,e]:=q;unfold dOAugS at h;split at h
 .rename_i ds ez;let#[a,vs,q1,q2,q3,q4,q5]:=rs.own i ds ez;refine#[.ref a,q1,B,F,z,k.kf,rs,_,h,λy w F2 H2 g2 hy ry=>?_];let#[k',rfl,n,k0,en,hn]:=kdI.of hy;have K':F2 a=none:=g2.out a q4 (by rw[q2];exact λz=>nomatch z);let#[v,ev,rv]:=q5.get en;refine#[a,vs,_,v,rfl,rep_int.mp ry,k0,SqL.of (g2.hh _ _ q2),ev,B,F2,z,k.kf.grow g2,rs.grow g2,_,hn,λd u F3 H3 g3 hd rd=>?_];let#[m,rfl,hl,hd]:=kdS.of hd;have r2:=(rs.grow g2).grow g3;have k2:=(k.grow g2).grow g3;have Nj:F3 a=none:=g3.out a K' (by rw[g2.hh _ _ q2];exact λz=>nomatch z);rw[rep_str.mp rv,rep_str.mp rd];have j3:=(GO.mp en).1;refine#[_,_,rfl,rfl,GD hl K3,a,vs,_,k'.toNat,rfl,rep_int.mp ry,g3.hh _ _ (g2.hh _ _ q2),by unfold ixN;rw[q5.length,if_pos k0,if_pos LV],?_];let#[k3,r3]:=r2.change k2 ez q1 q3 Nj (Reps.put (d:=.str _) (v:=.str _) (rep_str.mpr rfl) k'.toNat ((q5.mono g2.ff).mono g3.ff));exact e.nx _ s F3 _ k3 hd r3
 .exact h.elim⟩
end
end My
namespace My
open Exc
abbrev SiX:=KF->List D->(MS->Prop)->XDM->Prop
def lSiX(K:Ex)(C:KF)(S:SiX):Sp:=λvs H Q E=>∃a dx us H1 F ds,vs=.ref a::us/\H=upd (upd H1 dx (.own a)) a (.ins C dx [])/\H1 a=x8/\H1 dx=x8/\dx≠a/\Same F H1/\Reps K F ds us/\
 ∃(R:MS->Prop) (RX:XDM),S a ds R RX/\(∀M' F' H',GrowM [] M' F H1 F' H'->R M'->RepM K F' H' M'->Q .non H')/\∀x fs Cx od M' F' H',GrowM [] M' F H1 F' H'->RX x fs M'->ErrD K F' x fs Cx od->RepM K F' H' M'->E (.ref Cx) od H'
def lh(P:SB)(w:TJ)(K:Ex)(mg:J7->Option KB)(base:Heap)(n:Nat)(x:J7)(ps:List J7)(S:SiX):Prop:=
 ∃C f fd,nsIn K Pi x=be (be (.ref C))/\mg x=be (.ref C)/\Mk K C f/\FnOk P w K mg base (Exc.CX1 P w) n f fd ps (lSiX K C S)/\Binds K fd ps []
section
variable {P:SB}{w:TJ}{K:Ex}{mg:J7->Option KB}{base:Heap}
open Classical in
def Txi.okNX{x qual:J7}{st:TF}{N:List J7}{p0:J7}{ps:List J7}{k:Nat}{S:SiX}(T:Txi K mg x qual st (p0::ps))(F:FnScope N (p0::ps) (ah st))(len:∀a ds R RX,S a ds R RX->ds.length=ps.length)
  (a9:∀(f:KF) (cdv:KB) (A:TK) (outer:List Uw) (s:KM) (H:Hp) (E:XK) (J:Jm),Room k (A.deeper (TY qual (ah st) s.heap.objs.size f cdv))->XOkM (cxOf (CX1 P w) P w K mg base N qual (ah st) f cdv A outer s H E)->
   ∃t,MSs (cxOf (CX1 P w) P w K mg base N qual (ah st) f cdv A outer s H E) (aL st) t/\∀a ds R RX,(∀z,J.RM z=λM' x fs=>RX x fs M')->S a ds R RX->t {nx:=λ_ M'=>R M',rt:=λ_ _=>False} (startD N (.ptr a::ds)) [(a,.ins x [])]):lh P w K mg base (k+1) x (p0::ps) S:=by
 let#[C,f,fd,hns,l9,mk,T,hb]:=T;refine#[C,f,fd,hns,l9,mk,Fun.okC T F (λvs H Q E h=>?_) (λcdv A outer s H vs Q E hr h=>?_),hb]
 .let#[a,dx,us,H1,F,ds,rfl,_,_,_,_,_,rs,R,RX,h,_]:=h;rw[Gy,Gy,rs.length,len a ds R RX h]
 .let#[a,dx,us,H1,F1,ds,rfl,rfl,ha,r_,i7,fh,rs,R,RX,h,q,qx]:=h
  let H:Hp:=upd (upd H1 dx (.own a)) a (.ins C dx [])
  let B:Hp:=λb=>if b=a then x8 else H b
  have Mr:B a=none:=if_pos rfl;have hB:∀{b:KF},b≠a->B b=H b:=λ{b} h=>if_neg h;have p8:∀{b:KF} {o:HO},H1 b=be o->b≠a/\H b=be o:=λ{b o} e=>by
   have n1:b≠a:=bG e ha;exact#[n1,by show upd _ _ _ b=_;rw[ar n1,ar (bG e r_)];exact e]
  letI:Jm:={B:=B,F0:=F1,RX:=λ_ _ _=>False,RM:=λ_ M' x fs=>RX x fs M'}
  have gr:∀{M':MS} {F' H':Hp},Kept B F1 F' H'->(∀b,b∈av M'->B b=x8)->GrowM [] M' F1 H1 F' H':=λ{M' F' H'} kk mb=>⟨kk.f0,kk.fh,λb o _ e=>kk.bh b o (by show B b=be o;rw[hB (p8 e).1];exact(p8 e).2),λb _ h1 h2=>kk.out b h1 (by
   show B b≠x8;cases e:H1 b with
   |none=>exact absurd e h2
   |some o=>rw[hB (p8 e).1,(p8 e).2];exact λz=>nomatch z),λb hb=>by
   cases e:H1 b with
   |none=>exact .inr rfl
   |some o=>
    have h0:B b=none:=mb b hb;rw[hB (p8 e).1,(p8 e).2]at h0;cases h0⟩
  have hx:XOkM (cxOf (CX1 P w) P w K mg base N qual (ah st) f cdv A outer s H E):=by
   intro σ z M' F' H' s' e C od y fs I kk rr hR er ⟨He,ne,_,hx⟩;have hE:E (.ref C) od H':=qx y fs C od M' F' H' (gr kk rr.mb) hR er rr.rm;rcases hx with⟨sl,vs,h1,h2⟩|⟨T,fl,h1,h2,h3,_⟩
   .exact jF I h1 h2 He ne hE
   .exact ki I h1 ne h2 He h3 hE
  let#[t,ht,hq]:=a9 f cdv A outer s H E inferInstance hr hx;have Fa:F1 a=none:=fh.free ha;have k0:Kept B F1 F1 H:=⟨λb o e=>by
   by_cases n:b=a
   .rw[n,Mr]at e;cases e
   .rw[hB n]at e;exact e,λb o e=>(p8 (fh b o e)).2,Same.refl F1,λ_ h _=>h,rfl,Same.refl F1,λ_ h _=>h⟩
  have Kj:Reps K F1 (.ptr a::ds) (.ref a::us):=reps_cons.mpr #[_,_,rfl,rep_ptr.mpr rfl,rs];have OF:RepM K F1 H [(a,.ins x [])]:=⟨by simp[av],λb o hb=>by
   have e:=Gu.mp hb;cases e;exact#[C,dx,[],hns,aB,repf_nil.mpr rfl],λb hb=>by
   have e:b=a:=by simpa[av]using hb
   rw[e];exact Fa⟩
  have r0:RepZ K B F1 H (startD N (.ptr a::ds)) (L2.start N (.ref a::us)) [(a,.ins x [])]:=⟨dM Kj,kE Kj,OF,λb hb=>by
   have e:b=a:=by simpa[av]using hb
   rw[e];exact Mr⟩
  exact#[_,ht.out,F1,F1,_,_,k0,r0,_,hq a ds R RX (λ_=>rfl) h,#[λz' s' M' F' H' kk hn r=>q M' F' H' (gr kk r.mb) hn r.rm,λd v M' F' H' kk hd rd Oz mb=>hd.elim,λ_ _ _ _ _ _ h _=>h.elim,λ_ _ _ _ _ _ h _=>h.elim]]
end
section
variable {X:Cx}{k:Nat}{f C:KF}{fd:TQ}{ps:List J7}{sp:Sp}{E:XK}
def DF{pins:List (KF×T5)}{σ:L2.St}{H:Hp}{s:KM}{Q:VK}{us:List KB}{vs:List V}(M:Mk X.K C f)(F:FnOk X.prog X.w X.K X.mg X.base (CX1 X.prog X.w) k f fd ps sp)(hr:Room (k+1) X.A)(hb:Binds X.K fd ps [])
  (hx:∀x dx s2 e s',Inv X pins σ (upd (upd H dx (.own x)) x (.ins C dx [])) s2->CX1 X.prog X.w X.stack (upd (upd H dx (.own x)) x (.ins C dx [])) s2 E e s'->X.xe e s') (I:Inv X pins σ H s) (r:Vals vs us)
  (h:∀x dx,H x=x8->H dx=x8->dx≠x->sp (.ref x::vs) (upd (upd H dx (.own x)) x (.ins C dx [])) (λv H2=>v=.non/\Q (.ref x) H2) E):
  TC (SL X.prog X.w) X.A (call (.ref C) us) (EP X pins σ Q) X.xe s:=by
 have hq:=h (s.heap.objs.size+1) s.heap.objs.size (I.hok.fresh (Hk _)) (I.hok.fresh (Gv _)) (GH (Iv _));have I2:=Inv.made (C:=C) I;have r2:Vals (V.ref (s.heap.objs.size+1)::vs) (Value.ref (s.heap.objs.size+1)::us):=.cons rfl r;have hl:((Value.ref (s.heap.objs.size+1)::us)++[]).length=ps.length:=by
  have e:=r2.length;rw[F.len _ _ _ _ hq]at e;rw[G1];exact e.symm
 have i6:=hb _ (Value.ref (s.heap.objs.size+1)::us) I2.kIn hl;rw[G1]at i6;refine Ue (qf (f:=f) I.kIn M.makes M.init (beq_iff_eq.mp M.fn) (Ub (F.run _ X.stack _ _ #[Value.ref (s.heap.objs.size+1)::us,[]] (Value.ref (s.heap.objs.size+1)::us) _ _ E (hr.make C us [])
  (I2.env0.make C us []) i6 r2 hq) λr s' m8=>?_))
 cases r with
 |error e=>exact hx _ _ _ e s' I2 m8
 |ok fl=>
  cases fl with
  |ret u=>
   let#[v,H',I3,rv,ev,q3]:=I2.after m8;subst ev;exact#[rv,#[V.ref (s.heap.objs.size+1),H',I3,rfl,q3]]
  |next=>exact False.elim m8
  |brk=>exact False.elim m8
  |cont=>exact False.elim m8
end
section
variable {X:Cx}[J:Jm]{e:SZ}{es:List SZ}{pos p:TX}{n m:Nat}{ps:List J7}{S:SiX}{x:J7}{t:TMA}
def DG(S:SiX)(t:TMA):TME:=λz M R=>t z M λds M1=>∀a,a∉av M1->S a ds (λM'=>R (.ptr a) (M'++M1)) λx fs _=>J.RM z M1 x fs
def vj(M:lh X.prog X.w X.K X.mg X.base n x ps S)(hx:XOkM X)(hr:Room m X.A)(ha:MA X (e::es) t)(f_:(X.ex=[])\zA0)(hg:Gl X x\zA0)(hn:(n+1<=m)\zA1)(d9:zND x\zA1)
  (he:zSE X e es\zA0) (c9:zPL X pos es\zA0):
  ME X (.Call (.Name x p) (e::es) [] pos) (DG S t):=by
 let#[C,f,fd,hns,l9,mk,F,hb]:=M;refine#[λpins s σ H Q I h=>?_];let#[Fr,z,M,k,rs,R,h1,h2]:=h;refine TV (ck I hg l9 ?_ d9);refine callWith_K (h₀:=X.base) I.ok.mod.kin mk.kp (thn (ha.out pos pins s σ H (λvs H1=>∀a dx,H1 a=x8->H1 dx=x8->dx≠a->lSiX X.K C S (.ref a::vs) (upd (upd H1 dx (.own a)) a (.ins C dx [])) (λv H2=>v=.non/\Q (.ref a) H2) (EX X z σ)) I #[Fr,z,M,k,rs,_,h1,λds vs M1 F1 H1 g1 hx rx m1=>?_]) λus s1 hh=>#[hh.elim λ_ h=>h.elim λ_ h=>h.1.kIn,?_]) he c9
 .intro a dx ha r_ i7;have na:a∉av M1:=λz=>m1.here z ha;have k1:=k.growM rs.mb g1;have r1:=rs.growM k.bh g1 m1;refine#[a,dx,vs,H1,F1,ds,rfl,rfl,ha,r_,i7,g1.fh,rx,_,_,hx a na,λM' F' H' g hR m'=>#[rfl,?_],λy fs Cx od M' F' H' g hR er m'=>?_]
  .have hh:∀b o,H1 b=be o->H' b=be o:=λb o e=>g.hh b o (λz=>nomatch z) e;have nk:∀b,b∈av M'->H1 b=none:=λb hb=>(g.ks b hb).elim (λz=>nomatch z) id;refine h2 (.ptr a) (.ref a) _ F' H' (g1.trans #[g.ff,g.fh,λb o _ e=>hh b o e,λb _=>g.out b (λz=>nomatch z),λb hb=>?_]) hR (rep_ptr.mpr rfl) #[?_,λb o hb=>?_,λb hb=>?_]
   .rcases keys_app.mp hb with z|z
    .exact .inr (nk b z)
    .exact .inl z
   .unfold av;rw[GW];exact HH.mpr #[m'.nd,m1.nd,λb h1 c h2 e=>m1.here (e ▸ h2) (nk b h1)]
   .rcases GS.mp hb with z|z
    .exact m'.ok b o z
    .exact(m1.ok b o z).mono g.ff λo e=>hh b o e
   .rcases keys_app.mp hb with z|z
    .exact m'.fr b z
    .exact g.out b (λz=>nomatch z) (m1.fr b z) (m1.here z)
  .have hh:∀b o,H1 b=be o->H' b=be o:=λb o e=>g.hh b o (λz=>nomatch z) e;have g2:GrowM M1 M1 F1 H1 F' H':=#[g.ff,g.fh,λb o _ e=>hh b o e,λb _=>g.out b (λz=>nomatch z),λb hb=>.inl hb];have m2:RepM X.K F' H' M1:=#[m1.nd,λb o hb=>(m1.ok b o hb).mono g.ff λo e=>hh b o e,λb hb=>g.out b (λz=>nomatch z) (m1.fr b hb) (m1.here hb)];exact#[y,fs,Cx,M1,F',rfl,k1.growM r1.mb g2,r1.growM k1.bh g2 m2,hR,er]
 let#[vs,H1,I1,r,q]:=hh;exact DF mk F (hr.mono hn) hb (λ_ _ _ e s' I2 hq=>hx.out f_ I2 hq) I1 r q
end
abbrev Bx.NX(V:Bx)(n:Nat)(x:J7)(ps:List J7)(S:SiX):Prop:=lh V.P V.w V.K V.mg V.base n x ps S
end My
end
section
namespace My
local macro_rules | `(tactic| k_memK) => `(tactic| exact⟨rfl, rfl, rfl, by decide +kernel, rfl, by decide +kernel, by decide +kernel⟩)
local macro_rules | `(tactic| k_places) => `(tactic| try simp only[IR, IS, My.cI])
open PySem PySem.Spec PyProof.Rows L2
def top(i:Nat):Stmt:=PySem.Challenge.pw_motiffield_k42_whole_refusals.main.body.getD i (.Pass #[0,0,0,0])
abbrev ll:TF:=top 58
abbrev lm:List Str:=["_law_script","_law_k"]
def DJ:FnScope ["_law_script","_law_k"] lm (ah ll):=L_
abbrev lp:TF:=top 61
abbrev lr:List Str:=["_law_script","_law_k","_law_many"]
def sc__law_draws:FnScope ["_law_script","_law_k","_law_many","_law_left","_law_drawn","_law_turn","_law_seed"] lr (ah lp):=L_
abbrev lu:TF:=top 62
abbrev lv:List Str:=["_law_draws_here"]
def sc__law_shift_pair:FnScope ["_law_draws_here","_law_a","_law_b","_law_c","_law_d"] lv (ah lu):=L_
abbrev lx:TF:=top 64
abbrev ly:List Str:=["_law_draws_here"]
def sc__law_lines:FnScope ["_law_draws_here","_law_wide","_law_tall","_law_signs","_law_lines_here","_law_j","_law_line","_law_i","_law_place","_law_value"] ly (ah lx):=L_
abbrev lz:TF:=top 63
abbrev lC:List Str:=["_law_lines_here","_law_one","_law_two"]
def sc__law_motif_text:FnScope ["_law_lines_here","_law_one","_law_two","_law_tail"] lC (ah lz):=L_
abbrev iw:TF:=top 65
abbrev lD:List Str:=["_law_part","_law_draw"]
def sc__law_wrapped:FnScope ["_law_part","_law_draw","_law_across","_law_down","_law_old","_law_new","_law_shift","_law_head","_law_ways","_law_by","_law_leaves","_law_leaf","_law_a","_law_b","_law_c","_law_d","_law_e","_law_f","_law_way","_law_hues"] lD (ah iw):=L_
abbrev lF:TF:=top 79
abbrev lG:List Str:=["_law_script"]
def sc__law_pile:FnScope ["_law_script","_law_part","_law_line","_law_k","_law_draws_here","_law_one","_law_two","_law_lines_here","_law_leaf","_law_other"] lG (ah lF):=L_
abbrev lH:TF:=top 76
abbrev lJ:List Str:=[]
def sc__law_all_signs:FnScope ["_law_signs"] lJ (ah lH):=L_
abbrev lK:TF:=top 77
abbrev lM:List Str:=["_law_draw"]
def DK:FnScope ["_law_draw"] lM (ah lK):=L_
abbrev iy:TF:=top 78
abbrev lN:List Str:=["_law_text","_law_kind","_law_place","_law_draws_here"]
def sc__law_spoiled:FnScope ["_law_text","_law_kind","_law_place","_law_draws_here","_law_k","_law_sign_here","_law_other","_law_line","_law_lines_here"] lN (ah iy):=L_
abbrev lQ:TF:=top 72
abbrev lR:List Str:=["_law_waits","_law_sign_here","_law_deep"]
def sc__law_begins:FnScope ["_law_waits","_law_sign_here","_law_deep","_law_pair","_law_inner"] lR (ah lQ):=L_
abbrev lU:TF:=top 73
abbrev lV:List Str:=["_law_waits","_law_sign_here","_law_wide","_law_have","_law_done"]
def DL:FnScope ["_law_waits","_law_sign_here","_law_wide","_law_have","_law_done"] lV (ah lU):=L_
abbrev lW:TF:=top 74
abbrev lY:List Str:=["_law_waits","_law_sign_here"]
def sc__law_takes:FnScope ["_law_waits","_law_sign_here","_law_top"] lY (ah lW):=L_
abbrev lZ:TF:=top 75
abbrev md:List Str:=["_law_text"]
def sc__law_wrong_place:FnScope ["_law_text","_law_waits","_law_k"] md (ah lZ):=L_
abbrev me:TF:=top 67
abbrev mf:List Str:=["_law_a","_law_b"]
def sc__law_gcd:FnScope ["_law_a","_law_b"] mf (ah me):=L_
abbrev mi:TF:=top 66
abbrev mj:List Str:=["_law_one","_law_two","_law_u","_law_v"]
def sc__law_on:FnScope ["_law_one","_law_two","_law_u","_law_v","_law_size"] mj (ah mi):=L_
abbrev ml:TF:=top 69
abbrev mm:List Str:=["_law_leaf"]
def sc__law_leaf_family:FnScope ["_law_leaf","_law_a","_law_b","_law_c","_law_d","_law_e","_law_f","_law_one","_law_two","_law_high","_law_wide","_law_lean"] mm (ah ml):=L_
abbrev mn:TF:=top 68
abbrev mo:List Str:=["_law_three","_law_x","_law_y"]
def DM:FnScope ["_law_three","_law_x","_law_y"] mo (ah mn):=L_
abbrev mv:TF:=top 70
abbrev mx:List Str:=["_law_one","_law_two"]
def sc__law_both:FnScope ["_law_one","_law_two","_law_wide","_law_high","_law_x"] mx (ah mv):=L_
abbrev my:TF:=top 71
abbrev mz:List Str:=["_law_leaves"]
def sc__law_family:FnScope ["_law_leaves","_law_both_here","_law_leaf"] mz (ah my):=L_
abbrev mB:TF:=aY (top 3) 0
abbrev mC:List Str:=["self","place"]
def DN:FnScope ["self","place"] mC (ah mB):=L_
abbrev mD:TF:=aY (top 33) 1
abbrev mF:List Str:=["self","allowed"]
def DO:FnScope ["self","allowed"] mF (ah mD):=L_
abbrev mG:TF:=aY (top 33) 2
abbrev mH:List Str:=["self","allowed"]
def sc_Reading_take:FnScope ["self","allowed","sign"] mH (ah mG):=L_
abbrev mI:TF:=top 36
abbrev mJ:List Str:=["reading","least","most"]
def sc_line_from:FnScope ["reading","least","most","line","column"] mJ (ah mI):=L_
abbrev mK:TF:=top 37
abbrev mL:List Str:=["reading"]
def sc_lines_from:FnScope ["reading","lines","width"] mL (ah mK):=L_
abbrev mM:TF:=top 34
abbrev mN:List Str:=["reading"]
def sc_number_from:FnScope ["reading","written"] mN (ah mM):=L_
abbrev mQ:TF:=top 35
abbrev mR:List Str:=["reading"]
def sc_shift_from:FnScope ["reading","x"] mR (ah mQ):=L_
abbrev mU:TF:=top 10
abbrev mV:List Str:=["first","second"]
def sc_levelled:FnScope ["first","second","times","rest"] mV (ah mU):=L_
abbrev mW:TF:=top 12
abbrev mY:List Str:=["first","second"]
def sc_spread:FnScope ["first","second","pair","width"] mY (ah mW):=L_
abbrev mZ:TF:=top 13
abbrev nh:List Str:=["family","x","y"]
def sc_home:FnScope ["family","x","y","width","height","slant"] nh (ah mZ):=L_
abbrev nj:TF:=top 19
abbrev nq:List Str:=["lines","family"]
def sc_hues_by_home:FnScope ["lines","family","hues","row","line","column","sign"] nq (ah nj):=L_
abbrev nt:TF:=aY (top 20) 0
abbrev nu:List Str:=["self","place","lines","first","second"]
def DP:FnScope ["self","place","lines","first","second"] nu (ah nt):=L_
abbrev nv:TF:=top 38
abbrev ny:List Str:=["reading"]
def sc_motif_from:FnScope ["reading","place","lines","first","second"] ny (ah nv):=L_
abbrev nz:TF:=aY (top 23) 0
abbrev nA:List Str:=["self","form"]
def DQ:FnScope ["self","form"] nA (ah nz):=L_
abbrev nB:TF:=aY (top 24) 0
abbrev nC:List Str:=["self","form"]
def DR:FnScope ["self","form"] nC (ah nB):=L_
abbrev nD:TF:=aY (top 21) 0
abbrev nE:List Str:=["self","above","below"]
def DU:FnScope ["self","above","below"] nE (ah nD):=L_
abbrev nF:TF:=aY (top 22) 0
abbrev nG:List Str:=["self","form","x","y"]
def DV:FnScope ["self","form","x","y"] nG (ah nF):=L_
abbrev nH:TF:=aY (top 25) 0
abbrev nI:List Str:=["self","form","old","new"]
def DY:FnScope ["self","form","old","new"] nI (ah nH):=L_
abbrev iz:TF:=top 39
abbrev gv:List Str:=["reading","around"]
def sc_over_from:FnScope ["reading","around","above","below"] gv (ah iz):=L_
abbrev iA:TF:=top 40
abbrev gw:List Str:=["reading","around"]
def sc_shifted_from:FnScope ["reading","around","shift"] gw (ah iA):=L_
abbrev iB:TF:=top 41
abbrev gx:List Str:=["reading","around"]
def sc_rehue_from:FnScope ["reading","around","old","new"] gx (ah iB):=L_
abbrev iC:TF:=top 42
abbrev cN:List Str:=["reading","around"]
def sc_form_from:FnScope ["reading","around","sign"] cN (ah iC):=L_
abbrev nJ:TF:=aY (top 33) 0
abbrev nK:List Str:=["self","text"]
def DZ:FnScope ["self","text"] nK (ah nJ):=L_
abbrev nM:TF:=aY (top 32) 0
abbrev nN:List Str:=["self","text","shifts","form"]
def D0:FnScope ["self","text","shifts","form"] nN (ah nM):=L_
abbrev nO:TF:=aY (top 4) 0
abbrev nP:List Str:=["self","place"]
def D1:FnScope ["self","place"] nP (ah nO):=L_
abbrev nQ:TF:=top 11
abbrev nR:List Str:=["one","two"]
def sc_measure:FnScope ["one","two","last"] nR (ah nQ):=L_
abbrev nS:TF:=top 14
abbrev nU:List Str:=["one","two"]
def sc_met:FnScope ["one","two","common","width","rise","start","gap","climbs","steps"] nU (ah nS):=L_
abbrev nV:TF:=top 15
abbrev nW:List Str:=["family"]
def D2:FnScope ["family"] nW (ah nV):=L_
abbrev nX:TF:=top 16
abbrev nY:List Str:=["family"]
def D3:FnScope ["family"] nY (ah nX):=L_
abbrev iD:TF:=aY (top 20) 1
abbrev cF:List Str:=["self"]
def D4:FnScope ["self"] cF (ah iD):=L_
abbrev iE:TF:=aY (top 21) 1
abbrev iF:List Str:=["self"]
def sc_Over_family:FnScope ["self","first"] iF (ah iE):=L_
abbrev iG:TF:=aY (top 22) 1
abbrev iH:List Str:=["self"]
def D5:FnScope ["self"] iH (ah iG):=L_
abbrev iI:TF:=aY (top 23) 1
abbrev iJ:List Str:=["self"]
def D6:FnScope ["self"] iJ (ah iI):=L_
abbrev iK:TF:=aY (top 24) 1
abbrev iL:List Str:=["self"]
def D7:FnScope ["self"] iL (ah iK):=L_
abbrev iM:TF:=aY (top 25) 1
abbrev iN:List Str:=["self"]
def D8:FnScope ["self"] iN (ah iM):=L_
abbrev nZ:TF:=top 43
abbrev oa:List Str:=["text"]
def sc_read:FnScope ["text","reading","form","family"] oa (ah nZ):=L_
abbrev og:TF:=top 59
abbrev oh:List Str:=["_law_found"]
def D9:FnScope ["_law_found"] oh (ah og):=L_
abbrev oi:TF:=aY (top 56) 0
abbrev oj:List Str:=["self","text","width","height"]
def Ea:FnScope ["self","text","width","height"] oj (ah oi):=L_
abbrev ol:TF:=top 45
abbrev om:List Str:=["x","y"]
def Eb:FnScope ["x","y"] om (ah ol):=L_
abbrev iO:TF:=aY (top 20) 2
abbrev cG:List Str:=["self","x","y"]
def Ec:FnScope ["self","x","y"] cG (ah iO):=L_
abbrev iP:TF:=aY (top 21) 2
abbrev iQ:List Str:=["self","x","y"]
def sc_Over_shows:FnScope ["self","x","y","hue"] iQ (ah iP):=L_
abbrev iR:TF:=aY (top 22) 2
abbrev iS:List Str:=["self","x","y"]
def Ed:FnScope ["self","x","y"] iS (ah iR):=L_
abbrev iT:TF:=aY (top 23) 2
abbrev iU:List Str:=["self","x","y"]
def Ee:FnScope ["self","x","y"] iU (ah iT):=L_
abbrev iV:TF:=aY (top 24) 2
abbrev iW:List Str:=["self","x","y"]
def Ef:FnScope ["self","x","y"] iW (ah iV):=L_
abbrev iX:TF:=aY (top 25) 2
abbrev iY:List Str:=["self","x","y"]
def sc_Rehue_shows:FnScope ["self","x","y","hue"] iY (ah iX):=L_
abbrev oq:TF:=top 46
abbrev ot:List Str:=["pattern","x","y"]
def Eg:FnScope ["pattern","x","y"] ot (ah oq):=L_
abbrev ou:TF:=top 51
abbrev ow:List Str:=["one","two","width","height"]
def sc_first_unlike:FnScope ["one","two","width","height","y","x"] ow (ah ou):=L_
abbrev oy:TF:=aY (top 8) 0
abbrev oz:List Str:=["self","x","y"]
def Eh:FnScope ["self","x","y"] oz (ah oy):=L_
abbrev oA:TF:=aY (top 56) 1
abbrev oB:List Str:=["self","word"]
def Ei:FnScope ["self","word"] oB (ah oA):=L_
abbrev oC:TF:=aY (top 56) 2
abbrev oE:List Str:=["self","pattern"]
def Ej:FnScope ["self","pattern"] oE (ah oC):=L_
abbrev oF:TF:=aY (top 56) 4
abbrev oG:List Str:=["self","text"]
def sc_Floor_change:FnScope ["self","text","pattern","cell"] oG (ah oF):=L_
abbrev oH:TF:=top 80
abbrev oI:List Str:=["_law_door","_law_text","_law_floor"]
def sc__law_answer:FnScope ["_law_door","_law_text","_law_floor","_law_made","_law_told","_law_e"] oI (ah oH):=L_
abbrev oJ:TF:=top 60
abbrev oK:List Str:=["_law_found","_law_due"]
def sc__law_numbers:FnScope ["_law_found","_law_due","_law_k"] oK (ah oJ):=L_
abbrev iZ:TF:=top 47
abbrev oM:List Str:=["pattern","x","y","many"]
def El:FnScope ["pattern","x","y","many"] oM (ah iZ):=L_
abbrev ja:TF:=aY (top 56) 7
abbrev oN:List Str:=["self"]
def Em:FnScope ["self"] oN (ah ja):=L_
abbrev oO:TF:=aY (top 56) 3
abbrev jb:List Str:=["self","many"]
def sc_Floor_lay:FnScope ["self","many","ahead"] jb (ah oO):=L_
abbrev jc:TF:=top 81
abbrev oP:List Str:=["_law_script"]
def sc_law:FnScope ["_law_script","_law_part","_law_line","_law_text","_law_due","_law_kind","_law_k","_law_floor","_law_door","_law_told","_law_made"] oP (ah jc):=L_
structure Pat.Wide(p:Pat)(N:Int):Prop where
 wf:p.Wf
 area:p.Area N
 cal:p.Cal
variable{p:Pat}
def Pat.Area.le{M N:Int}(h:p.Area M)(e:M<=N):p.Area N:=by
 let#[w,k,s,f,b]:=h;exact#[w,k,s,f,LV]
variable{L:List J7}
def En{a b c d:Int}(h:(Pat.mot L a b c d).Wf):(Pat.mot L a b c d).Wide 288:=by
 let#[hL,ha,hb,hc,hd,hn]:=h;let#[w,k,s,q,f]:=kO (L:=L) hn;refine#[#[hL,ha,hb,hc,hd,hn],#[w,k,s,f,?_],trivial];have kc:=q.cells;unfold B12 at*;have m1:=bB (a:=a) (d:=d) (A:=12) (B:=12) LV LV;have m2:=bB (a:=b) (d:=c) (A:=12) (B:=12) LV LV;omega
namespace Pat.Wide
variable {p q:Pat}{M N:Int}
def over(h:p.Wide M)(k:q.Wide N)(hM:M<=33554432)(hN:N<=33554432):(Pat.over p q).Wide (M*N):=by
 refine#[#[h.wf,k.wf],?_,h.cal,k.cal,λ_ _=>#[h.area.le hM,k.area.le hN]];let#[w1,h1,s1,f1,b1]:=h.area;let#[w2,h2,s2,f2,b2]:=k.area;let#[g,u,M1]:=cX w1 w2;let#[k',u',M2]:=cX h1 h2;let#[gg,v9,M3]:=cX g (h1*h2/k'/h2*s2-h1*h2/k'/h1*s1);have MR:=im f1.f.w0 f2.f.w0 f1.f.h0 f2.f.h0 M1 M2 M3;refine#[_,_,_,Pat.Fam.over f1 f2 MR,?_];have c:=MR.cells;have A0:=MR.A0;have wp:=GN MR.w0 MR.h0;generalize (w1*w2/g)*(h1*h2/k'*(g/gg))=x at*;generalize k'*gg=A at*;have e1:=IL (show 1<=A by omega) (show 0<=x by omega);have p1:=GN f1.f.w0 f1.f.h0;have p2:=GN f2.f.w0 f2.f.h0;have e2:=JO b1 b2 (Int.le_of_lt p2) LV;rw[<-Int.mul_assoc]at e2;omega
def sh(a b:Int)(ha:B12 a)(hb:B12 b)(h:p.Wide N):(Pat.sh a b p).Wide N:=by
 let#[w,k,s,f,q]:=h.area;exact#[#[ha,hb,h.wf],#[w,k,s,f.sh a b,q],h.cal]
def hue(f g:Int)(hf:1<=f/\f<=6)(hg:1<=g/\g<=6)(h:p.Wide N):(Pat.hue f g p).Wide N:=by
 let#[w,k,s,F,q]:=h.area;exact#[#[hf,hg,h.wf],#[w,k,s,F.hue f g,q],h.cal]
def mir(h:p.Wide N):(Pat.mir p).Wide N:=by
 let#[w,k,s,f,q]:=h.area;exact#[h.wf,#[w,k,_,f.mir,q],h.cal]
def tur(h:p.Wide N)(hN:N<=33554432):(Pat.tur p).Wide N:=#[h.wf,h.area.tur,h.cal,λ_=>h.area.le hN]
end Pat.Wide
def Pat.marks:Pat->Nat->List (Bool×Nat)
 |.mot _ a b c d,k=>[(decide (a*d=b*c),k)]
 |.over p q,k=>p.marks (k+1)++q.marks (k+1+p.tl.length+1)
 |.sh a b p,k=>p.marks (k+1+(numL a).length+1+(numL b).length+1)
 |.mir p,k=>p.marks (k+1)
 |.tur p,k=>p.marks (k+1)
 |.hue _ _ p,k=>p.marks (k+3)
def Pat.flags:Pat->List Bool
 |.mot _ a b c d=>[decide (a*d=b*c)]
 |.over p q=>p.flags++q.flags
 |.sh _ _ p=>p.flags
 |.mir p=>p.flags
 |.tur p=>p.flags
 |.hue _ _ p=>p.flags
def aT:List Nat->Nat->List Nat
 |[],_=>[]
 |c::l,k=>if c=91 then k::aT l (k+1)else aT l (k+1)
def jd:∀(a b:List Nat) (k:Nat),aT (a++b) k=aT a k++aT b (k+a.length):=by
 intro a;induction a with
 |nil=>intro b k;rfl
 |cons c a ih=>
  intro b k;rw[G5,aT,aT,ih,Gy,show k+1+a.length=k+(a.length+1)by lia];split<;>rfl
def vk:∀{a:List Nat} (k:Nat),(∀c∈a,c≠91)->aT a k=[]:=by
 intro a;induction a with
 |nil=>intro k _;rfl
 |cons c a ih=>
  intro k h;rw[aT,if_neg (h c Gz)];exact ih _ λc q=>h c (Gx _ q)
variable{c k:Nat}{l:List Nat}
def cx(h:c≠91):aT (c::l) k=aT l (k+1):=by rw[aT,if_neg h]
def Eo{a:Int}(h:B12 a):∀c∈numL a,c≠91:=λc q z=>by
 rcases num_chars h c q with e|e<;>lia
def posOf_num{a:Int}(h:B12 a)(l:List Nat)(k:Nat):aT (numL a++l) k=aT l (k+(numL a).length):=by
 rw[jd,vk _ (Eo h),HP]
def Pat.flags_of:∀k,(p.marks k).map (·.1)=p.flags:=by
 induction p with
 |mot=>intro k;rfl
 |over p q i j=>intro k;rw[Pat.marks,GW,i,j];rfl
 |sh a b p i=>intro k;exact i _
 |mir p i=>intro k;exact i _
 |tur p i=>intro k;exact i _
 |hue f g p i=>intro k;exact i _
def Pat.line_marks:∀k,p.lineAt k=((p.marks k).find? (·.1)).map (·.2):=by
 induction p with
 |mot L a b c d=>
  intro k;rw[Pat.lineAt,Pat.marks];by_cases h:a*d=b*c<;>simp[h]
 |over p q i j=>
  intro k;rw[Pat.lineAt,Pat.marks,List.find?_append,i];cases(p.marks (k+1)).find? (·.1)with
  |none=>exact j _
  |some x=>rfl
 |sh a b p i=>intro k;exact i _
 |mir p i=>intro k;exact i _
 |tur p i=>intro k;exact i _
 |hue f g p i=>intro k;exact i _
def find_marks:∀M:List (Bool×Nat),(M.find? (·.1)).map (·.2)=(M.map (·.2))[(M.map (·.1)).findIdx id]?:=by
 intro M;induction M with
 |nil=>rfl
 |cons x M ih=>
  let#[b,k]:=x;rw[Hx,GK,GK,Hy];cases b with
  |true=>rfl
  |false=>exact ih
def Pat.marks_pos:∀k,p.Syn->(p.marks k).map (·.2)=aT p.tl k:=by
 induction p with
 |mot L a b c d=>
  intro k h;let#[hL,ha,hb,hc,hd]:=h;show[k]=aT (motL _ a b c d) k;have r0:∀c∈rowsL (L.map cs),c≠91:=λc q z=>by
   let#[w,_,hw]:=hL.wide;rcases rowsL_chars (λx hx=>by let#[l,hl,rfl]:=GV.mp hx;exact(hw l hl).2) c q with e|e
   .unfold isSign at e;lia
   .lia
  rw[motL,aT,if_pos rfl,jd,vk _ r0,HP,cx K3,posOf_num ha,cx K3,posOf_num hb,cx K3,posOf_num hc,cx K3,posOf_num hd];rfl
 |over p q i j=>
  intro k h;rw[Pat.marks,GW,i _ h.1,j _ h.2];show _=aT (40::(p.tl++124::(q.tl++[41]))) k;rw[cx K3,jd,cx K3,jd];have e:aT [41] (k+1+p.tl.length+1+q.tl.length)=[]:=rfl;rw[e,G1]
 |sh a b p i=>
  intro k h;rw[Pat.marks,i _ h.2.2];show _=aT (115::(numL a++44::(numL b++58::p.tl))) k;rw[cx K3,posOf_num h.1,cx K3,posOf_num h.2.1,cx K3]
 |mir p i=>intro k h;rw[Pat.marks,i _ h];rfl
 |tur p i=>intro k h;rw[Pat.marks,i _ h];rfl
 |hue f g p i=>
  intro k h;rw[Pat.marks,i _ h.2.2];show _=aT (104::(numL f++(numL g++p.tl))) k;rw[hueL h.1,hueL h.2.1];have e1:(48+f).toNat≠91:=by have:=h.1;lia
  have e2:(48+g).toNat≠91:=by have:=h.2.1;lia
  show _=aT (104::(48+f).toNat::(48+g).toNat::p.tl) k;rw[cx K3,cx e1,cx e2]
def Pat.line_at(h:p.Syn):p.lineAt 0=(aT p.tl 0)[p.flags.findIdx id]?:=by
 rw[Pat.line_marks,find_marks,Pat.marks_pos 0 h,Pat.flags_of]
def Pat.flags_len(h:p.Syn):(aT p.tl 0).length=p.flags.length:=by
 rw[<-Pat.marks_pos 0 h,<-Pat.flags_of 0,GB,GB]
def Ep:∀{l:List Nat} {o i:Nat} {r:List Nat},aT l o=i::r->∃j,i=o+j/\l[j]?=be 91/\(∀m,m<j->l[m]?≠be 91)/\aT (l.drop (j+1)) (i+1)=r:=by
 intro l;induction l with
 |nil=>intro o i r h;cases h
 |cons c l ih=>
  intro o i r h;rw[aT]at h;split at h
  .rename_i e;injection h with h1 h2;subst e h1;exact#[0,rfl,rfl,λm hm=>absurd hm (HW m),h2]
  .rename_i e;let#[j,h1,h2,h3,h4]:=ih h;refine#[j+1,KZ,h2,λm hm=>?_,h4];cases m with
   |zero=>exact λz=>e (Option.some.inj z)
   |succ m=>exact h3 m KZ
variable{i:Nat}
def atC{t:J7}:StrLaws.At t #[[c].toArray] t.length i↔(cs t)[i]?=be c:=by
 have e:Builtin.Str.subAt t #[[c].toArray] i=(((cs t).drop i).take 1==[c]):=StrLaws.subAt_eq t #[[c].toArray] i;have e2:((cs t).drop i).take 1=[c]↔(cs t)[i]?=be c:=by
  rw[List.take_one,List.head?_drop];cases(cs t)[i]?<;>simp
 unfold StrLaws.At;rw[e,beq_iff_eq,e2];refine#[λh=>h.2,λh=>#[?_,h]];have:=(GO.mp h).1;rw[bF]at this;exact this
def Er{t:J7}{o:Nat}{r:List Nat}(h:aT ((cs t).drop o) o=i::r):∃k rest,Builtin.Str.occurrences t "[" (PySem.fromIndex t.length (o:Int)) t.length 1=k::rest/\k=i/\o<=i/\aT ((cs t).drop (i+1)) (i+1)=r:=by
 let#[j,rfl,h2,h3,h4]:=Ep h;rw[IT]at h2;rw[JQ]at h4;have e:PySem.fromIndex t.length (o:Int)=o:=by
  unfold PySem.fromIndex;rw[if_neg KZ];lia
 rw[e];have a0:StrLaws.At t #[[91].toArray] t.length (o+j):=atC.mpr h2;refine(StrLaws.occ_head_from t #[[91].toArray] o 1 (Gv _)).elim (λz=>absurd a0 (z.2 _ KZ)) λz=>?_;let#[k,rest,e1,h5,h6,h7]:=z;refine#[k,rest,e1,?_,KZ,h4];rcases Nat.lt_trichotomy k (o+j)with q|q|q
 .have:=atC.mp h6;refine absurd ?_ (h3 (k-o) KZ);rw[IT,show o+(k-o)=k by lia];exact this
 .exact q
 .exact absurd a0 (h7 _ KZ q)
structure Pat.Wid(p:Pat)(N:Int):Prop where
 syn:p.Syn
 cal:p.Cal
 area:p.Wf->p.Area N
def Es{a b c d:Int}(h:(Pat.mot L a b c d).Syn):(Pat.mot L a b c d).Wid 288:=#[h,trivial,λw=>(En w).area]
namespace Pat.Wid
variable {p q:Pat}{M N:Int}
def over(h:p.Wid M)(k:q.Wid N)(hM:M<=33554432)(hN:N<=33554432):(Pat.over p q).Wid (M*N):=
 #[#[h.syn,k.syn],#[h.cal,k.cal,λw v=>#[(h.area w).le hM,(k.area v).le hN]],λw=>(Pat.Wide.over #[w.1,h.area w.1,h.cal] #[w.2,k.area w.2,k.cal] hM hN).area]
def sh(a b:Int)(ha:B12 a)(hb:B12 b)(h:p.Wid N):(Pat.sh a b p).Wid N:=#[#[ha,hb,h.syn],h.cal,λw=>(Pat.Wide.sh (p:=p) a b ha hb #[w.2.2,h.area w.2.2,h.cal]).area]
def hue(f g:Int)(hf:1<=f/\f<=6)(hg:1<=g/\g<=6)(h:p.Wid N):(Pat.hue f g p).Wid N:=#[#[hf,hg,h.syn],h.cal,λw=>(Pat.Wide.hue (p:=p) f g hf hg #[w.2.2,h.area w.2.2,h.cal]).area]
def mir(h:p.Wid N):(Pat.mir p).Wid N:=#[h.syn,h.cal,λw=>(Pat.Wide.mir (p:=p) #[w,h.area w,h.cal]).area]
def tur(h:p.Wid N)(hN:N<=33554432):(Pat.tur p).Wid N:=#[h.syn,#[h.cal,λw=>(h.area w).le hN],λw=>(Pat.Wide.tur (p:=p) #[w,h.area w,h.cal] hN).area]
end Pat.Wid
def Own1(q:Pat×Bool):Prop:=q.1.Wid 288/\q.1.depth<=2/\q.1.flags=[q.2]
def Built(fs:List Bool)(n:Nat)(P:Pat):Prop:=P.Wid (288^n)/\P.depth<=1+n/\P.flags=fs
def Built.one{q:Pat×Bool}(h:Own1 q):Built [q.2] 1 q.1:=#[h.1,h.2.1,h.2.2]
variable{P:Pat}
def Built.left{fs:List Bool}{n:Nat}{q:Pat×Bool}(hn:n<=3)(n1:1<=n)(h:Built fs n P)(k:Own1 q):Built (fs++[q.2]) (n+1) (.over P q.1):=by
 have nb:(288:Int)^n<=33554432:=by
  rcases(KZ:n=1\/n=2\/n=3)with rfl|rfl|rfl<;>decide
 refine#[?_,?_,?_]
 .rw[Int.pow_succ];exact h.1.over k.1 nb K3
 .rw[Pat.depth];have:=h.2.1;have:=k.2.1;lia
 .rw[Pat.flags,h.2.2,k.2.2]
def Et(qs:List (Pat×Bool)):(qs.map λq=>D.bl q.2).any (λy=>eqF y (.bl true))=(qs.map (·.2)).any id:=by
 induction qs with
 |nil=>rfl
 |cons q qs ih=>
  rw[GK,GK,HE,HE,ih];let#[p,b]:=q;cases b<;>rfl
def flat_bl(qs:List (Pat×Bool)):(qs.map λq=>D.bl q.2).all bo=true:=by
 induction qs with
 |nil=>rfl
 |cons q qs ih=>rw[GK,Hd,ih];rfl
def Eu(qs:List (Pat×Bool)):(qs.map λq=>D.bl q.2).findIdx (λw=>eqF w (.bl true))=(qs.map (·.2)).findIdx id:=by
 induction qs with
 |nil=>rfl
 |cons q qs ih=>
  rw[GK,GK,Hy,Hy,ih];let#[p,b]:=q;cases b<;>rfl
def line_none(h:P.Syn)(e:P.lineAt 0=x8):P.flags.any id=false:=by
 rw[Pat.line_at h]at e;have h1:=List.getElem?_eq_none_iff.mp e;rw[Pat.flags_len h]at h1;cases c:P.flags.any id with
 |false=>rfl
 |true=>
  let#[x,hx,z]:=JT.mp c;have:=JU.mpr #[x,hx,z];lia
def Ev(h:P.Syn)(e:P.lineAt 0=be i):P.flags.any id=true/\P.flags.findIdx id<P.flags.length/\(aT P.tl 0)[P.flags.findIdx id]?=be i:=by
 rw[Pat.line_at h]at e;have h1:=(GO.mp e).1;rw[Pat.flags_len h]at h1;let#[x,hx,z]:=JU.mp h1;exact#[JT.mpr #[x,hx,z],h1,e]
def Ew{x q:J7}{st:TF}(b:∀(kV doc pm:KB) (an:Option KF) (cdv ct:KB),Us (fnOf x q (bC st) (aL st) (ah st) .none kV doc pm an cdv ct) #[[],[]]=pure []):BindA x q st []:=λkV doc pm an cdv ct us hl=>by
 cases len_0 hl;exact b kV doc pm an cdv ct
def Wt.D:Wt->My.D
 |.sign c=>.tup [.str "sign",.str #[[c].toArray]]
 |.pat d=>.tup [.str "pattern",.int d]
 |.lin w h k=>.tup [.str "lines",.int w,.int h,.int k]
 |.hue=>.tup [.str "hue"]
 |.num=>.tup [.str "number"]
 |.fig=>.tup [.str "figure"]
 |.more=>.tup [.str "more"]
def wtL(st:List Wt):List My.D:=st.reverse.map Wt.D
def bV(x:Wt)(r:List Wt):wtL (x::r)=wtL r++[x.D]:=by
 unfold wtL;rw[List.reverse_cons,GW];rfl
def cy(r:List Wt):(wtL r).length=r.length:=by unfold wtL;simp
variable{o:MO}
def aX{p:KF}{M:MS}:mget ((p,o)::M) p=be o:=if_pos rfl
variable{o':MO}
def cb{p:KF}{M:MS}:mput ((p,o)::M) p o'=(p,o')::M:=if_pos rfl
variable{b:Nat}
def chr_eq{a:Nat}:decide ((#[[a].toArray]:J7)=#[[b].toArray])=decide (a=b):=by
 by_cases h:a=b
 .rw[h];simp
 .have:¬((#[[a].toArray]:J7)=#[[b].toArray]):=λz=>h (by cases z;rfl);rw[decide_eq_false h,decide_eq_false this]
def cz{a:Nat}(h:decide ((#[[a].toArray]:J7)=#[[b].toArray])=true):a=b:=by
 rw[chr_eq]at h;exact of_decide_eq_true h
def cO{a:Nat}(h:¬decide ((#[[a].toArray]:J7)=#[[b].toArray])=true):a≠b:=by
 rw[chr_eq]at h;exact λe=>h (decide_eq_true e)
def iteN{A B:Prop}{k:Bool}(e:k=false)(b:B):if k=true then A else B:=by rw[e];exact b
def Ey{x:Wt}{r st:List Wt}(h:aF (x::r) c=be st):st.length<=r.length+9:=by
 cases x
 all_goals rw[aF]at h
 all_goals (try unfold aZ at h)
 all_goals (try unfold goesOn at h)
 all_goals repeat' split at h
 all_goals first|(cases h;done)|(cases h;simp[motW];done)|(cases h;simp;done)|(cases h;simp;lia)|(cases h;lia)
def Wt.tup(x:Wt):∃xs,x.D=.tup xs/\xs.all bo=true/\eqFs xs [.str "more"]=decide (x=.more):=by
 have n1:decide (("sign":J7)="more")=false:=KK
 have n2:decide (("pattern":J7)="more")=false:=KK
 have n3:decide (("lines":J7)="more")=false:=KK
 have n4:decide (("hue":J7)="more")=false:=KK
 have n5:decide (("number":J7)="more")=false:=KK
 have n6:decide (("figure":J7)="more")=false:=KK
 cases x with
 |sign c=>exact#[_,rfl,rfl,by show(decide (("sign":J7)="more")&&_)=_;rw[n1];rfl]
 |pat c=>exact#[_,rfl,rfl,by show(decide (("pattern":J7)="more")&&_)=_;rw[n2];rfl]
 |lin a b c=>exact#[_,rfl,rfl,by show(decide (("lines":J7)="more")&&_)=_;rw[n3];rfl]
 |hue=>exact#[_,rfl,rfl,by show(decide (("hue":J7)="more")&&_)=_;rw[n4];rfl]
 |num=>exact#[_,rfl,rfl,by show(decide (("number":J7)="more")&&_)=_;rw[n5];rfl]
 |fig=>exact#[_,rfl,rfl,by show(decide (("figure":J7)="more")&&_)=_;rw[n6];rfl]
 |more=>exact#[_,rfl,rfl,KK]
def Ez{xs:List D}{d:D}:atI (xs++[d]) (-1)=be d:=by
 have e:ixN (xs++[d]).length (-1)=be xs.length:=by
  rw[GF,H9];unfold ixN;simp;lia
 unfold atI;rw[e];simp
def oQ(l:List Nat):cs (#[l.toArray]:J7)=l:=K8
variable{y:J7}
def EA{a:Nat}(h:a<=b):(Txt.slice y (be (a:Int)) (be (b:Int))).length<=b-a:=by
 rw[<-bF,slice_cps,oQ,HT.sIx_nat,HT.sIx_nat,Hl];lia
def vm:(Txt.slice y x8 (be (k:Int))).length<=k:=by
 rw[<-bF,slice_cps,oQ,HT.sIx_none,HT.sIx_nat,Hl];lia
def len_from:(Txt.slice y (be (k:Int)) x8).length<=y.length-k:=by
 rw[<-bF,slice_cps,oQ,HT.sIx_none,HT.sIx_nat,Hl];by_cases h:k<=y.length
 .lia
 .lia
def je{i:Int}(h0:0<=i)(h1:i<l.length):∃c,atI l i=be c:=by
 have:atI l ((i.toNat:Nat):Int)=be (l[i.toNat]' KZ):=dm (GP KZ);rw[HX h0]at this;exact#[_,this]
def jg{b:Nat}:∀{L:List J7},(∀s∈L,s.length<=b)->(L.map (·.length)).sum<=L.length*b
 |[],_=>GT _
 |x::L,h=>by
  have:=jg (L:=L) λs hs=>h s (Gx _ hs);have hx:=h x Gz;rw[GK,JH,Gy,Ia];lia
def vn{sep:J7}(h:∀s∈L,s.length<=b):(Txt.join sep L).length<=L.length*b+L.length*sep.length:=by
 have e:Txt.join sep L=Str.join sep L:=StrLaws.glued_eq_join _ _;rw[e];have:=StrLaws.join_length_le sep L;have:=jg h;lia
def nown(z:SD):Bool:=z.all λo=>match o with|some (.own _)=>false|_=>true
def NoOwn.of{z:SD}(h:nown z=true):NoOwn z:=λi ds e=>by
 have:=Ho.mp h _ (HN e);cases this
structure Deed where
 w:J7
 p:Pat
 d:D
 l:Int
def Deed.D(e:Deed):My.D:=.tup [.str e.w,e.d,.int e.l]
structure Fl where
 p:Pat
 d:D
 w:Int
 h:Int
 l:Int
 ds:List Deed
def Fl.fs(f:Fl)(q:KF):List (J7×D):=[("pattern",f.d),("text",.str f.p.text),("width",.int f.w),("height",.int f.h),("laid",.int f.l),("deeds",.ptr q)]
def Fl.M(f:Fl)(a q:KF):MS:=[(q,.lst (f.ds.map Deed.D)),(a,.ins "Floor" (f.fs q))]
variable{a:KF}
def eE{p:KF}{M:MS}(h:p≠a):mget ((p,o)::M) a=mget M a:=if_neg h
def cH{M:MS}:mget ((a,o)::M) a=be o:=if_pos rfl
def eF{p:KF}{M:MS}(h:p≠a):mput ((p,o)::M) a o'=(p,o)::mput M a o':=if_neg h
def df{M:MS}:mput ((a,o)::M) a o'=(a,o')::M:=if_pos rfl
variable{q:KF}{f:Fl}
def Fl.ma(h:a≠q):mget (f.M a q) a=be (.ins "Floor" (f.fs q)):=(eE (Ne.symm h)).trans cH
def Fl.mq:mget (f.M a q) q=be (.lst (f.ds.map Deed.D)):=cH
def Fl.put(h:a≠q):mput (f.M a q) a o=[(q,.lst (f.ds.map Deed.D)),(a,o)]:=(eF (Ne.symm h)).trans (congrArg _ df)
def oR:(f.fs q).lookup ("pattern":J7)=be f.d:=rfl
def vo:(f.fs q).lookup ("width":J7)=be (.int f.w):=rfl
def EB:(f.fs q).lookup ("height":J7)=be (.int f.h):=rfl
def gy:(f.fs q).lookup ("laid":J7)=be (.int f.l):=rfl
def EC:(f.fs q).lookup ("deeds":J7)=be (.ptr q):=rfl
structure Fl.Ok(f:Fl):Prop where
 is:bv f.p f.d
 ok:f.p.Ok
 w1:1<=f.w
 w2:f.w<=30
 h1:1<=f.h
 h2:f.h<=30
 l0:0<=f.l
 l1:f.l<=f.h
 de:f.ds.length<=20
 dd:∀e∈f.ds,bv e.p e.d/\e.p.Ok/\0<=e.l/\e.l<=f.h
def Fl.keep(f:Fl)(w:J7):Fl:={f with ds:=(f.ds++[Deed.mk w f.p f.d f.l]).drop (f.ds.length+1-20)}
def Fl.lay(f:Fl)(n:Int):Fl:={f.keep "lay" with l:=f.l+n}
def Fl.stand(f:Fl)(p:Pat)(d:D):Fl:={f with p:=p,d:=d}
def subM.refl{M:MS}(h:(av M).Nodup):subM M M:=#[λ_ h=>h,h]
def Fl.nd(h:a≠q):(av (f.M a q)).Nodup:=by
 show[q,a].Nodup;simp[Ne.symm h]
def Fl.sub(h:a≠q):subM (f.M a q) (f.M a q):=subM.refl (Fl.nd h)
def EE(xs:List D):cutD xs (be (-20)) x8=xs.drop (xs.length-20):=by
 have e:HT.sIx xs.length 0 (be (-20))=xs.length-20:=by
  unfold HT.sIx;simp;lia
 unfold cutD;rw[e,show HT.sIx xs.length xs.length x8=xs.length from rfl];exact Jr K8
def bM(p:Pat)(w lo:Int)(n:Nat):List D:=(GQ n).map λ(j:Nat)=>D.str (gq p 0 (lo+(j:Int)) w.toNat)
def vp(p:Pat)(w lo:Int)(n:Nat):bM p w lo n++[D.str (gq p 0 (lo+(n:Int)) w.toNat)]=bM p w lo (n+1):=by
 unfold bM;rw[IG,GW];rfl
def EF(p:Pat)(w lo:Int)(n:Nat):cu (.lst (bM p w lo n))=true:=by
 unfold cu;induction n with
 |zero=>rfl
 |succ n ih=>
  rw[<-vp];have:∀xs:List D,flats xs=true->flats (xs++[D.str (gq p 0 (lo+(n:Int)) w.toNat)])=true:=λxs=>by
   induction xs with
   |nil=>intro _;rfl
   |cons x xs ih=>intro h;unfold flats at h;rw[GY]at h;show flats (x::(xs++_))=true;unfold flats;rw[h.1,ih h.2];rfl
  exact this _ ih
def EG(p:Pat)(w:Int){l:Int}(n:Nat)(l0:0<=l):cutD (bM p w 0 (l.toNat+n)) (be l) x8=bM p w l n:=by
 have hl:(bM p w 0 (l.toNat+n)).length=l.toNat+n:=by unfold bM;simp
 have e:HT.sIx (l.toNat+n) 0 (be l)=l.toNat:=by
  unfold HT.sIx;simp only;rw[if_neg KZ];lia
 unfold cutD;rw[hl,e,show HT.sIx (l.toNat+n) (l.toNat+n) x8=l.toNat+n from rfl];unfold bM;apply Ig;intro i;by_cases h:i<n
 .rw[IY KZ,IT,GU,GU,JV KZ,JV h];simp;congr 1;lia
 .rw[Hq (by simp;lia),Hq (by simp;lia)]
variable{R:My.D->Prop}
def S_read.mono{ds:List D}{R':D->Prop}{RX QI:XD}(h:S_read ds R RX)(hR:∀d,R d->R' d)(hX:∀x fs,RX x fs->QI x fs):S_read ds R' QI:=by
 rcases h with⟨t,k,e,h1,h2,h3⟩|⟨p,e,h1,h2,h3,h4,h5,h6⟩
 .exact .inl #[t,k,e,h1,h2,hX _ _ h3]
 .exact .inr #[p,e,h1,h2,h3,λk z=>hX _ _ (h4 k z),λa b=>hX _ _ (h5 a b),λa b d i=>hR d (h6 a b d i)]
def oS{RX:XD}(ok:p.Ok)(h:∀d,bv p d->R d):S_read [.str p.text] R RX:=(CY ok h).mono (λ_ h=>h) λ_ _ z=>z.elim
def ErrW(w:J7)(k:Int):XD:=λx fs=>(x="WrongSign"/\w="wrong"/\fs=[(("place":J7),D.int k)])\/(x="OneLine"/\w="line"/\fs=[(("place":J7),D.int k)])\/(x="TooGreat"/\w="great"/\k=-1/\fs=[])
def Bad(t:J7)(w:J7)(k:Int):Prop:=S_read [.str t] (λ_=>False) (ErrW w k)
def dueD(w:J7)(k:Int):D:=if k=-1 then .tup [.str w]else .tup [.str w,.int k]
def cj:D:=.tup [.str "good"]
def vq:∀(l:List Nat) (k:Nat),(aT l k).length<=l.length
 |[],_=>Gv 0
 |c::l,k=>by
  rw[aT];have:=vq l (k+1);split
  .rw[Gy,Gy];lia
  .rw[Gy];lia
def NI(o:Option D):Prop:=o=x8\/∃k:Int,o=be (.int k)
def vt:(Pat.mot ["1"] 1 0 0 1).Ok:=by
 have b0:B12 0:=by unfold B12;decide
 have b1:B12 1:=by unfold B12;decide
 exact#[#[#[K3,1,K3,λl hl=>by rw[Gu.mp hl];exact#[rfl,λc hc=>by rw[Gu.mp hc];exact .inr #[K3,K3]]],b1,b0,b0,b1,K3],K3,Pat.fits_mot b1 b0 b0 b1 K3]
section
variable {V:Bx}
abbrev jh(V:Bx):Prop:=V.D 1 "_law_at" lm Bv
def EH(T:V.T "_law_at" ll lm)(uB:V.m "len"):jh V:=by
 refine Tx.okDW T DJ (λds R h=>?_) (λ_ _ _ _ _ _ _ J hr=>⟨_,((aj (bt (eZ (aa 1) (cB uB (ac (aa 0) ae))) (aw (aG (ag (aa 0) (aa 1)))) bg)
   (aw (aG ad)))),λds R h=>?_⟩)
 .let#[ns,k,rfl,_]:=h;rfl
 .let#[ns,k,rfl,hk,hR]:=h;refine ite2 (λc=>?_) (λc=>?_)
  .have c':=of_decide_eq_true c;rw[GB]at c';exact#[_,tF hk c',hR]
  .have c':=of_decide_eq_false (G4.mpr c);rw[GB]at c';rw[Bu KZ]at hR;exact hR
abbrev oU(V:Bx):Prop:=V.D 2 "_law_draws" lr BI
def EI(T:V.T "_law_draws" lp lr)(uA:V.m "range")(uM:jh V):oU V:=by
 refine Tx.okDW T sc__law_draws (λds R h=>?_) (λ_ _ _ _ _ _ _ J hr=>⟨_,((aj (au 3 sc__law_draws.nd (aK uM hr (ac (aa 0) (ac (aa 1) ae))))
   (aj (gQ 4 sc__law_draws.nd ae)
   (aj (bt (aI (aC (aK uM hr (ac (aa 0) (ac (am (aa 1) ad) ae))) ad) ad) (aj (cS 5 PassesOwn.never rfl sc__law_draws.nd uA (aa 2) (aj (fX 4 (aC (aa 3) ad))
     (aw (au 3 sc__law_draws.nd (bq (aa 3) ad)))))
    (fj 4 (aw (aG (aa 4))))) bg)
   (aj (au 6 sc__law_draws.nd (aC (am (aa 3) ad) ad))
   (aj (cS 5 PassesOwn.never rfl sc__law_draws.nd uA (aa 2) (aj (au 6 sc__law_draws.nd (aC (am (am (aD (aa 6) ad) (aK uM hr (ac (aa 0) (ac (am (am (aa 1) ad) (aC (aa 5) ad)) ae)))) (aa 5)) ad))
    (aw (fX 4 (aC (aC (aD (aa 6) ad) ad) ad)))))
   (fj 4 (aw (aG (aa 4)))))))))),λds R h=>?_⟩)
 .let#[_,_,_,rfl,_]:=h;rfl
 .let#[ns,k,n,rfl,hk,hn,hR]:=h;refine#[λd=>∃v:Int,d=.int v,#[ns,k,rfl,hk,_,rfl],?_];rintro _⟨left,rfl⟩;k_places;refine#[K8,?_];refine#[ns,k+1,rfl,KZ,K3,ite2 (λ_=>?_) (λ_=>?_)]
  .refine#[#[KZ,KZ],λi z=>∃(xs:List Int) (l:Int) (o p:Option D),z=[be (.rol (ns.map D.int)),be (.int k),be (.int n),be (.int l),be (.own (xs.map D.int)),o,p]/\xs.length=i/\Drawn xs,#[[],left,_,_,rfl,rfl,(λx hx=>by cases hx)],?_,?_]
   .rintro i x z hi⟨xs,l,o,p,rfl,hl,hd⟩;k_places;have J3:i<n:=by simpa using(GO.mp hi).1
    refine#[K3,by simp;lia,?_];refine#[λd=>∃v:Int,d=.int v,#[#[K3,K3],_,rfl],?_];rintro _⟨l',rfl⟩;k_places;rw[tI];exact#[_,l',_,_,rfl,by simp[hl],tJ hd (cC K3) (cD K3)]
   .rintro z⟨xs,l,o,p,rfl,hl,hd⟩;k_places;exact hR xs (by simpa using hl) hd
  .refine#[λd=>∃v:Int,d=.int v/\0<=v/\v<2147483647,#[K3,_,rfl,cC K3,cD K3],?_];rintro _⟨OP,rfl,s1,s2⟩;k_places;refine#[#[KZ,KZ],λi z=>∃(xs:List Int) (sd:Int) (o:Option D),z=[be (.rol (ns.map D.int)),be (.int k),be (.int n),be (.int left),be (.own (xs.map D.int)),o,be (.int sd)]/\xs.length=i/\Drawn xs/\0<=sd/\sd<2147483647,#[[],OP,_,rfl,rfl,(λx hx=>by cases hx),s1,s2],?_,?_]
   .rintro i x z hi⟨xs,sd,o,rfl,hl,hd,s1,s2⟩;k_places;have J3:i<n:=by simpa using(GO.mp hi).1
    have ex:x=.int (i:Int):=by simp[J3]at hi;exact hi.symm
    subst ex;refine#[λd=>∃v:Int,d=.int v/\0<=v/\v<2147483647,#[.inr #[K3,K3],K3,ns,_,rfl,KZ,K3,_,rfl,cC K3,cD K3],?_];rintro _⟨Sj,rfl,t1,t2⟩;k_places;refine#[.inr #[K3,K3],K3,K3,by simp;lia,?_];rw[tI];exact#[_,Sj,_,rfl,by simp[hl],tJ hd (cC K3) (cD K3),t1,t2]
   .rintro z⟨xs,sd,o,rfl,hl,hd,_⟩;k_places;exact hR xs (by simpa using hl) hd
abbrev vw(V:Bx):Prop:=V.D 1 "_law_shift_pair" lv BJ
def EJ(T:V.T "_law_shift_pair" lu lv)(uD:V.m "int"):vw V:=by
 refine Tx.okDW T sc__law_shift_pair (λds R h=>?_) (λ_ _ _ _ _ _ _ J hr=>⟨_,((aj (bt (aI (aC (bq (ag (aa 0) ad) ad) ad) ad) (aw (aG (bn (ac (az (ac (am ad (aC (ag (aa 0) ad) ad)) (ac ad ae))) (ac (az (ac ad (ac (am ad (aC (ag (aa 0) ad) ad)) ae))) ae))))) bg)
   (aj (bt (aI (aC (bq (ag (aa 0) ad) ad) ad) ad) (aw (aG (bn (ac (az (ac (am ad (aC (ag (aa 0) ad) ad)) (ac ad ae))) (ac (az (ac (bA (aC (ag (aa 0) ad) ad) ad) (ac (am ad (aC (ag (aa 0) ad) ad)) ae))) ae))))) bg)
   (aj (au 1 sc__law_shift_pair.nd (bA (aC (ag (aa 0) ad) ad) ad))
   (aj (au 2 sc__law_shift_pair.nd (bA (aC (ag (aa 0) ad) ad) ad))
   (aj (au 3 sc__law_shift_pair.nd (bA (aC (ag (aa 0) ad) ad) ad))
   (aj (au 4 sc__law_shift_pair.nd (bA (aC (ag (aa 0) ad) ad) ad))
   (aj (au 1 sc__law_shift_pair.nd (am (aa 1) (fZ uD (ac (fU (cn (aa 1) ad) (fg (cn (aa 2) ad))) ae))))
   (aj (bt (aI (aD (aa 1) (aa 4)) (aD (aa 2) (aa 3))) (aw (aG (bn (ac (az (ac (aa 1) (ac (aa 2) ae))) (ac (az (ac (bO (aa 2)) (ac (aa 1) ae))) ae))))) bg)
   (aw (aG (bn (ac (az (ac (aa 1) (ac (aa 2) ae))) (ac (az (ac (aa 3) (ac (aa 4) ae))) ae)))))))))))))),λds R h=>?_⟩)
 .let#[_,rfl,_]:=h;rfl
 .let#[xs,rfl,hl,hd,hR]:=h;have a3:=cE (xs:=xs) (k:=3) K3 (show 3<xs.length by lia);have a4:=cE (xs:=xs) (k:=4) K3 (show 4<xs.length by lia);have a5:=cE (xs:=xs) (k:=5) K3 (show 5<xs.length by lia);have a6:=cE (xs:=xs) (k:=6) K3 (show 6<xs.length by lia);have a7:=cE (xs:=xs) (k:=7) K3 (show 7<xs.length by lia);generalize cell xs 3=x3 at*;generalize cell xs 4=x4 at*;generalize cell xs 5=x5 at*;generalize cell xs 6=x6 at*;generalize cell xs 7=x7 at*;clear hl hd;refine#[_,a3,#[K3,K3],K3,ite2 (λ_=>?_) (λ_=>?_)]
  .refine#[_,a4,K3,K8,_,a5,K3,K8,K8,hR _ _ _ _ KZ KZ KZ KZ ?_];have p:0<(1+x4%6)*(1+x5%6):=GN KZ KZ;lia
  refine#[_,a3,#[K3,K3],K3,ite2 (λ_=>?_) (λ_=>?_)]
  .refine#[_,a4,K3,K8,_,a6,K3,_,a5,K3,K8,K8,hR _ _ _ _ KZ KZ KZ KZ ?_];have p:0<(1+x4%6)*(1+x5%4):=GN KZ KZ;lia
  refine#[λd=>∃v:Int,d=.int v/\-12<=v/\v<=12,#[_,a4,K3,_,rfl,KZ],?_];rintro _⟨a,rfl,ha⟩;k_places;refine#[λd=>∃v:Int,d=.int v/\-12<=v/\v<=12,#[_,a5,K3,_,rfl,KZ],?_];rintro _⟨b,rfl,hb⟩;k_places;refine#[λd=>∃v:Int,d=.int v/\-12<=v/\v<=12,#[_,a6,K3,_,rfl,KZ],?_];rintro _⟨c,rfl,hc⟩;k_places;refine#[λd=>∃v:Int,d=.int v/\-12<=v/\v<=12,#[_,a7,K3,_,rfl,KZ],?_];rintro _⟨d,rfl,gt⟩;k_places;refine#[λx=>∃v:Int,x=.int v/\(-12<=v/\v<=12)/\¬(v=0/\b=0),ite2 (λe=>?_) (λe=>?_),?_]
  .have e':=of_decide_eq_true e;by_cases Nt:b=0
   .refine#[_,rfl,?_];subst e' Nt;simp
   .refine#[_,rfl,?_];subst e';simp[Nt]
  .have e':=of_decide_eq_false (G4.mpr e);refine#[_,rfl,?_];simp;lia
  rintro _⟨a,rfl,ha,Mu⟩;k_places;refine#[.inl (i64 ha.1 ha.2),.inl (i64 hb.1 hb.2),ite2 (λe=>?_) (λe=>?_)]
  .refine#[K8,K8,K8,hR a b (-b) a ha hb KZ ha ?_];rw[Im];intro z;have s1:0<=a*a:=sq0 a;have s2:0<=b*b:=sq0 b;have z1:a*a=0:=by omega
   have z2:b*b=0:=LV
   exact Mu #[(Ij.mp z1).elim id id,(Ij.mp z2).elim id id]
  .have e':=of_decide_eq_false (G4.mpr e);exact#[K8,K8,K8,hR a b c d ha hb hc gt e']
abbrev vx(V:Bx):Prop:=V.D 1 "_law_lines" ly BT
def EK(T:V.T "_law_lines" lx ly)(uA:V.m "range")(uB:V.m "len"):vx V:=by
 refine Tx.okDW T sc__law_lines (λds R h=>?_) (λ_ _ _ _ _ _ _ J hr=>⟨_,((aj (au 1 sc__law_lines.nd (am ad (aC (ag (aa 0) ad) ad)))
   (aj (au 2 sc__law_lines.nd (am ad (aC (ag (aa 0) ad) ad)))
   (aj (fk (aI (aC (ag (aa 0) ad) ad) ad) (aj (au 1 sc__law_lines.nd (am ad (aC (ag (aa 0) ad) ad)))
    (aw (au 2 sc__law_lines.nd (am ad (aC (ag (aa 0) ad) ad))))) bg)
   (aj (au 3 sc__law_lines.nd (ag (bn (ac ai (ac ai (ac ai (ac ai ae))))) (aC (ag (aa 0) ad) ad)))
   (aj (gQ 4 sc__law_lines.nd ae)
   (aj (cS 5 PassesOwn.never rfl sc__law_lines.nd uA (aa 2) (aj (au 6 sc__law_lines.nd ai)
    (aj (cS 7 PassesOwn.never rfl sc__law_lines.nd uA (aa 1) (aj (au 8 sc__law_lines.nd (am (aD (aa 5) (aa 1)) (aa 7)))
     (aj (au 9 sc__law_lines.nd (aC (bq (ag (aa 0) (am ad (bq (aa 8) ad))) (ag (bn (ac ad (ac ad ae))) (aC (aa 8) ad))) ad))
     (aw (au 6 sc__law_lines.nd (am (aa 6) (ag (aa 3) (aC (aa 9) (cB uB (ac (aa 3) ae))))))))))
    (aw (fX 4 (aa 6))))))
   (fj 4 (aw (aG (aa 4))))))))))),λds R h=>?_⟩)
 .let#[_,rfl,_]:=h;rfl
 .let#[xs,rfl,hl,hd,hR]:=h;have D':∀k:Nat,k<40->atI (xs.map D.int) (k:Int)=be (.int (cell xs k)):=λk hk=>cE KZ (by simpa using(KZ:k<xs.length));have a0:atI (xs.map D.int) 0=be (.int (cell xs 0)):=D' 0 K3;have a1:atI (xs.map D.int) 1=be (.int (cell xs 1)):=D' 1 K3;have a2:atI (xs.map D.int) 2=be (.int (cell xs 2)):=D' 2 K3;have a3:atI (xs.map D.int) 3=be (.int (cell xs 3)):=D' 3 K3;clear hl;refine#[λd=>∃v:Int,d=.int v/\1<=v/\v<=8,#[_,a0,K3,_,rfl,KZ],?_];rintro _⟨w0,rfl,Sk⟩;k_places;refine#[λd=>∃v:Int,d=.int v/\1<=v/\v<=8,#[_,a1,K3,_,rfl,KZ],?_];rintro _⟨t0,rfl,Th⟩;k_places;refine#[λz=>∃w t:Nat,z=[be (.lst (xs.map D.int)),be (.int w),be (.int t),x8,x8,x8,x8,x8,x8,x8]/\(1<=w/\w<=8)/\(1<=t/\t<=8),#[_,a2,K3,ite2 (λ_=>?_) (λ_=>?_)],?_]
  .refine#[λd=>∃v:Nat,d=.int v/\1<=v/\v<=8,#[_,a0,K3,(1+cell xs 0%8).toNat,by rw[HX KZ],KZ],?_];rintro _⟨w,rfl,hw⟩;k_places;refine#[λd=>∃v:Nat,d=.int v/\1<=v/\v<=8,#[_,a1,K3,(1+cell xs 1%8).toNat,by rw[HX KZ],KZ],?_];rintro _⟨t,rfl,ht⟩;k_places;exact#[w,t,rfl,hw,ht]
  .let#[w,rfl]:∃w:Nat,w0=(w:Int):=#[w0.toNat,KZ];let#[t,rfl]:∃t:Nat,t0=(t:Int):=#[t0.toNat,KZ];exact#[w,t,rfl,KZ,KZ]
  rintro _⟨w,t,rfl,hw,ht⟩;k_places;let#[sg,es,hs]:=BP (cell xs 3);refine#[λd=>d=.str sg,#[K8,_,a3,K3,_,es,rfl],?_];rintro _ rfl;k_places;refine#[K8,?_];refine#[#[KZ,KZ],λk z=>∃(L:List J7) (o1 o2 o3 o4 o5:Option D),z=[be (.lst (xs.map D.int)),be (.int w),be (.int t),be (.str sg),be (.own (L.map D.str)),o1,o2,o3,o4,o5]/\L.length=k/\∀l∈L,l.length=w/\∀c∈cs l,isSign c,#[[],_,_,_,_,_,rfl,rfl,(λx hx=>by cases hx)],?_,?_]
  .rintro j x z hj⟨L,o1,o2,o3,o4,o5,rfl,hL,Ly⟩;k_places;have Np:j<t:=by simpa using(GO.mp hj).1
   have ex:x=.int (j:Int):=by simp[Np]at hj;exact hj.symm
   subst ex;refine#[λd=>d=.str "",rfl,?_];rintro _ rfl;k_places;refine#[#[KZ,KZ],λi z=>∃(ln:J7) (o3 o4 o5:Option D),z=[be (.lst (xs.map D.int)),be (.int w),be (.int t),be (.str sg),be (.own (L.map D.str)),be (.int j),be (.str ln),o3,o4,o5]/\ln.length=i/\∀c∈cs ln,isSign c,#[_,_,_,_,rfl,rfl,(λc hc=>by rw[tK]at hc;cases hc)],?_,?_]
   .rintro i y z hi⟨ln,o3,o4,o5,rfl,Nu,OQ⟩;k_places;have J3:i<w:=by simpa using(GO.mp hi).1
    have ey:y=.int (i:Int):=by simp[J3]at hi;exact hi.symm
    subst ey;have pb:=bB (a:=(j:Int)) (d:=(w:Int)) (A:=7) (B:=8) KZ KZ;have pn:0<=(j:Int)*(w:Int):=II KZ KZ;refine#[λd=>∃p:Nat,d=.int p/\p<=63,#[.inl #[KZ,KZ],((j:Int)*w+i).toNat,by rw[HX KZ],KZ],?_];rintro _⟨p,rfl,hp⟩;k_places;let#[m,em,hm]:=BQ (p:Int);have ap:=D' (8+p/2) KZ;have ec:((8+p/2:Nat):Int)=8+(p:Int)/2:=KZ
    rw[ec]at ap;refine#[λd=>∃v:Int,d=.int v,#[#[K3,K3],_,ap,K8,K3,_,em,#[KZ,KZ],K3,_,rfl],?_];rintro _⟨v,rfl⟩;k_places;let#[c,#[h1,h2],h3]:=BK hs v;refine#[λd=>∃x:J7,d=.str x/\x.length=i+1/\∀c∈cs x,isSign c,#[h1,by have:=hs.1;lia,c,#[h1,h2],?_,_,rfl,BR Nu OQ h3],?_]
    .rw[Nu];show i+1<=1000000;lia
    rintro _⟨x,rfl,g1,g2⟩;k_places;exact#[x,_,_,_,rfl,g1,g2]
   .rintro z⟨ln,o3,o4,o5,rfl,Nu,OQ⟩;k_places;have OR:ln.length=w:=by simpa using Nu
    refine#[by simp[hL];lia,?_];rw[BS];refine#[_,_,_,_,_,_,rfl,by simp[hL],λl hl=>?_];rcases GS.mp hl with q|q
    .exact Ly l q
    .rw[Gu.mp q];exact#[OR,OQ]
  .rintro z⟨L,o1,o2,o3,o4,o5,rfl,hL,Ly⟩;k_places;exact hR L (Rows.of ht.1 ht.2 (by simpa using hL) hw.1 hw.2 Ly)
abbrev vy(V:Bx):Prop:=V.D 1 "_law_motif_text" lC BU
def EL(T:V.T "_law_motif_text" lz lC)(uL:V.m "str"):vy V:=by
 refine Tx.okDW T sc__law_motif_text (λds R h=>?_) (λ_ _ _ _ _ _ _ J hr=>⟨_,((aj (au 3 sc__law_motif_text.nd (am (am (am (am (am (am (am ai (dz uL (ac (ag (aa 1) ad) ae))) ai) (dz uL (ac (ag (aa 1) ad) ae))) ai) (dz uL (ac (ag (aa 2) ad) ae))) ai) (dz uL (ac (ag (aa 2) ad) ae))))
   (aw (aG (am (am (am ai (gS (aa 0))) (aa 3)) ai))))),λds R h=>?_⟩)
 .let#[_,_,_,_,_,rfl,_]:=h;rfl
 .let#[L,a,b,c,d,rfl,hL,ha,hb,hc,hd,hR]:=h;have la:=bK ha;have lb:=bK hb;have lc:=bK hc;have ld:=bK hd;have l1:(";":J7).length=1:=rfl;have l2:(",":J7).length=1:=rfl;have l3:("[":J7).length=1:=rfl;have l4:("]":J7).length=1:=rfl;have ls:=tM hL;have lj:=StrLaws.join_length_le "/" L;unfold B12 at ha hb hc hd;refine#[λx=>x=.str ((((((((";":J7)++(toString a:String))++",")++(toString b:String))++";")++(toString c:String))++",")++(toString d:String)),#[_,rfl,KZ,?_,?_,_,rfl,KZ,?_,?_,_,rfl,KZ,?_,?_,_,rfl,KZ,?_,rfl],?_]
  .lia
  .rw[ay];lia
  .rw[ay,ay];lia
  .rw[ay,ay,ay];lia
  .rw[ay,ay,ay,ay];lia
  .rw[ay,ay,ay,ay,ay];lia
  .rw[ay,ay,ay,ay,ay,ay];lia
  rintro _ rfl;k_places;have lg:(Txt.join "/" L).length<=72:=by
   have e:Txt.join "/" L=Str.join "/" L:=StrLaws.glued_eq_join _ _;rw[e];exact GD lj ls
  refine#[L,gm L,KZ,?_,?_,?_,hR]
  .lia
  .repeat rw[ay]
   lia
  .repeat rw[ay]
   lia
def EM:SpD:=λds R=>∃(p:Pat) (draw:Int),ds=[p.D,.int draw]/\p.depth=0/\p.text.length<=1000/\tT p (draw%4=3) R
abbrev vz(V:Bx):Prop:=V.D 1 "_law_wrapped" lD EM
def EN(T:V.T "_law_wrapped" iw lD)(uL:V.m "str")(uR:V.m "list")(uD:V.m "int"):vz V:=by
 refine Tx.okDW T sc__law_wrapped (λds R h=>?_) (λ_ _ _ _ _ _ _ J hr=>⟨_,((aj (bt (yV (ag (aa 0) ad) ad) (aw (aG (aa 0))) bg)
   (aj (au 2 sc__law_wrapped.nd (bA (aC (bq (aa 1) ad) ad) ad))
   (aj (au 3 sc__law_wrapped.nd (bA (aC (bq (aa 1) ad) ad) ad))
   (aj (au 4 sc__law_wrapped.nd (am ad (aC (bq (aa 1) ad) ad)))
   (aj (au 5 sc__law_wrapped.nd (am ad (aC (bq (aa 1) ad) ad)))
   (aj (au 6 sc__law_wrapped.nd (am (am (am (am ai (dz uL (ac (aa 2) ae))) ai) (dz uL (ac (aa 3) ae))) ai))
   (aj (au 7 sc__law_wrapped.nd (ag (bn (ac ai (ac ai (ac (aa 6) (ac (am (am ai (dz uL (ac (aa 4) ae))) (dz uL (ac (aa 5) ae))) ae))))) (aC (aa 1) ad)))
   (aj (au 8 sc__law_wrapped.nd (bn (ac (az (ac (bO ad) (ac ad (ac ad (ac ad (ac ad (ac ad ae))))))) (ac (az (ac ad (ac ad (ac (bO ad) (ac ad (ac ad (ac ad ae))))))) ae))))
   (aj (au 8 sc__law_wrapped.nd (am (aa 8) (bn (ac (az (ac ad (ac ad (ac ad (ac ad (ac (bO (aa 2)) (ac (bO (aa 3)) ae))))))) (ac (az (ac ad (ac ad (ac ad (ac ad (ac ad (ac ad ae))))))) ae)))))
   (aj (au 9 sc__law_wrapped.nd (ag (aa 8) (aC (aa 1) ad)))
   (aj (gQ 10 sc__law_wrapped.nd ae)
   (aj (rD 11 PassesOwn.never rfl sc__law_wrapped.nd (ag (aa 0) ad) (aj (rC rfl (ag (aa 11) ad) (dg_cons 12 sc__law_wrapped.nd (dg_cons 13 sc__law_wrapped.nd (dg_cons 14 sc__law_wrapped.nd (dg_cons 15 sc__law_wrapped.nd (dg_cons 16 sc__law_wrapped.nd (dg_cons 17 sc__law_wrapped.nd dQ)))))))
    (aj (au 18 sc__law_wrapped.nd (az (ac (am (aD (aa 12) (ag (aa 9) ad)) (aD (aa 13) (ag (aa 9) ad))) (ac (am (aD (aa 12) (ag (aa 9) ad)) (aD (aa 13) (ag (aa 9) ad))) ae))))
    (aj (au 18 sc__law_wrapped.nd (am (aa 18) (az (ac (am (aD (aa 14) (ag (aa 9) ad)) (aD (aa 15) (ag (aa 9) ad))) (ac (am (aD (aa 14) (ag (aa 9) ad)) (aD (aa 15) (ag (aa 9) ad))) ae)))))
    (aj (au 16 sc__law_wrapped.nd (am (am (aa 16) (aD (aa 12) (ag (aa 9) ad))) (aD (aa 13) (ag (aa 9) ad))))
    (aj (au 17 sc__law_wrapped.nd (am (am (aa 17) (aD (aa 14) (ag (aa 9) ad))) (aD (aa 15) (ag (aa 9) ad))))
    (aj (au 19 sc__law_wrapped.nd (zm uR (ac (ag (aa 11) ad) ae)))
    (aj (fk (aI (aC (aa 1) ad) ad) (aw (zC 19 rfl (compScope (by change ft _ (ah iw) ["_law_part","_law_draw","_law_across","_law_down","_law_old","_law_new","_law_shift","_law_head","_law_ways","_law_by","_law_leaves","_law_leaf","_law_a","_law_b","_law_c","_law_d","_law_e","_law_f","_law_way","_law_hues"] _=true;decide+kernel)) sc__law_wrapped.nd (ag (aa 11) ad) (λcl s0 H0 fp=>(ag (bn (ac (aa 20) (ac (aa 5) ae))) (fZ uD (ac (cn (aa 20) (aa 4)) ae)))))) bg)
    (aw (fX 10 (az (ac (ag (aa 11) ad) (ac (ag (aa 11) ad) (ac (ag (aa 11) ad) (ac (am (aa 18) (az (ac (aa 16) (ac (aa 17) ae)))) (ac (aa 19) ae))))))))))))))))
   (fj 10 (aw (aG (bn (ac (am (aa 7) (ag (aa 0) ad)) (ac (am (ag (aa 0) ad) ad) (ac (aa 10) ae)))))))))))))))))))),λds R h=>?_⟩)
 .let#[_,_,rfl,_]:=h;rfl
 .let#[p,draw,rfl,OS,ht,hW]:=h;have hd:p.depth<=5:=by lia
  have many:∀l∈p.leaves,l.hues.length=7:=by
   cases p with
   |mot L a b c d=>intro l hl;rw[Gu.mp hl];rfl
   |_=>simp[Pat.depth]at OS
  refine#[_,rfl,ite2 (λc=>?_) (λc=>?_)]
  .have c':=of_decide_eq_true c;exact hW.1 KZ
  have c':=of_decide_eq_false (G4.mpr c);have gt:p.depth<5:=KZ
  refine#[λd=>∃v:Int,d=.int v/\B12 v,#[#[K3,K3],K3,_,rfl,by unfold B12;lia],?_];rintro _⟨A,rfl,hA⟩;k_places;refine#[λd=>∃v:Int,d=.int v/\B12 v,#[#[K3,K3],K3,_,rfl,by unfold B12;lia],?_];rintro _⟨B,rfl,hB⟩;k_places;refine#[λd=>∃v:Int,d=.int v/\1<=v/\v<=6,#[#[K3,K3],K3,_,rfl,KZ],?_];rintro _⟨f8,rfl,ho⟩;k_places;refine#[λd=>∃v:Int,d=.int v/\1<=v/\v<=6,#[#[K3,K3],K3,_,rfl,KZ],?_];rintro _⟨new,rfl,hn⟩;k_places;have l1:("s":J7).length=1:=rfl;have l2:(",":J7).length=1:=rfl;have l3:(":":J7).length=1:=rfl;have l4:("h":J7).length=1:=rfl;have lA:=bK hA;have lB:=bK hB;have lo:=fz ho;have ln:=fz hn;let#[hs,b0,b1,b2,b3,b4,b5,e1,e2,hb,hl,hR]:=B0 hW gt (k:=0) hA hB ho hn KZ;unfold B12 at hA hB;refine#[λx=>x=.str ((((("s":J7)++(toString A:String))++",")++(toString B:String))++":"),#[KZ,?_,?_,KZ,?_,?_,rfl],?_]
  .lia
  .rw[ay];lia
  .rw[ay,ay];lia
  .rw[ay,ay,ay];lia
  rintro _ rfl;k_places;refine#[λx=>x=.str hs,#[KZ,?_,KZ,?_,K8,K3,_,e1,rfl],?_]
  .lia
  .rw[ay];lia
  rintro _ rfl;k_places;refine#[λx=>x=.lst [D.tup [.int (-1),.int 0,.int 0,.int 1,.int 0,.int 0],D.tup [.int 0,.int 1,.int (-1),.int 0,.int 0,.int 0]],#[K8,K8,K8,rfl],?_];rintro _ rfl;k_places;refine#[λx=>x=.lst ([D.tup [.int (-1),.int 0,.int 0,.int 1,.int 0,.int 0],D.tup [.int 0,.int 1,.int (-1),.int 0,.int 0,.int 0]]++[D.tup [.int 1,.int 0,.int 0,.int 1,.int (-A),.int (-B)],D.tup [.int 1,.int 0,.int 0,.int 1,.int 0,.int 0]]),#[K8,K8,K8,K8,rfl],?_];rintro _ rfl;k_places;refine#[λx=>x=.tup [.int b0,.int b1,.int b2,.int b3,.int b4,.int b5],#[K3,_,e2,rfl],?_];rintro _ rfl;k_places;refine#[K8,?_];generalize D.str ((((("s":J7)++(toString A:String))++",")++(toString B:String))++":")=sD;generalize D.lst ([D.tup [.int (-1),.int 0,.int 0,.int 1,.int 0,.int 0],D.tup [.int 0,.int 1,.int (-1),.int 0,.int 0,.int 0]]++[D.tup [.int 1,.int 0,.int 0,.int 1,.int (-A),.int (-B)],D.tup [.int 1,.int 0,.int 0,.int 1,.int 0,.int 0]])=wD;clear e1 e2 hW lA lB lo ln l1 l2 l3 l4 hA hB c';refine#[_,rfl,λk z=>∃OT OU OV OW OX OY OZ O0 Lz:Option D,z=[be p.D,be (.int draw),be (.int A),be (.int B),be (.int f8),be (.int new),be sD,be (.str hs),be wD,be (.tup [.int b0,.int b1,.int b2,.int b3,.int b4,.int b5]),be (.own (((p.leaves.take k).map (Leaf.T (decide (draw%4=3)) f8 new b0 b1 b2 b3 b4 b5)).map Leaf.D)),OT,OU,OV,OW,OX,OY,OZ,O0,Lz],#[_,_,_,_,_,_,_,_,_,rfl],?_,?_]
  .rintro k v z hk⟨OT,OU,OV,OW,OX,OY,OZ,O0,Lz,rfl⟩;k_places;rw[GU]at hk;have p7:k<p.leaves.length:=by
    rcases HS k p.leaves.length with q|q
    .exact q
    .rw[Hq q]at hk;cases hk
   have LA:p.leaves[k]?=be p.leaves[k]:=GP p7;rw[LA]at hk;cases hk;have gd:=many p.leaves[k] (Hf p7);have b9:(p.leaves.take k).length<=1000:=by rw[Hl];have:=Pat.leaves_32 hd;lia
   generalize p.leaves[k]=l at LA gd;let#[q0,q1,q2,q3,q4,q5]:=hb;refine#[_,rfl,rfl,?_];refine#[λx=>x=.tup [.int (l.w0*b0+l.w1*b2),.int (l.w0*b1+l.w1*b3)],#[_,rfl,.inr (n64 q0),_,rfl,.inr (n64 q2),_,rfl,.inr (n64 q1),_,rfl,.inr (n64 q3),K8,rfl],?_];rintro _ rfl;k_places;refine#[λx=>x=.tup [.int (l.w0*b0+l.w1*b2),.int (l.w0*b1+l.w1*b3),.int (l.w2*b0+l.w3*b2),.int (l.w2*b1+l.w3*b3)],#[_,rfl,.inr (n64 q0),_,rfl,.inr (n64 q2),_,rfl,.inr (n64 q1),_,rfl,.inr (n64 q3),K8,K8,rfl],?_];rintro _ rfl;k_places;refine#[λx=>x=.int (l.w4+l.w0*b4+l.w1*b5),#[_,rfl,.inr (n64 q4),_,rfl,.inr (n64 q5),rfl],?_];rintro _ rfl;k_places;refine#[λx=>x=.int (l.w5+l.w2*b4+l.w3*b5),#[_,rfl,.inr (n64 q4),_,rfl,.inr (n64 q5),rfl],?_];rintro _ rfl;k_places;refine#[λx=>x=.lst (l.hues.map D.int),#[_,rfl,rfl],?_];rintro _ rfl;k_places;refine#[λz=>∃Lz:List Int,Lz=(Leaf.T (decide (draw%4=3)) f8 new b0 b1 b2 b3 b4 b5 l).hues/\z=[be p.D,be (.int draw),be (.int A),be (.int B),be (.int f8),be (.int new),be sD,be (.str hs),be wD,be (.tup [.int b0,.int b1,.int b2,.int b3,.int b4,.int b5]),be (.own (((p.leaves.take k).map (Leaf.T (decide (draw%4=3)) f8 new b0 b1 b2 b3 b4 b5)).map Leaf.D)),be l.D,be (.int l.w0),be (.int l.w1),be (.int l.w2),be (.int l.w3),be (.int (l.w4+l.w0*b4+l.w1*b5)),be (.int (l.w5+l.w2*b4+l.w3*b5)),be (.tup [.int (l.w0*b0+l.w1*b2),.int (l.w0*b1+l.w1*b3),.int (l.w2*b0+l.w3*b2),.int (l.w2*b1+l.w3*b3)]),be (.lst (Lz.map D.int))],#[K3,ite2 (λc=>?_) (λc=>?_)],?_]
   .have c3:=of_decide_eq_true c;refine#[λx=>x=.lst ((l.hues.map (bL f8 new)).map D.int),#[_,rfl,by rw[GB,gd];decide,λk ys=>ys=((l.hues.take k).map (bL f8 new)).map D.int,rfl,?_,?_],?_]
    .rintro k' x ys hx hl rfl;rw[GU]at hx;cases e:l.hues[k']? with
     |none=>rw[e]at hx;cases hx
     |some hu=>
      rw[e]at hx;cases hx;refine#[K8,_,B1 hu f8 new,?_];dsimp only;rw[take_snoc e];simp
    .rintro ys hl rfl;rw[GB,Il]
    .rintro _ rfl;k_places;exact#[_,by simp[Leaf.T,c3,Leaf.dye,Leaf.by],rfl]
   .have c3:=of_decide_eq_false (G4.mpr c);exact#[_,by simp[Leaf.T,c3,Leaf.by],rfl]
   rintro _⟨hu,Sl,rfl⟩;k_places;refine#[_,rfl,_,rfl,_,rfl,K8,K8,K8,by rw[GB,GB];lia,?_];have eT:(D.tup [.lst (l.rows.map D.str),.tup [.int l.a,.int l.b],.tup [.int l.c,.int l.d],.tup ([.int (l.w0*b0+l.w1*b2),.int (l.w0*b1+l.w1*b3),.int (l.w2*b0+l.w3*b2),.int (l.w2*b1+l.w3*b3)]++[.int (l.w4+l.w0*b4+l.w1*b5),.int (l.w5+l.w2*b4+l.w3*b5)]),.lst (hu.map D.int)])=(Leaf.T (decide (draw%4=3)) f8 new b0 b1 b2 b3 b4 b5 l).D:=by
    rw[Sl];by_cases c3:draw%4=3
    .simp[Leaf.T,c3,Leaf.D,Leaf.dye,Leaf.by]
    .simp[Leaf.T,c3,Leaf.D,Leaf.by]
   have e9:((p.leaves.take (k+1)).map (Leaf.T (decide (draw%4=3)) f8 new b0 b1 b2 b3 b4 b5)).map Leaf.D=((p.leaves.take k).map (Leaf.T (decide (draw%4=3)) f8 new b0 b1 b2 b3 b4 b5)).map Leaf.D++[(Leaf.T (decide (draw%4=3)) f8 new b0 b1 b2 b3 b4 b5 l).D]:=by
    rw[take_snoc LA,GW,GW,GK,GK,HF,HF]
   rw[e9,<-eT];exact#[_,_,_,_,_,_,_,_,_,rfl]
  .rintro z⟨OT,OU,OV,OW,OX,OY,OZ,O0,Lz,rfl⟩;k_places;rw[GB,Il];refine#[_,rfl,KZ,_,rfl,K8,hR]
def EO:SpD:=λds R=>∃ns:List Int,ds=[.rol (ns.map D.int)]/\∀(P:Pat) (fs:List Bool) (n:Nat) (m:Int),Built fs n P->n<=3->R (.lst [.lst [.str P.text,.int m,.lst (P.leaves.map Leaf.D)],.lst (fs.map D.bl)])
abbrev vA(V:Bx):Prop:=V.D 3 "_law_pile" lG EO
def EQ(T:V.T "_law_pile" lF lG)(uA:V.m "range")(uM:jh V)(LB:oU V)(O1:vw V)(O2:vx V)(O3:vy V)(O4:vz V):vA V:=by
 refine Tx.okDW T sc__law_pile (λds R h=>?_) (λ_ _ _ _ _ _ _ J hr=>⟨_,((aj (au 1 sc__law_pile.nd cm)
   (aj (gQ 2 sc__law_pile.nd ae)
   (aj (cS 3 PassesOwn.never rfl sc__law_pile.nd uA (am ad (aC (aK uM hr (ac (aa 0) (ac ad ae))) ad)) (aj (au 4 sc__law_pile.nd (aK LB hr (ac (aa 0) (ac (am ad (aD ad (aa 3))) (ac ad ae)))))
    (aj (rN rfl (aK O1 hr (ac (aa 4) ae)) (dg_cons 5 sc__law_pile.nd (dg_cons 6 sc__law_pile.nd dQ)))
    (aj (fk (aI (aC (aK uM hr (ac (aa 0) (ac (am ad (aD ad (aa 3))) ae))) ad) ad) (aj (au 5 sc__law_pile.nd (az (ac (bA (aC (ag (aa 4) ad) ad) ad) (ac (bA (aC (ag (aa 4) ad) ad) ad) ae))))
     (aw (au 6 sc__law_pile.nd (az (ac (aD (ag (aa 5) ad) (bA (aC (ag (aa 4) ad) ad) ad)) (ac (aD (ag (aa 5) ad) (bA (aC (ag (aa 4) ad) ad) ad)) ae)))))) bg)
    (aj (fX 2 (cn (aD (ag (aa 5) ad) (ag (aa 6) ad)) (aD (ag (aa 5) ad) (ag (aa 6) ad))))
    (aj (au 7 sc__law_pile.nd (aK O2 hr (ac (aa 4) ae)))
    (aj (au 8 sc__law_pile.nd (az (ac (aa 7) (ac (aa 5) (ac (aa 6) (ac (az (ac ad (ac ad (ac ad (ac ad (ac ad (ac ad ae))))))) (ac (bn (ac ad (ac ad (ac ad (ac ad (ac ad (ac ad (ac ad ae)))))))) ae)))))))
    (aj (au 9 sc__law_pile.nd (bn (ac (aK O3 hr (ac (aa 7) (ac (aa 5) (ac (aa 6) ae)))) (ac ad (ac (bn (ac (aa 8) ae)) ae)))))
    (aj (fk (aI (aC (bq (ag (aa 4) ad) ad) ad) ad) (aw (au 9 sc__law_pile.nd (aK O4 hr (ac (aa 9) (ac (aC (bq (aK uM hr (ac (aa 0) (ac (am ad (aD ad (aa 3))) ae))) ad) ad) ae))))) bg)
    (aw (fk (jP (aa 1) cm) (aw (au 1 sc__law_pile.nd (aa 9))) (aw (au 1 sc__law_pile.nd (bn (ac (am (am (am (am ai (ag (aa 1) ad)) ai) (ag (aa 9) ad)) ai) (ac ad (ac (am (ag (aa 1) ad) (ag (aa 9) ad)) ae)))))))))))))))))
   (fj 2 (aw (aG (bn (ac (aa 1) (ac (aa 2) ae)))))))))),λds R h=>?_⟩)
 .let#[_,rfl,_]:=h;rfl
 .let#[ns,rfl,hR]:=h;refine#[λx=>x=.non,rfl,?_];rintro _ rfl;k_places;refine#[K8,ns,0,rfl,K3,K3,#[KZ,KZ],λk z=>∃(v1:D) (fs:List Bool) (o3 o4 o5 o6 o7 o8 o9:Option D),z=[be (.rol (ns.map D.int)),be v1,be (.own (fs.map D.bl)),o3,o4,o5,o6,o7,o8,o9]/\fs.length=k/\((k=0/\v1=.non)\/∃(P:Pat) (m:Int),Built fs k P/\1<=k/\v1=.lst [.str P.text,.int m,.lst (P.leaves.map Leaf.D)]),#[_,[],_,_,_,_,_,_,_,rfl,rfl,.inl #[rfl,rfl]],?_,?_]
  .rintro k v z hk⟨v1,fs,o3,o4,o5,o6,o7,o8,o9,rfl,JZ,hv⟩;k_places;let#[p7,rfl]:=range_int hk;have k3:k<3:=by lia
   refine#[λx=>∃xs:List Int,x=.lst (xs.map D.int)/\xs.length=40/\Drawn xs,#[.inl #[KZ,KZ],ns,_,40,rfl,KZ,K3,λxs h1 h2=>#[xs,rfl,h1,h2]],?_];rintro _⟨xs,rfl,xl,xd⟩;k_places;have a4:=cE (xs:=xs) (k:=4) K3 (show 4<xs.length by lia);have a5:=cE (xs:=xs) (k:=5) K3 (show 5<xs.length by lia);have a6:=cE (xs:=xs) (k:=6) K3 (show 6<xs.length by lia);have a7:=cE (xs:=xs) (k:=7) K3 (show 7<xs.length by lia);refine#[xs,rfl,KZ,xd,λa0 b0 c0 d0 Sm Nt OL OS _=>#[rfl,?_]];refine#[λz=>∃a b c d:Int,z=[be (.rol (ns.map D.int)),be v1,be (.own (fs.map D.bl)),be (.int k),be (.lst (xs.map D.int)),be (.tup [.int a,.int b]),be (.tup [.int c,.int d]),o7,o8,o9]/\B12 a/\B12 b/\B12 c/\B12 d,#[.inl #[KZ,KZ],ns,_,rfl,KZ,K3,ite2 (λ_=>?_) (λ_=>#[a0,b0,c0,d0,rfl,Sm,Nt,OL,OS])],?_]
   .let#[u,eu,hu]:∃u:Int,cell xs 4%9-4=u/\-4<=u/\u<=4:=#[_,rfl,KZ];let#[w,ew,hw]:∃w:Int,cell xs 5%9-4=w/\-4<=w/\w<=4:=#[_,rfl,KZ];let#[m,em,hm]:∃m:Int,cell xs 6%7-3=m/\-3<=m/\m<=3:=#[_,rfl,KZ];have p1:=bB (a:=u) (d:=m) (A:=4) (B:=3) KZ KZ;have p2:=bB (a:=w) (d:=m) (A:=4) (B:=3) KZ KZ;refine#[λx=>x=.tup [.int u,.int w],#[_,a4,K3,_,a5,K3,le_b rfl,by show D.tup [.int (cell xs 4%9-4),.int (cell xs 5%9-4)]=_;rw[eu,ew]],?_];rintro _ rfl;k_places;refine#[λx=>x=.tup [.int (u*m),.int (w*m)],#[_,rfl,_,a6,K3,.inl #[KZ,KZ],_,rfl,_,a6,K3,.inl #[KZ,KZ],le_b rfl,by show D.tup [.int (u*(cell xs 6%7-3)),.int (w*(cell xs 6%7-3))]=_;rw[em]],?_];rintro _ rfl;k_places;exact#[u,w,u*m,w*m,rfl,by unfold B12;lia,by unfold B12;lia,by unfold B12;lia,by unfold B12;lia]
   rintro _⟨a,b,c,d,rfl,ha,hb,hc,hd⟩;k_places;have Kl:=@id (∀x,B12 x->-12<=x/\x<=12) λx h=>h;refine#[_,rfl,_,rfl,.inl ?_,_,rfl,_,rfl,.inl ?_,?_,?_]
   .have:=Kl a ha;have:=Kl d hd;exact#[KZ,KZ]
   .have:=Kl b hb;have:=Kl c hc;exact#[KZ,KZ]
   .rw[GB];lia
   refine#[λx=>∃L:List J7,x=.lst (L.map D.str)/\Rows L,#[xs,rfl,KZ,xd,λL rows=>#[L,rfl,rows]],?_];rintro _⟨L,rfl,rows⟩;k_places;refine#[λx=>x=(bx L a b c d).D,#[le_b rfl,le_b rfl,le_b rfl,rfl],?_];rintro _ rfl;k_places;refine#[λx=>x=(Pat.mot L a b c d).D,#[L,a,b,c,d,rfl,rows,ha,hb,hc,hd,le_b rfl,le_b rfl,rfl],?_];rintro _ rfl;k_places;have w0:(Pat.mot L a b c d).Wid 288:=Es #[rows,ha,hb,hc,hd];have l0:(Pat.mot L a b c d).text.length<=1000:=by
    have:=tZ rows ha hb hc hd;show(dE L a b c d).length<=1000;lia
   refine#[λz=>∃q:Pat,Own1 (q,decide (a*d=b*c))/\z=[be (.rol (ns.map D.int)),be v1,be (.own ((fs++[decide (a*d=b*c)]).map D.bl)),be (.int k),be (.lst (xs.map D.int)),be (.tup [.int a,.int b]),be (.tup [.int c,.int d]),be (.lst (L.map D.str)),be (bx L a b c d).D,be q.D],#[_,a7,#[K3,K3],K3,ite2 (λ_=>?_) (λ_=>#[.mot L a b c d,#[w0,by show 0<=2;decide,rfl],by rw[GW];rfl])],?_]
   .have c_:∀q:Pat,q.Wid 288->q.depth<=2->q.flags=[decide (a*d=b*c)]->∃q':Pat,Own1 (q',decide (a*d=b*c))/\[be (.rol (ns.map D.int)),be v1,be (.own (fs.map D.bl++[.bl (decide (a*d=b*c))])),be (.int k),be (.lst (xs.map D.int)),be (.tup [.int a,.int b]),be (.tup [.int c,.int d]),be (.lst (L.map D.str)),be (bx L a b c d).D,be q.D]=[be (.rol (ns.map D.int)),be v1,be (.own ((fs++[decide (a*d=b*c)]).map D.bl)),be (.int k),be (.lst (xs.map D.int)),be (.tup [.int a,.int b]),be (.tup [.int c,.int d]),be (.lst (L.map D.str)),be (bx L a b c d).D,be q'.D]:=λq h1 h2 h3=>#[q,#[h1,h2,h3],by rw[GW];rfl];refine#[λx=>∃q:Pat,x=q.D/\q.Wid 288/\q.depth<=2/\q.flags=[decide (a*d=b*c)],#[.inl #[KZ,KZ],ns,_,rfl,KZ,#[K3,K3],K3,.mot L a b c d,_,rfl,rfl,l0,#[λz=>absurd z (by show¬5<=0;decide),λ_=>#[#[_,rfl,w0.mir,by show 1<=2;decide,rfl],#[_,rfl,w0.tur K3,by show 1<=2;decide,rfl],λx y hx hy=>#[_,rfl,w0.sh x y hx hy,by show 1<=2;decide,rfl],λ_ f g hf hg=>#[_,rfl,w0.hue f g hf hg,by show 1<=2;decide,rfl]]]],?_];rintro _⟨q,rfl,h1,h2,h3⟩;k_places;exact c_ q h1 h2 h3
   rintro _⟨q,hq,rfl⟩;k_places;have lq:=Pat.syn_short hq.1.syn (by have:=hq.2.1;lia);rcases hv with⟨k0,rfl⟩|⟨P,m,hP,k1,rfl⟩
   .subst k0;refine#[_,#[λx=>x=q.D,rfl,?_],λ_ h=>h];rintro _ rfl;k_places;refine#[_,fs++[_],_,_,_,_,_,_,_,rfl,by rw[GF,JZ];rfl,.inr #[q,_,?_,Gv 1,rfl]];rw[Hr JZ];exact Built.one hq
   .have lP:=Pat.syn_short hP.1.syn (by have:=hP.2.1;lia);have o1:("(":J7).length=1:=rfl;have o2:("|":J7).length=1:=rfl;have o3:(")":J7).length=1:=rfl;have n1:=Pat.leaves_32 (p:=P) (by have:=hP.2.1;lia);have n2:=Pat.leaves_32 (p:=q) (by have:=hq.2.1;lia);refine#[_,#[λx=>x=.lst [.str (Pat.over P q).text,.int 0,.lst ((Pat.over P q).leaves.map Leaf.D)],?_,?_],λ_ h=>h]
    .refine#[_,rfl,?_,?_,_,rfl,?_,?_,_,rfl,_,rfl,?_,le_b rfl,?_]
     .rw[o1];lia
     .rw[ay,o1,o2];lia
     .rw[ay,ay,o1,o2];lia
     .rw[ay,ay,ay,o1,o2,o3];lia
     .rw[GB,GB];lia
     .rw[Pat.leaves,GW];rfl
    rintro _ rfl;k_places;exact#[_,fs++[_],_,_,_,_,_,_,_,rfl,by rw[GF,JZ];rfl,.inr #[.over P q,0,hP.left KZ k1 hq,KZ,rfl]]
  rintro z⟨v1,fs,o3,o4,o5,o6,o7,o8,o9,rfl,JZ,hv⟩;k_places;rw[cV]at JZ hv;rcases hv with⟨k0,_⟩|⟨P,m,hP,k1,rfl⟩
  .lia
  .exact#[le_b rfl,hR P fs _ m hP KZ]
def allS:Str:=(" !\"#$&'()*+,-./0123456789:;<=>?@ABCDEFGHIJKLMNOPQRSTUVWXYZ":J7)++"[\\]^_`abcdefghijklmnopqrstuvwxyz{|}~"
def vB:allS.length=94:=KK
def ER:SpD:=λds R=>ds=[]/\R (.str allS)
abbrev vC(V:Bx):Prop:=V.D 1 "_law_all_signs" lJ ER
def ES(T:V.T "_law_all_signs" lH lJ):vC V:=by
 refine Tx.okDW T sc__law_all_signs (λds R h=>?_) (λ_ _ _ _ _ _ _ J hr=>⟨_,((aj (au 0 sc__law_all_signs.nd ai)
   (aw (aG (am (aa 0) ai))))),λds R h=>?_⟩)
 .let#[rfl,_]:=h;rfl
 .let#[rfl,hR]:=h;refine⟨λx=>x=.str " !\"#$&'()*+,-./0123456789:;<=>?@ABCDEFGHIJKLMNOPQRSTUVWXYZ",rfl,?_⟩;rintro _ rfl;k_places;exact⟨KK,hR⟩
def ET:SpD:=λds R=>∃n:Int,ds=[.int n]/\∀c:Nat,R (.str #[[c].toArray])
abbrev vD(V:Bx):Prop:=V.D 2 "_law_sign" lM ET
def EU(T:V.T "_law_sign" lK lM)(O5:vC V):vD V:=by
 refine Tx.okDW T DK (λds R h=>?_) (λ_ _ _ _ _ _ _ J hr=>⟨_,((aj (bt (aI (aC (aa 0) ad) ad) (aw (aG (ag (Ab O5 hr) (aC (bq (aa 0) ad) ad)))) bg)
   (aw (aG (ag ai (aC (bq (aa 0) ad) ad)))))),λds R h=>?_⟩)
 .let#[_,rfl,_]:=h;rfl
 .let#[n,rfl,hR]:=h;refine#[K3,ite2 (λ_=>?_) (λ_=>?_)]
  .let#[c,hc]:=je (l:=cs allS) (i:=n/4%94) KZ (by rw[bF,vB];lia);exact#[rfl,#[K3,K3],K3,c,#[by rw[vB];decide,hc],hR c]
  .have Sn:(cs "[](|);,:/smth.0123456789-").length=25:=by decide+kernel
   let#[c,hc]:=je (l:=cs "[](|);,:/smth.0123456789-") (i:=n/4%25) KZ (by rw[Sn];lia);exact#[#[K3,K3],K3,c,#[KK,hc],hR c]
def EV:SpD:=λds R=>∃(t:J7) (kind m7:Int) (xs:List Int),ds=[.str t,.int kind,.int m7,.lst (xs.map D.int)]/\1<=t.length/\t.length<=4000/\xs.length=24/\Drawn xs/\∀u:J7,u.length<=4100->R (.str u)
abbrev vE(V:Bx):Prop:=V.D 3 "_law_spoiled" lN EV
def EW(T:V.T "_law_spoiled" iy lN)(uB:V.m "len")(Mv:vD V):vE V:=by
 refine Tx.okDW T sc__law_spoiled (λds R h=>?_) (λ_ _ _ _ _ _ _ J hr=>⟨_,((aj (au 4 sc__law_spoiled.nd (aC (aa 2) (cB uB (ac (aa 0) ae))))
   (aj (au 5 sc__law_spoiled.nd (aK Mv hr (ac (ag (aa 3) ad) ae)))
   (aj (bt (aI (aa 1) ad) (aw (aG (am (am (bI (aa 0) bQ (bE (aa 4))) (aa 5)) (bI (aa 0) (bE (am (aa 4) ad)) bQ)))) bg)
   (aj (bt (aI (aa 1) ad) (aw (aG (am (am (bI (aa 0) bQ (bE (aa 4))) (aa 5)) (bI (aa 0) (bE (aa 4)) bQ)))) bg)
   (aj (bt (aI (aa 1) ad) (aw (aG (am (bI (aa 0) bQ (bE (aa 4))) (bI (aa 0) (bE (am (aa 4) ad)) bQ)))) bg)
   (aj (bt (aI (aa 1) ad) (aw (aG (bI (aa 0) bQ (bE (aa 4))))) bg)
   (aj (bt (aI (aa 1) ad) (aw (aG (am (aa 0) (aa 5)))) bg)
   (aj (bt (aI (aa 1) ad) (aw (aG (am (am (am (bI (aa 0) bQ (bE (aa 4))) (bI (aa 0) (bE (am (aa 4) ad)) (bE (am (aa 4) ad)))) (ag (aa 0) (aa 4))) (bI (aa 0) (bE (am (aa 4) ad)) bQ)))) bg)
   (aj (bt (aI (aa 1) ad) (aj (au 6 sc__law_spoiled.nd (aC (ag (aa 3) ad) (cB uB (ac (aa 0) ae))))
    (aj (au 0 sc__law_spoiled.nd (am (am (bI (aa 0) bQ (bE (aa 4))) (aa 5)) (bI (aa 0) (bE (am (aa 4) ad)) bQ)))
    (aw (aG (am (am (bI (aa 0) bQ (bE (aa 6))) (aK Mv hr (ac (ag (aa 3) ad) ae))) (bI (aa 0) (bE (am (aa 6) ad)) bQ)))))) bg)
   (aj (bt (aI (aa 1) ad) (aw (aG (gS (zA rfl (compScope (by change ft _ (ah iy) ["_law_text","_law_kind","_law_place","_law_draws_here","_law_k","_law_sign_here","_law_other","_law_line","_law_lines_here"] _=true;decide+kernel)) (bI (aa 3) bQ (bE (aC (ag (aa 3) ad) ad))) (λcl s0 H0 fp=>(aK Mv hr (ac (aa 9) ae))))))) bg)
   (aj (bt (aI (aa 1) ad) (aj (au 7 sc__law_spoiled.nd (zX (ag ai (aC (ag (aa 3) ad) ad)) (am ad (aC (ag (aa 3) ad) ad))))
    (aj (DC 8 sc__law_spoiled.nd (bn (ac (aa 7) ae)) (am ad (aC (ag (aa 3) ad) ad)))
    (aj (DD 8 (aC (ag (aa 3) ad) (zr 8 uB)) (bI ai bQ (bE (aC (ag (aa 3) ad) ad))))
    (fj 8 (aw (aG (am (am ai (gS (aa 8))) ai))))))) bg)
   (aw (aG (aa 0))))))))))))))),λds R h=>?_⟩)
 .let#[_,_,_,_,rfl,_]:=h;rfl
 .let#[t,kind,m7,xs,rfl,Mw,hl,x1,hD,hR]:=h;have ax:∀k:Int,0<=k->k<24->atI (xs.map D.int) k=be (.int (cell xs k)):=λk h0 h1=>cE h0 KZ;have a0:=ax 0 K3 K3;let#[k,hk,KE]:∃k:Nat,m7%(t.length:Int)=(k:Int)/\k<t.length:=by
   have m1:=cC (a:=m7) (show(0:Int)<(t.length:Int)by lia);have m2:=cD (a:=m7) (show(0:Int)<(t.length:Int)by lia);exact#[(m7%(t.length:Int)).toNat,KZ,KZ]
  refine#[λx=>x=.int (k:Int),#[KZ,KZ,congrArg D.int hk],?_];rintro _ rfl;k_places;refine#[λx=>∃c:Nat,x=.str #[[c].toArray],#[_,a0,_,rfl,λc=>#[c,rfl]],?_];rintro _⟨c,rfl⟩;k_places;have c1:(#[[c].toArray]:J7).length=1:=rfl;have s1:=vm (y:=t) (k:=k);have s2:(Txt.slice t (be ((k:Int)+1)) x8).length<=t.length-(k+1):=len_from (k:=k+1);have s3:=len_from (y:=t) (k:=k);refine ite2 (λ_=>?_) (λ_=>ite2 (λ_=>?_) (λ_=>ite2 (λ_=>?_) (λ_=>ite2 (λ_=>?_) (λ_=>ite2 (λ_=>?_) (λ_=>ite2 (λ_=>?_) (λ_=>ite2 (λ_=>?_) (λ_=>ite2 (λ_=>?_) (λ_=>ite2 (λ_=>?_) (λ_=>hR t KZ)))))))))
  .refine#[KZ,?_,KZ,?_,hR _ ?_]
   .rw[c1];lia
   .rw[ay,c1];lia
   .rw[ay,ay,c1];lia
  .refine#[KZ,?_,KZ,?_,hR _ ?_]
   .rw[c1];lia
   .rw[ay,c1];lia
   .rw[ay,ay,c1];lia
  .refine#[KZ,KZ,?_,hR _ ?_]
   .lia
   .rw[ay];lia
  .exact#[KZ,hR _ KZ]
  .refine#[?_,hR _ ?_]
   .rw[c1];lia
   .rw[ay,c1];lia
  .let#[c',w_]:=je (l:=cs t) (i:=(k:Int)) KZ (by rw[bF];lia);have s4:(Txt.slice t (be ((k:Int)+1)) (be ((k:Int)+2))).length<=(k+2)-(k+1):=EA (a:=k+1) (b:=k+2) KZ;have s5:(Txt.slice t (be ((k:Int)+2)) x8).length<=t.length-(k+2):=len_from (k:=k+2);have c2:(#[[c'].toArray]:J7).length=1:=rfl;refine#[KZ,KZ,KZ,c',#[KZ,w_],?_,KZ,?_,hR _ ?_]
   .rw[ay,c2];lia
   .rw[ay,ay,c2];lia
   .rw[ay,ay,ay,c2];lia
  .let#[j,hj,Mx]:∃j:Nat,cell xs 1%(t.length:Int)=(j:Int)/\j<t.length:=by
    have m1:=cC (a:=cell xs 1) (show(0:Int)<(t.length:Int)by lia);have m2:=cD (a:=cell xs 1) (show(0:Int)<(t.length:Int)by lia);exact#[(cell xs 1%(t.length:Int)).toNat,KZ,KZ]
   refine#[λx=>x=.int (j:Int),#[_,ax 1 K3 K3,KZ,KZ,congrArg D.int hj],?_];rintro _ rfl;k_places;refine#[λx=>∃u:J7,x=.str u/\u.length<=t.length,#[KZ,?_,KZ,?_,_,rfl,?_],?_]
   .rw[c1];lia
   .rw[ay,c1];lia
   .rw[ay,ay,c1];lia
   rintro _⟨u,rfl,hu⟩;k_places;have u1:=vm (y:=u) (k:=j);have u2:(Txt.slice u (be ((j:Int)+1)) x8).length<=u.length-(j+1):=len_from (k:=j+1);refine#[KZ,_,ax 2 K3 K3,_,rfl,λc'=>?_];have c2:(#[[c'].toArray]:J7).length=1:=rfl;refine#[?_,KZ,?_,hR _ ?_]
   .rw[c2];lia
   .rw[ay,c2];lia
   .rw[ay,ay,c2];lia
  .have O6:∀(lo hi:Option Int) (d:D),d∈cutD (xs.map D.int) lo hi->∃n,d=.int n:=λlo hi d h=>by
    have:=Iq (JW h);let#[n,_,e]:=GV.mp this;exact#[n,e.symm]
   have cl:∀lo hi:Option Int,(cutD (xs.map D.int) lo hi).length<=24:=λlo hi=>by
    unfold cutD;rw[Hl,HD,GB];lia
   refine#[_,ax 3 K3 K3,K3,GD (cl _ _) K3,λk ys=>∃L:List J7,ys=L.map D.str/\L.length=k/\∀s∈L,s.length<=1,#[[],rfl,rfl,λ_ h=>nomatch h],?_,?_]
   .rintro k x ys hx _⟨L,rfl,hL,hs⟩;k_places;let#[n,rfl]:=O6 _ _ x (HN hx);refine#[n,rfl,λc'=>#[L++[#[[c'].toArray]],by rw[GW];rfl,by rw[GF,hL];rfl,λs Ky=>?_]];rcases GS.mp Ky with q|q
    .exact hs s q
    .rw[Gu.mp q];exact Gv 1
   .rintro ys hy⟨L,rfl,hL,hs⟩;k_places;have lL:=cl x8 (be (cell xs 3%25));have j1:=jg hs;have j2:=vn (sep:="") hs;have e0:("":J7).length=0:=rfl;rw[e0]at j2;refine#[L,gm L,?_,hR _ ?_]
    .rw[e0];lia
    .lia
  .have d4:=hD.at 4;have d5:=hD.at 5;have d6:=hD.at 6;have d7:=hD.at 7;have d8:=hD.at 8;let#[c',w_]:=je (l:=cs ".123456") (i:=cell xs 4%7) KZ (by rw[show(cs ".123456").length=7 from KK];lia);refine#[λx=>∃u:J7,x=.str u/\u.length<=10,#[_,ax 4 K3 K3,K3,c',#[KK,w_],_,ax 5 K3 K3,K3,#[KZ,KZ,?_],_,rfl,?_],?_]
   .show 1*_<=_;lia
   .rw[sr];show _*1<=_;lia
   rintro _⟨u,rfl,hu⟩;k_places;refine#[K7,_,ax 6 K3 K3,K3,#[KZ,KZ,?_],?_]
   .show 1*_<=_;lia
   let#[n,hn,n1,n2]:∃n:Nat,(1+cell xs 6%10).toNat=n/\1<=n/\n<=10:=#[_,rfl,KZ,KZ];have ef:(GI (1+cell xs 6%10).toNat [D.str u]).flatten=(GI n u).map D.str:=by
    rw[hn,List.flatten_replicate_singleton,List.map_replicate]
   rw[ef];let#[L,eL,Tj,QJ]:∃L,GI n u=L/\L.length=n/\∀s∈L,s.length<=10:=#[_,rfl,IZ,λs hs=>by rw[(List.mem_replicate.mp hs).2];exact hu];rw[eL];let#[j,hj,Mx]:∃j:Nat,cell xs 7%((L.map D.str).length:Int)=(j:Int)/\j<L.length:=by
    rw[GB];have m1:=cC (a:=cell xs 7) (show(0:Int)<(L.length:Int)by lia);have m2:=cD (a:=cell xs 7) (show(0:Int)<(L.length:Int)by lia);exact#[(cell xs 7%(L.length:Int)).toNat,KZ,KZ]
   have d_:(L.map D.str)[(cell xs 7%((L.map D.str).length:Int)).toNat]?=be (.str L[j]):=by
    rw[hj,Hw,GU,GP Mx];rfl
   have Tk:=QJ _ (Hf Mx);have s6:(Txt.slice ".1" x8 (be (cell xs 8%2))).length<=2:=Txt.slice_le ".1" _ _;refine#[_,ax 7 K3 K3,by rw[GB];lia,L[j],by rw[hj];lia,d_,_,ax 8 K3 K3,K3,KK,KZ,?_];rw[hj,Hw];generalize hw:L[j]++Txt.slice ".1" x8 (be (cell xs 8%2))=w;have lw:w.length<=12:=by rw[<-hw,ay];lia
   have es:(L.map D.str).set j (.str w)=(L.set j w).map D.str:=List.map_set.symm;rw[es];have m4:∀s∈L.set j w,s.length<=12:=λs hs=>by
    rcases List.mem_or_eq_of_mem_set hs with q|q
    .have:=QJ s q;lia
    .rw[q];exact lw
   have J9:(L.set j w).length<=10:=by rw[Hc];lia
   have j1:=jg m4;have j2:=vn (sep:="/") m4;have e1:("/":J7).length=1:=rfl;have e2:("[":J7).length=1:=rfl;have e3:(";1,0;0,1]":J7).length=9:=rfl;rw[e1]at j2;refine#[_,gm _,?_,?_,?_,hR _ ?_]
   .rw[e1];lia
   .rw[e2];lia
   .rw[ay,e2,e3];lia
   .rw[ay,ay,e2,e3];lia
def EY:SpM:=λds M R _=>∃(a:KF) (c d:Nat) (r:List Wt),ds=[.ptr a,.str #[[c].toArray],.int d]/\M=[(a,.lst (wtL r))]/\r.length<=90000/\(∀st,aZ d c r=be st->R (.bl true) [(a,.lst (wtL st))])/\(aZ d c r=x8->∀xs,R (.bl false) [(a,.lst xs)])
abbrev vF(V:Bx):Prop:=V.MM 1 "_law_begins" lR EY
def EZ(T:V.T "_law_begins" lQ lR):vF V:=by
 refine(Tx.okM T sc__law_begins (λds M R RX h=>?_) (λ_ _ _ _ _ _ _ J hr hx=>⟨_,((ao (aJ 3 sc__law_begins.nd (af (bn (ac (az (ac ai ae)) (ac (az (ac ai (ac ai ae))) (ac (az (ac ai ae)) ae))))))
   (ao (bf (aP (aI (aa 1) ai)) (ao (bj (dU (af (aa 0)) (af (az (ac ai (ac ai ae))))))
    (ao (bj (iu (af (aa 0)) (af (am (am (am (aa 3) (bn (ac (az (ac ai (ac ai ae))) ae))) (aa 3)) (bn (ac (az (ac ai (ac ad (ac ad (ac ad ae))))) ae))))))
    (aq (aE (af bW))))) aR)
   (ao (bf (aP (aI (aa 2) ad)) (aq (aE (af bW))) aR)
   (ao (aJ 4 sc__law_begins.nd (af (az (ac ai (ac (am (aa 2) ad) ae)))))
   (ao (bR (aP (aI (aa 1) ai)) (aq (bj (iu (af (aa 0)) (af (bn (ac (az (ac ai (ac ai ae))) (ac (aa 4) (ac (az (ac ai (ac ai ae))) (ac (aa 4) ae))))))))) (aq (bR (aP (aI (aa 1) ai)) (aq (bj (iu (af (aa 0)) (af (am (bn (ac (aa 4) (ac (az (ac ai (ac ai ae))) ae))) (aa 3)))))) (aq (bR (aP (aI (aa 1) ai)) (aq (bj (iu (af (aa 0)) (af (bn (ac (aa 4) (ac (az (ac ai ae)) (ac (az (ac ai ae)) ae)))))))) (aq (bj (dU (af (aa 0)) (af (aa 4))))))))))
   (aq (aE (af (kr (aa 1) (bn (ac ai (ac ai (ac ai (ac ai (ac ai ae)))))))))))))))),λds M R RX b_ h=>?_⟩))
 .let#[_,_,_,_,rfl,_]:=h;rfl
 .let#[a,c,d,r,rfl,rfl,hl,hR,hN]:=h;refine#[λx M'=>M'=[(a,.lst (wtL r))]/\x=.lst [Wt.num.D,(Wt.sign 44).D,Wt.num.D],#[K7,K7,K7,K7,rfl,rfl],?_];rintro _ _⟨rfl,rfl⟩;k_places;refine ite2 (λq=>?_) (λq=>?_)
  .have hc:c=91:=cz q;subst hc;refine#[#[_,aX],K7,_,aX,by rw[cy];lia,?_];rw[cb];refine#[#[_,aX],K7,K7,K7,K7,K7,K7,K7,_,aX,?_,?_]
   .show(wtL r++[_]).length+8<=100000;rw[GF,cy,H9];lia
   rw[cb];have:=hR (motW r) (by simp[aZ]);unfold motW at this
   repeat rw[bV]at this
   simp only[GZ]at this;simp only[GZ];exact this
  have Li:c≠91:=cO q;refine ite2 (λq5=>?_) (λq5=>?_)
  .have:=of_decide_eq_true q5;have d5:d=5:=by lia
   exact hN (by unfold aZ;rw[if_neg Li,if_pos d5]) _
  have d5:¬d=5:=λe=>q5 (decide_eq_true (by rw[e];rfl));refine#[λx M'=>M'=[(a,.lst (wtL r))]/\x=(Wt.pat (d+1)).D,#[K7,rfl,rfl],?_];rintro _ _⟨rfl,rfl⟩;k_places;have c_:∀(k:Bool) (xs:List D),(k=true->R (.bl true) [(a,.lst xs)])->(k=false->R (.bl false) [(a,.lst xs)])->R (.bl k) [(a,.lst xs)]:=λk xs h1 h2=>by
   cases k
   .exact h2 rfl
   .exact h1 rfl
  refine#[λz M'=>∃xs,z=[be (.ptr a),be (.str #[[c].toArray]),be (.int d),be (.lst [Wt.num.D,(Wt.sign 44).D,Wt.num.D]),be (Wt.pat (d+1)).D]/\M'=[(a,.lst xs)]/\(∀st,aZ d c r=be st->xs=wtL st),?_,?_]
  .have put:∀(ws st:List Wt),aZ d c r=be (ws.reverse++r)->aZ d c r=be st->wtL r++ws.map Wt.D=wtL st:=λws st h1 h2=>by
    rw[h1]at h2;cases h2;unfold wtL;rw[List.reverse_append,GW,List.reverse_reverse]
   refine ite2 (λq=>?_) (λq=>?_)
   .have hc:c=40:=cz q;refine#[#[_,aX],K7,K7,K7,_,aX,by rw[cy];show _+4<=_;lia,?_];rw[cb];exact#[_,rfl,rfl,λst h=>put [.sign 41,.pat (d+1),.sign 124,.pat (d+1)] st (by unfold aZ;rw[if_neg Li,if_neg d5,if_pos hc];rfl) h]
   have Nv:c≠40:=cO q;refine#[_,ite2 (λq=>?_) (λq=>?_),λ_ _ h=>h]
   .have hc:c=115:=cz q;refine#[#[_,aX],K7,K7,K7,_,aX,by rw[cy];show _+5<=_;lia,?_];rw[cb];exact#[_,rfl,rfl,λst h=>put [.pat (d+1),.sign 58,.num,.sign 44,.num] st (by unfold aZ;rw[if_neg Li,if_neg d5,if_neg Nv,if_pos hc];rfl) h]
   have Lj:c≠115:=cO q;refine#[_,ite2 (λq=>?_) (λq=>?_),λ_ _ h=>h]
   .have hc:c=104:=cz q;refine#[#[_,aX],K7,K7,K7,_,aX,by rw[cy];show _+3<=_;lia,?_];rw[cb];exact#[_,rfl,rfl,λst h=>put [.pat (d+1),.hue,.hue] st (by unfold aZ;rw[if_neg Li,if_neg d5,if_neg Nv,if_neg Lj,if_pos hc];rfl) h]
   have Mz:c≠104:=cO q;refine#[#[_,aX],_,aX,by rw[cy];lia,?_];rw[cb];refine#[_,rfl,rfl,λst h=>?_];have h0:=h;unfold aZ at h0;rw[if_neg Li,if_neg d5,if_neg Nv,if_neg Lj,if_neg Mz]at h0;by_cases hc:c=109\/c=116
   .exact put [.pat (d+1)] st (by unfold aZ;rw[if_neg Li,if_neg d5,if_neg Nv,if_neg Lj,if_neg Mz,if_pos hc];rfl) h
   .rw[if_neg hc]at h0;cases h0
  rintro _ _⟨xs,rfl,rfl,hx⟩;k_places;refine#[K7,#[K7,K7],?_];have e:([D.str "(",.str "s",.str "h",.str "m",.str "t"].any λy=>eqF y (.str #[[c].toArray]))=(aZ d c r).isSome:=by
   show(decide ((#[[40].toArray]:J7)=#[[c].toArray])||(decide ((#[[115].toArray]:J7)=#[[c].toArray])||(decide ((#[[104].toArray]:J7)=#[[c].toArray])||(decide ((#[[109].toArray]:J7)=#[[c].toArray])||(decide ((#[[116].toArray]:J7)=#[[c].toArray])||false)))))=_
   repeat rw[chr_eq]
   unfold aZ;rw[if_neg Li,if_neg d5];by_cases h1:c=40
   .subst h1;rfl
   rw[if_neg h1];by_cases h2:c=115
   .subst h2;rfl
   rw[if_neg h2];by_cases h3:c=104
   .subst h3;rfl
   rw[if_neg h3];by_cases h4:c=109
   .subst h4;rfl
   by_cases h5:c=116
   .subst h5;rfl
   rw[if_neg (λz=>z.elim h4 h5),decide_eq_false (Ne.symm h1),decide_eq_false (Ne.symm h2),decide_eq_false (Ne.symm h3),decide_eq_false (Ne.symm h4),decide_eq_false (Ne.symm h5)];rfl
  show R (.bl (List.any _ _)) _;rw[e];cases hb:aZ d c r with
  |none=>exact hN hb xs
  |some st=>rw[hx st hb];exact hR st hb
def E1:SpM:=λds M R _=>∃(a:KF) (c w h k:Nat) (r:List Wt),ds=[.ptr a,.str #[[c].toArray],.int w,.int h,.int k]/\M=[(a,.lst (wtL r))]/\r.length<=90000/\(∀st,goesOn w h k c r=be st->R (.bl true) [(a,.lst (wtL st))])/\(goesOn w h k c r=x8->∀xs,R (.bl false) [(a,.lst xs)])
abbrev vG(V:Bx):Prop:=V.MM 1 "_law_goes_on" lV E1
def E2(T:V.T "_law_goes_on" lU lV)(uR:V.m "list")(uD:V.m "int"):vG V:=by
 refine(Tx.okM T DL (λds M R RX h=>?_) (λ_ _ _ _ _ _ _ J hr hx=>⟨_,((ao (bf (aP (sB (aa 1) (il rfl uR (ac ai ae)))) (ao (bj (dU (af (aa 0)) (af (az (ac ai (ac (aa 2) (ac (am (aa 3) ad) (ac (aa 4) ae))))))))
    (aq (aE (af (qV (aa 3) (ag (bn (ac ad (ac (aa 2) ae))) (fZ uD (ac (qW (aa 4) ad) ae)))))))) aR)
   (ao (bf (aP (dO (jR (aI (aa 3) ad) (jQ (dO (gP (jO (aa 4) ad) (gO (eZ (aa 3) (aa 2))))))))) (aq (aE (af bW))) aR)
   (ao (bf (aP (aI (aa 1) ai)) (ao (bj (dU (af (aa 0)) (af (az (ac ai (ac (aa 3) (ac ad (ac (am (aa 4) ad) ae))))))))
    (aq (aE (af (qV (aa 4) ad))))) aR)
   (aq (aE (af (cn (aa 1) ai)))))))),λds M R RX b_ h=>?_⟩))
 .let#[_,_,_,_,_,_,rfl,_]:=h;rfl
 .let#[a,c,w,h,k,r,rfl,rfl,hl,hR,hN]:=h;have sg:((bX ".123456").any λy=>eqF y (.str #[[c].toArray]))=isSg c:=by
   show(decide ((#[[46].toArray]:J7)=#[[c].toArray])||(decide ((#[[49].toArray]:J7)=#[[c].toArray])||(decide ((#[[50].toArray]:J7)=#[[c].toArray])||(decide ((#[[51].toArray]:J7)=#[[c].toArray])||(decide ((#[[52].toArray]:J7)=#[[c].toArray])||(decide ((#[[53].toArray]:J7)=#[[c].toArray])||(decide ((#[[54].toArray]:J7)=#[[c].toArray])||false)))))))=_
   repeat rw[chr_eq]
   unfold isSg;rw[Hj];simp;lia
  have c_:∀(b:Bool) (xs:List D),(∀st,goesOn w h k c r=be st->b=true/\xs=wtL st)->(goesOn w h k c r=x8->b=false)->R (.bl b) [(a,.lst xs)]:=λb xs h1 h2=>by
   cases e:goesOn w h k c r with
   |none=>rw[h2 e];exact hN e xs
   |some st=>
    let#[rfl,rfl]:=h1 st e;exact hR st e
  refine#[K7,#[K7,K7],?_];rw[show(((bX ".123456").any λy=>eqF y (.str #[[c].toArray])))=isSg c from sg];refine ite2 (λqs=>?_) (λqs=>?_)
  .have qs:isSg c=true:=qs;refine#[#[_,aX],K7,_,aX,by rw[cy];lia,?_];rw[cb];have d_:atI [D.int 8,D.int w] (if decide ((0:Int)<(k:Int))=true then 1 else 0)=be (.int ((if 0<k then w else 8:Nat):Int)):=by
    by_cases hk:0<k
    .rw[decide_eq_true (KZ:(0:Int)<(k:Int)),if_pos hk];rfl
    .rw[decide_eq_false (KZ:¬(0:Int)<(k:Int)),if_neg hk];rfl
   refine#[K7,_,d_,?_];refine c_ (decide ((h:Int)<((if 0<k then w else 8:Nat):Int))) _ (λst e=>?_) (λe=>?_)
   .unfold goesOn at e;rw[if_pos qs]at e;by_cases hh:h<(if 0<k then w else 8)
    .rw[if_pos hh]at e;cases e;exact#[decide_eq_true KZ,by rw[bV];rfl]
    .rw[if_neg hh]at e;cases e
   .unfold goesOn at e;rw[if_pos qs]at e;by_cases hh:h<(if 0<k then w else 8)
    .rw[if_pos hh]at e;cases e
    .exact decide_eq_false KZ
  have qs:¬isSg c=true:=qs;refine ite2 (λq=>?_) (λq=>ite2 (λq2=>ite2 (λq3=>?_) (λq3=>?_)) (λq2=>iteF ?_))
  .have q:=of_decide_eq_true q;exact iteT (hN (by unfold goesOn;rw[if_neg qs,if_pos (.inl KZ)]) _)
  .have q2:=of_decide_eq_true q2;have q3:=of_decide_eq_true q3;exact hN (by unfold goesOn;rw[if_neg qs,if_pos (.inr #[KZ,KZ])]) _
  .have hc:¬(h=0\/(0<k/\h<w)):=by
    have:¬(h:Int)=0:=λe=>q (decide_eq_true e);have:¬(h:Int)<(w:Int):=λe=>q3 (decide_eq_true e);lia
   have n0:isSg c=true->False:=λz=>qs z;refine ite2 (λq4=>?_) (λq4=>?_)
   .have D_:c=47:=cz q4;refine#[#[_,aX],K7,_,aX,by rw[cy];lia,?_];rw[cb];refine c_ (decide ((k:Int)<7)) _ (λst e=>?_) (λe=>?_)
    .unfold goesOn at e;rw[if_neg qs,if_neg hc,if_pos D_]at e;by_cases k7:k<7
     .rw[if_pos k7]at e;cases e;exact#[decide_eq_true KZ,by rw[bV];rfl]
     .rw[if_neg k7]at e;cases e
    .unfold goesOn at e;rw[if_neg qs,if_neg hc,if_pos D_]at e;by_cases k7:k<7
     .rw[if_pos k7]at e;cases e
     .exact decide_eq_false KZ
   have MB:c≠47:=cO q4;refine c_ (decide ((#[[c].toArray]:J7)=";")) _ (λst e=>?_) (λe=>?_)
   .unfold goesOn at e;rw[if_neg qs,if_neg hc,if_neg MB]at e;by_cases w6:c=59
    .rw[if_pos w6]at e;cases e;exact#[by subst w6;rfl,rfl]
    .rw[if_neg w6]at e;cases e
   .unfold goesOn at e;rw[if_neg qs,if_neg hc,if_neg MB]at e;by_cases w6:c=59
    .rw[if_pos w6]at e;cases e
    .exact chr_eq.trans (decide_eq_false w6)
  .have hc:¬(h=0\/(0<k/\h<w)):=by
    have:¬(h:Int)=0:=λe=>q (decide_eq_true e);have:¬(0:Int)<(k:Int):=λe=>q2 (decide_eq_true e);lia
   have n0:isSg c=true->False:=λz=>qs z;refine ite2 (λq4=>?_) (λq4=>?_)
   .have D_:c=47:=cz q4;refine#[#[_,aX],K7,_,aX,by rw[cy];lia,?_];rw[cb];refine c_ (decide ((k:Int)<7)) _ (λst e=>?_) (λe=>?_)
    .unfold goesOn at e;rw[if_neg qs,if_neg hc,if_pos D_]at e;by_cases k7:k<7
     .rw[if_pos k7]at e;cases e;exact#[decide_eq_true KZ,by rw[bV];rfl]
     .rw[if_neg k7]at e;cases e
    .unfold goesOn at e;rw[if_neg qs,if_neg hc,if_pos D_]at e;by_cases k7:k<7
     .rw[if_pos k7]at e;cases e
     .exact decide_eq_false KZ
   have MB:c≠47:=cO q4;refine c_ (decide ((#[[c].toArray]:J7)=";")) _ (λst e=>?_) (λe=>?_)
   .unfold goesOn at e;rw[if_neg qs,if_neg hc,if_neg MB]at e;by_cases w6:c=59
    .rw[if_pos w6]at e;cases e;exact#[by subst w6;rfl,rfl]
    .rw[if_neg w6]at e;cases e
   .unfold goesOn at e;rw[if_neg qs,if_neg hc,if_neg MB]at e;by_cases w6:c=59
    .rw[if_pos w6]at e;cases e
    .exact chr_eq.trans (decide_eq_false w6)
def E3:SpM:=λds M R _=>∃(a:KF) (c:Nat) (x:Wt) (r:List Wt),ds=[.ptr a,.str #[[c].toArray]]/\M=[(a,.lst (wtL (x::r)))]/\r.length<=90000/\(∀st,aF (x::r) c=be st->R (.bl true) [(a,.lst (wtL st))])/\(aF (x::r) c=x8->∀xs,R (.bl false) [(a,.lst xs)])
abbrev vH(V:Bx):Prop:=V.MM 2 "_law_takes" lY E3
def E4(T:V.T "_law_takes" lW lY)(uR:V.m "list")(O7:vF V)(O8:vG V):vH V:=by
 refine(Tx.okM T sc__law_takes (λds M R RX h=>?_) (λ_ _ _ _ _ _ _ J hr hx=>⟨_,((ao (aJ 2 sc__law_takes.nd (vg (af (aa 0))))
   (ao (bf (aP (aI (ag (aa 2) ad) ai)) (aq (aE (af (cn (aa 1) (ag (aa 2) ad))))) aR)
   (ao (bf (aP (aI (ag (aa 2) ad) ai)) (aq (aE (aU O7 hx hr (aA (ac (aa 0) (ac (aa 1) (ac (ag (aa 2) ad) ae))))))) aR)
   (ao (bf (aP (aI (ag (aa 2) ad) ai)) (aq (aE (aU O8 hx hr (aA (ac (aa 0) (ac (aa 1) (ac (ag (aa 2) ad) (ac (ag (aa 2) ad) (ac (ag (aa 2) ad) ae))))))))) aR)
   (ao (bf (aP (aI (ag (aa 2) ad) ai)) (aq (aE (af (kr (aa 1) (il rfl uR (ac ai ae)))))) aR)
   (ao (bf (aP (aI (ag (aa 2) ad) ai)) (aq (aE (af bW))) aR)
   (ao (bR (aP (aI (aa 1) ai)) (aq (bj (dU (af (aa 0)) (af (az (ac ai ae)))))) aR)
   (ao (bf (aP (dO (gP (aI (aa 1) ai) (gO (aI (ag (aa 2) ad) ai))))) (ao (bj (dU (af (aa 0)) (af (az (ac ai ae)))))
    (aq (aE (af bW)))) aR)
   (aq (aE (af (zb (kr (aa 1) (il rfl uR (ac ai ae))) (fg (fU (cn (aa 1) ai) (fg (cn (ag (aa 2) ad) ai))))))))))))))))),λds M R RX b_ h=>?_⟩))
 .let#[_,_,_,_,rfl,_]:=h;rfl
 .let#[a,c,x,r,rfl,rfl,hl,hR,hN]:=h;have c_:∀(b:Bool) (xs:List D),(∀st,aF (x::r) c=be st->b=true/\xs=wtL st)->(aF (x::r) c=x8->b=false)->R (.bl b) [(a,.lst xs)]:=λb xs h1 h2=>by
   cases e:aF (x::r) c with
   |none=>rw[h2 e];exact hN e xs
   |some st=>
    let#[rfl,rfl]:=h1 st e;exact hR st e
  refine#[λy M'=>M'=[(a,.lst (wtL r))]/\y=x.D,#[_,x.D,aX,?_,?_,rfl],?_]
  .rw[bV];simp
  .rw[cb,bV,JX]
  rintro _ _⟨rfl,rfl⟩;k_places;have QK:((bX "123456").any λy=>eqF y (.str #[[c].toArray]))=decide (49<=c/\c<=54):=by
   show(decide ((#[[49].toArray]:J7)=#[[c].toArray])||(decide ((#[[50].toArray]:J7)=#[[c].toArray])||(decide ((#[[51].toArray]:J7)=#[[c].toArray])||(decide ((#[[52].toArray]:J7)=#[[c].toArray])||(decide ((#[[53].toArray]:J7)=#[[c].toArray])||(decide ((#[[54].toArray]:J7)=#[[c].toArray])||false))))))=_
   repeat rw[chr_eq]
   rw[Hj];simp;lia
  have LC:((bX "123456789").any λy=>eqF y (.str #[[c].toArray]))=decide (49<=c/\c<=57):=by
   show(decide ((#[[49].toArray]:J7)=#[[c].toArray])||(decide ((#[[50].toArray]:J7)=#[[c].toArray])||(decide ((#[[51].toArray]:J7)=#[[c].toArray])||(decide ((#[[52].toArray]:J7)=#[[c].toArray])||(decide ((#[[53].toArray]:J7)=#[[c].toArray])||(decide ((#[[54].toArray]:J7)=#[[c].toArray])||(decide ((#[[55].toArray]:J7)=#[[c].toArray])||(decide ((#[[56].toArray]:J7)=#[[c].toArray])||(decide ((#[[57].toArray]:J7)=#[[c].toArray])||false)))))))))=_
   repeat rw[chr_eq]
   rw[Hj];simp;lia
  cases x with
  |sign s=>
   let#[tg,ht]:∃tg:J7,tg="sign":=#[_,rfl];refine#[.str tg,Pe,?_];refine ite2 (λ_=>?_) (λq=>absurd q L8);refine#[_,rfl,c_ (decide ((#[[c].toArray]:J7)=#[[s].toArray])) _ (λst e=>?_) (λe=>?_)]
   .rw[aF]at e;by_cases h:c=s
    .rw[if_pos h]at e;cases e;exact#[chr_eq.trans (decide_eq_true h),rfl]
    .rw[if_neg h]at e;cases e
   .rw[aF]at e;by_cases h:c=s
    .rw[if_pos h]at e;cases e
    .exact chr_eq.trans (decide_eq_false h)
  |pat d=>
   let#[tg,ht]:∃tg:J7,tg="pattern":=#[_,rfl];refine#[.str tg,Pe,?_];refine iteN L8 ?_;refine#[.str tg,Pe,?_];refine ite2 (λ_=>?_) (λq=>absurd q L8);exact#[_,rfl,a,c,d,r,rfl,rfl,hl,hR,hN]
  |lin w h k=>
   let#[tg,ht]:∃tg:J7,tg="lines":=#[_,rfl];refine#[.str tg,Pe,?_];refine iteN L8 ?_;refine#[.str tg,Pe,?_];refine iteN L8 ?_;refine#[.str tg,Pe,?_];refine ite2 (λ_=>?_) (λq=>absurd q L8);exact#[_,rfl,_,rfl,_,rfl,a,c,w,h,k,r,rfl,rfl,hl,hR,hN]
  |hue=>
   let#[tg,ht]:∃tg:J7,tg="hue":=#[_,rfl];refine#[.str tg,Pe,?_];refine iteN L8 ?_;refine#[.str tg,Pe,?_];refine iteN L8 ?_;refine#[.str tg,Pe,?_];refine iteN L8 ?_;refine#[.str tg,Pe,?_];refine ite2 (λ_=>?_) (λq=>absurd q L8);refine#[K7,#[K7,K7],c_ _ _ (λst e=>?_) (λe=>?_)]
   .rw[aF]at e;by_cases h:49<=c/\c<=54
    .rw[if_pos h]at e;cases e;exact#[QK.trans (decide_eq_true h),rfl]
    .rw[if_neg h]at e;cases e
   .rw[aF]at e;by_cases h:49<=c/\c<=54
    .rw[if_pos h]at e;cases e
    .exact QK.trans (decide_eq_false h)
  |more=>
   let#[tg,ht]:∃tg:J7,tg="more":=#[_,rfl];refine#[.str tg,Pe,?_];refine iteN L8 ?_;refine#[.str tg,Pe,?_];refine iteN L8 ?_;refine#[.str tg,Pe,?_];refine iteN L8 ?_;refine#[.str tg,Pe,?_];refine iteN L8 ?_;refine#[.str tg,Pe,?_];refine ite2 (λ_=>?_) (λq=>absurd q L8);exact hR r rfl
  |num=>
   let#[tg,ht]:∃tg:J7,tg="number":=#[_,rfl];refine#[.str tg,Pe,?_];refine iteN L8 ?_;refine#[.str tg,Pe,?_];refine iteN L8 ?_;refine#[.str tg,Pe,?_];refine iteN L8 ?_;refine#[.str tg,Pe,?_];refine iteN L8 ?_;refine#[.str tg,Pe,?_];refine iteN L8 ?_;refine#[λz M'=>z=[be (.ptr a),be (.str #[[c].toArray]),be Wt.num.D]/\M'=[(a,.lst (wtL (if c=49 then .more::r else r)))],ite2 (λq=>?_) (λq=>?_),?_]
   .have h:c=49:=cz q;refine#[#[_,aX],K7,_,aX,by rw[cy];lia,rfl,?_];rw[cb,if_pos h,bV];rfl
   .have h:¬c=49:=cO q;exact#[rfl,by rw[if_neg h]]
   rintro _ _⟨rfl,rfl⟩;k_places;refine ite2 (λq=>?_) (λq=>iteF ?_)
   .have h:c=45:=cz q;have h1:¬c=49:=by lia
    refine#[.str tg,Pe,?_];refine ite2 (λ_=>?_) (λq=>absurd q L8);rw[if_neg h1];refine#[#[_,aX],K7,_,aX,by rw[cy];lia,?_];rw[cb];have:=hR (.fig::r) (by rw[aF,if_neg h1,if_pos h]);rw[bV]at this;exact this
   have h:¬c=45:=cO q;have g8:∀b:Bool,b=decide (48<=c/\c<=57)->R (.bl b) [(a,.lst (wtL (if c=49 then .more::r else r)))]:=λb eb=>by
    refine c_ b _ (λst e=>?_) (λe=>?_)
    .rw[aF]at e;rw[if_neg h]at e;by_cases h9:c=49
     .rw[if_pos h9]at e ⊢;cases e;exact#[eb.trans (decide_eq_true KZ),rfl]
     rw[if_neg h9]at e ⊢;by_cases h5:48<=c/\c<=57
     .rw[if_pos h5]at e;cases e;exact#[eb.trans (decide_eq_true h5),rfl]
     .rw[if_neg h5]at e;cases e
    .rw[aF]at e;rw[if_neg h]at e;by_cases h9:c=49
     .rw[if_pos h9]at e;cases e
     rw[if_neg h9]at e;by_cases h5:48<=c/\c<=57
     .rw[if_pos h5]at e;cases e
     .exact eb.trans (decide_eq_false h5)
   refine#[K7,#[K7,K7],ite2 (λq=>?_) (λq=>ite2 (λq2=>?_) (λq2=>?_))]
   .have:=of_decide_eq_true (LC.symm.trans q);exact g8 true (decide_eq_true KZ).symm
   .have:c=48:=cz q2;exact#[_,rfl,g8 _ ((KK:decide (("number":J7)="number")=true).trans (decide_eq_true KZ).symm)]
   .have h2:¬c=48:=cO q2;have h3:¬(49<=c/\c<=57):=λz=>q (LC.trans (decide_eq_true z));exact g8 false (decide_eq_false KZ).symm
  |fig=>
   let#[tg,ht]:∃tg:J7,tg="figure":=#[_,rfl];refine#[.str tg,Pe,?_];refine iteN L8 ?_;refine#[.str tg,Pe,?_];refine iteN L8 ?_;refine#[.str tg,Pe,?_];refine iteN L8 ?_;refine#[.str tg,Pe,?_];refine iteN L8 ?_;refine#[.str tg,Pe,?_];refine iteN L8 ?_;refine#[λz M'=>z=[be (.ptr a),be (.str #[[c].toArray]),be Wt.fig.D]/\M'=[(a,.lst (wtL (if c=49 then .more::r else r)))],ite2 (λq=>?_) (λq=>?_),?_]
   .have h:c=49:=cz q;refine#[#[_,aX],K7,_,aX,by rw[cy];lia,rfl,?_];rw[cb,if_pos h,bV];rfl
   .have h:¬c=49:=cO q;exact#[rfl,by rw[if_neg h]]
   rintro _ _⟨rfl,rfl⟩;k_places;have g8:∀b:Bool,b=decide (49<=c/\c<=57)->R (.bl b) [(a,.lst (wtL (if c=49 then .more::r else r)))]:=λb eb=>by
    refine c_ b _ (λst e=>?_) (λe=>?_)
    .rw[aF]at e;by_cases h9:c=49
     .rw[if_pos h9]at e ⊢;cases e;exact#[eb.trans (decide_eq_true KZ),rfl]
     rw[if_neg h9]at e ⊢;by_cases h5:50<=c/\c<=57
     .rw[if_pos h5]at e;cases e;exact#[eb.trans (decide_eq_true KZ),rfl]
     .rw[if_neg h5]at e;cases e
    .rw[aF]at e;by_cases h9:c=49
     .rw[if_pos h9]at e;cases e
     rw[if_neg h9]at e;by_cases h5:50<=c/\c<=57
     .rw[if_pos h5]at e;cases e
     .exact eb.trans (decide_eq_false KZ)
   have rest:∀{A:Prop},(A)->A:=id;refine ite2 (λq=>?_) (λq=>iteF ?_)
   .refine#[.str tg,Pe,?_];refine iteN L8 ?_;refine#[K7,#[K7,K7],ite2 (λq=>?_) (λq=>ite2 (λq2=>?_) (λq2=>?_))]
    .have:=of_decide_eq_true (LC.symm.trans q);exact g8 true (decide_eq_true KZ).symm
    .have:c=48:=cz q2;exact#[_,rfl,g8 _ ((KK:decide (("figure":J7)="number")=false).trans (decide_eq_false KZ).symm)]
    .have h3:¬(49<=c/\c<=57):=λz=>q (LC.trans (decide_eq_true z));exact g8 false (decide_eq_false KZ).symm
   .refine#[K7,#[K7,K7],ite2 (λq=>?_) (λq=>ite2 (λq2=>?_) (λq2=>?_))]
    .have:=of_decide_eq_true (LC.symm.trans q);exact g8 true (decide_eq_true KZ).symm
    .have:c=48:=cz q2;exact#[_,rfl,g8 _ ((KK:decide (("figure":J7)="number")=false).trans (decide_eq_false KZ).symm)]
    .have h3:¬(49<=c/\c<=57):=λz=>q (LC.trans (decide_eq_true z));exact g8 false (decide_eq_false KZ).symm
def E5:SpX:=λds R _=>∃t:J7,ds=[.str t]/\t.length<=9000/\(∀k:Nat,cv t=be k->R (.int k))/\(cv t=x8->R (.int (-1)))
abbrev vI(V:Bx):Prop:=V.X 3 "_law_wrong_place" md E5
def E6(T:V.T "_law_wrong_place" lZ md)(uA:V.m "range")(uB:V.m "len")(uR:V.m "list")(O9:vH V):vI V:=by
  refine CalMM.nilX (Tx.okM T sc__law_wrong_place (λds M R RX h=>?_) (λ_ _ _ _ _ _ _ J hr hx=>⟨_,((ao (aJ 1 sc__law_wrong_place.nd (fv (aA (ac (az (ac ai (ac ad ae))) ae))))
      (ao (kD 2 PassesOwn.leaving rfl sc__law_wrong_place.nd uA (af (cB uB (ac (aa 0) ae))) (ao (bR (mt_w (kA (vi (du hr) (af (aa 1))) (kA (Dt (du hr) (sU (af (aa 1)) (af (bO ad))) (af (az (ac ai ae)))) (sJ (aP (Aa (ag (aa 0) (aa 2)) (il rfl uR (ac ai ae)))))))) (aq (bj (vg (af (aa 1))))) aR)
        (aq (bf (mt_w (ie (Dy (du hr) (af (aa 1))) (kz (lf (kZ (aU O9 hx hr (aA (ac (aa 1) (ac (ag (aa 0) (aa 2)) ae))))))))) (aq (aE (af (aa 2)))) aR))))
      (ao (bf (vi (du hr) (af (aa 1))) (aq (aE (af (cB uB (ac (aa 0) ae))))) aR)
      (aq (aE (af (bO ad)))))))),λds M R RX b_ h=>?_⟩))
  . let#[_,_,_,#[_,rfl,_],_]:=h;rfl
  . let#[rfl,R0,v6,#[t,rfl,ht,hR,hN],hQ,hX]:=h;have wd:cv t=walk [.pat 0] (cs t) 0:=rfl;have b9:(cs t).length=t.length:=bF t;refine#[λx M'=>∃p,x=.ptr p/\M'=[(p,.lst (wtL [.pat 0]))],#[K7,K7,λp _=>#[p,rfl,rfl]],?_];rintro _ _⟨p,rfl,rfl⟩;k_places;refine#[KZ,#[KZ,KZ],λk z M=>∃st o,z=[be (.str t),be (.ptr p),o]/\M=[(p,.lst (wtL st))]/\st.length<=1+9*k/\cv t=walk st ((cs t).drop k) k,#[[.pat 0],_,rfl,rfl,K7,wd],?_,?_]
    . rintro k x z M hk⟨st,o,rfl,rfl,hl,hw⟩;k_places;let#[p7,rfl]:=range_int hk;rw[Hw]at p7;let#[c,hc]:∃c,(cs t)[k]?=be c:=#[_,GP KZ];have hd:(cs t).drop k=c::(cs t).drop (k+1):=by
        rw[Ip (KZ:k<(cs t).length)];rw[GP KZ]at hc;injection hc with hc;rw[hc]
      rw[hd]at hw;have d_:atI t.cps.toList (k:Int)=be c:=dm hc;have sg:((bX "012").any λy=>eqF y (.str #[[c].toArray]))=decide (48<=c/\c<=50):=by
        show(decide ((#[[48].toArray]:J7)=#[[c].toArray])||(decide ((#[[49].toArray]:J7)=#[[c].toArray])||(decide ((#[[50].toArray]:J7)=#[[c].toArray])||false)))=_
        repeat rw[chr_eq]
        rw[Hj];simp;lia
      refine#[λz' M'=>z'=[be (.str t),be (.ptr p),be (.int (k:Int))]/\M'=[(p,.lst (wtL (aN st c)))],?_,?_]
      . cases st with
        |nil=>exact#[_,aX,iteF (iteF #[rfl,rfl])]
        |cons x r=>
          refine#[_,aX,?_];have ne:(!(wtL (x::r)).isEmpty)=true:=by rw[bV];simp
          rw[ne];let#[xs,e1,e2,e3]:=x.tup;refine iteT #[_,aX,x.D,by rw[bV];exact Ez,?_];rw[e1];refine#[K7,#[e2,K7],?_];dsimp only;rw[e3];by_cases hm:x=.more
          . subst hm;refine iteT #[c,#[KZ,d_],K7,#[K7,K7],?_];rw[show((bX "012").any λy=>eqF y (.str #[[c].toArray]))=_ from sg];by_cases h:48<=c/\c<=50
            . rw[decide_eq_true h];refine iteF #[rfl,?_];show _=[(p,MO.lst (wtL (if 48<=c/\c<=50 then Wt.more::r else r)))];rw[if_pos h]
            . rw[decide_eq_false h];refine iteT #[_,Wt.more.D,aX,?_,rfl,?_]
              . rw[bV];simp
              . rw[cb,bV,JX];show _=[(p,MO.lst (wtL (if 48<=c/\c<=50 then Wt.more::r else r)))];rw[if_neg h]
          . rw[decide_eq_false hm];refine iteF (iteF #[rfl,?_]);cases x with
            |more=>exact absurd rfl hm
            |_=>rfl
      rintro _ _⟨rfl,rfl⟩;k_places;have l0:(aN st c).length<=1+9*k:=by
        unfold aN;split
        . split
          . exact hl
          . rw[Gy]at hl;lia
        . exact hl
      rw[walk,step]at hw;cases e:aN st c with
      |nil=>
        rw[e,aF]at hw;exact#[_,aX,iteT (iteT (hQ _ _ (hR _ hw)))]
      |cons x r=>
        rw[e,Gy]at l0;rw[e]at hw;have ne:(wtL (x::r)).isEmpty=false:=by rw[bV];simp
        refine#[_,aX,?_];rw[ne];refine iteF #[c,#[KZ,d_],p,c,x,r,rfl,rfl,KZ,λst' e'=>?_,λe' xs=>?_]
        . rw[e']at hw;have:=Ey e';exact iteF #[st',_,rfl,rfl,KZ,hw]
        . rw[e']at hw;exact iteT (hQ _ _ (hR _ hw))
    . rintro z M⟨st,o,rfl,rfl,hl,hw⟩;k_places;rw[GB,JS,Hw]at hw;rw[List.drop_of_length_le KZ,walk]at hw;refine#[_,aX,?_];cases st with
      |nil=>
        rw[if_pos rfl]at hw;exact iteF (hQ _ _ (hN hw))
      |cons x r=>
        have ne:(!(wtL (x::r)).isEmpty)=true:=by rw[bV];simp
        rw[ne];rw[if_neg K8]at hw;exact iteT #[KZ,hQ _ _ (hR _ hw)]
abbrev oV(V:Bx):Prop:=V.D 1 "_law_gcd" mf BA
def E7(T:V.T "_law_gcd" me mf)(uO:V.m "abs"):oV V:=by
 refine Tx.okDW T sc__law_gcd (λds R h=>?_) (λ_ _ _ _ _ _ _ J hr=>⟨_,((aj (au 0 sc__law_gcd.nd (eY uO (ac (aa 0) ae)))
   (aj (au 1 sc__law_gcd.nd (eY uO (ac (aa 1) ae)))
   (aj (fY PassesOwn.never (fb (aa 1) ad) (aw (zh 0 1 rfl sc__law_gcd.nd (ac (aa 1) (ac (aC (aa 0) (aa 1)) ae)))))
   (aw (aG (aa 0))))))),λds R h=>?_⟩)
 .let#[x,y,rfl,_]:=h;rfl
 .let#[x,y,rfl,hR]:=h;refine#[λd=>d=.int (if x<0 then -x else x),rfl,?_];rintro _ rfl;k_places;refine#[λd=>d=.int (if y<0 then -y else y),rfl,?_];rintro _ rfl;k_places;have hx:0<=(if x<0 then -x else x):=by split<;>lia
  have hy:0<=(if y<0 then -y else y):=by split<;>lia
  have O_:∀e,(e∣(if x<0 then -x else x)/\e∣(if y<0 then -y else y))↔(e∣x/\e∣y):=λe=>by rw[tG,tG]
  generalize (if x<0 then -x else x)=a at hx O_ ⊢;generalize (if y<0 then -y else y)=b at hy O_ ⊢;refine#[λm z=>∃a b:Int,z=[be (.int a),be (.int b)]/\0<=a/\0<=b/\(∀e,(e∣a/\e∣b)↔(e∣x/\e∣y))/\m=b.toNat,#[_,a,b,rfl,hx,hy,O_,rfl],?_];rintro m z⟨a,b,rfl,ha,hb,Mu,rfl⟩;k_places;refine ite2 (λc=>?_) (λc=>?_)
  .have c':¬b=0:=by simpa using c
   have q1:=cC (a:=a) (show 0<b by lia);have q2:=cD (a:=a) (show 0<b by lia);refine#[KZ,_,?_,b,a%b,rfl,hb,q1,λe=>?_,rfl]
   .lia
   .rw[<-Mu e];constructor
    .rintro⟨h1,h2⟩;exact#[(tH h1).mp h2,h1]
    .rintro⟨h1,h2⟩;exact#[h2,(tH h2).mpr h1]
  .have c':b=0:=by simpa using c
   subst c';have g:=(Mu a).mp #[Int.dvd_refl a,Int.dvd_zero a];exact hR a ha g.1 g.2 λe h1 h2=>((Mu e).mpr #[h1,h2]).1
abbrev vJ(V:Bx):Prop:=V.D 1 "_law_on" mj Bz
def E8(T:V.T "_law_on" mi mj):vJ V:=by
 refine Tx.okDW T sc__law_on (λds R h=>?_) (λ_ _ _ _ _ _ _ J hr=>⟨_,((aj (au 4 sc__law_on.nd (bA (aD (ag (aa 0) ad) (ag (aa 1) ad)) (aD (ag (aa 0) ad) (ag (aa 1) ad))))
   (aw (aG (fU (cn (qU (bA (aD (aa 2) (ag (aa 1) ad)) (aD (aa 3) (ag (aa 1) ad))) (aa 4)) ad) (fg (cn (qU (bA (aD (ag (aa 0) ad) (aa 3)) (aD (ag (aa 0) ad) (aa 2))) (aa 4)) ad))))))),λds R h=>?_⟩)
 .let#[a,b,c,d,u,v,rfl,_]:=h;rfl
 .let#[a,b,c,d,u,v,rfl,ha,hb,hc,hd,hn,hR]:=h;have LD:∀{x:Int},x.natAbs<1073741824->-(2^64)<x/\x<2^64:=λh=>n64 (Nat.le_of_lt_succ h);refine#[λx=>x=.int (a*d-b*c),#[_,rfl,_,rfl,.inl (LD ha),_,rfl,_,rfl,.inl (LD hb),rfl],?_];rintro _ rfl;k_places;refine#[_,rfl,.inr (LD hd),_,rfl,.inr (LD hc),LV,ite2 (λe=>?_) (λe=>?_)]
  .have e':=of_decide_eq_true e;refine#[_,rfl,.inl (LD ha),_,rfl,.inl (LD hb),LV,?_];have q:decide ((a*v-b*u).fmod (a*d-b*c)=0)=decide ((u*d-v*c).fmod (a*d-b*c)=0/\(a*v-b*u).fmod (a*d-b*c)=0):=by simp[e']
   have g:R (.bl (decide ((a*v-b*u).fmod (a*d-b*c)=0))):=by rw[q];exact hR
   exact g
  .have e':=of_decide_eq_false (G4.mpr e);have q:decide ((u*d-v*c).fmod (a*d-b*c)=0/\(a*v-b*u).fmod (a*d-b*c)=0)=false:=by simp[e']
   rw[q]at hR;exact hR
abbrev vK(V:Bx):Prop:=V.D 2 "_law_leaf_family" mm B3
def E9(T:V.T "_law_leaf_family" ml mm)(uO:V.m "abs")(LF:oV V)(Pa:vJ V):vK V:=by
 refine Tx.okDW T sc__law_leaf_family (λds R h=>?_) (λ_ _ _ _ _ _ _ J hr=>⟨_,((aj (rC rfl (ag (aa 0) ad) (dg_cons 1 sc__law_leaf_family.nd (dg_cons 2 sc__law_leaf_family.nd (dg_cons 3 sc__law_leaf_family.nd (dg_cons 4 sc__law_leaf_family.nd (dg_cons 5 sc__law_leaf_family.nd (dg_cons 6 sc__law_leaf_family.nd dQ)))))))
   (aj (au 7 sc__law_leaf_family.nd (az (ac (am (aD (aa 1) (ag (ag (aa 0) ad) ad)) (aD (aa 3) (ag (ag (aa 0) ad) ad))) (ac (am (aD (aa 2) (ag (ag (aa 0) ad) ad)) (aD (aa 4) (ag (ag (aa 0) ad) ad))) ae))))
   (aj (au 8 sc__law_leaf_family.nd (az (ac (am (aD (aa 1) (ag (ag (aa 0) ad) ad)) (aD (aa 3) (ag (ag (aa 0) ad) ad))) (ac (am (aD (aa 2) (ag (ag (aa 0) ad) ad)) (aD (aa 4) (ag (ag (aa 0) ad) ad))) ae))))
   (aj (au 9 sc__law_leaf_family.nd (aK LF hr (ac (ag (aa 7) ad) (ac (ag (aa 8) ad) ae))))
   (aj (au 10 sc__law_leaf_family.nd (bq (eY uO (ac (bA (aD (ag (aa 7) ad) (ag (aa 8) ad)) (aD (ag (aa 7) ad) (ag (aa 8) ad))) ae)) (aa 9)))
   (aj (au 11 sc__law_leaf_family.nd ad)
   (aj (fY PassesOwn.never (fT (dN (aK Pa hr (ac (aa 7) (ac (aa 8) (ac (aa 11) (ac (aa 9) ae))))))) (aw (au 11 sc__law_leaf_family.nd (am (aa 11) ad))))
   (aw (aG (az (ac (aa 10) (ac (aa 9) (ac (aa 11) ae)))))))))))))),λds R h=>?_⟩)
 .let#[_,_,rfl,_]:=h;rfl
 .let#[l,n,rfl,gd,nr,hR]:=h;let#[h0,h1,h2,h3]:=nr.unit;let#[z0,z1,z2,z3,ne,z5]:=Leaf.sizes gd nr;have ha:=gd.a;have hb:=gd.b;have hc:=gd.c;have hd:=gd.d;unfold B12 at ha hb hc hd;refine#[_,rfl,rfl,?_];refine#[λx=>x=.tup [.int l.o0,.int l.o1],#[_,rfl,_,rfl,.inl (u64 h0),_,rfl,_,rfl,.inl (u64 h2),_,rfl,_,rfl,.inl (u64 h1),_,rfl,_,rfl,.inl (u64 h3),K8,rfl],?_];rintro _ rfl;k_places;refine#[λx=>x=.tup [.int l.t0,.int l.t1],#[_,rfl,_,rfl,.inl (u64 h0),_,rfl,_,rfl,.inl (u64 h2),_,rfl,_,rfl,.inl (u64 h1),_,rfl,_,rfl,.inl (u64 h3),K8,rfl],?_];rintro _ rfl;k_places;generalize l.o0=o0 at*;generalize l.o1=o1 at*;generalize l.t0=t0 at*;generalize l.t1=t1 at*;refine#[λx=>∃g:Int,x=.int g/\0<=g/\g∣o1/\g∣t1/\∀e,e∣o1->e∣t1->e∣g,#[_,rfl,_,rfl,o1,t1,rfl,λg q0 q1 q2 q3=>#[g,rfl,q0,q1,q2,q3]],?_];rintro _⟨g,rfl,q0,q1,q2,q3⟩;k_places;let#[w,s,f]:=B2 ne q0 q1 q2 q3;have hg:=f.2.1;have k1:=bB (a:=o0) (d:=t1) (A:=24) (B:=24) z0 z3;have k2:=bB (a:=o1) (d:=t0) (A:=24) (B:=24) z1 z2;have Tl:=f.bd (N:=288) z5;have j5:=f.cells;have ew:(if o0*t1-o1*t0<0 then -(o0*t1-o1*t0)else o0*t1-o1*t0)/g=w:=by
   have hp:=GN f.1 hg;have:(if o0*t1-o1*t0<0 then -(o0*t1-o1*t0)else o0*t1-o1*t0)=w*g:=by split<;>lia
   rw[this];exact G3 _ KZ
  refine#[λx=>x=.int w,#[_,rfl,_,rfl,.inl (n64 z0),_,rfl,_,rfl,.inl (n64 z1),#[KZ,KZ],?_],?_]
  .exact congrArg D.int ew
  rintro _ rfl;k_places;refine#[λx=>x=.int 0,rfl,?_];rintro _ rfl;k_places;have hp:=GN f.1 hg;refine#[λm z=>∃x:Int,z=[be l.D,be (.int l.w0),be (.int l.w1),be (.int l.w2),be (.int l.w3),be (.int l.w4),be (.int l.w5),be (.tup [.int o0,.int o1]),be (.tup [.int t0,.int t1]),be (.int g),be (.int w),be (.int x)]/\0<=x/\x<=s/\m=(s-x).toNat,#[_,0,rfl,KZ,f.2.2.1,rfl],?_];rintro m z⟨x,rfl,x0,x1,rfl⟩;k_places;refine#[o0,o1,t0,t1,x,g,rfl,KZ,KZ,KZ,KZ,ne,?_];refine ite2 (λc=>?_) (λc=>?_)
  .have c':¬((x*t1-g*t0).fmod (o0*t1-o1*t0)=0/\(o0*g-o1*x).fmod (o0*t1-o1*t0)=0):=notT c;have xs:x≠s:=by
    rintro rfl;let#[_,_,_,_,m',n',k',l',_,e1,e2,e3,e4]:=id f;exact c' (tD e3 e4)
   refine#[λd=>d=.int (x+1),rfl,?_];rintro _ rfl;k_places;exact#[_,KZ,x+1,rfl,KZ,KZ,rfl]
  .have c':(x*t1-g*t0).fmod (o0*t1-o1*t0)=0/\(o0*g-o1*x).fmod (o0*t1-o1*t0)=0:=by
    exact notF c
   let#[i,j,e1,e2]:=tU ne c';have:x=s:=f.uniq_lean e1 e2 x0 x1;subst this;exact#[K8,hR w g x f KZ]
abbrev vL(V:Bx):Prop:=V.D 1 "_law_in_family" mo By
def Fb(T:V.T "_law_in_family" mn mo):vL V:=by
 refine Tx.okDW T DM (λds R h=>?_) (λ_ _ _ _ _ _ _ J hr=>#[_,((aw (aG (fU (cn (aC (aa 2) (ag (aa 0) ad)) ad) (fg (cn (aC (bA (aa 1) (aD (bq (aa 2) (ag (aa 0) ad)) (ag (aa 0) ad))) (ag (aa 0) ad)) ad)))))),λds R h=>?_])
 .let#[w,h,s,x,y,rfl,_]:=h;rfl
 .let#[w,h,s,x,y,rfl,hw,hh,J2,hs,m4,hR]:=h;refine#[_,rfl,hh,ite2 (λc=>?_) (λc=>?_)]
  .have c':=of_decide_eq_true c;refine#[_,rfl,#[hh,J2],_,rfl,.inr #[KZ,KZ],_,rfl,hw,?_];have e:decide ((x-y/h*s)%w=0)=decide (y%h=0/\(x-y/h*s)%w=0):=by simp[c']
   have g:R (.bl (decide ((x-y/h*s)%w=0))):=by rw[e];exact hR
   exact g
  .have c':=of_decide_eq_false (G4.mpr c);have e:decide (y%h=0/\(x-y/h*s)%w=0)=false:=by simp[c']
   rw[e]at hR;exact hR
abbrev vM(V:Bx):Prop:=V.D 2 "_law_both" mx B6
def Fc(T:V.T "_law_both" mv mx)(LF:oV V)(Pb:vL V):vM V:=by
  refine Tx.okDW T sc__law_both (λds R h=>?_) (λ_ _ _ _ _ _ _ J hr=>⟨_,((aj (au 2 sc__law_both.nd (bq (aD (ag (aa 0) ad) (ag (aa 1) ad)) (aK LF hr (ac (ag (aa 0) ad) (ac (ag (aa 1) ad) ae)))))
      (aj (au 3 sc__law_both.nd (ag (aa 0) ad))
      (aj (fY PassesOwn.never (yU (aD (aa 2) (aa 3)) ad) (aj (au 4 sc__law_both.nd (aC (aD (ag (aa 0) ad) (bq (aa 3) (ag (aa 0) ad))) (ag (aa 0) ad)))
        (aj (fY PassesOwn.never (eZ (aa 4) (aa 2)) (aj (bt (dN (aK Pb hr (ac (aa 1) (ac (aa 4) (ac (aa 3) ae))))) (aw (aG (az (ac (aa 2) (ac (aa 3) (ac (aa 4) ae)))))) bg)
          (aw (au 4 sc__law_both.nd (am (aa 4) (ag (aa 0) ad))))))
        (aw (au 3 sc__law_both.nd (am (aa 3) (ag (aa 0) ad)))))))
      (aw (aG cm)))))),λds R h=>?_⟩)
  . let#[_,_,_,_,_,_,rfl,_]:=h;rfl
  . let#[w1,h1,s1,w2,h2,s2,rfl,f1,f2,hR]:=h;let#[a1,a2,a3,a4,a5,a6]:=f1;let#[b1,b2,b3,b4,b5,b6]:=f2;let#[g,u,W,Hh,S,A,M1,eW,M]:=B5 #[a1,a2,a3,a4,a5,a6] #[b1,b2,b3,b4,b5,b6];have QL:=hR W Hh S A M;have wb:W<=518400:=by
      have:=(kL a1 b1 M1).2.1;have:=bB (a:=w1) (d:=w2) (A:=720) (B:=720) KZ KZ;lia
    have mw:=M.w0;have mh:=M.h0;have ms:=M.s0;have Tn:=M.sw;refine#[λx=>x=.int W,#[_,rfl,_,rfl,.inl #[KZ,KZ],_,rfl,_,rfl,w1,w2,rfl,λG q0 q1 q2 q3=>?_],?_]
    . have eG:=M1.gcd q0 q1 q2 q3;subst eG;have hg:=M1.pos a1;have Pc:=M1.le a1;exact#[#[hg,KZ],by rw[<-eW]]
    rintro _ rfl;k_places;refine#[λx=>x=.int h1,#[_,rfl,rfl],?_];rintro _ rfl;k_places;let#[i0,j0,eS,eH]:=M.up1;have So:1<=j0:=by
      rcases(KZ:j0<=0\/1<=j0)with z|z
      . have:=Hs z (show 0<=h1 by lia);lia
      . exact z
    refine#[λm z=>∃(j:Int) (o:Option D),z=[be (.tup [.int w1,.int h1,.int s1]),be (.tup [.int w2,.int h2,.int s2]),be (.int W),be (.int (j*h1)),o]/\1<=j/\j<=j0/\m=(j0-j).toNat,#[_,1,_,by rw[Int.one_mul];rfl,KZ,So,rfl],?_];rintro m z⟨j,o,rfl,Km,Mx,rfl⟩;k_places;have Sq:0<j*h1:=GN KZ a3;have Sr:j*h1<=Hh:=by
      rw[eH];exact G0 Mx KZ
    have To:=IL Sr (show 0<=W by lia);refine#[.inl #[KZ,KZ],ite2 (λc=>?_) (λc=>?_)]
    . have c':=of_decide_eq_true c;have Tp:j*h1<=720:=by
        have:=(cU (w:=W) (h:=j*h1) mw Sq).2;lia
      have Ss:j*h1/h1=j:=G3 _ KZ;refine#[λx=>∃v:Int,x=.int v/\0<=v/\v<w1/\∃i,v=i*w1+j*s1,#[_,rfl,_,rfl,#[KZ,KZ],.inl #[KZ,KZ],_,rfl,a1,_,rfl,cC a1,cD a1,?_],?_]
      . rw[Ss];refine#[-(s1*j/w1),?_];have:=HV (s1*j) w1;rw[this];have e1:s1*j=j*s1:=G2 _ _;have e2:w1*(s1*j/w1)=s1*j/w1*w1:=G2 _ _;rw[e2,JD];lia
      rintro _⟨x0,rfl,x1,x2,i1,QM⟩;k_places;refine#[λm z=>∃(x:Int),z=[be (.tup [.int w1,.int h1,.int s1]),be (.tup [.int w2,.int h2,.int s2]),be (.int W),be (.int (j*h1)),be (.int x)]/\0<=x/\(∃i,x=i*w1+j*s1)/\(j=j0->x<=S)/\m=(W-x).toNat,#[_,x0,rfl,x1,#[i1,QM],λej=>?_,rfl],?_]
      . subst ej;let#[k,ek,k0]:=B7 a1 x2 x1 ms eS #[i1,QM];have:=II k0 (show 0<=w1 by lia);lia
      rintro m z⟨x,rfl,y0,⟨i2,ex⟩,yS,rfl⟩;k_places;refine ite2 (λc=>?_) (λc=>?_)
      . have cW:=of_decide_eq_true c;refine#[w2,h2,s2,x,j*h1,rfl,b1,b3,KZ,b5,KZ,?_];refine ite2 (λq=>?_) (λq=>?_)
        . have q':=of_decide_eq_true q;let#[i3,k3,e3,e4]:=B4 q';let#[z1,z2]:=M.high a3 Km #[i2,ex] #[i3,k3,e3,e4];have Pd:j*h1=Hh:=by lia
          have:=z2 Pd y0 cW;subst this;have:=QL.1 (by rw[<-Pd];lia);rw[<-Pd]at this;exact#[K8,this]
        . have q':=of_decide_eq_false (G4.mpr q);refine#[λd=>d=.int (x+w1),#[_,rfl,rfl],?_];rintro _ rfl;k_places;refine#[_,KZ,x+w1,rfl,KZ,#[i2+1,Mg],λej=>?_,rfl];subst ej;have hx:=yS rfl;have ne:x≠S:=by
            rintro rfl;let#[i4,j4,e5,e6]:=M.up2;exact q' (in_fam (i:=i4) (j:=j4) b3 e5 (by rw[<-eH];exact e6))
          have:∃t:Int,S=x+t*w1:=#[i0-i2,by rw[ex];grind];let#[t,et]:=this;have t1:1<=t:=by
            rcases(KZ:t<=0\/1<=t)with z|z
            . have:=Hs z (show 0<=w1 by lia);lia
            . exact z
          have:=G0 t1 (show 0<=w1 by lia);lia
      . have cW:=of_decide_eq_false (G4.mpr c);have Tq:j<j0:=by
          rcases(KZ:j<j0\/j=j0)with z|z
          . exact z
          . have:=yS z;lia
        refine#[λd=>d=.int ((j+1)*h1),#[_,rfl,by congr 1;grind],?_];rintro _ rfl;k_places;exact#[_,KZ,j+1,_,rfl,KZ,KZ,rfl]
    . have c':=of_decide_eq_false (G4.mpr c);exact QL.2 KZ
abbrev vN(V:Bx):Prop:=V.D 3 "_law_family" mz B8
def Fd(T:V.T "_law_family" my mz)(Nw:vK V)(Pf:vM V):vN V:=by
  refine Tx.okDW T sc__law_family (λds R h=>?_) (λ_ _ _ _ _ _ _ J hr=>⟨_,((aj (au 1 sc__law_family.nd (aK Nw hr (ac (ag (aa 0) ad) ae)))
      (aj (rD 2 PassesOwn.never rfl sc__law_family.nd (zu (aa 0) ad) (aj (au 1 sc__law_family.nd (aK Pf hr (ac (aa 1) (ac (aK Nw hr (ac (aa 2) ae)) ae))))
        (aw (bt (jP (aa 1) cm) (aw (aG cm)) bg))))
      (aw (aG (aa 1)))))),λds R h=>?_⟩)
  . let#[_,_,rfl,_]:=h;rfl
  . let#[ls,n,rfl,i7,hg,hR]:=h;cases ls with
    |nil=>exact absurd rfl i7
    |cons l0 ls=>
    refine#[λx=>∃w h s:Int,x=.tup [.int w,.int h,.int s]/\FamOf l0.o0 l0.o1 l0.t0 l0.t1 w h s/\w*h<=288,#[_,dm (j:=0) rfl,l0,n,rfl,(hg l0 Gz).1,(hg l0 Gz).2,λw h s f q=>#[w,h,s,rfl,f,q]],?_];rintro _⟨w0,h0,s0,rfl,f0,q0⟩;k_places;have ec:cutD (ID Leaf.D (l0::ls)) (be 1) x8=ls.map Leaf.D:=by rw[GK,cut1]
    refine#[λk z=>∃(w h s:Int) (o:Option D),z=[be (.lst ((l0::ls).map Leaf.D)),be (.tup [.int w,.int h,.int s]),o]/\Fam0 w h s/\w*h<=720/\∀x y,InF w h s x y↔bS (l0::ls.take k) x y,#[w0,h0,s0,_,rfl,#[f0.1,f0.2.1,f0.2.2.1,f0.2.2.2.1],KZ,λx y=>?_],?_,?_]
    . rw[f0.lat];constructor
      . intro q l z;rcases GA.mp z with e|e
        . rw[e];exact q
        . cases e
      . intro q;exact q l0 Gz
    . rintro k v z hk⟨w,h,s,o,rfl,fm,QN,lat⟩;k_places;rw[ec,GU]at hk;have p7:k<ls.length:=by
        rcases HS k ls.length with q|q
        . exact q
        . rw[Hq q]at hk;cases hk
      have LA:ls[k]?=be ls[k]:=GP p7;rw[LA]at hk;cases hk;let#[gd,nr]:=hg ls[k] (Gx _ (Hf p7));have KD:∀l∈ls.drop (k+1),l.Good/\l.Near n:=λl q=>hg l (Gx _ (Iq q));have Ka:∀x y,bS (l0::ls) x y↔(bS (l0::ls.take k) x y/\ls[k].Lat x y)/\bS (ls.drop (k+1)) x y:=λx y=>by
        have ed:ls=ls.take k++ls[k]::ls.drop (k+1):=by rw[<-Ip p7,List.take_append_drop]
        constructor
        . intro q;refine#[#[λl z=>?_,q _ (Gx _ (Hf p7))],λl z=>q l (Gx _ (Iq z))];rcases GA.mp z with e|e
          . exact q l (e ▸ Gz)
          . exact q l (Gx _ (JW e))
        . rintro⟨⟨q1,q2⟩,q3⟩ l z;rcases GA.mp z with e|e
          . exact q1 l (e ▸ Gz)
          . rw[ed]at e;rcases GS.mp e with e|e
            . exact q1 l (Gx _ e)
            . rcases GA.mp e with e|e
              . rw[e];exact q2
              . exact q3 l e
      have k6:∀x y,bS (l0::ls.take (k+1)) x y↔bS (l0::ls.take k) x y/\ls[k].Lat x y:=λx y=>by
        rw[take_snoc LA];constructor
        . intro q;refine#[λl z=>q l ?_,q _ (Gx _ (GX _ Gz))];rcases GA.mp z with e|e
          . rw[e];exact Gz
          . exact Gx _ (HB _ e)
        . rintro⟨q1,q2⟩ l z;rcases GA.mp z with e|e
          . exact q1 l (e ▸ Gz)
          . rcases GS.mp e with e|e
            . exact q1 l (Gx _ e)
            . rw[Gu.mp e];exact q2
      generalize ls[k]=l at gd nr Ka k6;let#[p1,p2]:=cU fm.w0 fm.h0;refine#[λx=>(∃w h s:Int,x=.tup [.int w,.int h,.int s]/\Fam0 w h s/\w*h<=720/\∀x y,InF w h s x y↔bS (l0::ls.take (k+1)) x y)\/(x=.non/\R .non),#[l,n,rfl,gd,nr,λw2 h2 s2 f2 b2=>?_],?_]
      . let#[r1,r2]:=cU f2.1 f2.2.1;refine#[w,h,s,w2,h2,s2,rfl,#[fm.w0,KZ,fm.h0,KZ,fm.s0,fm.sw],#[f2.1,KZ,f2.2.1,KZ,f2.2.2.1,f2.2.2.2.1],λW Hh S A M=>#[λq=>?_,λq=>?_]]
        . refine .inl #[W,Hh,S,rfl,#[M.w0,M.h0,M.s0,M.sw],q,λx y=>?_];rw[M.lat,lat,f2.lat,k6];exact Iff.rfl
        . refine .inr #[rfl,?_];let#[w3,h3,s3,f3,e3]:=tX (ls.drop (k+1)) W Hh S #[M.w0,M.h0,M.s0,M.sw] KD;refine(hR w3 h3 s3 f3 λx y=>?_).2 ?_
          . rw[e3,M.lat,lat,f2.lat,Ka];exact Iff.rfl
          . have:=(InF.le M.w0 M.h0 f3.w0 f3.h0 (λx y z=>((e3 x y).mp z).1)).1;lia
      . rintro _ (⟨W,Hh,S,rfl,Su,q,e'⟩|⟨rfl,hn⟩);k_places
        . try simp only[IR,IS]
          exact#[W,Hh,S,_,rfl,Su,q,e']
        . try simp only[IR,IS]
          exact hn
    . rintro z⟨w,h,s,o,rfl,fm,QN,lat⟩;k_places;rw[ec,GB,Il]at lat;exact(hR w h s fm lat).1 QN
abbrev oW(V:Bx):Prop:=V.E 1 "WrongSign" mC CV
def Fe(T:V.Te "WrongSign" "WrongSign.__init__" mB mC)(Kn:V.b "MotifError")(uAR:V.ea "WrongSign")(Pg:V.xf "WrongSign" "place"):oW V:=by
 refine Txe.okE T DN (λds R h=>?_) (λ_ _ _ _ _ _ _ J hr=>#[_,((ko Kn uAR (ac (aa 1) ae) (kq uAR Pg (aa 1) km))),λds R h=>?_])
 .let#[i,rfl,_]:=h;rfl
 .let#[i,rfl,hR]:=h;exact#[le_b rfl,rfl,hR]
abbrev eI(V:Bx):Prop:=V.Q 1 "Reading" "may_take" mF Cg
def Ff(T:V.Tm "Reading" "may_take" "Reading.may_take" mD mF)(uB:V.m "len")(KG:V.a "Reading" "text")(uG:V.a "Reading" "place"):eI V:=by
 refine Txm.okM T DO (λds M R RX h=>?_) (λ_ _ _ _ _ _ _ J hr hx=>⟨_,((ao (bf (mt_w (ie (ic (aH uG (af (aa 0))) (sL uB (aM (aH KG (af (aa 0))) bp))) (kz (Ah (sG (aH KG (af (aa 0))) (aH uG (af (aa 0)))) (af (aa 1)))))) (aq (aE (af ai))) aR)
   (ao (bY uG (af (aa 0)) (ia (aH uG (af (aa 0))) (af ad)))
   (aq (aE (sG (aH KG (af (aa 0))) (ib (aH uG (af (aa 0))) (af ad)))))))),λds M R RX b_ h=>?_⟩)
 .let#[_,_,_,_,_,rfl,_]:=h;rfl
 .let#[a,t,k,l,al,rfl,rfl,d_,hR]:=h;refine#[_,aW,_,dG,_,aW,_,kQ,GD d_.sz K3,?_];cases l with
  |nil=>
   refine ifdT (by rw[d_.nil]) (ifT rfl ?_);exact hR
  |cons c l=>
   have lt:=d_.lt;refine ifdF KZ ?_;refine#[_,aW,_,kQ,_,aW,_,dG,c,#[GD d_.sz K3,dm d_.get],?_];refine ite2 (λe=>?_) (λe=>?_)
   .have e2:(!(!(Builtin.Str.occurrences al #[[c].toArray] 0 al.length 1).isEmpty))=true:=e;rw[uh]at e2;have nc:c∉cs al:=by simpa using e2
    rw[dH nc,dI nc]at hR;exact hR
   .have e2:¬(!(!(Builtin.Str.occurrences al #[[c].toArray] 0 al.length 1).isEmpty))=true:=e;rw[uh]at e2;have nc:c∈cs al:=by simpa using e2
    rw[dY nc,dZ nc]at hR;refine#[_,aW,_,dG,_,aW,le_b rfl,?_];rw[show mput (RdM a t k) a (.ins "Reading" (putD ("place":J7) (.int ((k:Int)+1)) (rdF t k)))=RdM a t (k+1)by rw[Ce];exact fD];refine#[_,aW,_,kQ,_,aW,_,dG,c,#[GD d_.sz K3,?_],hR];rw[show((k+1:Nat):Int)-1=(k:Int)by lia];exact dm d_.get
abbrev dg(V:Bx):Prop:=V.Q 3 "Reading" "take" mH Ch
def Fg(T:V.Tm "Reading" "take" "Reading.take" mG mH)(uG:V.a "Reading" "place")(uH:eI V)(uAA:oW V):dg V:=by
 refine Txm.okM T sc_Reading_take (λds M R RX h=>?_) (λ_ _ _ _ _ _ _ J hr hx=>⟨_,((ao (aJ 2 sc_Reading_take.nd (bc (CalMth.one uH) hx hr (af (aa 0)) (aA (ac (aa 1) ae))))
   (ao (bf (aP (aI (aa 2) ai)) (aq (ik uAA hr hx rfl (aM (aH uG (af (aa 0))) bp))) aR)
   (aq (aE (af (aa 2))))))),λds M R RX b_ h=>?_⟩)
 .let#[_,_,_,_,_,rfl,_]:=h;rfl
 .let#[a,t,k,l,al,rfl,rfl,d_,hR,hX]:=h;refine#[λd M'=>d=.str (mayS al l)/\M'=RdM a t (k+mayN al l),#[_,Gu.mpr rfl,_,aW,cY,a,t,k,l,al,rfl,rfl,d_,rfl,rfl],?_];rintro _ _⟨rfl,rfl⟩;k_places;have no:(∀c l',l=c::l'->c∉cs al)->mayS al l=""/\mayN al l=0:=λh=>by
   cases l with
   |nil=>exact#[rfl,rfl]
   |cons c l=>exact#[dH (h c l rfl),dI (h c l rfl)]
  by_cases h:∃c l',l=c::l'/\c∈cs al
  .let#[c,l',rfl,hc]:=h;rw[dY hc,dZ hc];exact hR c l' rfl hc
  .have h':∀c l',l=c::l'->c∉cs al:=λc l' e hc=>h #[c,l',e,hc];let#[e1,e2]:=no h';rw[e1,e2];refine#[_,aW,_,dG,le_b rfl,(k:Int),rfl,?_];rw[b_];exact hX h' _
abbrev vO(V:Bx):Prop:=V.MM 4 "line_from" mJ Co
def Fh(T:V.T "line_from" mI mJ)(uA:V.m "range")(uZ:V.gs "SIGNS" ".123456")(uC:dg V)(uH:eI V):vO V:=by
 refine(Tx.okM T sc_line_from (λds M R RX h=>?_) (λ_ _ _ _ _ _ _ J hr hx=>⟨_,((ao (aJ 3 sc_line_from.nd (af ai))
   (ao (kD 4 PassesOwn.leaving rfl sc_line_from.nd uA (af (aa 2)) (aq (aJ 3 sc_line_from.nd (ia (af (aa 3)) (gh (aP (eZ (aa 4) (aa 1))) (bc (CalMth.one uC) hx hr (af (aa 0)) (aA (ac (gX uZ) ae))) (bc (CalMth.one uH) hx hr (af (aa 0)) (aA (ac (gX uZ) ae))))))))
   (aq (aE (af (aa 3))))))),λds M R RX b_ h=>?_⟩))
 .let#[_,_,_,_,_,_,rfl,_]:=h;rfl
 .let#[a,t,k,l,n,m,rfl,rfl,d_,Tr,Ts,hR,hX]:=h;refine#[λd M'=>d=.str ""/\M'=RdM a t k,#[rfl,rfl],?_];rintro _ _⟨rfl,rfl⟩;k_places;refine#[#[KZ,KZ],λi z M'=>i<=m/\∃col,z=[be (.ptr a),be (.int n),be (.int m),be (.str #[(sgPre i l).toArray]),col]/\M'=RdM a t (k+(sgPre i l).length)/\min i n<=(sgPre i l).length,#[GT _,x8,rfl,rfl,K8],?_,?_]
  .rintro i x z M' hi⟨Tt,col,rfl,rfl,Ph⟩;k_places;let#[LG,rfl]:=range_int hi;have LG:i<m:=by lia
   have Tu:=io i l;rcases sgPre_succ i l with⟨c,l',h1,h2,h3,h4⟩|⟨l',h1,h2,h3⟩
   .have e8:At t (k+(sgPre i l).length) (c::l'):=by have:=d_;rw[h1]at this;exact this.app
    refine#[λd M'=>d=.str #[(sgPre (i+1) l).toArray]/\M'=RdM a t (k+(sgPre i l).length+1),?_,?_]
    .refine ite2 (λ_=>?_) (λ_=>?_)
     .refine#[_,Gu.mpr rfl,_,aW,ci,a,t,_,_,".123456",rfl,rfl,e8,λc' l2 e hc=>?_,λf7=>absurd (signs_is.mpr h3) (f7 c l' rfl)];cases e;refine#[by rw[len_of_list,show(#[[c].toArray]:J7).length=1 from rfl];lia,?_,rfl];rw[show(#[[c].toArray]:J7)=#[[c].toArray]from rfl,str_of_list,h4]
     .refine#[_,Gu.mpr rfl,_,aW,cY,a,t,_,_,".123456",rfl,rfl,e8,?_];rw[dY (signs_is.mpr h3),dZ (signs_is.mpr h3)];refine#[by rw[len_of_list,show(#[[c].toArray]:J7).length=1 from rfl];lia,?_,rfl];rw[show(#[[c].toArray]:J7)=#[[c].toArray]from rfl,str_of_list,h4]
    .rintro _ _⟨rfl,rfl⟩;k_places;refine#[LG,_,rfl,?_,?_]
     .rw[h4,GF];rfl
     .rw[h4,GF,h2];show _<=i+1;lia
   .have e8:At t (k+(sgPre i l).length) l':=by have:=d_;rw[h1]at this;exact this.app
    have f7:∀c l2,l'=c::l2->c∉cs ".123456":=λc l2 q z=>by
     have:=h2 c l2 q;rw[signs_is.mp z]at this;cases this
    have E_:mayS ".123456" l'=""/\mayN ".123456" l'=0:=by
     cases l' with
     |nil=>exact#[rfl,rfl]
     |cons c l2=>exact#[dH (f7 c l2 rfl),dI (f7 c l2 rfl)]
    refine#[λd M'=>d=.str #[(sgPre (i+1) l).toArray]/\M'=RdM a t (k+(sgPre i l).length)/\¬i<n,?_,?_]
    .refine ite2 (λc=>?_) (λc=>?_)
     .have c':=of_decide_eq_true c;refine#[_,Gu.mpr rfl,_,aW,ci,a,t,_,_,".123456",rfl,rfl,e8,λc' l2 e hc=>absurd hc (f7 c' l2 e),λ_ M'=>?_];rw[b_];have:=hX (by rw[h3 m KZ];lia) M';rw[h3 m KZ]at this;exact this
     .have c':¬i<n:=λz=>c (decide_eq_true KZ);refine#[_,Gu.mpr rfl,_,aW,cY,a,t,_,_,".123456",rfl,rfl,e8,?_];rw[E_.1,E_.2];refine#[by rw[len_of_list,show("":J7).length=0 from rfl];lia,?_,rfl,c'];rw[show("":J7)=#[([]:List Nat).toArray]from rfl,str_of_list,G1,h3 (i+1) KZ]
    .rintro _ _⟨rfl,rfl,Ly⟩;k_places;refine#[LG,_,rfl,by rw[h3 (i+1) KZ],?_];rw[h3 (i+1) KZ];lia
  .intro z M' hz;rw[cV,Hw]at hz;let#[_,col,rfl,rfl,Ph]:=hz;exact hR KZ
abbrev vP(V:Bx):Prop:=V.MM 5 "lines_from" mL Cr
def Fi(T:V.T "lines_from" mK mL)(uB:V.m "len")(Ny:vO V)(Nz:V.gi "LONGEST" 8)(uH:eI V):vP V:=by
  refine(Tx.okM T sc_lines_from (λds M R RX h=>?_) (λ_ _ _ _ _ _ _ J hr hx=>⟨_,((ao (aJ 1 sc_lines_from.nd (fv (aM (aU (CalMM.frame Ny) hx hr (aA (ac (aa 0) (ac ad (ac (fu Nz) ae))))) bp)))
      (ao (aJ 2 sc_lines_from.nd (sL uB (aM (sU (af (aa 1)) (af ad)) bp)))
      (ao (AA PassesOwn.leaving (mt_w (kA (sH (AI uB (af (aa 1))) (af (fu Nz))) (sJ (ic (bc (CalMth.one (CalMth.frame uH)) hx hr (af (aa 0)) (aA (ac ai ae))) (af ai))))) (aq (bj (dU (af (aa 1)) (aU (CalMM.frame Ny) hx hr (aA (ac (aa 0) (ac (aa 2) (ac (aa 2) ae)))))))))
      (sV 1 (aq (aE (af (aa 1))))))))),λds M R RX b_ h=>?_⟩))
  . let#[_,_,_,_,rfl,_]:=h;rfl
  . let#[a,t,k,l,rfl,rfl,d_,hR,hX]:=h;let#[l1,Mw,hg]:=sgPre_split 8 l;have QO:=sgPre_sign 8 l;have Ko:=io 8 l;refine#[λd M'=>∃p,p≠a/\1<=(sgPre 8 l).length/\d=.ptr p/\M'=(p,.lst [.str #[(sgPre 8 l).toArray]])::RdM a t (k+(sgPre 8 l).length),#[[],RdM a t k,rfl,a,t,k,l,1,8,rfl,rfl,d_,K3,K3,λh1=>#[by show 1<=1000;decide,λp hp=>?_],λh1 M'=>?_],?_]
    . exact#[p,λe=>hp (by rw[e];exact Gu.mpr rfl),h1,rfl,rfl]
    . rw[b_];refine hX _ (λr=>?_) _;have e0:sgPre 8 l=[]:=Hr KZ;rw[e0]at Mw hg ⊢;rw[Mw];have:=uk (w:=1) (n:=0) (x:=[]) (l:=l1) (λc z=>nomatch z) K3 K3 (λ_=>rfl) (hg.resolve_left K3) r k;refine walk_bad (λz=>nomatch z) λc l' q=>?_;rw[dX];unfold goesOn;rw[hg.resolve_left K3 c l' q,if_neg GJ];exact if_pos (.inl rfl)
    rintro _ _⟨p,Sv,h1,rfl,rfl⟩;k_places;refine#[λd M'=>d=.int (sgPre 8 l).length/\M'=(p,.lst [.str #[(sgPre 8 l).toArray]])::RdM a t (k+(sgPre 8 l).length),#[_,cZ,_,rfl,by rw[len_of_list];lia,by rw[len_of_list],rfl],?_];rintro _ _⟨rfl,rfl⟩;k_places;refine#[λm z M'=>∃(L:List (List Nat)) (w0:Nat) (l2:List Nat),RowsL L (sgPre 8 l).length/\l=rowsL L++l2/\LinAt w0 (sgPre 8 l).length L.length l2/\(∀r,walk (.lin 0 0 0::r) l k=walk (.lin w0 (sgPre 8 l).length (L.length-1)::r) l2 (k+(rowsL L).length))/\m=8-L.length/\z=[be (.ptr a),be (.ptr p),be (.int (sgPre 8 l).length)]/\M'=(p,.lst (lstD L))::RdM a t (k+(rowsL L).length),#[7,[sgPre 8 l],0,l1,#[K8,h1,Ko,λx hx=>?_],Mw,#[h1,K8,λ_=>hg,λz=>absurd z K8],λr=>?_,rfl,rfl,rfl],?_]
    . rw[Gu.mp hx];exact#[rfl,QO]
    . have:=fC (w:=0) (k:=0) (r:=r) (sgPre 8 l) 0 l1 k QO (by simp;lia);rw[<-Mw,Ir]at this;exact this
    rintro m z M'⟨L,w0,l2,hL,J9,Lk,hw,rfl,rfl,rfl⟩;k_places;have C_:=hL.many;have p_:At t (k+(rowsL L).length) l2:=by have:=d_;rw[J9]at this;exact this.app
    have MC:(lstD L).length=L.length:=by simp[lstD]
    have done:(L.length=8\/∀l',l2≠47::l')->R (.lst (lstD L)) (RdM a t (k+(rowsL L).length)):=λst=>hR L _ l2 hL J9 λr=>by rw[hw r,Cq Lk KZ st]
    refine#[_,cZ,?_];rw[MC];refine ite2 (λc=>?_) (λc=>?_)
    . have c':L.length<8:=by have:=of_decide_eq_true c;lia
      refine#[_,Gu.mpr rfl,_,Cp Sv,cY,[(p,_)],RdM a t _,rfl,a,t,_,l2,"/",rfl,rfl,p_,?_];by_cases QP:∃l',l2=47::l'
      . let#[l3,rfl]:=QP;have QQ:(47:Nat)∈cs "/":=by decide
        rw[dY QQ,dZ QQ];let#[l4,Pj,Sw]:=sgPre_split (sgPre 8 l).length l3;have Pk:=sgPre_sign (sgPre 8 l).length l3;have Sx:=io (sgPre 8 l).length l3;refine#[#[_,cZ],[(p,_)],RdM a t _,rfl,a,t,_,l3,(sgPre 8 l).length,(sgPre 8 l).length,rfl,rfl,p_.next,Gv _,Ko,λh2=>?_,λh2 M'=>?_]
        . have b9:(sgPre (sgPre 8 l).length l3).length=(sgPre 8 l).length:=by lia
          refine#[_,cZ,by rw[MC];lia,?_];refine#[8-(L.length+1),KZ,L++[sgPre (sgPre 8 l).length l3],(sgPre 8 l).length,l4,#[by rw[GF];simp;lia,h1,Ko,λx hx=>?_],?_,#[h1,by rw[GF];simp,λz=>?_,λ_=>rfl],λr=>?_,by rw[GF];rfl,rfl,?_]
          . rcases GS.mp hx with q|q
            . exact hL.each x q
            . rw[Gu.mp q];exact#[b9,Pk]
          . rw[ip L _ (λq=>by rw[q]at C_;simp at C_),GZ,G5,<-Pj];exact J9
          . rw[GF]at z;simp at z;rw[z]at C_;simp at C_
          . rw[hw r,uj Lk c' r];have:=fC (w:=(sgPre 8 l).length) (k:=L.length) (r:=r) (sgPre (sgPre 8 l).length l3) 0 l4 (k+(rowsL L).length+1) Pk (by rw[if_pos KZ];lia);rw[<-Pj,Ir,b9]at this;rw[this,ip L _ (λq=>by rw[q]at C_;simp at C_),GF,GF];show walk (.lin _ _ L.length::r) l4 _=walk (.lin _ _ (L.length+1-1)::r) l4 _;congr 1;rw[Gy,b9];lia
          . show mput ((p,MO.lst (lstD L))::RdM a t _) p _=_;rw[ui,ip L _ (λq=>by rw[q]at C_;simp at C_)];show _::RdM a t _=_;congr 1
            . simp[lstD]
            . congr 1;simp;lia
        . rw[b_];refine hX _ (λr=>?_) _;rw[hw r,uj Lk c' r];have:=uk (w:=(sgPre 8 l).length) (n:=L.length) Pk h2 Ko (λq=>KZ) (Sw.resolve_left KZ) r (k+(rowsL L).length+1);rw[<-Pj]at this;exact this
      . have f7:∀l',l2≠47::l':=λl' q=>QP #[l',q];have E_:mayS "/" l2=""/\mayN "/" l2=0:=by
          cases l2 with
          |nil=>exact#[rfl,rfl]
          |cons c l3=>
            have:c∉cs "/":=λq=>f7 l3 (by rw[show c=47 from Gu.mp q]);exact#[dH this,dI this]
        rw[E_.1,E_.2];refine#[_,cZ,?_];rw[show mdel ([(p,MO.lst (lstD L))]++RdM a t (k+(rowsL L).length+0)) p=RdM a t (k+(rowsL L).length)from kS];exact done (.inr f7)
    . have c':L.length=8:=by
        have:¬((L.length:Int)<8):=λz=>c (decide_eq_true z);lia
      refine#[_,cZ,?_];rw[kS];exact done (.inl c')
abbrev vQ(V:Bx):Prop:=V.MM 4 "number_from" mN Cm
def Fj(T:V.T "number_from" mM mN)(uD:V.m "int")(uH:eI V)(uC:dg V):vQ V:=by
  refine(Tx.okM T sc_number_from (λds M R RX h=>?_) (λ_ _ _ _ _ _ _ J hr hx=>⟨_,((ao (bf (ic (bc (CalMth.one uH) hx hr (af (aa 0)) (aA (ac ai ae))) (af ai)) (aq (aE (af ad))) aR)
      (ao (aJ 1 sc_number_from.nd (ia (bc (CalMth.one uH) hx hr (af (aa 0)) (aA (ac ai ae))) (bc (CalMth.one uC) hx hr (af (aa 0)) (aA (ac ai ae)))))
      (ao (bR (aP (dN (Ac (aa 1) (ac ai ae)))) (aq (aJ 1 sc_number_from.nd (ia (af (aa 1)) (bc (CalMth.one uH) hx hr (af (aa 0)) (aA (ac ai ae)))))) aR)
      (aq (aE (af (fZ uD (ac (aa 1) ae))))))))),λds M R RX b_ h=>?_⟩))
  . let#[_,_,_,_,rfl,_]:=h;rfl
  . let#[a,t,k,l,rfl,rfl,d_,hR,hX]:=h;refine#[_,Gu.mpr rfl,_,aW,cY,a,t,k,l,"0",rfl,rfl,d_,?_];by_cases z0:∃l',l=48::l'
    . let#[l',rfl]:=z0;have e0:(48:Nat)∈cs "0":=by decide
      rw[dY e0,dZ e0];refine hR 0 l' (by unfold B12;lia) ?_ λe r=>?_
      . rw[show numL 0=[48]by decide+kernel];rfl
      . rw[show numL 0=[48]by decide+kernel,aO (st':=.sign e::r) Nb];rfl
    have n0:mayS "0" l=""/\mayN "0" l=0:=by
      cases l with
      |nil=>exact#[rfl,rfl]
      |cons c l=>
        have:c∉cs "0":=λq=>z0 #[l,by rw[show c=48 from Gu.mp q]];exact#[dH this,dI this]
    rw[n0.1,n0.2];let#[pre,l1,hp,rfl,hS,hN,h0]:∃pre l1,(pre=[]\/pre=[45])/\l=pre++l1/\mayS "-" l=⟨pre.toArray⟩/\mayN "-" l=pre.length/\(pre=[]->∀c l',l1=c::l'->c≠48/\c≠45):=by
      by_cases z1:∃l',l=45::l'
      . let#[l',rfl]:=z1;exact#[[45],l',.inr rfl,rfl,rfl,rfl,λq=>nomatch q]
      . refine#[[],l,.inl rfl,rfl,?_];cases l with
        |nil=>exact#[rfl,rfl,λ_ c l' q=>nomatch q]
        |cons c l=>
          have:c∉cs "-":=λq=>z1 #[l,by rw[show c=45 from Gu.mp q]];refine#[dH this,dI this,λ_ c' l' q=>?_];cases q;exact#[λe=>z0 #[l,by rw[e]],λe=>z1 #[l,by rw[e]]]
    have e8:=d_.app;refine#[λd M'=>∃c l2,l1=c::l2/\(49<=c/\c<=57)/\d=.str #[(pre++[c]).toArray]/\M'=RdM a t (k+pre.length+1),?_,?_]
    . refine#[_,Gu.mpr rfl,_,aW,cY,a,t,k,_,"-",rfl,rfl,d_,?_];rw[hS,hN];refine#[_,Gu.mpr rfl,_,aW,ci,a,t,k+pre.length,l1,"123456789",rfl,rfl,e8,λc l2 e hc=>?_,λf7 M'=>?_]
      . refine#[?_,c,l2,e,digits19.mp hc,?_,rfl]
        . rcases hp with rfl|rfl<;>simp[Str.length]
        . rw[show(#[[c].toArray]:J7)=#[[c].toArray]from rfl,str_of_list]
      . rw[b_];exact hX _ (Ck hp rfl (λc l' q=>λz=>f7 c l' q (digits19.mpr z)) h0 k) M'
    . rintro _ _⟨c,l2,rfl,hc,rfl,rfl⟩;k_places;have p_:=e8.next;refine#[λz M'=>∃x l3,((c=49/\∃d,(48<=d/\d<=50)/\x=[d])\/(x=[]/\(c=49->∀d l',l3=d::l'->¬(48<=d/\d<=50))))/\l2=x++l3/\z=[be (.ptr a),be (.str #[(pre++c::x).toArray])]/\M'=RdM a t (k+pre.length+1+x.length),?_,?_]
      . show if Txt.endswith #[(pre++[c]).toArray] "1"=true then _ else _
        rw[Cl];refine ite2 (λe=>?_) (λe=>?_)
        . have e':=of_decide_eq_true e;by_cases z2:∃d l3,l2=d::l3/\(48<=d/\d<=50)
          . let#[d,l3,rfl,hd]:=z2;refine#[λv M'=>v=.str #[(pre++[c,d]).toArray]/\M'=RdM a t (k+pre.length+1+1),#[_,Gu.mpr rfl,_,aW,cY,a,t,_,_,"012",rfl,rfl,p_,?_],?_]
            . rw[dY (digits02.mpr hd),dZ (digits02.mpr hd)];refine#[?_,?_,rfl]
              . rcases hp with rfl|rfl<;>simp[Str.length]
              . rw[show(#[[d].toArray]:J7)=#[[d].toArray]from rfl,str_of_list];simp
            . rintro _ _⟨rfl,rfl⟩;k_places;exact#[[d],l3,.inl #[e',d,hd,rfl],rfl,rfl,rfl]
          . have f7:∀d l',l2=d::l'->¬(48<=d/\d<=50):=λd l' q z=>z2 #[d,l',q,z];have hm:mayS "012" l2=""/\mayN "012" l2=0:=by
              cases l2 with
              |nil=>exact#[rfl,rfl]
              |cons d l2=>exact#[dH (λq=>f7 d l2 rfl (digits02.mp q)),dI (λq=>f7 d l2 rfl (digits02.mp q))]
            refine#[λv M'=>v=.str #[(pre++[c]).toArray]/\M'=RdM a t (k+pre.length+1),#[_,Gu.mpr rfl,_,aW,cY,a,t,_,_,"012",rfl,rfl,p_,?_],?_]
            . rw[hm.1,hm.2];refine#[?_,?_,rfl]
              . rcases hp with rfl|rfl<;>simp[Str.length,show(Str.ofString "").cps.size=0 from rfl]
              . rw[show("":J7)=#[([]:List Nat).toArray]from rfl,str_of_list];simp
            . rintro _ _⟨rfl,rfl⟩;k_places;exact#[[],l2,.inr #[rfl,λ_=>f7],rfl,rfl,rfl]
        . have e':¬c=49:=λz=>e (decide_eq_true z);exact#[[],l2,.inr #[rfl,λz=>absurd z e'],rfl,rfl,rfl]
      . rintro _ _⟨x,l3,hx,rfl,rfl,rfl⟩;k_places;have hn:isNumL (pre++c::x):=by
          rcases hx with⟨rfl,d,hd,rfl⟩|⟨rfl,_⟩
          . rcases hp with rfl|rfl
            . exact .inr (.inl #[d,hd,rfl])
            . exact .inr (.inr (.inr #[d,hd,rfl]))
          . rcases hp with rfl|rfl
            . exact .inl #[c,KZ,rfl]
            . exact .inr (.inr (.inl #[c,hc,rfl]))
        let#[v,hv,ev]:=Ca hn;refine#[v,#[?_,?_],?_]
        . rw[<-ev];exact kR hv
        . rw[<-ev];have:=bK hv;rw[<-bF]at this ⊢;show(numL v).length<=640;exact GD this K3
        . have:=hR v l3 hv (by rw[ev];simp) λe r=>by rw[ev];exact Cj hp hc hx k e r rfl
          rw[ev]at this;have e2:k+(pre++c::x).length=k+pre.length+1+x.length:=by simp;lia
          rw[e2]at this;exact this
abbrev ji(V:Bx):Prop:=V.MM 5 "shift_from" mR Cn
def Fk(T:V.T "shift_from" mQ mR)(NA:vQ V)(uC:dg V):ji V:=by
 refine(Tx.okM T sc_shift_from (λds M R RX h=>?_) (λ_ _ _ _ _ _ _ J hr hx=>⟨_,((ao (aJ 1 sc_shift_from.nd (aU NA hx hr (aA (ac (aa 0) ae))))
   (ao (bj (bc (CalMth.one uC) hx hr (af (aa 0)) (aA (ac ai ae))))
   (aq (aE (sK (aM (af (aa 1)) (aM (aU NA hx hr (aA (ac (aa 0) ae))) bp)))))))),λds M R RX b_ h=>?_⟩))
 .let#[_,_,_,_,rfl,_]:=h;rfl
 .let#[a,t,k,l,rfl,rfl,d_,hR,hX]:=h;refine#[λd M'=>∃x l1,B12 x/\l=numL x++l1/\(∀e r,walk (.num::.sign e::r) l k=walk (.sign e::r) l1 (k+(numL x).length))/\d=.int x/\M'=RdM a t (k+(numL x).length),#[a,t,k,l,rfl,rfl,d_,λx l' hx e hw=>#[x,l',hx,e,hw,rfl,rfl],λj hj M'=>?_],?_]
  .rw[b_];exact hX j (λr=>hj _) M'
  rintro _ _⟨x,l1,i_,rfl,v_,rfl,rfl⟩;k_places;have e8:=d_.app;refine#[_,Gu.mpr rfl,_,aW,ci,a,t,_,l1,",",rfl,rfl,e8,λc l2 e hc=>?_,λf7 M'=>?_]
  .have ec:c=44:=Gu.mp hc;subst ec;subst e;refine#[a,t,_,l2,rfl,rfl,e8.next,λy l' hy e hw=>?_,λj hj M'=>?_]
   .subst e;refine#[K8,hR x y l' i_ hy rfl λe r=>?_];rw[v_ 44 _,eA,hw e r]
   .rw[b_];refine hX j (λr=>?_) M';rw[v_ 44 _,eA,hj]
  .rw[b_];refine hX _ (λr=>?_) M';rw[v_ 44 _,eo λl' q=>f7 44 l' q K3]
abbrev oX(V:Bx):Prop:=V.D 1 "levelled" mV BC
def Fo(T:V.T "levelled" mU mV):oX V:=by
 refine Tx.okDW T sc_levelled (λds R h=>?_) (λ_ _ _ _ _ _ _ J hr=>⟨_,((aj (fY PassesOwn.never (fb (ag (aa 1) ad) ad) (aj (au 2 sc_levelled.nd (yI (ag (aa 0) ad) (ag (aa 1) ad)))
    (aj (au 3 sc_levelled.nd (az (ac (bA (ag (aa 0) ad) (aD (aa 2) (ag (aa 1) ad))) (ac (bA (ag (aa 0) ad) (aD (aa 2) (ag (aa 1) ad))) ae))))
    (aj (au 0 sc_levelled.nd (aa 1))
    (aw (au 1 sc_levelled.nd (aa 3)))))))
   (aj (fk (eZ (ag (aa 0) ad) ad) (aw (au 0 sc_levelled.nd (az (ac (bO (ag (aa 0) ad)) (ac (bO (ag (aa 0) ad)) ae))))) bg)
   (aw (aG (az (ac (aa 0) (ac (aa 1) ae)))))))),λds R h=>?_⟩)
 .let#[a,b,c,d,rfl,_]:=h;rfl
 .let#[a,b,c,d,rfl,hb,hd,hR]:=h;refine#[λm z=>∃(f0 f1 s0 s1:Int) (t r:Option D),z=[be (.tup [.int f0,.int f1]),be (.tup [.int s0,.int s1]),t,r]/\Uni a b c d f0 f1 s0 s1/\f1.natAbs<4611686018427387904/\s1.natAbs<4611686018427387904/\m=s1.natAbs,#[_,a,b,c,d,x8,x8,rfl,Uni.refl a b c d,hb,hd,rfl],?_];rintro m z⟨f0,f1,s0,s1,t,r,rfl,hu,hf,hs,rfl⟩;k_places;refine#[_,rfl,ite2 (λcc=>?_) (λcc=>?_)]
  .have c':¬s1=0:=by simpa using cc
   let#[g1,g2]:=fdm f1 s1 c';refine#[λd=>d=.int (f1.fdiv s1),#[_,rfl,_,rfl,#[c',hs],rfl],?_];rintro _ rfl;k_places;refine#[λd=>d=.tup [.int (f0-f1.fdiv s1*s0),.int (f1-f1.fdiv s1*s1)],#[_,rfl,_,rfl,.inl #[KZ,KZ],_,rfl,_,rfl,.inl #[KZ,KZ],K8,rfl],?_];rintro _ rfl;k_places;refine#[λd=>d=.tup [.int s0,.int s1],rfl,?_];rintro _ rfl;k_places;refine#[λd=>d=.tup [.int (f0-f1.fdiv s1*s0),.int (f1-f1.fdiv s1*s1)],rfl,?_];rintro _ rfl;k_places;exact#[_,g1,s0,s1,_,_,_,_,rfl,hu.step _,hs,KZ,rfl]
  .have c':s1=0:=by simpa using cc
   subst c';refine#[λz=>∃p0 p1:Int,z=[be (.tup [.int p0,.int p1]),be (.tup [.int s0,.int 0]),t,r]/\Lev a b c d p0 p1 s0,#[_,rfl,ite2 (λe=>?_) (λe=>?_)],?_]
   .have e':=of_decide_eq_true e;refine#[λd=>d=.tup [.int (-f0),.int (-f1)],#[_,rfl,_,rfl,K8,rfl],?_];rintro _ rfl;k_places;exact#[_,_,rfl,KZ,hu.neg]
   .have e':=of_decide_eq_false (G4.mpr e);exact#[_,_,rfl,KZ,hu]
   .rintro _⟨p0,p1,rfl,hL⟩;k_places;exact#[K8,hR p0 p1 s0 hL]
abbrev oY(V:Bx):Prop:=V.D 2 "spread" mY BD
def Fp(T:V.T "spread" mW mY)(uO:V.m "abs")(LH:oX V):oY V:=by
 refine Tx.okDW T sc_spread (λds R h=>?_) (λ_ _ _ _ _ _ _ J hr=>⟨_,((aj (bt (aI (aD (ag (aa 0) ad) (ag (aa 1) ad)) (aD (ag (aa 0) ad) (ag (aa 1) ad))) (aw (aG cm)) bg)
   (aj (au 2 sc_spread.nd (aK LH hr (ac (aa 0) (ac (aa 1) ae))))
   (aj (au 3 sc_spread.nd (eY uO (ac (ag (ag (aa 2) ad) ad) ae)))
   (aw (aG (az (ac (aa 3) (ac (ag (ag (aa 2) ad) ad) (ac (aC (ag (ag (aa 2) ad) ad) (aa 3)) ae)))))))))),λds R h=>?_⟩)
 .let#[a,b,c,d,rfl,_]:=h;rfl
 .let#[a,b,c,d,rfl,ha,hb,hc,hd,hN,hR]:=h;refine#[_,rfl,_,rfl,.inl #[KZ,KZ],_,rfl,_,rfl,.inl #[KZ,KZ],ite2 (λe=>?_) (λe=>?_)]
  .exact hN (of_decide_eq_true e)
  .have e':=of_decide_eq_false (G4.mpr e);refine#[λx=>∃p0 p1 q0:Int,x=.tup [.tup [.int p0,.int p1],.tup [.int q0,.int 0]]/\Lev a b c d p0 p1 q0,#[a,b,c,d,rfl,hb,hd,λp0 p1 q0 hL=>#[p0,p1,q0,rfl,hL]],?_];rintro _⟨p0,p1,q0,rfl,hL⟩;k_places;have hF:=gl e' hL;refine#[λx=>x=.int (if q0<0 then -q0 else q0),#[_,rfl,_,rfl,rfl],?_];rintro _ rfl;k_places;exact#[_,rfl,_,rfl,_,rfl,_,rfl,hF.1,K8,hR e' _ _ _ hF]
abbrev jj(V:Bx):Prop:=V.D 1 "home" nh BB
def Fq(T:V.T "home" mZ nh):jj V:=by
 refine Tx.okDW T sc_home (λds R h=>?_) (λ_ _ _ _ _ _ _ J hr=>⟨_,((aj (au 3 sc_home.nd (ag (aa 0) ad))
   (aj (au 4 sc_home.nd (ag (aa 0) ad))
   (aj (au 5 sc_home.nd (ag (aa 0) ad))
   (aw (aG (az (ac (aC (bA (aa 1) (aD (bq (aa 2) (aa 4)) (aa 5))) (aa 3)) (ac (aC (aa 2) (aa 4)) ae))))))))),λds R h=>?_⟩)
 .let#[w,h,s,x,y,rfl,_]:=h;rfl
 .let#[w,h,s,x,y,rfl,hw,hh,J2,hs,m4,hR]:=h;refine#[λd=>d=.int w,#[_,rfl,rfl],?_];rintro _ rfl;k_places;refine#[λd=>d=.int h,#[_,rfl,rfl],?_];rintro _ rfl;k_places;refine#[λd=>d=.int s,#[_,rfl,rfl],?_];rintro _ rfl;k_places;exact#[#[hh,J2],.inr #[KZ,KZ],hw,hh,K8,hR]
abbrev vR(V:Bx):Prop:=V.MM 2 "hues_by_home" nq Cy
def Fs(T:V.T "hues_by_home" nj nq)(NB:V.m "enumerate")(KH:jj V)(uZ:V.gs "SIGNS" ".123456"):vR V:=by
 refine(Tx.okM T sc_hues_by_home (λds M R RX h=>?_) (λ_ _ _ _ _ _ _ J hr hx=>⟨_,((ao (aJ 2 sc_hues_by_home.nd A1)
   (ao (AR PassesOwn.leaving rfl NB (af (aa 0)) (dg_cons 3 sc_hues_by_home.nd (dg_cons 4 sc_hues_by_home.nd dQ)) (aq (AS PassesOwn.leaving rfl NB (af (aa 4)) (dg_cons 5 sc_hues_by_home.nd (dg_cons 6 sc_hues_by_home.nd dQ)) (aq (bR (aP (fb (aa 6) ai)) (aq (bj (A4 (du hr) (af (aa 2)) (aA (ac (aK KH hr (ac (aa 1) (ac (aa 5) (ac (aa 3) ae)))) (ac (Ae (gX uZ) (ac (aa 6) ae)) ae)))))) aR)))))
   (sV 2 (aq (aE (af (aa 2)))))))),λds M R RX b_ h=>?_⟩))
 .let#[_,_,_,_,_,rfl,_]:=h;rfl
 .let#[L,wd,w,h,s,rfl,hL,hw,hh,J2,hs,m4,hR]:=h;have Tv:=hL.w8;refine#[λd M'=>∃p,p∉av M/\d=.ptr p/\M'=(p,.dti [])::M,λp hp=>#[p,hp,rfl,rfl],?_];rintro _ _⟨p,hp,rfl,rfl⟩;k_places;refine#[λj z M'=>∃(kv:List ((Int×Int)×Int)) (x3 x4 x5 x6:Option D),hAll w h s j (L.drop j) kv=hAll w h s 0 L []/\kv.length<=8*j/\z=[be (.lst (lstD L)),be (.tup [.int w,.int h,.int s]),be (.ptr p),x3,x4,x5,x6]/\M'=(p,.dti kv)::M,#[[],x8,x8,x8,x8,rfl,K8,rfl,rfl],?_,?_]
  .rintro j d z M' hd⟨kv,x3,x4,x5,x6,e1,Sy,rfl,rfl⟩;k_places;let#[x,i_,rfl]:=Cu hd;have hj:j<L.length:=(GO.mp i_).1;have Tw:=hL.many;let#[xl,xs]:=hL.each x (HN i_);rw[um i_]at e1;refine#[Ct xs,λi z M'=>∃(Kp:List ((Int×Int)×Int)) (x5 x6:Option D),hRow w h s j i (x.drop i) Kp=hRow w h s j 0 x kv/\Kp.length<=8*j+i/\i<=x.length/\z=[be (.lst (lstD L)),be (.tup [.int w,.int h,.int s]),be (.ptr p),be (.int j),be (.str #[x.toArray]),x5,x6]/\M'=(p,.dti Kp)::M,#[kv,x5,x6,rfl,KZ,GT _,rfl,rfl],?_,?_]
   .rintro i d z M' Lq⟨Kp,y5,y6,e2,Pl,hi,rfl,rfl⟩;k_places;let#[c,hc,rfl]:=Cw Lq;have LG:i<x.length:=(GO.mp hc).1;have sc:=xs c (HN hc);rw[um hc,hRow]at e2;refine#[λz M'=>∃MD:List ((Int×Int)×Int),hRow w h s j (i+1) (x.drop (i+1)) MD=hRow w h s j 0 x kv/\MD.length<=8*j+(i+1)/\z=[be (.lst (lstD L)),be (.tup [.int w,.int h,.int s]),be (.ptr p),be (.int j),be (.str #[x.toArray]),be (.int i),be (.str #[[c].toArray])]/\M'=(p,.dti MD)::M,?_,?_]
    .show if(!decide ((#[[c].toArray]:J7)="."))=true then _ else _;by_cases KC:c=46
     .subst KC;rw[if_pos rfl]at e2;exact#[Kp,e2,KZ,rfl,rfl]
     .rw[if_neg KC]at e2;refine ifT (by simp[one_sign,KC]) ?_;have c6:49<=c/\c<=54:=by unfold isSign at sc;lia
      let#[ix,rest,ho,N5]:=Cs c6;refine#[#[_,cZ],w,h,s,i,j,rfl,hw,hh,J2,hs,m4,ix,rest,ho,_,cZ,by have:=ul Kp (hmX w h s i j) ((j:Int)%h) ((c:Int)-48);lia,λv=>?_];rw[ui,N5];exact#[_,e2,by have:=ul Kp (hmX w h s i j) ((j:Int)%h) ((c:Int)-48);lia,rfl,rfl]
    .rintro z M'⟨MD,e3,h3,rfl,rfl⟩;k_places;exact#[MD,_,_,e3,h3,LG,rfl,rfl]
   .rintro z M' hz;rw[sC,len_of_list]at hz;let#[Kp,y5,y6,e2,Pl,hi,rfl,rfl]:=hz;rw[JY]at e2;refine#[Kp,_,_,_,_,?_,KZ,rfl,rfl];rw[<-e1,hAll,<-e2];rfl
  .rintro z M' hz;rw[show(lstD L).length=L.length by simp[lstD]]at hz;let#[kv,x3,x4,x5,x6,e1,Sy,rfl,rfl]:=hz;rw[JY]at e1;refine#[_,cZ,?_];rw[kS];have e2:kv=hAll w h s 0 L []:=e1;rw[<-e2]at hR;exact hR
abbrev vS(V:Bx):Prop:=V.M 3 "Motif" nu Cz
def Ft(T:V.Ti "Motif" "Motif.__init__" nt nu)(LI:oY V)(Pm:vR V)(KI:V.a "Motif" "place")(uK:V.a "Motif" "shifts")(KJ:V.a "Motif" "hues"):vS V:=by
 refine Txi.okIM T DP (λds R h=>?_) (λ_ _ _ _ _ _ _ J hr hx=>⟨_,((ao (bY KI (af (aa 0)) (af (aa 1)))
   (ao (bY uK (af (aa 0)) (af (aK LI hr (ac (aa 3) (ac (aa 4) ae)))))
   (aq (bY KJ (af (aa 0)) (gh (sI (aH uK (af (aa 0))) (af cm)) AZ (aU Pm hx hr (aM (af (aa 2)) (aM (aH uK (af (aa 0))) bp))))))))),λa ds R f7 h=>?_⟩)
 .let#[_,_,_,_,_,_,_,rfl,_]:=h;rfl
 .let#[k,L,wd,x,y,u,v,rfl,hL,i_,hy,hu,hv,h0,h1]:=h;unfold B12 at i_ hy hu hv;refine#[_,cM,le_b rfl,?_];rw[fD,CA];refine#[x,y,u,v,rfl,KZ,KZ,KZ,KZ,λe=>?_,λe w h s F=>?_]
  .refine#[_,cM,le_b rfl,?_];rw[fD,uo];refine#[_,cM,_,kT,?_];refine#[_,cM,le_b rfl,?_];rw[fD,uq];exact#[_,rfl,h0 e]
  .refine#[_,cM,le_b rfl,?_];rw[fD,uo];refine#[_,cM,_,kT,?_];let#[b1,b2,b3]:=F.bd (N:=288) (by
    have m1:=bB (a:=x) (d:=v) (A:=12) (B:=12) KZ KZ;have m2:=bB (a:=y) (d:=u) (A:=12) (B:=12) KZ KZ;lia)
   refine#[_,cM,_,kT,L,wd,w,h,s,rfl,hL,F.1,F.2.1,KZ,F.2.2.1,KZ,?_];refine#[_,cM,le_b rfl,?_];rw[fD,uq];exact#[_,rfl,h1 e w h s F]
abbrev oZ(V:Bx):Prop:=V.MM 6 "motif_from" ny CI
def Fu(T:V.T "motif_from" nv ny)(Pn:vP V)(Kq:ji V)(uG:V.a "Reading" "place")(Po:vS V)(uC:dg V):oZ V:=by
  refine(Tx.okM T sc_motif_from (λds M R RX h=>?_) (λ_ _ _ _ _ _ _ J hr hx=>⟨_,((ao (aJ 1 sc_motif_from.nd (aH uG (af (aa 0))))
      (ao (bj (bc (CalMth.one uC) hx hr (af (aa 0)) (aA (ac ai ae))))
      (ao (aJ 2 sc_motif_from.nd (aU Pn hx hr (aA (ac (aa 0) ae))))
      (ao (bj (bc (CalMth.one uC) hx hr (af (aa 0)) (aA (ac ai ae))))
      (ao (aJ 3 sc_motif_from.nd (aU Kq hx hr (aA (ac (aa 0) ae))))
      (ao (bj (bc (CalMth.one uC) hx hr (af (aa 0)) (aA (ac ai ae))))
      (ao (aJ 4 sc_motif_from.nd (aU Kq hx hr (aA (ac (aa 0) ae))))
      (ao (bj (bc (CalMth.one uC) hx hr (af (aa 0)) (aA (ac ai ae))))
      (aq (aE (af (kg Po hr (ac (aa 1) (ac (aa 2) (ac (aa 3) (ac (aa 4) ae))))))))))))))))),λds M R RX b_ h=>?_⟩))
  . let#[_,_,_,_,rfl,_]:=h;rfl
  . let#[a,t,k,l,rfl,rfl,d_,hR,hX]:=h;refine#[λd M'=>d=.int k/\M'=RdM a t k,#[_,aW,_,dG,rfl,rfl],?_];rintro _ _⟨rfl,rfl⟩;k_places;refine#[_,Gu.mpr rfl,_,aW,ci,a,t,_,l,"[",rfl,rfl,d_,λc l1 e hc=>?_,λf7 M'=>?_]
    . have ec:c=91:=Gu.mp hc;subst ec;subst e;have hb:∀r,walk (.pat 5::r) (91::l1) k=walk (motW r) l1 (k+1):=λr=>aO (by rw[bT];rfl);refine#[λd M'=>∃(L:List (List Nat)) (w:Nat) (l2:List Nat),RowsL L w/\l1=rowsL L++l2/\(∀r,walk (.lin 0 0 0::r) l1 (k+1)=walk (.sign 59::r) l2 (k+1+(rowsL L).length))/\d=.lst (lstD L)/\M'=RdM a t (k+1+(rowsL L).length),#[a,t,_,l1,rfl,rfl,d_.next,λL w l' h1 h2 h3=>#[L,w,l',h1,h2,h3,rfl,rfl],λj hj M'=>?_],?_]
      . rw[b_];exact hX j (λr=>by rw[hb];exact hj _) M'
      rintro _ _⟨L,w,l2,hL,rfl,KA,rfl,rfl⟩;k_places;have p_:=d_.next.app;have Mq:∀r,walk (.pat 5::r) (91::(rowsL L++l2)) k=walk (.sign 59::.num::.sign 44::.num::.sign 59::.num::.sign 44::.num::.sign 93::r) l2 (k+1+(rowsL L).length):=λr=>by rw[hb];exact KA _
      refine#[_,Gu.mpr rfl,_,aW,ci,a,t,_,l2,";",rfl,rfl,p_,λc l3 e hc=>?_,λf7 M'=>?_]
      . have ec:c=59:=Gu.mp hc;subst ec;subst e;have Kr:=p_.next;have Pp:∀r,walk (.pat 5::r) (91::(rowsL L++59::l3)) k=walk (.num::.sign 44::.num::.sign 59::.num::.sign 44::.num::.sign 93::r) l3 (k+1+(rowsL L).length+1):=λr=>by rw[Mq,eA]
        refine#[λd M'=>∃x y l4,B12 x/\B12 y/\l3=numL x++44::(numL y++l4)/\(∀e r,walk (.num::.sign 44::.num::.sign e::r) l3 (k+1+(rowsL L).length+1)=walk (.sign e::r) l4 (k+1+(rowsL L).length+1+(numL x).length+1+(numL y).length))/\d=.tup [.int x,.int y]/\M'=RdM a t (k+1+(rowsL L).length+1+(numL x).length+1+(numL y).length),#[a,t,_,l3,rfl,rfl,Kr,λx y l' h1 h2 h3 h4=>#[x,y,l',h1,h2,h3,h4,rfl,rfl],λj hj M'=>?_],?_]
        . rw[b_];exact hX j (λr=>by rw[Pp];exact hj _) M'
        rintro _ _⟨x,y,l4,i_,hy,rfl,QR,rfl,rfl⟩;k_places;have MF:At t (k+1+(rowsL L).length+1+(numL x).length+1+(numL y).length) l4:=Kr.app.next.app;refine#[_,Gu.mpr rfl,_,aW,ci,a,t,_,l4,";",rfl,rfl,MF,λc l5 e hc=>?_,λf7 M'=>?_]
        . have ec:c=59:=Gu.mp hc;subst ec;subst e;have MG:=MF.next;have QS:∀r,walk (.pat 5::r) (91::(rowsL L++59::(numL x++44::(numL y++59::l5)))) k=walk (.num::.sign 44::.num::.sign 93::r) l5 (k+1+(rowsL L).length+1+(numL x).length+1+(numL y).length+1):=λr=>by rw[Pp,QR,eA]
          refine#[λd M'=>∃u v l6,B12 u/\B12 v/\l5=numL u++44::(numL v++l6)/\(∀e r,walk (.num::.sign 44::.num::.sign e::r) l5 (k+1+(rowsL L).length+1+(numL x).length+1+(numL y).length+1)=walk (.sign e::r) l6 (k+1+(rowsL L).length+1+(numL x).length+1+(numL y).length+1+(numL u).length+1+(numL v).length))/\d=.tup [.int u,.int v]/\M'=RdM a t (k+1+(rowsL L).length+1+(numL x).length+1+(numL y).length+1+(numL u).length+1+(numL v).length),#[a,t,_,l5,rfl,rfl,MG,λx y l' h1 h2 h3 h4=>#[x,y,l',h1,h2,h3,h4,rfl,rfl],λj hj M'=>?_],?_]
          . rw[b_];exact hX j (λr=>by rw[QS];exact hj _) M'
          rintro _ _⟨u,v,l6,hu,hv,rfl,QT,rfl,rfl⟩;k_places;have Pq:At t (k+1+(rowsL L).length+1+(numL x).length+1+(numL y).length+1+(numL u).length+1+(numL v).length) l6:=MG.app.next.app;refine#[_,Gu.mpr rfl,_,aW,ci,a,t,_,l6,"]",rfl,rfl,Pq,λc l7 e hc=>?_,λf7 M'=>?_]
          . have ec:c=93:=Gu.mp hc;subst ec;subst e;let#[Sz,QU]:=CH hL;have QV:(Pat.mot (L.map λx=>(#[x.toArray]:J7)) x y u v).tl=motL L x y u v:=by rw[Pat.tl,QU]
            have MH:∀w,FormOf (Pat.mot (L.map λx=>(#[x.toArray]:J7)) x y u v) k w->R w (RdM a t (k+1+(rowsL L).length+1+(numL x).length+1+(numL y).length+1+(numL u).length+1+(numL v).length+1)):=λw hw=>by
              have:=hR (Pat.mot (L.map λx=>(#[x.toArray]:J7)) x y u v) l7 #[Sz,i_,hy,hu,hv] rfl (by rw[QV];simp[motL]) w hw;rw[QV]at this;have e:k+(motL L x y u v).length=k+1+(rowsL L).length+1+(numL x).length+1+(numL y).length+1+(numL u).length+1+(numL v).length+1:=by
                simp[motL];lia
              rw[e]at this;exact this
            refine#[k,L,w,x,y,u,v,rfl,hL,i_,hy,hu,hv,λe=>?_,λe w h s F=>?_]
            . exact MH _ #[.non,[],rfl,λ_=>rfl,λz=>absurd e z]
            . exact MH _ #[_,_,rfl,λz=>absurd z e,λ_=>#[w,h,s,F,rfl,by rw[QU]]]
          . rw[b_];refine hX _ (λr=>?_) M';rw[QS,QT,eo λl' q=>f7 93 l' q K3]
        . rw[b_];refine hX _ (λr=>?_) M';rw[Pp,QR,eo λl' q=>f7 59 l' q K3]
      . rw[b_];refine hX _ (λr=>?_) M';rw[Mq,eo λl' q=>f7 59 l' q K3]
    . rw[b_];refine hX _ (λr=>?_) M';refine walk_bad (λz=>nomatch z) λc l' q=>?_;rw[bT];unfold aZ;have:¬c=91:=λz=>f7 c l' q (by rw[z];decide);rw[if_neg this,if_pos rfl]
abbrev pd(V:Bx):Prop:=V.M 1 "Mirror" nA CD
def Fv(T:V.Ti "Mirror" "Mirror.__init__" nz nA)(uV:V.a "Mirror" "form"):pd V:=by
 refine Txi.okI T DQ (λds R h=>?_) (λ_ _ _ _ _ _ _ J hr=>#[_,((bP uV (aa 1) dR)),λds R h=>?_])
 .let#[_,_,rfl,_]:=h;rfl
 .let#[x,fs,rfl,hR]:=h;exact#[K3,hR]
abbrev pe(V:Bx):Prop:=V.M 1 "Turn" nC CF
def Fw(T:V.Ti "Turn" "Turn.__init__" nB nC)(uS:V.a "Turn" "form"):pe V:=by
 refine Txi.okI T DR (λds R h=>?_) (λ_ _ _ _ _ _ _ J hr=>#[_,((bP uS (aa 1) dR)),λds R h=>?_])
 .let#[_,_,rfl,_]:=h;rfl
 .let#[x,fs,rfl,hR]:=h;exact#[K3,hR]
abbrev pf(V:Bx):Prop:=V.M 1 "Over" nE CB
def Fx(T:V.Ti "Over" "Over.__init__" nD nE)(uP:V.a "Over" "above")(uT:V.a "Over" "below"):pf V:=by
 refine Txi.okI T DU (λds R h=>?_) (λ_ _ _ _ _ _ _ J hr=>#[_,((bP uP (aa 1) (bP uT (aa 2) dR))),λds R h=>?_])
 .let#[_,_,_,_,rfl,_]:=h;rfl
 .let#[x,y,fs,gs,rfl,hR]:=h;refine#[K3,le_b rfl,?_];show R (putD _ _ (putD _ _ []));rw[putD,putD,if_neg KK];exact hR
abbrev ph(V:Bx):Prop:=V.M 1 "Shifted" nG CC
def Fy(T:V.Ti "Shifted" "Shifted.__init__" nF nG)(uQ:V.a "Shifted" "form")(KL:V.a "Shifted" "x")(KN:V.a "Shifted" "y"):ph V:=by
 refine Txi.okI T DV (λds R h=>?_) (λ_ _ _ _ _ _ _ J hr=>#[_,((bP uQ (aa 1) (bP KL (aa 2) (bP KN (aa 3) dR)))),λds R h=>?_])
 .let#[_,_,_,_,rfl,_]:=h;rfl
 .let#[x,fs,a,b,rfl,hR]:=h;refine#[K3,le_b rfl,le_b rfl,?_];show R (putD _ _ (putD _ _ (putD _ _ [])));rw[show putD ("x":J7) (.int a) (putD ("form":J7) (.obj x fs) [])=([("form",.obj x fs),("x",.int a)]:List (J7×D))by rw[putD,putD,if_neg KK];rfl,putD,if_neg KK,putD,if_neg KK];exact hR
abbrev pi(V:Bx):Prop:=V.M 1 "Rehue" nI CG
def Fz(T:V.Ti "Rehue" "Rehue.__init__" nH nI)(uU:V.a "Rehue" "form")(KO:V.a "Rehue" "old")(KP:V.a "Rehue" "new"):pi V:=by
 refine Txi.okI T DY (λds R h=>?_) (λ_ _ _ _ _ _ _ J hr=>#[_,((bP uU (aa 1) (bP KO (aa 2) (bP KP (aa 3) dR)))),λds R h=>?_])
 .let#[_,_,_,_,rfl,_]:=h;rfl
 .let#[x,fs,a,b,rfl,hR]:=h;refine#[K3,le_b rfl,le_b rfl,?_];show R (putD _ _ (putD _ _ (putD _ _ [])));rw[show putD ("old":J7) (.int a) (putD ("form":J7) (.obj x fs) [])=([("form",.obj x fs),("old",.int a)]:List (J7×D))by rw[putD,putD,if_neg KK];rfl,putD,if_neg KK,putD,if_neg KK];exact hR
variable{n j:Nat}
def FA(hL:6<=n)(T:V.T "over_from" iz gv)(uI:V.MM n "form_from" cN (dJ j))(MI:pf V)(uC:dg V):V.MM (n+1) "over_from" gv (uu j):=by
 refine Tx.okM T sc_over_from (λds M R RX h=>?_) (λ_ _ _ _ _ _ _ J hr hx=>⟨_,((ao (aJ 2 sc_over_from.nd (aU (hn:=LV) uI hx hr (aA (ac (aa 0) (ac (aa 1) ae)))))
   (ao (bj (bc (hn:=LV) (CalMth.one uC) hx hr (af (aa 0)) (aA (ac ai ae))))
   (ao (aJ 3 sc_over_from.nd (aU (hn:=LV) uI hx hr (aA (ac (aa 0) (ac (aa 1) ae)))))
   (ao (bj (bc (hn:=LV) (CalMth.one uC) hx hr (af (aa 0)) (aA (ac ai ae))))
   (aq (aE (af (kg (hn:=LV) MI hr (ac (aa 2) (ac (aa 3) ae))))))))))),λds M R RX b_ h=>?_⟩)
 .let#[_,_,_,_,_,rfl,_]:=h;rfl
 .let#[a,t,k,l,d,rfl,rfl,d_,Ll,Km,hR,hX]:=h;refine#[λv M'=>∃p l1,p.Syn/\p.depth+d<=5/\l=p.tl++l1/\FormOf p k v/\M'=RdM a t (k+p.tl.length),#[a,t,k,l,d,rfl,rfl,d_,Ll,Km,λp l' h1 h2 h3 v h4=>#[p,l',h1,h2,h3,h4,rfl],λi hi M'=>?_],?_]
  .rw[b_];exact hX i (λr=>hi _) M'
  rintro v _⟨p,l1,hp,Pr,rfl,hv,rfl⟩;k_places;let#[fs,rfl]:=hv.obj;have e8:=d_.app;have v_:∀r,walk (.pat d::.sign 124::.pat d::.sign 41::r) (p.tl++l1) k=walk (.sign 124::.pat d::.sign 41::r) l1 (k+p.tl.length):=λr=>cL hp d _ l1 k Pr;refine#[_,Gu.mpr rfl,_,aW,ci,a,t,_,l1,"|",rfl,rfl,e8,λc l2 e hc=>?_,λf7 M'=>?_]
  .have ec:c=124:=Gu.mp hc;subst ec;subst e;refine#[λv M'=>∃q l3,q.Syn/\q.depth+d<=5/\l2=q.tl++l3/\FormOf q (k+p.tl.length+1) v/\M'=RdM a t (k+p.tl.length+1+q.tl.length),#[a,t,_,l2,d,rfl,rfl,e8.next,Ll,Km,λp l' h1 h2 h3 v h4=>#[p,l',h1,h2,h3,h4,rfl],λi hi M'=>?_],?_]
   .rw[b_];exact hX i (λr=>by rw[v_,eA];exact hi _) M'
   rintro v _⟨q,l3,hq,QW,rfl,QX,rfl⟩;k_places;let#[gs,rfl]:=QX.obj;have Kr:=e8.next.app;have SA:∀r,walk (.pat d::.sign 124::.pat d::.sign 41::r) (p.tl++124::(q.tl++l3)) k=walk (.sign 41::r) l3 (k+p.tl.length+1+q.tl.length):=λr=>by rw[v_,eA,cL hq d _ l3 _ QW]
   refine#[_,Gu.mpr rfl,_,aW,ci,a,t,_,l3,")",rfl,rfl,Kr,λc l4 e hc=>?_,λf7 M'=>?_]
   .have ec:c=41:=Gu.mp hc;subst ec;subst e;exact#[_,_,_,_,rfl,hR p q l4 hp hq Pr QW rfl _ _ hv QX]
   .rw[b_];refine hX _ (λr=>?_) M';rw[SA,eo λl' q=>f7 41 l' q K3]
  .rw[b_];refine hX _ (λr=>?_) M';rw[v_,eo λl' q=>f7 124 l' q K3]
def FC(hL:6<=n)(T:V.T "shifted_from" iA gw)(Kq:ji V)(uI:V.MM n "form_from" cN (dJ j))(MJ:ph V)(uC:dg V):V.MM (n+1) "shifted_from" gw (uw j):=by
 refine Tx.okM T sc_shifted_from (λds M R RX h=>?_) (λ_ _ _ _ _ _ _ J hr hx=>⟨_,((ao (aJ 2 sc_shifted_from.nd (aU (hn:=LV) Kq hx hr (aA (ac (aa 0) ae))))
   (ao (bj (bc (hn:=LV) (CalMth.one uC) hx hr (af (aa 0)) (aA (ac ai ae))))
   (aq (aE (ij (hn:=LV) MJ hr (aM (aU (hn:=LV) uI hx hr (aA (ac (aa 0) (ac (aa 1) ae)))) (aM (af (ag (aa 2) ad)) (aM (af (ag (aa 2) ad)) bp))))))))),λds M R RX b_ h=>?_⟩)
 .let#[_,_,_,_,_,rfl,_]:=h;rfl
 .let#[a,t,k,l,d,rfl,rfl,d_,Ll,Km,hR,hX]:=h;refine#[λv M'=>∃x y l1,B12 x/\B12 y/\l=numL x++44::(numL y++l1)/\(∀e r,walk (.num::.sign 44::.num::.sign e::r) l k=walk (.sign e::r) l1 (k+(numL x).length+1+(numL y).length))/\v=.tup [.int x,.int y]/\M'=RdM a t (k+(numL x).length+1+(numL y).length),#[a,t,_,l,rfl,rfl,d_,λx y l' h1 h2 h3 h4=>#[x,y,l',h1,h2,h3,h4,rfl,rfl],λi hi M'=>?_],?_]
  .rw[b_];exact hX i (λr=>hi _) M'
  rintro _ _⟨x,y,l1,i_,hy,rfl,v_,rfl,rfl⟩;k_places;have e8:At t (k+(numL x).length+1+(numL y).length) l1:=d_.app.next.app;refine#[_,Gu.mpr rfl,_,aW,ci,a,t,_,l1,":",rfl,rfl,e8,λc l2 e hc=>?_,λf7 M'=>?_]
  .have ec:c=58:=Gu.mp hc;subst ec;subst e;refine#[a,t,_,l2,d,rfl,rfl,e8.next,Ll,Km,λp l' h1 h2 h3 v h4=>?_,λi hi M'=>?_]
   .let#[fs,rfl]:=h4.obj;subst h3;exact#[_,rfl,_,rfl,_,_,_,_,rfl,hR x y p l' i_ hy h1 h2 rfl _ h4]
   .rw[b_];refine hX i (λr=>?_) M';rw[v_,eA];exact hi _
  .rw[b_];refine hX _ (λr=>?_) M';rw[v_,eo λl' q=>f7 58 l' q K3]
def FD(hL:6<=n)(T:V.T "rehue_from" iB gx)(uD:V.m "int")(uI:V.MM n "form_from" cN (dJ j))(MK:pi V)(uC:dg V):V.MM (n+1) "rehue_from" gx (ux j):=by
 refine Tx.okM T sc_rehue_from (λds M R RX h=>?_) (λ_ _ _ _ _ _ _ J hr hx=>⟨_,((ao (aJ 2 sc_rehue_from.nd (sM uD (aM (bc (hn:=LV) (CalMth.one uC) hx hr (af (aa 0)) (aA (ac ai ae))) bp)))
   (ao (aJ 3 sc_rehue_from.nd (sM uD (aM (bc (hn:=LV) (CalMth.one uC) hx hr (af (aa 0)) (aA (ac ai ae))) bp)))
   (aq (aE (ij (hn:=LV) MK hr (aM (aU (hn:=LV) uI hx hr (aA (ac (aa 0) (ac (aa 1) ae)))) (aM (af (aa 2)) (aM (af (aa 3)) bp))))))))),λds M R RX b_ h=>?_⟩)
 .let#[_,_,_,_,_,rfl,_]:=h;rfl
 .let#[a,t,k,l,d,rfl,rfl,d_,Ll,Km,hR,hX]:=h;refine#[λv M'=>∃c l1,(49<=c/\c<=54)/\l=c::l1/\v=.int ((c:Int)-48)/\M'=RdM a t (k+1),#[_,Gu.mpr rfl,_,aW,ci,a,t,_,l,"123456",rfl,rfl,d_,λc l1 e hc=>?_,λf7 M'=>?_],?_]
  .exact#[_,#[digit_of (hue_dig.mp hc),le_b rfl],c,l1,hue_dig.mp hc,e,rfl,rfl]
  .rw[b_];exact hX _ (λr=>ut f7) M'
  rintro _ _⟨c,l1,hc,rfl,rfl,rfl⟩;k_places;refine#[λv M'=>∃e l2,(49<=e/\e<=54)/\l1=e::l2/\v=.int ((e:Int)-48)/\M'=RdM a t (k+2),#[_,Gu.mpr rfl,_,aW,ci,a,t,_,l1,"123456",rfl,rfl,d_.next,λc l1 e hc=>?_,λf7 M'=>?_],?_]
  .exact#[_,#[digit_of (hue_dig.mp hc),le_b rfl],c,l1,hue_dig.mp hc,e,rfl,rfl]
  .rw[b_];exact hX _ (λr=>by rw[kU hc,ut f7]) M'
  rintro _ _⟨e,l2,he,rfl,rfl,rfl⟩;k_places;refine#[a,t,_,l2,d,rfl,rfl,d_.next.next,Ll,Km,λp l' h1 h2 h3 v h4=>?_,λi hi M'=>?_]
  .let#[fs,rfl]:=h4.obj;subst h3;exact#[_,_,_,_,rfl,hR c e p l' hc he h1 h2 rfl _ h4]
  .rw[b_];refine hX i (λr=>?_) M';rw[kU hc,kU he];exact hi _
def FE(hL:6<=n)(T:V.T "form_from" iC cN)(SE:V.MM n "over_from" gv (uu j))(SG:V.MM n "shifted_from" gw (uw j))(uI:V.MM n "form_from" cN (dJ j))(SH:V.MM n "rehue_from" gx (ux j))(ML:oZ V)(MN:V.gi "DEEP" 5)(MP:pd V)(MQ:pe V)(uH:eI V):V.MM (n+1) "form_from" cN (dJ (j+1)):=by
 refine Tx.okM T sc_form_from (λds M R RX h=>?_) (λ_ _ _ _ _ _ _ J hr hx=>⟨_,((ao (aJ 2 sc_form_from.nd (gh (aP (eZ (aa 1) (fu MN))) (bc (hn:=LV) (CalMth.one uH) hx hr (af (aa 0)) (aA (ac ai ae))) (af ai)))
   (ao (bf (aP (aI (aa 2) ai)) (aq (aE (aU (hn:=LV) SE hx hr (aA (ac (aa 0) (ac (am (aa 1) ad) ae)))))) aR)
   (ao (bf (aP (aI (aa 2) ai)) (aq (aE (aU (hn:=LV) SG hx hr (aA (ac (aa 0) (ac (am (aa 1) ad) ae)))))) aR)
   (ao (bf (aP (aI (aa 2) ai)) (aq (aE (ij (hn:=LV) MP hr (aM (aU (hn:=LV) uI hx hr (aA (ac (aa 0) (ac (am (aa 1) ad) ae)))) bp)))) aR)
   (ao (bf (aP (aI (aa 2) ai)) (aq (aE (ij (hn:=LV) MQ hr (aM (aU (hn:=LV) uI hx hr (aA (ac (aa 0) (ac (am (aa 1) ad) ae)))) bp)))) aR)
   (ao (bf (aP (aI (aa 2) ai)) (aq (aE (aU (hn:=LV) SH hx hr (aA (ac (aa 0) (ac (am (aa 1) ad) ae)))))) aR)
   (aq (aE (aU (hn:=LV) ML hx hr (aA (ac (aa 0) ae)))))))))))),λds M R RX b_ h=>?_⟩)
 .let#[_,_,_,_,_,rfl,_]:=h;rfl
 .let#[a,t,k,l,d,rfl,rfl,d_,Ll,Km,hR,hX]:=h;have Tz:d<=5:=by lia
  refine#[λv M'=>(v=.str ""/\M'=RdM a t k/\(d=5\/∀c l',l=c::l'->c∉cs "(smth"))\/(∃c l',l=c::l'/\c∈cs "(smth"/\d<5/\v=.str #[[c].toArray]/\M'=RdM a t (k+1)),?_,?_]
  .show if decide ((d:Int)<5)=true then _ else _
   refine ite2 (λc=>?_) (λc=>?_)
   .have c':d<5:=by have:=of_decide_eq_true c;lia
    refine#[_,Gu.mpr rfl,_,aW,cY,a,t,_,l,"(smth",rfl,rfl,d_,?_];by_cases h:∃c l',l=c::l'/\c∈cs "(smth"
    .let#[c,l',rfl,hc]:=h;rw[dY hc,dZ hc];exact .inr #[c,l',rfl,hc,c',rfl,rfl]
    .have f7:∀c l',l=c::l'->c∉cs "(smth":=λc l' e hc=>h #[c,l',e,hc];have hm:mayS "(smth" l=""/\mayN "(smth" l=0:=by
      cases l with
      |nil=>exact#[rfl,rfl]
      |cons c l=>exact#[dH (f7 c l rfl),dI (f7 c l rfl)]
     rw[hm.1,hm.2];exact .inl #[rfl,rfl,.inr f7]
   .have c':d=5:=by
     have:¬((d:Int)<5):=λz=>c (decide_eq_true z);lia
    exact .inl #[rfl,rfl,.inl c']
  rintro _ _ (⟨rfl,rfl,f7⟩|⟨c,l1,rfl,hc,j3,rfl,rfl⟩);k_places
  .refine#[a,t,k,l,rfl,rfl,d_,λp l' h1 h2 h3 v h4=>hR p l' h1 KZ h3 v h4,λi hi M'=>?_];rw[b_];exact hX i (λr=>by rw[CJ f7];exact hi r) M'
  have e8:=d_.next;have hj:1<=j:=KZ
  have SI:cs "(smth"=[40,115,109,116,104]:=rfl;rw[SI]at hc;simp only[GA,HA,or_false]at hc;have nd:¬d=5:=KZ
  rcases hc with rfl|rfl|rfl|rfl|rfl
  .have hw:∀r,walk (.pat d::r) (40::l1) k=walk (.pat (d+1)::.sign 124::.pat (d+1)::.sign 41::r) l1 (k+1):=λr=>aO (by rw[bT];unfold aZ;rw[if_neg K3,if_neg nd,if_pos rfl]);refine#[a,t,k+1,l1,d+1,rfl,rfl,e8,KZ,hj,λp q l' h1 h2 h3 h4 h5 u u' h6 h7=>?_,λi hi M'=>?_]
   .have:=hR (.over p q) l' #[h1,h2] (by rw[Pat.depth];lia) (by rw[h5,Pat.tl];simp) _ #[u,u',rfl,h6,h7];have e:k+(Pat.over p q).tl.length=k+1+p.tl.length+1+q.tl.length+1:=by rw[Pat.tl];simp;lia
    rw[e]at this;exact this
   .rw[b_];exact hX i (λr=>by rw[hw];exact hi r) M'
  .have hw:∀r,walk (.pat d::r) (115::l1) k=walk (.num::.sign 44::.num::.sign 58::.pat (d+1)::r) l1 (k+1):=λr=>aO (by rw[bT];unfold aZ;rw[if_neg K3,if_neg nd,if_neg K3,if_pos rfl]);refine#[a,t,k+1,l1,d+1,rfl,rfl,e8,KZ,hj,λx y p l' h1 h2 h3 h4 h5 u h6=>?_,λi hi M'=>?_]
   .have:=hR (.sh x y p) l' #[h1,h2,h3] (by rw[Pat.depth];lia) (by rw[h5,Pat.tl];simp) _ #[u,rfl,h6];have e:k+(Pat.sh x y p).tl.length=k+1+(numL x).length+1+(numL y).length+1+p.tl.length:=by rw[Pat.tl];simp;lia
    rw[e]at this;exact this
   .rw[b_];exact hX i (λr=>by rw[hw];exact hi r) M'
  .have hw:∀r,walk (.pat d::r) (109::l1) k=walk (.pat (d+1)::r) l1 (k+1):=λr=>aO (by rw[bT];unfold aZ;rw[if_neg K3,if_neg nd,if_neg K3,if_neg K3,if_neg K3,if_pos (.inl rfl)]);refine#[a,t,k+1,l1,d+1,rfl,rfl,e8,KZ,hj,λp l' h1 h2 h3 v h4=>?_,λi hi M'=>?_]
   .let#[fs,rfl]:=h4.obj;have:=hR (.mir p) l' h1 (by rw[Pat.depth];lia) (by rw[h3,Pat.tl];simp) _ #[_,rfl,h4];have e:k+(Pat.mir p).tl.length=k+1+p.tl.length:=by rw[Pat.tl];simp;lia
    rw[e]at this;exact#[_,_,rfl,this]
   .rw[b_];exact hX i (λr=>by rw[hw];exact hi r) M'
  .have hw:∀r,walk (.pat d::r) (116::l1) k=walk (.pat (d+1)::r) l1 (k+1):=λr=>aO (by rw[bT];unfold aZ;rw[if_neg K3,if_neg nd,if_neg K3,if_neg K3,if_neg K3,if_pos (.inr rfl)]);refine#[a,t,k+1,l1,d+1,rfl,rfl,e8,KZ,hj,λp l' h1 h2 h3 v h4=>?_,λi hi M'=>?_]
   .let#[fs,rfl]:=h4.obj;have:=hR (.tur p) l' h1 (by rw[Pat.depth];lia) (by rw[h3,Pat.tl];simp) _ #[_,rfl,h4];have e:k+(Pat.tur p).tl.length=k+1+p.tl.length:=by rw[Pat.tl];simp;lia
    rw[e]at this;exact#[_,_,rfl,this]
   .rw[b_];exact hX i (λr=>by rw[hw];exact hi r) M'
  .have hw:∀r,walk (.pat d::r) (104::l1) k=walk (.hue::.hue::.pat (d+1)::r) l1 (k+1):=λr=>aO (by rw[bT];unfold aZ;rw[if_neg K3,if_neg nd,if_neg K3,if_neg K3,if_pos rfl]);refine#[a,t,k+1,l1,d+1,rfl,rfl,e8,KZ,hj,λc e p l' h1 h2 h3 h4 h5 u h6=>?_,λi hi M'=>?_]
   .have:=hR (.hue ((c:Int)-48) ((e:Int)-48) p) l' #[KZ,KZ,h3] (by rw[Pat.depth];lia) (by rw[h5,Pat.tl,iq h1,iq h2];simp) _ #[u,rfl,h6];have e:k+(Pat.hue ((c:Int)-48) ((e:Int)-48) p).tl.length=k+1+2+p.tl.length:=by rw[Pat.tl,iq h1,iq h2];simp;lia
    rw[e]at this;exact this
   .rw[b_];exact hX i (λr=>by rw[hw];exact hi r) M'
def FF(SJ:V.T "over_from" iz gv)(SK:V.T "shifted_from" iA gw)(SM:V.T "rehue_from" iB gx)(QY:V.T "form_from" iC cN)(MI:pf V)(uC:dg V)(Kq:ji V)(MJ:ph V)(uD:V.m "int")(MK:pi V)(ML:oZ V)(MN:V.gi "DEEP" 5)(MP:pd V)(MQ:pe V)(uH:eI V):∀j,V.MM (6+2*j) "form_from" cN (dJ j):=by
 intro j;induction j with
 |zero=>exact CalMM.never QY (λds M R RX=>CK)
 |succ j ih=>
  have MU:=ih;have Ps:=FA (n:=6+2*j) (j:=j) LV SJ MU MI uC;have Pt:=FC (n:=6+2*j) (j:=j) LV SK Kq MU MJ uC;have Pu:=FD (n:=6+2*j) (j:=j) LV SM uD MU MK uC;have MU:=Cal.mono ih (Hk _);exact FE (n:=6+2*j+1) (j:=j) LV QY Ps Pt MU Pu ML MN MP MQ uH
abbrev vT(V:Bx):Prop:=V.M 1 "Reading" nK Cf
def FG(T:V.Ti "Reading" "Reading.__init__" nJ nK)(KG:V.a "Reading" "text")(uG:V.a "Reading" "place"):vT V:=by
 refine Txi.okI T DZ (λds R h=>?_) (λ_ _ _ _ _ _ _ J hr=>#[_,((bP KG (aa 1) (bP uG ad dR))),λds R h=>?_])
 .let#[_,rfl,_]:=h;rfl
 .let#[t,rfl,hR]:=h;refine#[K3,le_b rfl,?_];show R (putD _ _ (putD _ _ []));rw[putD,putD,if_neg KK];exact hR
abbrev vU(V:Bx):Prop:=V.M 1 "Pattern" nN CU
def FH(T:V.Ti "Pattern" "Pattern.__init__" nM nN)(uY:V.a "Pattern" "text")(LJ:V.a "Pattern" "shifts")(LK:V.a "Pattern" "form"):vU V:=by
 refine Txi.okI T D0 (λds R h=>?_) (λ_ _ _ _ _ _ _ J hr=>#[_,((bP uY (aa 1) (bP LJ (aa 2) (bP LK (aa 3) dR)))),λds R h=>?_])
 .let#[_,_,_,_,_,_,rfl,_]:=h;rfl
 .let#[t,w,h,s,x,fs,rfl,hR]:=h;refine#[K3,le_b rfl,le_b rfl,?_];show R (putD _ _ (putD _ _ (putD _ _ [])));rw[show putD ("shifts":J7) (.tup [.int w,.int h,.int s]) (putD ("text":J7) (.str t) [])=([("text",.str t),("shifts",.tup [.int w,.int h,.int s])]:List (J7×D))by rw[putD,putD,if_neg KK];rfl,putD,if_neg KK,putD,if_neg KK];exact hR
abbrev pj(V:Bx):Prop:=V.E 1 "OneLine" nP CW
def FI(T:V.Te "OneLine" "OneLine.__init__" nO nP)(Kn:V.b "MotifError")(uAT:V.ea "OneLine")(Pw:V.xf "OneLine" "place"):pj V:=by
 refine Txe.okE T D1 (λds R h=>?_) (λ_ _ _ _ _ _ _ J hr=>#[_,((ko Kn uAT (ac (aa 1) ae) (kq uAT Pw (aa 1) km))),λds R h=>?_])
 .let#[i,rfl,_]:=h;rfl
 .let#[i,rfl,hR]:=h;exact#[le_b rfl,rfl,hR]
abbrev vV(V:Bx):Prop:=V.D 2 "measure" nR BG
def FJ(T:V.T "measure" nQ nR)(LH:oX V):vV V:=by
 refine Tx.okDW T sc_measure (λds R h=>?_) (λ_ _ _ _ _ _ _ J hr=>⟨_,((aj (au 2 sc_measure.nd (ag (aK LH hr (ac (az (ac ad (ac (aa 0) ae))) (ac (az (ac ad (ac (aa 1) ae))) ae))) ad))
   (aw (aG (az (ac (ag (aa 2) ad) (ac (ag (aa 2) ad) ae))))))),λds R h=>?_⟩)
 .let#[x,y,rfl,_]:=h;rfl
 .let#[x,y,rfl,hx,hy,hR]:=h;refine#[λd=>∃p0 p1:Int,d=.tup [.int p0,.int p1]/\Meas x y p1 p0,#[K8,K8,1,x,0,y,rfl,hx,hy,λp0 p1 q0 hL=>#[_,rfl,p0,p1,rfl,tE #[hL.1,hL.2]]],?_];rintro _⟨p0,p1,rfl,hM⟩;k_places;exact#[_,rfl,_,rfl,K8,hR p1 p0 hM]
abbrev pk(V:Bx):Prop:=V.D 3 "met" nU BH
def FK(T:V.T "met" nS nU)(MV:vV V):pk V:=by
 refine Tx.okDW T sc_met (λds R h=>?_) (λ_ _ _ _ _ _ _ J hr=>⟨_,((aj (au 2 sc_met.nd (aK MV hr (ac (ag (aa 0) ad) (ac (ag (aa 1) ad) ae))))
   (aj (au 3 sc_met.nd (bq (aD (ag (aa 0) ad) (ag (aa 1) ad)) (ag (aa 2) ad)))
   (aj (au 4 sc_met.nd (bq (aD (ag (aa 0) ad) (ag (aa 1) ad)) (ag (aK MV hr (ac (ag (aa 0) ad) (ac (ag (aa 1) ad) ae))) ad)))
   (aj (au 5 sc_met.nd (aD (bq (aa 4) (ag (aa 0) ad)) (ag (aa 0) ad)))
   (aj (au 6 sc_met.nd (bA (aD (bq (aa 4) (ag (aa 1) ad)) (ag (aa 1) ad)) (aa 5)))
   (aj (au 7 sc_met.nd (bq (ag (aa 2) ad) (ag (aK MV hr (ac (ag (aa 2) ad) (ac (aa 6) ae))) ad)))
   (aj (au 8 sc_met.nd (aD (bq (aD (aa 7) (aa 6)) (ag (aa 2) ad)) (ag (aa 2) ad)))
   (aw (aG (az (ac (aa 3) (ac (aD (aa 4) (aa 7)) (ac (aC (am (aD (aa 7) (aa 5)) (aD (aa 8) (ag (aa 0) ad))) (aa 3)) ae)))))))))))))),λds R h=>?_⟩)
 .let#[_,_,_,_,_,_,rfl,_]:=h;rfl
 .let#[w1,h1,s1,w2,h2,s2,rfl,a1,a2,a3,a4,a5,a6,b1,b2,b3,b4,b5,b6,hR]:=h;refine#[λd=>∃g u:Int,d=.tup [.int g,.int u]/\Meas w1 w2 g u,#[_,rfl,_,rfl,w1,w2,rfl,LV,LV,λg u M=>#[g,u,rfl,M]],?_];rintro _⟨g,u,rfl,M1⟩;k_places;have hg:=M1.pos a1;have Pc:=M1.le a1;refine#[λd=>d=.int (w1*w2/g),#[_,rfl,_,rfl,.inl (b64B a1 a2),_,rfl,d30B hg (Ha Pc a2),rfl],?_];rintro _ rfl;k_places;refine#[λd=>∃k u':Int,d=.int (h1*h2/k)/\Meas h1 h2 k u',#[_,rfl,_,rfl,.inl (b64B a3 a4),_,rfl,_,rfl,h1,h2,rfl,LV,LV,λk u' M=>#[_,rfl,d30B (M.pos a3) (Ha (M.le a3) a4),k,u',rfl,M]],?_];rintro _⟨k,u',rfl,M2⟩;k_places;let#[r0,r1,r2,r3,r4,r5]:=kL a3 b3 M2;have SN:h1*h2<=1125899906842624:=by
   have:=bB (a:=h1) (d:=h2) (A:=33554432) (B:=33554432) LV LV;omega
  refine#[λd=>d=.int (h1*h2/k/h1*s1),#[_,rfl,d30B a3 a4,_,rfl,.inr (s64B a5 a6 a2),rfl],?_];rintro _ rfl;k_places;refine#[λd=>d=.int (h1*h2/k/h2*s2-h1*h2/k/h1*s1),#[_,rfl,d30B b3 b4,_,rfl,.inr (s64B b5 b6 b2),rfl],?_];rintro _ rfl;k_places;have t1:=bB (a:=h1*h2/k/h1) (d:=s1) (A:=33554432) (B:=33554432) LV LV;have t2:=bB (a:=h1*h2/k/h2) (d:=s2) (A:=33554432) (B:=33554432) LV LV;refine#[λd=>∃gg v9:Int,d=.int (g/gg)/\Meas g (h1*h2/k/h2*s2-h1*h2/k/h1*s1) gg v9,#[_,rfl,_,rfl,g,_,rfl,LV,LV,λgg v9 M=>#[_,rfl,d30B (M.pos hg) (Ha (M.le hg) (Ha Pc a2)),gg,v9,rfl,M]],?_];rintro _⟨gg,v9,rfl,M3⟩;k_places;have Kk:=M3.pos hg;have c1:0<=g/gg:=Int.ediv_nonneg LV LV;have c2:g/gg<=g:=Int.ediv_le_self _ LV;have c4:=Br (c:=g/gg) (gap:=h1*h2/k/h2*s2-h1*h2/k/h1*s1) (N:=2251799813685248) hg c1 c2 LV;have mr:=im a1 b1 a3 b3 M1 M2 M3;refine#[λd=>d=.int (g/gg*(h1*h2/k/h2*s2-h1*h2/k/h1*s1)/g*u),#[.inl #[LV,LV],_,rfl,#[LV,LV],_,rfl,.inl #[LV,LV],rfl],?_];rintro _ rfl;k_places;let#[w0,w3,_]:=kL a1 b1 M1;have SO:w1*w2<=1125899906842624:=by
   have:=bB (a:=w1) (d:=w2) (A:=33554432) (B:=33554432) LV LV;omega
  have Mq:=bB (a:=h1*h2/k) (d:=g/gg) (A:=1125899906842624) (B:=33554432) LV LV;exact#[.inl #[LV,LV],.inl #[LV,LV],_,rfl,.inr #[LV,LV],w0,K8,hR _ _ _ _ mr]
abbrev pp(V:Bx):Prop:=V.D 1 "mirrored" nW BE
def FL(T:V.T "mirrored" nV nW):pp V:=by
 refine Tx.okDW T D2 (λds R h=>?_) (λ_ _ _ _ _ _ _ J hr=>#[_,((aw (aG (az (ac (ag (aa 0) ad) (ac (ag (aa 0) ad) (ac (aC (bO (ag (aa 0) ad)) (ag (aa 0) ad)) ae))))))),λds R h=>?_])
 .let#[w,h,s,rfl,_]:=h;rfl
 .let#[w,h,s,rfl,hw,hR]:=h;exact#[_,rfl,_,rfl,_,rfl,_,rfl,hw,K8,hR]
abbrev pq(V:Bx):Prop:=V.D 3 "turned" nY BF
def FM(T:V.T "turned" nX nY)(LI:oY V):pq V:=by
 refine Tx.okDW T D3 (λds R h=>?_) (λ_ _ _ _ _ _ _ J hr=>#[_,((aw (aG (aK LI hr (ac (az (ac ad (ac (ag (aa 0) ad) ae))) (ac (az (ac (bO (ag (aa 0) ad)) (ac (ag (aa 0) ad) ae))) ae)))))),λds R h=>?_])
 .let#[w,h,s,rfl,_]:=h;rfl
 .let#[w,h,s,rfl,hw,hh,KA,J2,hs,m4,hR]:=h;have hp:0<w*h:=GN hw hh;have hn:¬0*s=w* -h:=by rw[Im];lia
  exact#[_,rfl,K8,_,rfl,_,rfl,K8,0,w,-h,s,rfl,KZ,KZ,KZ,KZ,λe=>absurd e hn,λ_ w' h' s' f=>hR w' h' s' f]
def ok_Motif_family(hL:3<=n)(T:V.Tm "Motif" "family" "Motif.family" iD cF)(uK:V.a "Motif" "shifts")(KI:V.a "Motif" "place")(uAF:pj V):V.Q (n+1) "Motif" "family" cF (ofX (bZ (j+1) "Motif")):=by
 refine Txm.okM T D4 (λds M R RX h=>?_) (λ_ _ _ _ _ _ _ J hr hx=>⟨_,((ao (bf (sI (aH uK (af (aa 0))) (af cm)) (aq (ik (hn:=LV) uAF hr hx rfl (aM (aH KI (af (aa 0))) bp))) aR)
   (aq (aE (aH uK (af (aa 0))))))),λds M R RX b_ h=>?_⟩)
 .let#[_,_,_,rfl,_]:=h;rfl
 .let#[p,k,v,rfl,hv,hs,hd,hc,gV,hX,hR]:=h;cases p with
  |over p q=>exact absurd (show("Over":J7)="Motif" from hc) KK
  |sh a b p=>exact absurd (show("Shifted":J7)="Motif" from hc) KK
  |mir p=>exact absurd (show("Mirror":J7)="Motif" from hc) KK
  |tur p=>exact absurd (show("Turn":J7)="Motif" from hc) KK
  |hue f g p=>exact absurd (show("Rehue":J7)="Motif" from hc) KK
  |mot L a b c d=>
   let#[sh,hu,rfl,h0,h1]:=hv;refine#[_,#[rfl,rfl],_,kW,?_];by_cases e:a*d=b*c
   .rw[h0 e];refine#[_,#[rfl,rfl],_,CL,le_b rfl,(k:Int),rfl,?_];rw[b_];exact hX k (by rw[Pat.lineAt,if_pos e])
   .let#[w,h,s,F,rfl,rfl]:=h1 e;exact#[_,#[rfl,rfl],_,kW,hR (by rw[Pat.lineAt,if_neg e]) w h s (Pat.Fam.mot F)]
def FN(hL:3<=n)(T:V.Tm "Over" "family" "Over.family" iE iF)(MX:pk V)(uP:V.a "Over" "above")(uT:V.a "Over" "below")(uE:∀x,x∈(["Motif","Over","Shifted","Mirror","Turn","Rehue"]:List J7)->V.Q n x "family" cF (ofX (bZ j x))):V.Q (n+1) "Over" "family" iF (ofX (bZ (j+1) "Over")):=by
 refine Txm.okM T sc_Over_family (λds M R RX h=>?_) (λ_ _ _ _ _ _ _ J hr hx=>⟨_,((ao (aJ 1 sc_Over_family.nd (dB (hn:=LV) uE hx hr (aH uP (af (aa 0)))))
   (aq (aE (aU (hn:=LV) (CalD.toM MX) hx hr (aM (af (aa 1)) (aM (dB (hn:=LV) uE hx hr (aH uT (af (aa 0)))) bp))))))),λds M R RX b_ h=>?_⟩)
 .let#[_,_,_,rfl,_]:=h;rfl
 .let#[p,k,v,rfl,hv,hs,hd,hc,gV,hX,hR]:=h;cases p with
  |mot L a b c d=>exact absurd (show("Motif":J7)="Over" from hc) KK
  |sh a b p=>exact absurd (show("Shifted":J7)="Over" from hc) KK
  |mir p=>exact absurd (show("Mirror":J7)="Over" from hc) KK
  |tur p=>exact absurd (show("Turn":J7)="Over" from hc) KK
  |hue f g p=>exact absurd (show("Rehue":J7)="Over" from hc) KK
  |over p q=>
   let#[u,u',rfl,hu,MY]:=hv;let#[fs,rfl,hf,_]:=hu.objm;let#[gs,rfl,hg,_]:=MY.objm;rw[Pat.depth]at hd;refine#[λd M'=>(∃w h s,p.lineAt (k+1)=x8/\p.Fam w h s/\d=.tup [.int w,.int h,.int s])/\M'=M,#[_,#[rfl,rfl],_,rfl,p.cls,p.cls_mem,fs,#[rfl,rfl],hf,p,k+1,_,rfl,hu,hs.1,KZ,rfl,gV.1,λi hi=>?_,λhn w h s F=>#[#[w,h,s,hn,F,rfl],rfl]],?_]
   .rw[b_];exact hX i (by rw[Pat.lineAt,hi])
   rintro _ _⟨⟨w1,h1,s1,Px,F1,rfl⟩,rfl⟩;k_places;refine#[_,#[rfl,rfl],_,fF KK,q.cls,q.cls_mem,gs,#[rfl,rfl],hg,q,k+1+p.tl.length+1,_,rfl,MY,hs.2,KZ,rfl,gV.2.1,λi hi=>?_,λI_ w2 h2 s2 F2=>?_]
   .rw[b_];exact hX i (by rw[Pat.lineAt,Px];exact hi)
   .let#[f1,f2]:=gV.2.2 (Pat.line_wf _ hs.1 Px) (Pat.line_wf _ hs.2 I_);let#[a1,a2,a3,a4,a5,a6]:=f1.small F1;let#[b1,b2,b3,b4,b5,b6]:=f2.small F2;exact#[w1,h1,s1,w2,h2,s2,rfl,a1,a2,a3,a4,a5,a6,b1,b2,b3,b4,b5,b6,λw h s A MR=>hR (by rw[Pat.lineAt,Px];exact I_) w h s (Pat.Fam.over F1 F2 MR)]
def FO(hL:3<=n)(T:V.Tm "Shifted" "family" "Shifted.family" iG iH)(uQ:V.a "Shifted" "form")(uE:∀x,x∈(["Motif","Over","Shifted","Mirror","Turn","Rehue"]:List J7)->V.Q n x "family" cF (ofX (bZ j x))):V.Q (n+1) "Shifted" "family" iH (ofX (bZ (j+1) "Shifted")):=by
 refine Txm.okM T D5 (λds M R RX h=>?_) (λ_ _ _ _ _ _ _ J hr hx=>#[_,((aq (aE (dB (hn:=LV) uE hx hr (aH uQ (af (aa 0))))))),λds M R RX b_ h=>?_])
 .let#[_,_,_,rfl,_]:=h;rfl
 .let#[p,k,v,rfl,hv,hs,hd,hc,gV,hX,hR]:=h;cases p with
  |mot L a b c d=>exact absurd (show("Motif":J7)="Shifted" from hc) KK
  |over p q=>exact absurd (show("Over":J7)="Shifted" from hc) KK
  |mir p=>exact absurd (show("Mirror":J7)="Shifted" from hc) KK
  |tur p=>exact absurd (show("Turn":J7)="Shifted" from hc) KK
  |hue f g p=>exact absurd (show("Rehue":J7)="Shifted" from hc) KK
  |sh a b p=>
   let#[u,rfl,hu]:=hv;let#[fs,rfl,hf,_]:=hu.objm;rw[Pat.depth]at hd;refine#[_,#[rfl,rfl],_,rfl,p.cls,p.cls_mem,fs,#[rfl,rfl],hf,p,_,_,rfl,hu,hs.2.2,KZ,rfl,gV,λi hi=>?_,λhn w h s F=>?_]
   .rw[b_];exact hX i (by rw[Pat.lineAt];exact hi)
   .exact hR (by rw[Pat.lineAt];exact hn) w h s (F.sh a b)
def FP(hL:3<=n)(T:V.Tm "Mirror" "family" "Mirror.family" iI iJ)(MZ:pp V)(uV:V.a "Mirror" "form")(uE:∀x,x∈(["Motif","Over","Shifted","Mirror","Turn","Rehue"]:List J7)->V.Q n x "family" cF (ofX (bZ j x))):V.Q (n+1) "Mirror" "family" iJ (ofX (bZ (j+1) "Mirror")):=by
 refine Txm.okM T D6 (λds M R RX h=>?_) (λ_ _ _ _ _ _ _ J hr hx=>#[_,((aq (aE (aU (hn:=LV) (CalD.toM MZ) hx hr (aM (dB (hn:=LV) uE hx hr (aH uV (af (aa 0)))) bp))))),λds M R RX b_ h=>?_])
 .let#[_,_,_,rfl,_]:=h;rfl
 .let#[p,k,v,rfl,hv,hs,hd,hc,gV,hX,hR]:=h;cases p with
  |mot L a b c d=>exact absurd (show("Motif":J7)="Mirror" from hc) KK
  |over p q=>exact absurd (show("Over":J7)="Mirror" from hc) KK
  |sh a b p=>exact absurd (show("Shifted":J7)="Mirror" from hc) KK
  |tur p=>exact absurd (show("Turn":J7)="Mirror" from hc) KK
  |hue f g p=>exact absurd (show("Rehue":J7)="Mirror" from hc) KK
  |mir p=>
   let#[u,rfl,hu]:=hv;let#[fs,rfl,hf,_]:=hu.objm;rw[Pat.depth]at hd;refine#[_,#[rfl,rfl],_,rfl,p.cls,p.cls_mem,fs,#[rfl,rfl],hf,p,_,_,rfl,hu,hs,KZ,rfl,gV,λi hi=>?_,λhn w h s F=>?_]
   .rw[b_];exact hX i (by rw[Pat.lineAt];exact hi)
   .exact#[w,h,s,rfl,F.f.w0,hR (by rw[Pat.lineAt];exact hn) w h _ F.mir]
def FQ(hL:3<=n)(T:V.Tm "Turn" "family" "Turn.family" iK iL)(M0:pq V)(uS:V.a "Turn" "form")(uE:∀x,x∈(["Motif","Over","Shifted","Mirror","Turn","Rehue"]:List J7)->V.Q n x "family" cF (ofX (bZ j x))):V.Q (n+1) "Turn" "family" iL (ofX (bZ (j+1) "Turn")):=by
 refine Txm.okM T D7 (λds M R RX h=>?_) (λ_ _ _ _ _ _ _ J hr hx=>#[_,((aq (aE (aU (hn:=LV) (CalD.toM M0) hx hr (aM (dB (hn:=LV) uE hx hr (aH uS (af (aa 0)))) bp))))),λds M R RX b_ h=>?_])
 .let#[_,_,_,rfl,_]:=h;rfl
 .let#[p,k,v,rfl,hv,hs,hd,hc,gV,hX,hR]:=h;cases p with
  |mot L a b c d=>exact absurd (show("Motif":J7)="Turn" from hc) KK
  |over p q=>exact absurd (show("Over":J7)="Turn" from hc) KK
  |sh a b p=>exact absurd (show("Shifted":J7)="Turn" from hc) KK
  |mir p=>exact absurd (show("Mirror":J7)="Turn" from hc) KK
  |hue f g p=>exact absurd (show("Rehue":J7)="Turn" from hc) KK
  |tur p=>
   let#[u,rfl,hu]:=hv;let#[fs,rfl,hf,_]:=hu.objm;rw[Pat.depth]at hd;refine#[_,#[rfl,rfl],_,rfl,p.cls,p.cls_mem,fs,#[rfl,rfl],hf,p,_,_,rfl,hu,hs,KZ,rfl,gV.1,λi hi=>?_,λhn w h s F=>?_]
   .rw[b_];exact hX i (by rw[Pat.lineAt];exact hi)
   .let#[a1,a2,a3,a4,a5,a6]:=(gV.2 (Pat.line_wf _ hs hn)).small F;exact#[w,h,s,rfl,a1,a3,KZ,KZ,a5,KZ,λw' h' s' F'=>hR (by rw[Pat.lineAt];exact hn) w' h' s' (F.tur F')]
def FR(hL:3<=n)(T:V.Tm "Rehue" "family" "Rehue.family" iM iN)(uU:V.a "Rehue" "form")(uE:∀x,x∈(["Motif","Over","Shifted","Mirror","Turn","Rehue"]:List J7)->V.Q n x "family" cF (ofX (bZ j x))):V.Q (n+1) "Rehue" "family" iN (ofX (bZ (j+1) "Rehue")):=by
 refine Txm.okM T D8 (λds M R RX h=>?_) (λ_ _ _ _ _ _ _ J hr hx=>#[_,((aq (aE (dB (hn:=LV) uE hx hr (aH uU (af (aa 0))))))),λds M R RX b_ h=>?_])
 .let#[_,_,_,rfl,_]:=h;rfl
 .let#[p,k,v,rfl,hv,hs,hd,hc,gV,hX,hR]:=h;cases p with
  |mot L a b c d=>exact absurd (show("Motif":J7)="Rehue" from hc) KK
  |over p q=>exact absurd (show("Over":J7)="Rehue" from hc) KK
  |sh a b p=>exact absurd (show("Shifted":J7)="Rehue" from hc) KK
  |mir p=>exact absurd (show("Mirror":J7)="Rehue" from hc) KK
  |tur p=>exact absurd (show("Turn":J7)="Rehue" from hc) KK
  |hue f g p=>
   let#[u,rfl,hu]:=hv;let#[fs,rfl,hf,_]:=hu.objm;rw[Pat.depth]at hd;refine#[_,#[rfl,rfl],_,rfl,p.cls,p.cls_mem,fs,#[rfl,rfl],hf,p,_,_,rfl,hu,hs.2.2,KZ,rfl,gV,λi hi=>?_,λhn w h s F=>?_]
   .rw[b_];exact hX i (by rw[Pat.lineAt];exact hi)
   .exact hR (by rw[Pat.lineAt];exact hn) w h s (F.hue f g)
def FS(QZ:V.Tm "Motif" "family" "Motif.family" iD cF)(Q0:V.Tm "Over" "family" "Over.family" iE iF)(Q1:V.Tm "Shifted" "family" "Shifted.family" iG iH)(Q2:V.Tm "Mirror" "family" "Mirror.family" iI iJ)(Q3:V.Tm "Turn" "family" "Turn.family" iK iL)(Q4:V.Tm "Rehue" "family" "Rehue.family" iM iN)(uK:V.a "Motif" "shifts")(KI:V.a "Motif" "place")(uAF:pj V)(MX:pk V)(uP:V.a "Over" "above")(uT:V.a "Over" "below")(uQ:V.a "Shifted" "form")(MZ:pp V)(uV:V.a "Mirror" "form")(M0:pq V)(uS:V.a "Turn" "form")(uU:V.a "Rehue" "form"):∀j x,x∈(["Motif","Over","Shifted","Mirror","Turn","Rehue"]:List J7)->V.Q (3+j) x "family" cF (ofX (bZ j x)):=by
 intro j;induction j with
 |zero=>
  intro x hx;simp only[GA,HA,or_false]at hx;rcases hx with rfl|rfl|rfl|rfl|rfl|rfl
  .exact CalMth.never QZ (λds M R RX=>fG)
  .exact CalMth.never Q0 (λds M R RX=>fG)
  .exact CalMth.never Q1 (λds M R RX=>fG)
  .exact CalMth.never Q2 (λds M R RX=>fG)
  .exact CalMth.never Q3 (λds M R RX=>fG)
  .exact CalMth.never Q4 (λds M R RX=>fG)
 |succ j M4=>
  intro x hx;simp only[GA,HA,or_false]at hx;rcases hx with rfl|rfl|rfl|rfl|rfl|rfl
  .exact ok_Motif_family (n:=3+j) (j:=j) LV QZ uK KI uAF
  .exact FN (n:=3+j) (j:=j) LV Q0 MX uP uT M4
  .exact FO (n:=3+j) (j:=j) LV Q1 uQ M4
  .exact FP (n:=3+j) (j:=j) LV Q2 MZ uV M4
  .exact FQ (n:=3+j) (j:=j) LV Q3 M0 uS M4
  .exact FR (n:=3+j) (j:=j) LV Q4 uU M4
abbrev vW(V:Bx):Prop:=V.MM 18 "form_from" cN (dJ 6)
abbrev vX(V:Bx):Prop:=∀x,x∈(["Motif","Over","Shifted","Mirror","Turn","Rehue"]:List J7)->V.Q 9 x "family" cF (ofX (bZ 6 x))
abbrev jk(V:Bx):Prop:=V.X 19 "read" oa S_read
def FT(T:V.T "read" nZ oa)(uB:V.m "len")(uI:vW V)(Py:V.gi "MOST" 720)(uG:V.a "Reading" "place")(Pz:vT V)(PB:vU V)(uE:vX V)(uAA:oW V)(PC:V.n "TooGreat"):jk V:=by
 refine CalMM.nilX (Tx.okM T sc_read (λds M R RX h=>?_) (λ_ _ _ _ _ _ _ J hr hx=>⟨_,((ao (aJ 1 sc_read.nd (Aq Pz hr (aA (ac (aa 0) ae))))
   (ao (aJ 2 sc_read.nd (aU uI hx hr (aA (ac (aa 1) (ac ad ae)))))
   (ao (bf (sH (aH uG (af (aa 1))) (af (cB uB (ac (aa 0) ae)))) (aq (ik uAA hr hx rfl (aM (aH uG (af (aa 1))) bp))) aR)
   (ao (aJ 3 sc_read.nd (dB uE hx hr (af (aa 2))))
   (ao (bf (aP (jO (aD (ag (aa 3) ad) (ag (aa 3) ad)) (fu Py))) (aq (sP PC hx rfl (aA (ac ai ae)))) aR)
   (aq (aE (af (kg PB hr (ac (aa 0) (ac (aa 3) (ac (aa 2) ae))))))))))))),λds M R RX b_ h=>?_⟩))
 .let#[_,R0,v6,h,_]:=h;rcases h with⟨_,_,rfl,_⟩|⟨_,rfl,_⟩<;>rfl
 .let#[rfl,R0,v6,h,hR,hX]:=h;let#[t,ht,SQ,F_]:∃t:J7,ds=[.str t]/\t.length<=100000/\((∃k:Nat,cv t=be k/\v6 "WrongSign" [("place",.int k)])\/∃p:Pat,t=p.text/\p.Syn/\p.depth<=5/\p.Cal/\(∀k:Nat,p.lineAt 0=be k->v6 "OneLine" [("place",.int k)])/\(p.lineAt 0=x8->¬p.Fits->v6 "TooGreat" [])/\(p.lineAt 0=x8->p.Fits->∀d,bv p d->R0 d)):=by
   rcases h with⟨t,k,e,h1,h2,h3⟩|⟨p,e,h1,h2,h3⟩
   .exact#[t,e,h1,.inl #[k,h2,h3]]
   .exact#[p.text,e,by have:=Pat.syn_short h1 h2;lia,.inr #[p,rfl,h1,h2,h3]]
  subst ht;have d_:At t 0 (cs t):=#[rfl,GT _,SQ];refine#[λd M'=>∃a,d=.ptr a/\M'=RdM a t 0,#[t,rfl,λa _=>#[a,rfl,rfl]],?_];rintro _ _⟨a,rfl,rfl⟩;k_places;refine#[λv M'=>∃p l',p.Syn/\p.depth<=5/\cs t=p.tl++l'/\FormOf p 0 v/\M'=RdM a t p.tl.length,#[a,t,0,cs t,0,rfl,rfl,d_,rfl,K3,λp l' h1 h2 h3 v h4=>#[p,l',h1,KZ,h3,h4,by rw[Ir]],λi hi M'=>?_],?_]
  .rw[b_];have hw:cv t=be i:=hi [];rcases F_ with⟨k,h1,h2⟩|⟨p,rfl,h1,h2,_⟩
   .rw[hw]at h1;cases h1;exact hX _ _ _ h2
   .rw[uf h1 h2]at hw;cases hw
  rintro v _⟨p,l',hp,Pr,hl,hv,rfl⟩;k_places;have hw:cv t=walk [] l' p.tl.length:=by
   unfold cv;rw[hl,cL hp 0 [] l' 0 KZ,Ir]
  have b9:t.length=p.tl.length+l'.length:=by rw[<-bF,hl,GF]
  refine#[_,aW,_,dG,KZ,ite2 (λc=>?_) (λc=>?_)]
  .have c':=of_decide_eq_true c;refine#[_,aW,_,dG,le_b rfl,(p.tl.length:Int),rfl,?_];rw[b_];have KA:cv t=be p.tl.length:=by
    rw[hw];cases l' with
    |nil=>simp at b9;lia
    |cons c l=>simp[walk,step,aN,aF]
   rcases F_ with⟨k,h1,h2⟩|⟨q,rfl,h1,h2,_⟩
   .rw[KA]at h1;cases h1;exact hX _ _ _ h2
   .rw[uf h1 h2]at KA;cases KA
  have c':¬((p.tl.length:Int)<(t.length:Int)):=λz=>c (decide_eq_true z);have SR:l'=[]:=Hr KZ;subst SR;rcases F_ with⟨k,h1,h2⟩|⟨q,rfl,h1,h2,gV,PD,Lm,M5⟩
  .rw[hw]at h1;cases h1
  let#[rfl,_]:=CT (p:=q) (q:=p) (x:=[]) (y:=[]) h1 hp (by rw[<-cK,hl];simp);let#[fs,rfl,hf,_]:=hv.objm;refine#[λd M'=>∃w h s,q.lineAt 0=x8/\q.Fam w h s/\d=.tup [.int w,.int h,.int s],#[q.cls,q.cls_mem,fs,#[rfl,rfl],hf,q,0,_,rfl,hv,hp,KZ,rfl,gV,λi hi=>?_,λhn w h s F=>#[w,h,s,hn,F,rfl]],?_]
  .rw[b_];exact hX _ _ _ (PD i hi)
  rintro _ M'⟨w,h,s,hn,F,rfl⟩;k_places;have ge:=Pat.line_wf 0 hp hn;have QT:=Pat.cal_w ge gV F;have Sk:=F.f.w0;refine#[_,rfl,_,rfl,.inl #[KZ,KZ],ite2 (λc=>?_) (λc=>?_)]
  .have c2:=of_decide_eq_true c;refine#[le_b rfl,?_];rw[b_];refine hX _ _ _ (Lm hn λ⟨w',h',s',F',hb⟩=>?_);let#[rfl,rfl,_]:=F.uniq F';lia
  .have c2:¬(720<w*h):=λz=>c (decide_eq_true z);refine⟨_,_,_,_,_,_,rfl,hR _ _ (M5 hn #[w,h,s,F,KZ] _ ⟨w,h,s,_,rfl,rfl,fF KK,⟨F,#[0,_,kX KK KK,hv],by
    have:=FormOf.nl hv;unfold noL at this;simp[noLF,noL,noLs,this]⟩⟩)⟩
abbrev pr(V:Bx):Prop:=V.D 1 "_law_whole" oh Bw
def FU(T:V.T "_law_whole" og oh)(uX:V.m "isinstance")(PF:V.m "bool")(uD:V.m "int"):pr V:=by
 refine Tx.okDW T D9 (λds R h=>?_) (λ_ _ _ _ _ _ _ J hr=>#[_,((aw (aG (fU (jS uX uD (aa 0) PyProof.Rows.boot_int zd) (fg (zc (jS uX PF (aa 0) PyProof.Rows.boot_bool kit_bool))))))),λds R h=>?_])
 .let#[i,rfl,_]:=h;rfl
 .let#[i,rfl,hR]:=h;exact hR
def FV:SiX:=λa ds R RX=>∃t w h,ds=[.str t,.int w,.int h]/\((∃p:Pat,t=p.text/\p.Ok/\∀d q,bv p d->a≠q->R (Fl.M #[p,d,w,h,0,[]] a q))\/S_read [.str t] (λ_=>False) λx fs=>∀M',RX x fs M')
abbrev pv(V:Bx):Prop:=V.NX 20 "Floor" oj FV
def FW(T:V.Ti "Floor" "Floor.__init__" oi oj)(Ks:jk V)(uN:V.a "Floor" "pattern")(LL:V.a "Floor" "text")(Kt:V.a "Floor" "width")(LM:V.a "Floor" "height")(uJ:V.a "Floor" "laid")(Ln:V.a "Floor" "deeds"):pv V:=by
 refine Txi.okNX T Ea (λa ds R RX h=>?_) (λ_ _ _ _ _ _ _ J hr hx=>⟨_,((ao (bY uN (af (aa 0)) (aU (CalX.toM Ks) hx hr (aA (ac (aa 1) ae))))
   (ao (bY LL (af (aa 0)) (af (aa 1)))
   (ao (bY Kt (af (aa 0)) (af (aa 2)))
   (ao (bY LM (af (aa 0)) (af (aa 3)))
   (ao (bY uJ (af (aa 0)) (af ad))
   (aq (bY Ln (af (aa 0)) (fv (aA ae)))))))))),λa ds R RX b_ h=>?_⟩)
 .let#[_,_,_,rfl,_]:=h;rfl
 .obtain⟨t,w,h,rfl,⟨p,rfl,ok,hR⟩|hX⟩:=h
  .refine oS ok λd hd=>?_;refine#[_,cH,le_b rfl,?_];rw[df];refine#[_,cH,le_b rfl,?_];rw[df];refine#[_,cH,le_b rfl,?_];rw[df];refine#[_,cH,le_b rfl,?_];rw[df];refine#[_,cH,le_b rfl,?_];rw[df];refine#[le_b rfl,λq hq=>?_];have ne:a≠q:=λe=>hq (e ▸ Gz);refine#[_,(eE (Ne.symm ne)).trans cH,le_b rfl,?_];rw[eF (Ne.symm ne),df];exact hR d q hd ne
  .refine S_read.mono hX (λ_ z=>z.elim) λx fs z=>?_;show J.RM _ _ x fs;rw[b_];exact z _
abbrev vY(V:Bx):Prop:=V.X 1 "refuse_far" om CZ
def FX(T:V.T "refuse_far" ol om)(LN:V.m "max")(uO:V.m "abs")(PH:V.gi "FAR" 1000000000000)(PJ:V.n "TooFar"):vY V:=by
 refine Tx.okXW T Eb (λds R RX h=>?_) (λ_ _ _ _ _ _ _ J hr hx=>#[_,((aw (bt (jO (rJ rfl LN (ac (eY uO (ac (aa 0) ae)) (ac (eY uO (ac (aa 1) ae)) ae))) (fu PH)) (aw (zI PJ hx rfl (ac ai ae))) bg))),λds R RX b_ h=>?_])
 .let#[_,_,rfl,_]:=h;rfl
 .let#[x,y,rfl,h1,h2]:=h;refine ite2 (λc=>?_) (λc=>?_)
  .have c':=of_decide_eq_true c;refine#[le_b rfl,?_];rw[b_];refine h2 λ⟨⟨a1,a2⟩,a3,a4⟩=>?_;split at c'<;>split at c'<;>split at c'<;>lia
  .have c':¬_:=λz=>c (decide_eq_true z);refine h1 ?_;unfold bU;split at c'<;>split at c'<;>split at c'<;>lia
def ok_Motif_shows(hL:1<=n)(T:V.Tm "Motif" "shows" "Motif.shows" iO cG)(KH:jj V)(KJ:V.a "Motif" "hues")(uK:V.a "Motif" "shifts"):V.Q (n+1) "Motif" "shows" cG (ofX (ca (j+1) "Motif")):=by
 refine Txm.okM T Ec (λds M R RX h=>?_) (λ_ _ _ _ _ _ _ J hr hx=>#[_,((aq (aE (A3 (du hr) (aH KJ (af (aa 0))) (aM (aU (hn:=LV) (CalD.toM KH) hx hr (aM (aH uK (af (aa 0))) (aM (af (aa 1)) (aM (af (aa 2)) bp)))) (aM (af ad) bp)))))),λds M R RX b_ h=>?_])
 .let#[_,_,_,_,_,rfl,_]:=h;rfl
 .let#[p,k,v,X,Y,rfl,hv,ge,hd,hc,hR]:=h;cases p with
  |over p q=>exact absurd (show("Over":J7)="Motif" from hc) KK
  |sh a b p=>exact absurd (show("Shifted":J7)="Motif" from hc) KK
  |mir p=>exact absurd (show("Mirror":J7)="Motif" from hc) KK
  |tur p=>exact absurd (show("Turn":J7)="Motif" from hc) KK
  |hue f g p=>exact absurd (show("Rehue":J7)="Motif" from hc) KK
  |mot L a b c d=>
   let#[sh,hu,rfl,h0,h1]:=hv;let#[hL,ha,hb,w_,gt,hn]:=ge;let#[w,h,s,F,rfl,rfl]:=h1 hn;unfold B12 at ha hb w_ gt;let#[b1,b2,b3]:=F.bd (N:=288) (by
    have m1:=bB (a:=a) (d:=d) (A:=12) (B:=12) KZ KZ;have m2:=bB (a:=b) (d:=c) (A:=12) (B:=12) KZ KZ;lia)
   refine#[_,#[rfl,rfl],_,CM,_,#[rfl,rfl],_,kW,w,h,s,X,Y,rfl,F.1,F.2.1,KZ,F.2.2.1,KZ,?_];have e:=motif_shows hL F hn X Y;rw[Pat.show]at hR;rw[<-e]at hR;exact hR
def FY(hL:1<=n)(T:V.Tm "Over" "shows" "Over.shows" iP iQ)(uP:V.a "Over" "above")(uT:V.a "Over" "below")(uF:∀x,x∈(["Motif","Over","Shifted","Mirror","Turn","Rehue"]:List J7)->V.Q n x "shows" cG (ofX (ca j x))):V.Q (n+1) "Over" "shows" iQ (ofX (ca (j+1) "Over")):=by
 refine Txm.okM T sc_Over_shows (λds M R RX h=>?_) (λ_ _ _ _ _ _ _ J hr hx=>⟨_,((ao (aJ 3 sc_Over_shows.nd (bc (hn:=LV) uF hx hr (aH uP (af (aa 0))) (aA (ac (aa 1) (ac (aa 2) ae)))))
   (aq (aE (gh (aP (aI (aa 3) ad)) (bc (hn:=LV) uF hx hr (aH uT (af (aa 0))) (aA (ac (aa 1) (ac (aa 2) ae)))) (af (aa 3))))))),λds M R RX b_ h=>?_⟩)
 .let#[_,_,_,_,_,rfl,_]:=h;rfl
 .let#[p,k,v,X,Y,rfl,hv,ge,hd,hc,hR]:=h;cases p with
  |mot L a b c d=>exact absurd (show("Motif":J7)="Over" from hc) KK
  |sh a b p=>exact absurd (show("Shifted":J7)="Over" from hc) KK
  |mir p=>exact absurd (show("Mirror":J7)="Over" from hc) KK
  |tur p=>exact absurd (show("Turn":J7)="Over" from hc) KK
  |hue f g p=>exact absurd (show("Rehue":J7)="Over" from hc) KK
  |over p q=>
   let#[u,u',rfl,hu,MY]:=hv;let#[fs,rfl,_,hf]:=hu.objm;let#[gs,rfl,_,hg]:=MY.objm;rw[Pat.depth]at hd;refine#[λd M'=>d=.int (p.show X Y)/\M'=M,#[_,#[rfl,rfl],_,rfl,p.cls,p.cls_mem,fs,#[rfl,rfl],hf,p,_,_,X,Y,rfl,hu,ge.1,KZ,rfl,rfl,rfl],?_];rintro _ _⟨rfl,rfl⟩;k_places;rw[Pat.show]at hR;show if decide (p.show X Y=0)=true then _ else _
   refine ite2 (λe=>?_) (λe=>?_)
   .have e':=of_decide_eq_true e;rw[if_neg (λz=>z e')]at hR;exact#[_,#[rfl,rfl],_,fF KK,q.cls,q.cls_mem,gs,#[rfl,rfl],hg,q,_,_,X,Y,rfl,MY,ge.2,KZ,rfl,hR]
   .have e':p.show X Y≠0:=λz=>e (decide_eq_true z);rw[if_pos e']at hR;exact hR
def FZ(hL:1<=n)(T:V.Tm "Shifted" "shows" "Shifted.shows" iR iS)(uQ:V.a "Shifted" "form")(KN:V.a "Shifted" "y")(KL:V.a "Shifted" "x")(uF:∀x,x∈(["Motif","Over","Shifted","Mirror","Turn","Rehue"]:List J7)->V.Q n x "shows" cG (ofX (ca j x))):V.Q (n+1) "Shifted" "shows" iS (ofX (ca (j+1) "Shifted")):=by
 refine Txm.okM T Ed (λds M R RX h=>?_) (λ_ _ _ _ _ _ _ J hr hx=>#[_,((aq (aE (bc (hn:=LV) uF hx hr (aH uQ (af (aa 0))) (aM (ib (af (aa 1)) (aH KL (af (aa 0)))) (aM (ib (af (aa 2)) (aH KN (af (aa 0)))) bp)))))),λds M R RX b_ h=>?_])
 .let#[_,_,_,_,_,rfl,_]:=h;rfl
 .let#[p,k,v,X,Y,rfl,hv,ge,hd,hc,hR]:=h;cases p with
  |mot L a b c d=>exact absurd (show("Motif":J7)="Shifted" from hc) KK
  |over p q=>exact absurd (show("Over":J7)="Shifted" from hc) KK
  |mir p=>exact absurd (show("Mirror":J7)="Shifted" from hc) KK
  |tur p=>exact absurd (show("Turn":J7)="Shifted" from hc) KK
  |hue f g p=>exact absurd (show("Rehue":J7)="Shifted" from hc) KK
  |sh a b p=>
   let#[u,rfl,hu]:=hv;let#[fs,rfl,_,hf]:=hu.objm;rw[Pat.depth]at hd;exact#[_,#[rfl,rfl],_,rfl,p.cls,p.cls_mem,fs,#[rfl,rfl],hf,_,#[rfl,rfl],_,fF KK,_,#[rfl,rfl],_,kX KK KK,p,_,_,X-a,Y-b,rfl,hu,ge.2.2,KZ,rfl,hR]
def F4(hL:1<=n)(T:V.Tm "Mirror" "shows" "Mirror.shows" iT iU)(uV:V.a "Mirror" "form")(uF:∀x,x∈(["Motif","Over","Shifted","Mirror","Turn","Rehue"]:List J7)->V.Q n x "shows" cG (ofX (ca j x))):V.Q (n+1) "Mirror" "shows" iU (ofX (ca (j+1) "Mirror")):=by
 refine Txm.okM T Ee (λds M R RX h=>?_) (λ_ _ _ _ _ _ _ J hr hx=>#[_,((aq (aE (bc (hn:=LV) uF hx hr (aH uV (af (aa 0))) (aA (ac (bO (aa 1)) (ac (aa 2) ae))))))),λds M R RX b_ h=>?_])
 .let#[_,_,_,_,_,rfl,_]:=h;rfl
 .let#[p,k,v,X,Y,rfl,hv,ge,hd,hc,hR]:=h;cases p with
  |mot L a b c d=>exact absurd (show("Motif":J7)="Mirror" from hc) KK
  |over p q=>exact absurd (show("Over":J7)="Mirror" from hc) KK
  |sh a b p=>exact absurd (show("Shifted":J7)="Mirror" from hc) KK
  |tur p=>exact absurd (show("Turn":J7)="Mirror" from hc) KK
  |hue f g p=>exact absurd (show("Rehue":J7)="Mirror" from hc) KK
  |mir p=>
   let#[u,rfl,hu]:=hv;let#[fs,rfl,_,hf]:=hu.objm;rw[Pat.depth]at hd;exact#[_,#[rfl,rfl],_,rfl,p.cls,p.cls_mem,fs,#[rfl,rfl],hf,p,_,_,-X,Y,rfl,hu,ge,KZ,rfl,hR]
def F5(hL:1<=n)(T:V.Tm "Turn" "shows" "Turn.shows" iV iW)(uS:V.a "Turn" "form")(uF:∀x,x∈(["Motif","Over","Shifted","Mirror","Turn","Rehue"]:List J7)->V.Q n x "shows" cG (ofX (ca j x))):V.Q (n+1) "Turn" "shows" iW (ofX (ca (j+1) "Turn")):=by
 refine Txm.okM T Ef (λds M R RX h=>?_) (λ_ _ _ _ _ _ _ J hr hx=>#[_,((aq (aE (bc (hn:=LV) uF hx hr (aH uS (af (aa 0))) (aA (ac (aa 2) (ac (bO (aa 1)) ae))))))),λds M R RX b_ h=>?_])
 .let#[_,_,_,_,_,rfl,_]:=h;rfl
 .let#[p,k,v,X,Y,rfl,hv,ge,hd,hc,hR]:=h;cases p with
  |mot L a b c d=>exact absurd (show("Motif":J7)="Turn" from hc) KK
  |over p q=>exact absurd (show("Over":J7)="Turn" from hc) KK
  |sh a b p=>exact absurd (show("Shifted":J7)="Turn" from hc) KK
  |mir p=>exact absurd (show("Mirror":J7)="Turn" from hc) KK
  |hue f g p=>exact absurd (show("Rehue":J7)="Turn" from hc) KK
  |tur p=>
   let#[u,rfl,hu]:=hv;let#[fs,rfl,_,hf]:=hu.objm;rw[Pat.depth]at hd;exact#[_,#[rfl,rfl],_,rfl,p.cls,p.cls_mem,fs,#[rfl,rfl],hf,p,_,_,Y,-X,rfl,hu,ge,KZ,rfl,hR]
def F6(hL:1<=n)(T:V.Tm "Rehue" "shows" "Rehue.shows" iX iY)(uU:V.a "Rehue" "form")(KO:V.a "Rehue" "old")(KP:V.a "Rehue" "new")(uF:∀x,x∈(["Motif","Over","Shifted","Mirror","Turn","Rehue"]:List J7)->V.Q n x "shows" cG (ofX (ca j x))):V.Q (n+1) "Rehue" "shows" iY (ofX (ca (j+1) "Rehue")):=by
 refine Txm.okM T sc_Rehue_shows (λds M R RX h=>?_) (λ_ _ _ _ _ _ _ J hr hx=>⟨_,((ao (aJ 3 sc_Rehue_shows.nd (bc (hn:=LV) uF hx hr (aH uU (af (aa 0))) (aA (ac (aa 1) (ac (aa 2) ae)))))
   (aq (aE (gh (ic (af (aa 3)) (aH KO (af (aa 0)))) (aH KP (af (aa 0))) (af (aa 3))))))),λds M R RX b_ h=>?_⟩)
 .let#[_,_,_,_,_,rfl,_]:=h;rfl
 .let#[p,k,v,X,Y,rfl,hv,ge,hd,hc,hR]:=h;cases p with
  |mot L a b c d=>exact absurd (show("Motif":J7)="Rehue" from hc) KK
  |over p q=>exact absurd (show("Over":J7)="Rehue" from hc) KK
  |sh a b p=>exact absurd (show("Shifted":J7)="Rehue" from hc) KK
  |mir p=>exact absurd (show("Mirror":J7)="Rehue" from hc) KK
  |tur p=>exact absurd (show("Turn":J7)="Rehue" from hc) KK
  |hue f g p=>
   let#[u,rfl,hu]:=hv;let#[fs,rfl,_,hf]:=hu.objm;rw[Pat.depth]at hd;refine#[λd M'=>d=.int (p.show X Y)/\M'=M,#[_,#[rfl,rfl],_,rfl,p.cls,p.cls_mem,fs,#[rfl,rfl],hf,p,_,_,X,Y,rfl,hu,ge.2.2,KZ,rfl,rfl,rfl],?_];rintro _ _⟨rfl,rfl⟩;k_places;rw[Pat.show]at hR;unfold bL at hR;refine#[_,#[rfl,rfl],_,fF KK,ite2 (λe=>?_) (λe=>?_)]
   .rw[if_pos (of_decide_eq_true e)]at hR;exact#[_,#[rfl,rfl],_,kX KK KK,hR]
   .rw[if_neg (λz=>e (decide_eq_true z))]at hR;exact hR
def F7(Q5:V.Tm "Motif" "shows" "Motif.shows" iO cG)(Q6:V.Tm "Over" "shows" "Over.shows" iP iQ)(Q7:V.Tm "Shifted" "shows" "Shifted.shows" iR iS)(Q8:V.Tm "Mirror" "shows" "Mirror.shows" iT iU)(Q9:V.Tm "Turn" "shows" "Turn.shows" iV iW)(Q_:V.Tm "Rehue" "shows" "Rehue.shows" iX iY)(KH:jj V)(KJ:V.a "Motif" "hues")(uK:V.a "Motif" "shifts")(uP:V.a "Over" "above")(uT:V.a "Over" "below")(uQ:V.a "Shifted" "form")(KN:V.a "Shifted" "y")(KL:V.a "Shifted" "x")(uV:V.a "Mirror" "form")(uS:V.a "Turn" "form")(uU:V.a "Rehue" "form")(KO:V.a "Rehue" "old")(KP:V.a "Rehue" "new"):∀j x,x∈(["Motif","Over","Shifted","Mirror","Turn","Rehue"]:List J7)->V.Q (1+j) x "shows" cG (ofX (ca j x)):=by
 intro j;induction j with
 |zero=>
  intro x hx;simp only[GA,HA,or_false]at hx;rcases hx with rfl|rfl|rfl|rfl|rfl|rfl
  .exact CalMth.never Q5 (λds M R RX=>fH)
  .exact CalMth.never Q6 (λds M R RX=>fH)
  .exact CalMth.never Q7 (λds M R RX=>fH)
  .exact CalMth.never Q8 (λds M R RX=>fH)
  .exact CalMth.never Q9 (λds M R RX=>fH)
  .exact CalMth.never Q_ (λds M R RX=>fH)
 |succ j M6=>
  intro x hx;simp only[GA,HA,or_false]at hx;rcases hx with rfl|rfl|rfl|rfl|rfl|rfl
  .exact ok_Motif_shows (n:=1+j) (j:=j) LV Q5 KH KJ uK
  .exact FY (n:=1+j) (j:=j) LV Q6 uP uT M6
  .exact FZ (n:=1+j) (j:=j) LV Q7 uQ KN KL M6
  .exact F4 (n:=1+j) (j:=j) LV Q8 uV M6
  .exact F5 (n:=1+j) (j:=j) LV Q9 uS M6
  .exact F6 (n:=1+j) (j:=j) LV Q_ uU KO KP M6
abbrev vZ(V:Bx):Prop:=∀x,x∈(["Motif","Over","Shifted","Mirror","Turn","Rehue"]:List J7)->V.Q 7 x "shows" cG (ofX (ca 6 x))
abbrev pw(V:Bx):Prop:=V.X 8 "cell_at" ot C0
def F8(T:V.T "cell_at" oq ot)(PK:vY V)(LK:V.a "Pattern" "form")(uF:vZ V):pw V:=by
 refine CalMM.nilX (Tx.okM T Eg (λds M R RX h=>?_) (λ_ _ _ _ _ _ _ J hr hx=>⟨_,((ao (bj (aU (CalX.toM PK) hx hr (aA (ac (aa 1) (ac (aa 2) ae)))))
   (aq (aE (bc uF hx hr (aH LK (af (aa 0))) (aA (ac (aa 1) (ac (aa 2) ae)))))))),λds M R RX b_ h=>?_⟩))
 .let#[_,R0,v6,#[_,_,_,_,rfl,_],_]:=h;rfl
 .let#[rfl,R0,v6,#[p,d,x,y,rfl,#[w,h,s,fs,rfl,e1,e2,hp],ok,h1,h2],hR,hX]:=h;let#[k,v,e3,hv]:=hp.form;let#[gs,rfl,_,hg]:=hv.objm;have TB:=ok.deep;refine#[x,y,rfl,λhn=>?_,λhn=>?_]
  .exact#[_,#[rfl,rfl],_,e3,p.cls,p.cls_mem,gs,#[rfl,rfl],hg,p,k,_,x,y,rfl,hv,ok.wf,KZ,rfl,hR _ _ (h1 hn)]
  .rw[b_];exact hX _ _ _ (h2 hn)
def F9:SpD:=λds R=>∃(p q:Pat) (d e:D) (w h:Int),ds=[d,e,.int w,.int h]/\bv p d/\bv q e/\p.Ok/\q.Ok/\0<=w/\w<=720/\0<=h/\h<=720/\((∀x y:Int,0<=x->x<w->0<=y->y<h->p.show x y=q.show x y)->R .non)/\∀x y:Int,0<=x->x<w->0<=y->y<h->p.show x y≠q.show x y->(∀x' y':Int,0<=x'->x'<w->0<=y'->(y'<y\/(y'=y/\x'<x))->p.show x' y'=q.show x' y')->R (.tup [.int x,.int y])
abbrev wa(V:Bx):Prop:=V.D 9 "first_unlike" ow F9
def Ga(T:V.T "first_unlike" ou ow)(uA:V.m "range")(Lo:pw V):wa V:=by
 refine Tx.okDW T sc_first_unlike (λds R h=>?_) (λ_ _ _ _ _ _ _ J hr=>⟨_,((aj (cS 4 PassesOwn.never rfl sc_first_unlike.nd uA (aa 3) (aw (cS 5 PassesOwn.never rfl sc_first_unlike.nd uA (aa 2) (aw (bt (fb (aK (CalX.no Lo) hr (ac (aa 0) (ac (aa 5) (ac (aa 4) ae)))) (aK (CalX.no Lo) hr (ac (aa 1) (ac (aa 5) (ac (aa 4) ae))))) (aw (aG (az (ac (aa 5) (ac (aa 4) ae))))) bg)))))
   (aw (aG cm)))),λds R h=>?_⟩)
 .let#[_,_,_,_,_,_,rfl,_]:=h;rfl
 .let#[p,q,d,e,w,h,rfl,hd,he,PL,SS,w0,w7,h0,h7,hN,hS]:=h;let#[wd,gt,sd,fs,rfl,q1,q2,Ku]:=hd;have hd:bv p (.obj "Pattern" fs):=#[wd,gt,sd,fs,rfl,q1,q2,Ku];let#[SU,Lq,SV,NC,rfl,q3,q4,Kv]:=he;have he:bv q (.obj "Pattern" NC):=#[SU,Lq,SV,NC,rfl,q3,q4,Kv];refine#[#[LV,LV],λk z=>∃o4 o5,z=[be (.obj "Pattern" fs),be (.obj "Pattern" NC),be (.int w),be (.int h),o4,o5]/\∀x y:Int,0<=x->x<w->0<=y->y<k->p.show x y=q.show x y,#[_,_,rfl,λx y _ _ a b=>LV],?_,?_]
  .rintro k v z hk⟨o4,o5,rfl,hj⟩;k_places;let#[KE,rfl]:=range_int hk;refine#[#[LV,LV],λi z=>∃o5,z=[be (.obj "Pattern" fs),be (.obj "Pattern" NC),be (.int w),be (.int h),be (.int k),o5]/\∀x:Int,0<=x->x<i->p.show x k=q.show x k,#[_,rfl,λx a b=>LV],?_,?_]
   .rintro i v z hi⟨o5,rfl,J3⟩;k_places;let#[LG,rfl]:=range_int hi;have nn:bU (i:Int)/\bU (k:Int):=#[#[LV,LV],LV,LV];refine#[p,_,i,k,rfl,hd,PL,λ_=>#[q,_,i,k,rfl,he,SS,λ_=>?_,λn=>n nn],λn=>n nn];refine ite2 (λc=>?_) (λc=>?_)
    .refine#[le_b rfl,hS i k LV LV LV LV (λz=>by simp[z]at c) λx' y' a b c d=>?_];rcases d with d|⟨rfl,d⟩
     .exact hj x' y' a b c LV
     .exact J3 x' a LV
    .have c':p.show i k=q.show i k:=by simpa using c
     refine#[_,rfl,λx a b=>?_];by_cases e:x=i
     .rw[e];exact c'
     .exact J3 x a LV
   .rintro z⟨o5,rfl,J3⟩;k_places;rw[cV]at J3;refine#[_,_,rfl,λx y a b c d=>?_];by_cases e:y=k
    .rw[e];exact J3 x a LV
    .exact hj x y a b c LV
  .rintro z⟨o4,o5,rfl,hj⟩;k_places;rw[cV]at hj;exact hN λx y a b c d=>hj x y a b c LV
def Gb:SiD:=λds R=>∃x y:Int,ds=[.int x,.int y]/\R [("y",.int y),("x",.int x)]
abbrev wc(V:Bx):Prop:=V.E 1 "Parted" oz Gb
def Gc(T:V.Te "Parted" "Parted.__init__" oy oz)(Kn:V.b "MotifError")(uAQ:V.ea "Parted")(PM:V.xf "Parted" "x")(PN:V.xf "Parted" "y"):wc V:=by
 refine Txe.okE T Eh (λds R h=>?_) (λ_ _ _ _ _ _ _ J hr=>#[_,((ko Kn uAQ (ac (aa 1) (ac (aa 2) ae)) (kq uAQ PM (aa 1) (Db uAQ PN (aa 2) km)))),λds R h=>?_])
 .let#[_,_,rfl,_]:=h;rfl
 .let#[x,y,rfl,hR]:=h;exact#[le_b rfl,rfl,#[(λz=>nomatch z),le_b rfl],hR]
def Gd:SpM:=λds M R _=>∃a q f w,ds=[.ptr a,.str w]/\a≠q/\M=Fl.M f a q/\f.ds.length<=20/\∀q',a≠q'->R .non ((f.keep w).M a q')
abbrev pz(V:Bx):Prop:=V.Q 1 "Floor" "keep" oB Gd
def Ge(T:V.Tm "Floor" "keep" "Floor.keep" oA oB)(PP:V.gi "KEPT" 20)(Ln:V.a "Floor" "deeds")(uJ:V.a "Floor" "laid")(uN:V.a "Floor" "pattern"):pz V:=by
 refine CalMth.drop (Txm.okM T Ei (λds M R RX h=>?_) (λ_ _ _ _ _ _ _ J hr hx=>#[_,((aq (bY Ln (af (aa 0)) (Dh (Dg (aH Ln (af (aa 0))) (fv (aM (sK (aM (af (aa 1)) (aM (aH uN (af (aa 0))) (aM (aH uJ (af (aa 0))) bp)))) bp))) (ve (af (bO (fu PP)))) vd)))),λds M R RX b_ h=>?_]))
 .let#[_,_,#[_,_,_,_,rfl,_],_]:=h;rfl
 .let#[R,RX,#[a,q,f,w,rfl,ne,rfl,hl,hR],rfl,rfl]:=h;have nk:∀{p:KF},p∉av (f.M a q)->p≠a/\p≠q:=λ{p} h=>#[λe=>h (e ▸ Gx _ Gz),λe=>h (e ▸ Gz)];refine#[_,Fl.ma ne,_,EC,_,Fl.ma ne,_,oR,_,Fl.ma ne,_,gy,le_b rfl,le_b rfl,λp1 h1=>?_];let#[n1,m1]:=nk h1;refine#[_,_,(eE m1).trans Fl.mq,cH,by rw[GB];show _+1<=_;lia,λp2 h2=>?_];have v4:p2≠p1/\p2∉av (f.M a q):=#[λe=>h2 (e ▸ Gz),λz=>h2 (Gx _ z)];let#[n2,m2]:=nk v4.2;refine#[_,cH,λp3 h3=>?_];have SW:p3≠p2/\p3∉av ((p1,.lst [])::f.M a q):=#[λe=>h3 (e ▸ Gz),λz=>h3 (Gx _ z)];let#[n3,m3]:=nk λz=>SW.2 (Gx _ z);refine#[_,(eE n3).trans ((eE n2).trans ((eE n1).trans (Fl.ma ne))),le_b rfl,_,#[?_,?_],hR p3 (Ne.symm n3)]
  .rw[eF n3,eF n2,eF n1,show f.M a q=[(q,.lst (f.ds.map Deed.D)),(a,.ins "Floor" (f.fs q))]from rfl,eF (Ne.symm ne),df];have e1:cutD (f.ds.map Deed.D++[D.tup [.str w,f.d,.int f.l]]) (be (-20)) x8=(f.keep w).ds.map Deed.D:=by
    rw[EE];show _=ID Deed.D (HU _ _);rw[List.map_drop,GW,GF,GB];rfl
   have e2:putD ("deeds":J7) (.ptr p3) (f.fs q)=(f.keep w).fs p3:=rfl;rw[e1,e2];intro e he;rcases GA.mp he with rfl|he
   .exact Gz
   .rw[Gu.mp he];simp
  .exact Fl.nd (Ne.symm n3)
def Gf:SpM:=λds M R _=>∃a q f p d,ds=[.ptr a,d]/\a≠q/\M=Fl.M f a q/\bv p d/\R .non ((f.stand p d).M a q)
abbrev we(V:Bx):Prop:=V.Q 1 "Floor" "stand" oE Gf
def Gg(T:V.Tm "Floor" "stand" "Floor.stand" oC oE)(uN:V.a "Floor" "pattern")(LL:V.a "Floor" "text")(uY:V.a "Pattern" "text"):we V:=by
 refine CalMth.drop (Txm.okM T Ej (λds M R RX h=>?_) (λ_ _ _ _ _ _ _ J hr hx=>⟨_,((ao (bY uN (af (aa 0)) (af (aa 1)))
   (aq (bY LL (af (aa 0)) (aH uY (af (aa 1))))))),λds M R RX b_ h=>?_⟩))
 .let#[_,_,#[_,_,_,_,_,rfl,_],_]:=h;rfl
 .let#[R,RX,#[a,q,f,p,d,rfl,ne,rfl,#[wd,gt,sd,fs,rfl,e1,e2,Ku],hR],rfl,rfl]:=h;refine#[_,Fl.ma ne,le_b rfl,?_];rw[Fl.put ne];refine#[fs,#[rfl,rfl],_,e1,_,(eE (Ne.symm ne)).trans cH,le_b rfl,_,?_,hR];rw[eF (Ne.symm ne),df];exact Fl.sub (f:=f.stand p _) ne
def Gh:SpM:=λds M R RX=>∃a q f t,ds=[.ptr a,.str t]/\a≠q/\M=Fl.M f a q/\f.Ok/\S_read [.str t] (λd=>∃p,bv p d/\p.Ok/\(∀q',a≠q'->R .non (((f.keep "change").stand p d).M a q'))/\∀x y:Int,RX "Parted" [("y",.int y),("x",.int x)] M) (λx fs=>RX x fs M)
abbrev wg(V:Bx):Prop:=V.Q 20 "Floor" "change" oG Gh
def Gi(T:V.Tm "Floor" "change" "Floor.change" oF oG)(Ks:jk V)(PQ:wa V)(uJ:V.a "Floor" "laid")(Kt:V.a "Floor" "width")(uN:V.a "Floor" "pattern")(LO:pz V)(PR:we V)(uAP:wc V):wg V:=by
 refine CalMth.drop (Txm.okM T sc_Floor_change (λds M R RX h=>?_) (λ_ _ _ _ _ _ _ J hr hx=>⟨_,((ao (aJ 2 sc_Floor_change.nd (aU (CalX.toM Ks) hx hr (aA (ac (aa 1) ae))))
   (ao (aJ 3 sc_Floor_change.nd (aU (CalD.toM PQ) hx hr (aM (aH uN (af (aa 0))) (aM (af (aa 2)) (aM (aH Kt (af (aa 0))) (aM (aH uJ (af (aa 0))) bp))))))
   (ao (bf (aP (yY (aa 3) cm)) (aq (ik uAP hr hx rfl (aA (ac (ag (aa 3) ad) (ac (ag (aa 3) ad) ae))))) aR)
   (ao (bj (bc (CalMth.one LO) hx hr (af (aa 0)) (aA (ac ai ae))))
   (aq (bj (bc (CalMth.one PR) hx hr (af (aa 0)) (aA (ac (aa 2) ae)))))))))),λds M R RX b_ h=>?_⟩))
 .let#[_,_,#[_,_,_,_,rfl,_],_]:=h;rfl
 .let#[R,RX,#[a,q,f,t,rfl,ne,rfl,ok,hR],rfl,rfl]:=h;have w1:=ok.w1;have w2:=ok.w2;have l0:=ok.l0;have l1:=ok.l1;have h2:=ok.h2;refine#[λd M'=>M'=f.M a q/\∃p,bv p d/\p.Ok/\(∀q',a≠q'->R .non (((f.keep "change").stand p d).M a q'))/\∀x y:Int,RX "Parted" [("y",.int y),("x",.int x)] (f.M a q),S_read.mono hR (λd h=>#[rfl,h]) (λx fs z=>?_),?_]
  .show J.RM _ _ x fs;rw[b_];exact#[_,Fl.sub ne,z]
  rintro d _⟨rfl,p,hd,PL,hS,hP⟩;k_places;let#[wd,gt,sd,fs,rfl,e1,e2,Ku]:=hd;have hd:bv p (.obj "Pattern" fs):=#[wd,gt,sd,fs,rfl,e1,e2,Ku];refine#[λc M'=>M'=f.M a q/\(c=.non\/∃x y,c=.tup [.int x,.int y]),?_,?_]
  .exact#[_,Fl.ma ne,_,oR,_,Fl.ma ne,_,vo,_,Fl.ma ne,_,gy,f.p,p,f.d,_,f.w,f.l,rfl,ok.is,hd,ok.ok,PL,KZ,KZ,l0,KZ,λh=>#[rfl,.inl rfl],λx y h1 h2 h3 h4 h5 h6=>#[rfl,.inr #[x,y,rfl]]]
  rintro c _⟨rfl,rfl|⟨x,y,rfl⟩⟩;k_places
  .refine#[_,Gu.mpr rfl,_,Fl.ma ne,rfl,a,q,f,"change",rfl,ne,rfl,ok.de,λq' t7=>?_];exact#[_,Gu.mpr rfl,_,Fl.ma t7,rfl,a,q',_,p,_,rfl,t7,rfl,hd,_,Fl.sub t7,hS q' t7]
  .refine#[_,rfl,_,rfl,le_b rfl,x,y,rfl,?_];rw[b_];exact#[_,Fl.sub ne,hP x y]
def Gj:SpM:=λds M R _=>∃(a q:KF) (f:Fl) (n:Int) (t:J7),ds=[.int n,.str t,.ptr a]/\a≠q/\M=Fl.M f a q/\f.Ok/\
 ((∃w k,Bad t w k/\(k=-1->w="great")/\R (.lst [dueD w k,.non]) (f.M a q))\/∃P:Pat,t=P.text/\P.Ok/\(n=0->∀d,bv P d->R (.lst [cj,d]) (f.M a q))/\(n≠0->∀M',(n=1->M'=f.M a q)->R (.lst [cj,.non]) M'))
abbrev wj(V:Bx):Prop:=V.Ek ["WrongSign","OneLine","TooGreat","TooFar","NoRow","Parted"]
abbrev wk(V:Bx):Prop:=V.MM 22 "_law_answer" oI Gj
def Gk(T:V.T "_law_answer" oH oI)(uB:V.m "len")(Ks:jk V)(LP:pr V)(LQ:pv V)(PU:wg V)(ND:V.x "place" ["WrongSign","OneLine"])(ek:wj V):wk V:=by
 refine CalMM.drop (Tx.okM T sc__law_answer (λds M R RX h=>?_) (λ_ _ _ _ _ _ _ J hr hx=>⟨_,((ao (aJ 3 sc__law_answer.nd (af cm))
   (ao (aJ 4 sc__law_answer.nd (af (az (ac ai ae))))
   (ao (A8 (λpn xe J hp hx=>(ao (bR (aP (aI (aa 0) ad)) (aq (aJ 3 sc__law_answer.nd (aU (CalX.toM Ks) hx hr (aA (ac (aa 1) ae))))) (aq (bR (aP (aI (aa 0) ad)) (aq (bj (vj LQ hx hr (aA (ac (aa 1) (ac ad (ac ad ae))))))) (aq (bj (bc (CalMth.one PU) hx hr (af (aa 2)) (aA (ac (aa 1) ae))))))))
    (aq (aJ 4 sc__law_answer.nd (af (az (ac ai ae))))))) (λ_=>(si 5 ek sc__law_answer.nd (λe=>(aw (au 4 sc__law_answer.nd (az (ac ai (ac (sj ND (aa 5)) ae)))))) (si 5 ek sc__law_answer.nd (λe=>(aw (au 4 sc__law_answer.nd (az (ac ai (ac (sj ND (aa 5)) ae)))))) (sf ek (λe=>(aw (au 4 sc__law_answer.nd (az (ac ai ae))))) (sf ek (λe=>(aw (au 4 sc__law_answer.nd (az (ac ai ae))))) zO))))))
   (ao (bR (aP (dO (gP (aI (cB uB (ac (aa 4) ae)) ad) (gO (fT (dN (aK LP hr (ac (ag (aa 4) ad) ae)))))))) (aq (aJ 4 sc__law_answer.nd (af (az (ac ai ae))))) aR)
   (aq (aE (af (bn (ac (aa 4) (ac (aa 3) ae))))))))))),λds M R RX b_ h=>?_⟩))
 .let#[_,_,#[_,_,_,_,_,rfl,_],_]:=h;rfl
 .let#[R,RX,#[a,q,f,n,t,rfl,ne,rfl,ok,hc],rfl,rfl]:=h;refine#[λd M'=>d=.non/\M'=f.M a q,#[rfl,rfl],?_];rintro _ _⟨rfl,rfl⟩;k_places;refine#[λd M'=>d=.tup [.str "none"]/\M'=f.M a q,#[le_b rfl,rfl,rfl],?_];rintro _ _⟨rfl,rfl⟩;k_places;rcases hc with⟨w,k,hb,hk,hR⟩|⟨P,rfl,KQ,h0,h1⟩
  .refine#[λz M' x fs=>z=[be (.int n),be (.str t),be (.ptr a),be .non,be (.tup [.str "none"]),x8]/\M'=f.M a q/\ErrW w k x fs,λJ hJ=>#[λ_ _=>False,ite2 (λc=>#[λ_ _=>False,?_,λ_ _ z=>z.elim]) (λc=>#[λ_ _=>False,ite2 (λc=>?_) (λc=>?_),λ_ _ z=>z.elim]),λ_ _ z=>z.elim],?_]
   .refine S_read.mono hb (λ_ z=>z.elim) λx fs z=>?_;show J.RM _ _ x fs;rw[hJ];exact#[rfl,rfl,z]
   .refine λa' _=>#[t,2,2,rfl,.inr (S_read.mono hb (λ_ z=>z.elim) λx fs z M'=>?_)];show J.RM _ _ x fs;rw[hJ];exact#[rfl,rfl,z]
   .refine#[_,Gu.mpr rfl,_,Fl.ma ne,rfl,a,q,f,t,rfl,ne,rfl,ok,S_read.mono hb (λ_ z=>z.elim) λx fs z=>?_];show J.RM _ _ x fs;rw[hJ];exact#[rfl,rfl,z]
   .rintro z M' x fs⟨rfl,rfl,⟨rfl,rfl,rfl⟩|⟨rfl,rfl,rfl⟩|⟨rfl,rfl,rfl,rfl⟩⟩;k_places
    .have e:dueD "wrong" k=.tup [.str "wrong",.int k]:=if_neg λz=>absurd (hk z) KK;rw[e]at hR;refine#[#[K8,K8],?_];rw[if_pos KK];refine#[λd=>d=.tup [.str "wrong",.int k],#[K3,_,rfl,le_b rfl,rfl],?_];rintro _ rfl;k_places;refine#[#[λz M'=>z=[be (.int n),be (.str t),be (.ptr a),be .non,be (.tup [.str "wrong",.int k]),x8]/\M'=f.M a q,#[_,rfl,k,rfl,iteF #[rfl,rfl]],?_],NoOwn.of rfl];rintro _ _⟨rfl,rfl⟩;k_places;exact#[le_b rfl,_,Fl.sub ne,hR]
    .have e:dueD "line" k=.tup [.str "line",.int k]:=if_neg λz=>absurd (hk z) KK;rw[e]at hR;refine#[#[K8,K8],?_];rw[if_neg KK];refine#[#[K8,K8],?_];rw[if_pos KK];refine#[λd=>d=.tup [.str "line",.int k],#[K3,_,rfl,le_b rfl,rfl],?_];rintro _ rfl;k_places;refine#[#[λz M'=>z=[be (.int n),be (.str t),be (.ptr a),be .non,be (.tup [.str "line",.int k]),x8]/\M'=f.M a q,#[_,rfl,k,rfl,iteF #[rfl,rfl]],?_],NoOwn.of rfl];rintro _ _⟨rfl,rfl⟩;k_places;exact#[le_b rfl,_,Fl.sub ne,hR]
    .refine#[#[K8,K8],?_];rw[if_neg KK];refine#[#[K8,K8],?_];rw[if_neg KK];refine#[#[K8,K8],?_];rw[if_pos KK];refine#[λd=>d=.tup [.str "great"],#[le_b rfl,rfl],?_];rintro _ rfl;k_places;refine#[#[λz M'=>z=[be (.int n),be (.str t),be (.ptr a),be .non,be (.tup [.str "great"]),x8]/\M'=f.M a q,by exact#[rfl,rfl],?_],NoOwn.of rfl];rintro _ _⟨rfl,rfl⟩;k_places;exact#[le_b rfl,_,Fl.sub ne,hR]
  .refine#[λz M' x fs=>z=[be (.int n),be (.str P.text),be (.ptr a),be .non,be (.tup [.str "none"]),x8]/\M'=f.M a q/\n≠0/\x="Parted",λJ hJ=>#[λz M'=>∃d N,z=[be (.int n),be (.str P.text),be (.ptr a),be d,be (.tup [.str "none"]),x8]/\subM N M'/\R (.lst [cj,d]) N/\(d=.non\/bv P d),ite2 (λc=>?_) (λc=>#[λz M'=>∃N,z=[be (.int n),be (.str P.text),be (.ptr a),be .non,be (.tup [.str "none"]),x8]/\subM N M'/\R (.lst [cj,.non]) N,ite2 (λc2=>?_) (λc2=>?_),λz M' ⟨N,e1,e2,e3⟩=>#[_,N,e1,e2,e3,.inl rfl]]),?_],?_]
   .have c':n=0:=of_decide_eq_true c;refine#[λd M'=>M'=f.M a q/\bv P d,oS KQ λd hd=>#[rfl,hd],?_];rintro d _⟨rfl,hd⟩;k_places;exact#[d,_,rfl,Fl.sub ne,h0 c' d hd,.inr hd]
   .have c':n=1:=of_decide_eq_true c2;refine λa' _=>#[P.text,2,2,rfl,.inl #[P,rfl,KQ,λd q' hd t7=>?_]];exact#[f.M a q,rfl,#[λe he=>GS.mpr (.inr he),(Fl.sub ne).2],h1 KZ _ λ_=>rfl]
   .have c0:n≠0:=λz=>c (decide_eq_true z);have c1:n≠1:=λz=>c2 (decide_eq_true z);refine#[_,Gu.mpr rfl,_,Fl.ma ne,rfl,a,q,f,P.text,rfl,ne,rfl,ok,oS KQ λd hd=>#[P,hd,KQ,λq' t7=>#[_,rfl,Fl.sub t7,h1 c0 _ λz=>absurd z c1],λx y=>?_]];show J.RM _ _ _ _;rw[hJ];exact#[rfl,rfl,c0,rfl]
   .rintro z M'⟨d,N,rfl,hs,hR,hd⟩;k_places;refine#[λx M2=>x=cj/\subM N M2,#[le_b rfl,rfl,hs],?_];rintro _ _⟨rfl,hs⟩;k_places;refine#[λz M2=>z=[be (.int n),be (.str P.text),be (.ptr a),be d,be cj,x8]/\subM N M2,by exact#[rfl,hs],?_];rintro _ _⟨rfl,hs⟩;k_places;rcases hd with rfl|⟨w,h,s,fs,rfl,_⟩<;>exact#[le_b rfl,N,hs,hR]
   .rintro z M' x fs⟨rfl,rfl,c0,rfl⟩;k_places;refine#[#[K8,K8],?_];rw[if_neg KK];refine#[#[K8,K8],?_];rw[if_neg KK];refine#[#[K8,K8],?_];rw[if_neg KK];refine#[#[K8,K8],?_];rw[if_pos KK];refine#[λd=>d=cj,#[le_b rfl,rfl],?_];rintro _ rfl;k_places;refine#[#[λz M2=>z=[be (.int n),be (.str P.text),be (.ptr a),be .non,be cj,x8]/\M2=f.M a q,by exact#[rfl,rfl],?_],NoOwn.of rfl];rintro _ _⟨rfl,rfl⟩;k_places;exact#[le_b rfl,_,Fl.sub ne,h1 c0 _ λ_=>rfl]
abbrev wl(V:Bx):Prop:=V.D 2 "_law_numbers" oK C5
def Gm(T:V.T "_law_numbers" oJ oK)(uB:V.m "len")(uX:V.m "isinstance")(PV:V.m "tuple")(uA:V.m "range")(LP:pr V):wl V:=by
 refine Tx.okDW T sc__law_numbers (λds R h=>?_) (λ_ _ _ _ _ _ _ J hr=>⟨_,((aj (bt (dO (jR (fT (dN (jS uX PV (aa 0) PyProof.Rows.boot_tuple kit_tuple))) (jQ (fb (cB uB (ac (aa 0) ae)) (cB uB (ac (aa 1) ae)))))) (aw (aG bW)) bg)
   (aj (cS 2 PassesOwn.never rfl sc__law_numbers.nd uA (cB uB (ac (aa 1) ae)) (aw (bt (dO (jR (fT (dN (aK LP hr (ac (ag (aa 0) (aa 2)) ae)))) (jQ (fb (ag (aa 0) (aa 2)) (ag (aa 1) (aa 2)))))) (aw (aG bW)) bg)))
   (aw (aG bW))))),λds R h=>?_⟩)
 .let#[xs,rfl,_]:=h;rfl
 .let#[xs,rfl,xl,hR]:=h;refine ite2 (λc=>absurd c K8) λ_=>?_;refine#[#[LV,by rw[GB];omega],λk z=>∃o,z=[be (.tup (xs.map D.int)),be (.tup (xs.map D.int)),o],#[_,rfl],?_,?_]
  .rintro k v z hk⟨o,rfl⟩;k_places;let#[KE,rfl]:=range_int hk;rw[GB]at KE;have SX:k<xs.length:=by omega
   have ak:atI (xs.map D.int) (k:Int)=be (.int xs[k]):=dm (by rw[GU,GP SX];rfl);exact#[_,ak,_,rfl,_,ak,_,ak,ite2 (λc=>absurd c K8) λ_=>#[_,rfl]]
  .rintro z⟨o,rfl⟩;k_places;exact hR
abbrev wm(V:Bx):Prop:=V.D 9 "row_from" oM C1
def Gn(T:V.T "row_from" iZ oM)(uA:V.m "range")(Lo:pw V)(uZ:V.gs "SIGNS" ".123456"):wm V:=by
 refine Tx.okDW T El (λds R h=>?_) (λ_ _ _ _ _ _ _ J hr=>#[_,((aw (aG (gS (rT rfl (compScope (by change ft _ (ah iZ) ["pattern","x","y","many"] _=true;decide+kernel)) uA (aa 3) (λcl s0 H0 fp=>(ag (gX uZ) (aK (CalX.no Lo) hr (ac (aa 0) (ac (am (aa 1) (aa 4)) (ac (aa 2) ae))))))))))),λds R h=>?_])
 .let#[_,_,_,_,_,rfl,_]:=h;rfl
 .let#[p,d,x,y,n,rfl,hd,ok,hn,Lr,t9,hy,hR]:=h;let#[w,h,s,fs,rfl,_]:=id hd;refine#[#[KZ,KZ],by rw[cV];lia,λk ys=>ys=rowD p x y k,rfl,?_,?_]
  .rintro k v ys hk hl rfl;let#[KE,rfl]:=range_int hk;let#[b0,b6]:=Pat.show_le ok.wf (by have:=ok.deep;lia) (x+(k:Int)) y;unfold bU at Lr t9;exact#[p,.obj "Pattern" fs,x+(k:Int),y,rfl,hd,ok,λ_=>#[_,#[K3,CQ b0 b6],C3 p x y k],λz=>z #[#[KZ,KZ],hy]]
  .rintro ys hl rfl;rw[cV,Hw];let#[ys,e1,e2,e3]:=C4 p x y hn;refine#[ys,e1,e2,?_];rw[e3];exact hR
def wn:SpD:=λds R=>∃f q,ds=[.obj "Floor" (Fl.fs f q)]/\f.Ok/\R (.lst (bM f.p f.w 0 f.l.toNat))
variable{f:Fl}
def Go{a q:KF}(ne:a≠q)(ok:f.Ok){R:D->MS->Prop}{RX:XDM}(h:R (.lst (bM f.p f.w 0 f.l.toNat)) (f.M a q)):lend (λds R _=>wn ds R) [.ptr a] (f.M a q) R RX:=by
 refine#[a,_,_,Fl.ma ne,f,q,?_,ok,EF _ _ _ _,h];show[lendD a _ (.ptr a)]=_;unfold lendD;simp
abbrev wo(V:Bx):Prop:=V.QD 10 "Floor" "rows" oN wn
def Gp(T:V.Tm "Floor" "rows" "Floor.rows" ja oN)(uA:V.m "range")(PX:wm V)(uJ:V.a "Floor" "laid")(Kt:V.a "Floor" "width")(uN:V.a "Floor" "pattern"):wo V:=by
 refine Txm.okDW T Em (λds R h=>?_) (λ_ _ _ _ _ _ _ J hr=>#[_,((aw (aG (rT rfl (compScope (by change ft _ (ah ja) ["self"] _=true;decide+kernel)) uA (ke uJ (aa 0)) (λcl s0 H0 fp=>(aK PX hr (ac (ke uN (aa 0)) (ac ad (ac (aa 1) (ac (ke Kt (aa 0)) ae)))))))))),λds R h=>?_])
 .let#[_,_,rfl,_]:=h;rfl
 .let#[f,q,rfl,ok,hR]:=h;have l0:=ok.l0;have l1:=ok.l1;have h2:=ok.h2;have w1:=ok.w1;have w2:=ok.w2;refine#[rfl,_,gy,#[KZ,KZ],by rw[cV];lia,λk ys=>ys=bM f.p f.w 0 k,rfl,?_,?_]
  .rintro k v ys hk hl rfl;let#[KE,rfl]:=range_int hk;refine#[rfl,_,oR,rfl,_,vo,f.p,f.d,0,k,f.w.toNat,by rw[HX KZ],ok.is,ok.ok,KZ,#[KZ,KZ],#[KZ,KZ],#[KZ,KZ],?_];show bM f.p f.w 0 k++_=bM f.p f.w 0 (k+1);rw[<-vp,Int.zero_add]
  .rintro ys hl rfl;rw[cV];exact hR
def S_Floor_lay:SpM:=λds M R RX=>∃a q f n,ds=[.ptr a,.int n]/\a≠q/\M=Fl.M f a q/\f.Ok/\1<=n/\n<=1000/\(f.h-f.l<n->RX "NoRow" [] (f.M a q))/\(n<=f.h-f.l->∀q',a≠q'->R (.lst (bM f.p f.w f.l n.toNat)) ((f.lay n).M a q'))
def Fl.ok_new{p:Pat}{d:D}{w h:Int}(is:bv p d)(ok:p.Ok)(w1:1<=w)(w2:w<=30)(h1:1<=h)(h2:h<=30):(Fl.mk p d w h 0 []).Ok:=#[is,ok,w1,w2,h1,h2,Int.le_refl 0,Ha (show(0:Int)<=1 by decide) h1,GT _,λ_ h=>nomatch h]
def Fl.Ok.keep(ok:f.Ok)(w:J7):(f.keep w).Ok:=by
 refine#[ok.is,ok.ok,ok.w1,ok.w2,ok.h1,ok.h2,ok.l0,ok.l1,?_,λe he=>?_]
 .show(HU _ _).length<=20;rw[HD,GF,H9];have:=ok.de;lia
 .rcases GS.mp (Iq he)with z|z
  .exact ok.dd e z
  .rw[Gu.mp z];exact#[ok.is,ok.ok,ok.l0,ok.l1]
def Fl.Ok.lay{n:Int}(ok:f.Ok)(n0:0<=n)(hn:n<=f.h-f.l):(f.lay n).Ok:=by
 have l0:=ok.l0;have k:=ok.keep "lay";exact#[ok.is,ok.ok,ok.w1,ok.w2,ok.h1,ok.h2,by show 0<=f.l+n;lia,by show f.l+n<=f.h;lia,k.de,k.dd]
abbrev wq(V:Bx):Prop:=V.Q 11 "Floor" "lay" jb S_Floor_lay/\V.Qd 11 "Floor" "lay" jb [.int 1] S_Floor_lay
def Gq(T:V.Td "Floor" "lay" "Floor.lay" oO jb [.int 1])(LN:V.m "max")(LM:V.a "Floor" "height")(uJ:V.a "Floor" "laid")(LO:pz V)(PY:wo V)(PZ:V.n "NoRow"):wq V:=by
 refine Txd.okMd T sc_Floor_lay (λds M R RX h=>?_) (λ_ _ _ _ _ _ _ J hr hx=>⟨_,((ao (bf (Af (af (aa 1)) (ib (aH LM (af (aa 0))) (aH uJ (af (aa 0))))) (aq (sP PZ hx rfl (aA (ac ai ae)))) aR)
   (ao (bj (bc (CalMth.one LO) hx hr (af (aa 0)) (aA (ac ai ae))))
   (ao (aJ 2 sc_Floor_lay.nd (aH uJ (af (aa 0))))
   (ao (bY uJ (af (aa 0)) (af (am (aa 2) (rJ rfl LN (ac (aa 1) (ac ad ae))))))
   (aq (aE (C8 (dB (CalMth.one (CalMth.lendD PY)) hx hr (af (aa 0))) (ve (af (aa 2))) vd)))))))),λds M R RX b_ h=>?_⟩)
 .let#[_,_,#[_,_,_,_,rfl,_],_]:=h;rfl
 .let#[R,RX,#[a,q,f,n,rfl,ne,rfl,ok,n1,n2,hX,hR],rfl,rfl]:=h;have l0:=ok.l0;have l1:=ok.l1;refine#[_,Fl.ma ne,_,EB,_,Fl.ma ne,_,gy,ite2 (λc=>?_) (λc=>?_)]
  .have c':=of_decide_eq_true c;refine#[le_b rfl,?_];rw[b_];exact#[_,Fl.sub ne,hX c']
  have hc:n<=f.h-f.l:=by have:¬(f.h-f.l<n):=λz=>c (decide_eq_true z);lia
  refine#[_,Gu.mpr rfl,_,Fl.ma ne,rfl,a,q,f,"lay",rfl,ne,rfl,ok.de,λq' t7=>?_];refine#[λd M'=>d=.int f.l/\M'=(f.keep "lay").M a q',#[_,Fl.ma t7,_,gy,rfl,rfl],?_];rintro _ _⟨rfl,rfl⟩;k_places;have eM:mput ((f.keep "lay").M a q') a (.ins "Floor" (putD "laid" (.int (f.l+if 0>n then 0 else n)) ((f.keep "lay").fs q')))=(f.lay n).M a q':=by
   rw[Fl.put t7,if_neg KZ];rfl
  refine#[_,Fl.ma t7,le_b rfl,?_];rw[eM];have el:(f.lay n).l.toNat=f.l.toNat+n.toNat:=by show(f.l+n).toNat=_;lia
  refine#[_,Gu.mpr rfl,_,Fl.ma t7,rfl,?_];dsimp only[mNil];refine Go t7 (ok.lay KZ hc) ?_;rw[el];show ∃N,subM N _/\R (.lst (cutD (bM f.p f.w 0 _) (be f.l) x8)) N;rw[EG _ _ _ l0];exact#[_,Fl.sub t7,hR hc q' t7]
def Gr{fa:KF}{fd:TQ}(F:Fun V.K "law" "law" jc fa fd)(uA:V.m "range")(uD:V.m "int")(uX:V.m "isinstance")(uL:V.m "str")(P0:vA V)(uM:jh V)(P1:vE V)(LB:oU V)(NE:vI V)(NF:vN V)(P2:wk V)(P4:wl V)(uY:V.a "Pattern" "text")(LJ:V.a "Pattern" "shifts")(P5:V.i "Pattern")(LQ:pv V)(P6:wq V):FnOk V.P V.w V.K V.mg V.base (Exc.CX1 V.P V.w) 23 fa fd oP (lSp V.K fo):=by
  refine Dk (Fun.okM F sc_law (λds M R RX h=>?_) (λ_ _ _ _ _ _ J hr hx=>⟨_,((ao (tz (λ_=>(rN rfl (aK P0 hr (ac (aa 0) ae)) (dg_cons 1 sc_law.nd (dg_cons 2 sc_law.nd dQ)))))
      (ao (aJ 3 sc_law.nd (af (ag (aa 1) ad)))
      (ao (aJ 4 sc_law.nd (af (az (ac ai ae))))
      (ao (bR (aP (aI (aC (aK uM hr (ac (aa 0) (ac ad ae))) ad) ad)) (ao (aJ 5 sc_law.nd (af (am ad (aC (bq (aK uM hr (ac (aa 0) (ac ad ae))) ad) ad))))
        (aq (aJ 3 sc_law.nd (af (aK P1 hr (ac (aa 3) (ac (aa 5) (ac (aK uM hr (ac (aa 0) (ac ad ae))) (ac (aK LB hr (ac (aa 0) (ac ad (ac ad ae)))) ae))))))))) aR)
      (ao (bR (aP (aI (aK (CalX.no NE) hr (ac (aa 3) ae)) (bO ad))) (ao (aJ 3 sc_law.nd (af (ag (aa 1) ad)))
        (aq (bR (aP (sB bW (aa 2))) (ao (aJ 4 sc_law.nd (af (az (ac ai (ac ad ae)))))
         (aq (tz (λ_=>(cS 6 PassesOwn.leaving rfl sc_law.nd uA (am ad (Bj (aa 2) bW)) (aw (au 4 sc_law.nd (az (ac ai (ac (Bf (aa 3) (ac ai (ac (am (ag (aa 4) ad) (fZ uD (ac (qW (aa 6) ad) ae))) ae))) ae)))))))))) (aq (bR (aP (jP (aK NF hr (ac (ag (aa 1) ad) ae)) cm)) (aq (aJ 4 sc_law.nd (af (az (ac ai ae))))) aR))))) (aq (aJ 4 sc_law.nd (af (az (ac ai (ac (aK (CalX.no NE) hr (ac (aa 3) ae)) ae)))))))
      (ao (aJ 7 sc_law.nd (vj LQ hx hr (aA (ac ai (ac ad (ac ad ae))))))
      (ao (bj (De P6.2 hx hr (af (aa 7))))
      (ao (kD 8 PassesOwn.leaving rfl sc_law.nd uA (af ad) (ao (Dn rfl (aU P2 hx hr (aA (ac (aa 8) (ac (aa 3) (ac (aa 7) ae))))) (dg_cons 9 sc_law.nd (dg_cons 10 sc_law.nd dQ)))
        (ao (bf (aP (Ds (du hr) (aa 9) (aa 4))) (aq (aE (af bW))) aR)
        (aq (bR (aP (dO (gP (aI (aa 8) ad) (gO (ze (du hr) (aa 4) (az (ac ai ae))))))) (ao (bf (mt_w (ie (aP (fT (dN (zE P5 uX (aa 10))))) (ie (lf (kZ (Dl uX uL (aH uY (af (aa 10))) PyProof.Rows.boot_str kit_str))) (kz (Ag (aH uY (af (aa 10))) (af (aa 3))))))) (aq (aE (af bW))) aR)
         (aq (bf (lf (kZ (aU (CalD.toM P4) hx hr (aM (aH LJ (af (aa 10))) (aM (af (aK NF hr (ac (ag (aa 1) ad) ae))) bp))))) (aq (aE (af bW))) aR))) aR)))))
      (aq (aE (af bW)))))))))))),λds M R RX b_ h=>?_⟩))
  . let#[rfl,_,#[ns,rfl,_],rfl]:=h;rfl
  . let#[rfl,R0,#[ns,rfl,hl,hR],rfl]:=h;refine#[ns,rfl,λP fs n m hP hn=>#[rfl,?_,NoOwn.of rfl]];have syn:=hP.1.syn;have dP:P.depth<=4:=by have:=hP.2.1;lia
    have lP:=Pat.syn_short syn KZ;have pos:1<=P.text.length:=by
      rw[ud];cases P<;>simp[Pat.tl,motL]
    refine#[λd M'=>d=.str P.text/\M'=[],#[_,rfl,rfl,rfl],?_];rintro _ _⟨rfl,rfl⟩;k_places;refine#[λd M'=>d=cj/\M'=[],#[le_b rfl,rfl,rfl],?_];rintro _ _⟨rfl,rfl⟩;k_places;refine#[λz M'=>M'=[]/\∃(t:J7) (o5:Option D),z=[be (.rol (ns.map D.int)),be (.lst [.str P.text,.int m,.lst (P.leaves.map Leaf.D)]),be (.lst (fs.map D.bl)),be (.str t),be cj,o5,x8,x8,x8,x8,x8]/\t.length<=4100/\NI o5,#[ns,1,rfl,K3,K3,ite2 (λ_=>?_) (λ_=>#[rfl,P.text,_,rfl,KZ,.inl rfl])],?_]
    . refine#[λd M'=>M'=[]/\∃k:Int,d=.int k,#[ns,1,rfl,K3,#[K3,K3],K3,rfl,_,rfl],?_];rintro _ _⟨rfl,k,rfl⟩;k_places;refine#[λd M'=>M'=[]/\∃u:J7,d=.str u/\u.length<=4100,#[ns,2,rfl,K3,ns,3,24,rfl,K3,K3,λxs h1 h2=>#[P.text,_,_,xs,rfl,pos,KZ,h1,h2,λu hu=>#[rfl,u,rfl,hu]]],?_];rintro _ _⟨rfl,u,rfl,hu⟩;k_places;exact#[K8,u,_,rfl,hu,.inr #[_,rfl]]
    rintro _ _⟨rfl,t,o5,rfl,lt,SY⟩;k_places
    let Due:J7->D->Prop:=λt KR=>(∃w k,Bad t w k/\(k=-1->w="great")/\w≠"good"/\KR=dueD w k)\/(t=P.text/\P.Ok/\KR=cj)
    refine#[λz M'=>M'=[]/\∃(t:J7) (KR:D) (o5 o6:Option D),z=[be (.rol (ns.map D.int)),be (.lst [.str P.text,.int m,.lst (P.leaves.map Leaf.D)]),be (.lst (fs.map D.bl)),be (.str t),be KR,o5,o6,x8,x8,x8,x8]/\Due t KR,#[t,rfl,KZ,λk hw=>?_,λhw=>?_],?_]
    . refine#[λd M'=>M'=[]/\d=.tup [.str "wrong",.int k],#[t,rfl,KZ,λk' Lx=>#[le_b rfl,rfl,by rw[hw]at Lx;cases Lx;rfl],λhN=>by rw[hw]at hN;cases hN],?_];rintro _ _⟨rfl,rfl⟩;k_places;exact#[K8,t,_,_,_,rfl,.inl #["wrong",k,.inl #[t,k,rfl,KZ,hw,.inl #[rfl,rfl,rfl]],λz=>absurd z KZ,KK,(if_neg KZ).symm]]
    . refine#[λd M'=>M'=[]/\d=.str P.text,#[_,rfl,rfl,rfl],?_];rintro _ _⟨rfl,rfl⟩;k_places;have Lp:(fs.map D.bl).any (λy=>eqF y (.bl true))=fs.any id:=by
        have:=Et (fs.map λb=>(P,b));simpa[Hz,Function.comp_def]using this
      have u6:(fs.map D.bl).all bo=true:=by
        have:=flat_bl (fs.map λb=>(P,b));simpa[Hz,Function.comp_def]using this
      have u7:(fs.map D.bl).findIdx (λw=>eqF w (.bl true))=fs.findIdx id:=by
        have:=Eu (fs.map λb=>(P,b));rw[Hz,Hz]at this;exact this.trans (by simp[Function.comp_def])
      have hf:=hP.2.2;refine#[_,#[#[rfl,u6],?_],λ_ _ h=>h];rw[Lp,<-hf];cases e:P.lineAt 0 with
      |none=>
        rw[line_none syn e];have wf:=Pat.line_wf 0 syn e;refine iteF ?_;have i7:P.leaves≠[]:=λz=>by have:=Pat.leaves_pos P;rw[z]at this;simp at this
        refine#[_,#[_,rfl,P.leaves,P.depth,rfl,i7,λl hl=>Pat.leaf_good wf l hl,λw h s f lat=>?_],λ_ _ h=>h];have Ku:P.Fam w h s:=#[f,λx y=>(lat x y).trans (Pat.lat_leaves P x y)];refine#[λsm=>?_,λbig=>?_]
        . exact#[K8,P.text,_,_,_,rfl,.inr #[rfl,#[wf,KZ,#[w,h,s,Ku,sm]],rfl]]
        . refine#[λd M'=>M'=[]/\d=.tup [.str "great"],#[le_b rfl,rfl,rfl],?_];rintro _ _⟨rfl,rfl⟩;k_places;refine#[K8,P.text,_,_,_,rfl,.inl #["great",-1,.inr #[P,rfl,syn,KZ,hP.1.cal,(λk z=>by rw[e]at z;cases z),λ_ _=>.inr (.inr #[rfl,rfl,rfl,rfl]),λ_ ⟨w',h',s',f',sm⟩=>?_],λ_=>rfl,KK,rfl]];let#[e1,e2,_]:=Ku.uniq f';rw[e1,e2]at big;lia
      |some i=>
        let#[c1,c2,c3]:=Ev syn e;rw[c1];refine iteT ?_;refine#[λd M'=>M'=[]/\d=.tup [.str "line",.int 0],#[le_b rfl,rfl,rfl],?_];rintro _ _⟨rfl,rfl⟩;k_places;subst hf;have c4:(P.flags.map D.bl).findIdx (λw=>eqF w (.bl true))<(P.flags.map D.bl).length:=by rw[u7,GB];exact c2
        refine#[#[rfl,u6],c4,?_];rw[u7];generalize P.flags.findIdx id=j at*;have pl:=Pat.flags_len syn;have fl:P.flags.length<=3510:=by
          have:=vq P.tl 0;have:=ud P;lia
        refine#[#[KZ,KZ],λk z=>∃(o:Nat) (y:Int) (o6:Option D),z=[be (.rol (ns.map D.int)),be (.lst [.str P.text,.int m,.lst (P.leaves.map Leaf.D)]),be (.lst (P.flags.map D.bl)),be (.str P.text),be (.tup [.str "line",.int y]),o5,o6,x8,x8,x8,x8]/\NI o6/\y+(if decide ((0:Int)<(k:Int))=true then 1 else 0)=(o:Int)/\aT ((cs P.text).drop o) o=(aT P.tl 0).drop k/\(0<k->(aT P.tl 0)[k-1]?=be (o-1)/\1<=o),#[0,0,_,rfl,.inl rfl,rfl,by rw[cK];rfl,λz=>absurd z (Hu 0)],?_,?_]
        . rintro k v z hk⟨o,y,o6,rfl,_,hy,ho,_⟩;k_places;let#[p7,rfl]:=range_int hk;have KE:k<(aT P.tl 0).length:=by lia
          rw[Ip KE]at ho;let#[x,r,e1,e2,e3,e4]:=Er ho;refine#[λd=>d=.tup [.str "line",.int (x:Int)],#[_,rfl,x,r,by rw[hy];exact e1,le_b rfl,rfl],?_];rintro _ rfl;k_places;refine#[x+1,x,_,rfl,.inr #[_,rfl],by rw[if_pos (decide_eq_true KZ)];rfl,by rw[e2];exact e4,λ_=>#[?_,KZ]];rw[Ik,Ik,e2];exact GP KE
        rintro z⟨o,y,o6,rfl,S1,hy,_,ho⟩;k_places;rw[cV]at ho hy;let#[h1,h2]:=ho KZ;rw[show(1+(j:Int)).toNat-1=j by lia,c3]at h1;have h3:i=o-1:=Option.some.inj h1;rw[if_pos (decide_eq_true KZ)]at hy;have h4:y=(i:Int):=KZ
        subst h4;refine#[#[K8,P.text,_,_,_,rfl,.inl #["line",i,.inr #[P,rfl,syn,KZ,hP.1.cal,(λk z=>?_),(λz=>by rw[e]at z;cases z),λz=>by rw[e]at z;cases z],(λz=>absurd z KZ),KK,(if_neg KZ).symm]],?_]
        . rw[e]at z;cases z;exact .inr (.inl #[rfl,rfl,rfl])
        . rcases SY with rfl|⟨_,rfl⟩<;>rcases S1 with rfl|⟨_,rfl⟩<;>exact NoOwn.of rfl
    rintro _ _⟨rfl,t,KR,o5,o6,rfl,hd⟩;k_places;let#[xs,rfl,fx,ex,ng]:∃xs,KR=.tup xs/\xs.all bo=true/\eqFs xs xs=true/\((∃w k,KR=dueD w k/\w≠"good")->eqFs xs [.str "good"]=false):=by
      rcases hd with⟨w,k,_,_,nw,rfl⟩|⟨_,_,rfl⟩
      . unfold dueD;split
        . exact#[_,rfl,rfl,by show(decide (w=w)&&true)=true;simp,λ_=>by show(decide (w="good")&&true)=false;rw[decide_eq_false nw];rfl]
        . exact#[_,rfl,rfl,by show(decide (w=w)&&(decide (k=k)&&true))=true;simp,λ_=>by show(decide (w="good")&&_)=false;rw[decide_eq_false nw];rfl]
      . refine#[_,rfl,rfl,KK,λ⟨w,k,e,nw⟩=>?_];unfold dueD cj at e;split at e
        . cases e;exact absurd rfl nw
        . cases e
    refine#[λd M'=>∃a qa d0,d=.ptr a/\a≠qa/\bv (.mot ["1"] 1 0 0 1) d0/\M'=Fl.M #[.mot ["1"] 1 0 0 1,d0,2,2,0,[]] a qa,λa _=>#["[1;1,0;0,1]",2,2,rfl,.inl #[.mot ["1"] 1 0 0 1,KK,vt,λd0 qa is ne=>#[a,qa,d0,rfl,ne,is,rfl]]],?_];rintro _ _⟨a,q0,d0,rfl,Ra,is,rfl⟩;k_places;have Rb:=Fl.ok_new is vt (w:=2) (h:=2) K3 K3 K3 K3;refine#[_,Fl.ma Ra,rfl,a,q0,_,1,rfl,Ra,rfl,Rb,K3,K3,λz=>absurd z (by show¬((2:Int)-0<1);decide),λ_ q ne=>?_];have Rc:=Rb.lay (n:=1) K3 (by show(1:Int)<=2-0;decide);generalize Fl.lay #[.mot ["1"] 1 0 0 1,d0,2,2,0,[]] 1=f at Rc ⊢;refine#[#[K3,K3],λk z M=>∃(o8 o9 y7:Option D),z=[be (.rol (ns.map D.int)),be (.lst [.str P.text,.int m,.lst (P.leaves.map Leaf.D)]),be (.lst (fs.map D.bl)),be (.str t),be (.tup xs),o5,o6,be (.ptr a),o8,o9,y7]/\(k<3->M=f.M a q),#[_,_,_,rfl,λ_=>rfl],?_,?_]
    . rintro k x z M hk⟨o8,o9,y7,rfl,hM⟩;k_places;let#[p7,rfl]:=range_int hk;have k3:k<3:=p7;have eM:=hM k3;subst eM;refine#[a,q,f,k,t,rfl,ne,rfl,Rc,?_];rcases hd with⟨w,kk,hb,hk,nw,ed⟩|⟨rfl,KQ,ed⟩
      . refine .inl #[w,kk,hb,hk,rfl,?_];rw[<-ed];refine#[#[fx,fx],?_];dsimp only;rw[ex];refine iteF #[λz M=>(∃(o8 o9 y7:Option D),z=[be (.rol (ns.map D.int)),be (.lst [.str P.text,.int m,.lst (P.leaves.map Leaf.D)]),be (.lst (fs.map D.bl)),be (.str t),be (.tup xs),o5,o6,be (.ptr a),o8,o9,y7])/\M=f.M a q,ite2 (λ_=>#[le_b rfl,#[fx,rfl],?_]) (λ_=>iteF #[#[_,_,_,rfl],rfl]),?_]
        . dsimp only;rw[ng #[w,kk,ed,nw]];exact iteF #[#[_,_,_,rfl],rfl]
        . rintro _ _⟨⟨o8,o9,y7,rfl⟩,rfl⟩;k_places;exact#[_,_,_,rfl,K8]
      . obtain rfl:xs=[.str "good"]:=by
          have:=ed;unfold cj at this;cases this;rfl
        refine .inr #[P,rfl,KQ,λk0 d hd=>#[rfl,?_],λkn M' S2=>#[rfl,?_]]
        . have eg:eqFs [.str "good"] [.str "good"]=true:=by decide+kernel
          refine#[#[rfl,rfl],?_];dsimp only;rw[eg];refine iteF #[λz M=>(∃(o8 o9 y7:Option D),z=[be (.rol (ns.map D.int)),be (.lst [.str P.text,.int m,.lst (P.leaves.map Leaf.D)]),be (.lst (fs.map D.bl)),be (.str P.text),be (.tup [.str "good"]),o5,o6,be (.ptr a),o8,o9,y7])/\M=f.M a q,ite2 (λ_=>#[le_b rfl,#[rfl,rfl],?_]) (λc=>absurd (decide_eq_true k0) c),?_]
          . dsimp only;rw[eg];refine iteT ?_;let#[wd,gt,sd,gs,rfl,e1,e2,Ku]:=hd;refine#[rfl,gs,#[rfl,rfl],_,e1,gs,#[rfl,rfl],_,e1,ite2 (λc=>absurd c K8) (λ_=>?_)];have i7:P.leaves≠[]:=λz=>by have:=Pat.leaves_pos P;rw[z]at this;simp at this
            refine#[gs,#[rfl,rfl],_,e2,_,rfl,P.leaves,P.depth,rfl,i7,λl hl=>Pat.leaf_good KQ.wf l hl,λw h s f0 lat=>?_];have Kv:P.Fam w h s:=#[f0,λx y=>(lat x y).trans (Pat.lat_leaves P x y)];let#[rfl,rfl,rfl]:=Ku.toFam.uniq Kv;let#[w',h',s',f',sm]:=KQ.fits;let#[rfl,rfl,rfl]:=Kv.uniq f';refine#[λ_=>?_,λbig=>absurd sm KZ];refine#[[wd,gt,sd],rfl,le_b rfl,iteF #[#[_,_,_,rfl],rfl]]
          . rintro _ _⟨⟨o8,o9,y7,rfl⟩,rfl⟩;k_places;exact#[_,_,_,rfl,K8]
        . have eg:eqFs [.str "good"] [.str "good"]=true:=by decide+kernel
          refine#[#[rfl,rfl],?_];dsimp only;rw[eg];refine iteF #[λz M=>(∃(o8 o9 y7:Option D),z=[be (.rol (ns.map D.int)),be (.lst [.str P.text,.int m,.lst (P.leaves.map Leaf.D)]),be (.lst (fs.map D.bl)),be (.str P.text),be (.tup [.str "good"]),o5,o6,be (.ptr a),o8,o9,y7])/\M=M',ite2 (λc=>absurd (of_decide_eq_true c) kn) (λ_=>iteF #[#[_,_,_,rfl],rfl]),?_];rintro _ _⟨⟨o8,o9,y7,rfl⟩,rfl⟩;k_places;exact#[_,_,_,rfl,λk2=>S2 KZ]
    . rintro z M⟨o8,o9,y7,rfl,_⟩;k_places;exact hR
end
local macro_rules | `(tactic| walk_at "b") => `(tactic| first | exact Ew λ_ _ _ _ _ _ => rfl | exact A9 λ_ _ _ _ _ _ _ => rfl | exact bind2 λ_ _ _ _ _ _ _ _ => rfl | exact bind3 λ_ _ _ _ _ _ _ _ _ => rfl | exact bind4 λ_ _ _ _ _ _ _ _ _ _ => rfl | exact bind5 λ_ _ _ _ _ _ _ _ _ _ _ => rfl)
local macro_rules | `(tactic| walk_at "bd") => `(tactic| exact λ_ _ _ _ _ _ _ _ _ _ _ _ _ _ h hs => ⟨.of_defaults rfl h hs rfl rfl, .of_defaults rfl h hs rfl rfl⟩)
structure TopIn(K:Ex):Prop where
 uFH:FnIn K "_law_at" ll
 uIX:FnIn K "_law_draws" lp
 uIN:FnIn K "_law_shift_pair" lu
 uJV:FnIn K "_law_lines" lx
 uHW:FnIn K "_law_motif_text" lz
 uEZ:FnIn K "_law_wrapped" iw
 uHF:FnIn K "_law_pile" lF
 uGH:FnIn K "_law_all_signs" lH
 uFZ:FnIn K "_law_sign" lK
 uKQ:FnIn K "_law_spoiled" iy
 uGZ:FnIn K "_law_begins" lQ
 uFF:FnIn K "_law_goes_on" lU
 uJP:FnIn K "_law_takes" lW
 uKP:FnIn K "_law_wrong_place" lZ
 uGC:FnIn K "_law_gcd" me
 uHG:FnIn K "_law_on" mi
 uHY:FnIn K "_law_leaf_family" ml
 uKA:FnIn K "_law_in_family" mn
 uEW:FnIn K "_law_both" mv
 uES:FnIn K "_law_family" my
 uGJ:FnIn K "line_from" mI
 uIW:FnIn K "lines_from" mK
 uFN:FnIn K "number_from" mM
 uKI:FnIn K "shift_from" mQ
 uGX:FnIn K "levelled" mU
 uGG:FnIn K "spread" mW
 uIC:FnIn K "home" mZ
 uIQ:FnIn K "hues_by_home" nj
 uIM:FnIn K "motif_from" nv
 uHL:FnIn K "over_from" iz
 uFA:FnIn K "shifted_from" iA
 uJF:FnIn K "rehue_from" iB
 uFT:FnIn K "form_from" iC
 uKF:FnIn K "measure" nQ
 uHA:FnIn K "met" nS
 uFX:FnIn K "mirrored" nV
 uHD:FnIn K "turned" nX
 uIE:FnIn K "read" nZ
 uHH:FnIn K "_law_whole" og
 uFO:FnIn K "refuse_far" ol
 uIB:FnIn K "cell_at" oq
 uJE:FnIn K "first_unlike" ou
 uHB:FnIn K "_law_answer" oH
 uGS:FnIn K "_law_numbers" oJ
 uKD:FnIn K "row_from" iZ
 uFG:FnIn K "law" jc
 uKK:NnIn K "len"
 uJA:NnIn K "range"
 uGW:NnIn K "int"
 uFP:NnIn K "str"
 uIA:NnIn K "list"
 uGL:NnIn K "abs"
 uHI:NnIn K "enumerate"
 uJY:NnIn K "isinstance"
 uHP:NnIn K "bool"
 uET:NnIn K "max"
 uHR:NnIn K "tuple"
 uBW:ClIn K "Reading"
 uBO:ClIn K "Motif"
 uDX:ClIn K "Mirror"
 uCT:ClIn K "Turn"
 uCA:ClIn K "Over"
 uBQ:ClIn K "Shifted"
 uBP:ClIn K "Rehue"
 uCE:ClIn K "Pattern"
 uW:ClIn K "Floor"
 uKJ:InIn K "Motif" "Motif.__init__" nt
 uJR:InIn K "Mirror" "Mirror.__init__" nz
 uHE:InIn K "Turn" "Turn.__init__" nB
 uJZ:InIn K "Over" "Over.__init__" nD
 uHV:InIn K "Shifted" "Shifted.__init__" nF
 uIO:InIn K "Rehue" "Rehue.__init__" nH
 uHX:InIn K "Reading" "Reading.__init__" nJ
 uEV:InIn K "Pattern" "Pattern.__init__" nM
 uIK:InIn K "Floor" "Floor.__init__" oi
 uKM:MtIn K "Reading" "may_take" "Reading.may_take" mD
 uFJ:MtIn K "Reading" "take" "Reading.take" mG
 uFL:MtIn K "Motif" "family" "Motif.family" iD
 uJO:MtIn K "Over" "family" "Over.family" iE
 uHU:MtIn K "Shifted" "family" "Shifted.family" iG
 uGV:MtIn K "Mirror" "family" "Mirror.family" iI
 uFI:MtIn K "Turn" "family" "Turn.family" iK
 uFQ:MtIn K "Rehue" "family" "Rehue.family" iM
 uID:MtIn K "Motif" "shows" "Motif.shows" iO
 uFK:MtIn K "Over" "shows" "Over.shows" iP
 uIR:MtIn K "Shifted" "shows" "Shifted.shows" iR
 uIS:MtIn K "Mirror" "shows" "Mirror.shows" iT
 uHJ:MtIn K "Turn" "shows" "Turn.shows" iV
 uIJ:MtIn K "Rehue" "shows" "Rehue.shows" iX
 uKS:MtIn K "Floor" "keep" "Floor.keep" oA
 uJL:MtIn K "Floor" "stand" "Floor.stand" oC
 uJS:MtIn K "Floor" "change" "Floor.change" oF
 uFY:MtIn K "Floor" "rows" "Floor.rows" ja
 uHO:MdIn K "Floor" "lay" "Floor.lay" oO 1
 uFR:NoIn K "Reading" "text"
 uHS:NoIn K "Reading" "place"
 uJI:NoIn K "Motif" "place"
 uJB:NoIn K "Motif" "shifts"
 uJX:NoIn K "Motif" "hues"
 uJQ:NoIn K "Mirror" "form"
 uGN:NoIn K "Turn" "form"
 uFS:NoIn K "Over" "above"
 uGK:NoIn K "Over" "below"
 uKE:NoIn K "Shifted" "form"
 uGY:NoIn K "Shifted" "x"
 uJG:NoIn K "Shifted" "y"
 uKT:NoIn K "Rehue" "form"
 uIF:NoIn K "Rehue" "old"
 uGB:NoIn K "Rehue" "new"
 uEY:NoIn K "Pattern" "text"
 uJT:NoIn K "Pattern" "shifts"
 uFD:NoIn K "Pattern" "form"
 uJJ:NoIn K "Floor" "pattern"
 uII:NoIn K "Floor" "text"
 uHN:NoIn K "Floor" "width"
 uGO:NoIn K "Floor" "height"
 uKR:NoIn K "Floor" "laid"
 uIG:NoIn K "Floor" "deeds"
 uHK:CsIn K "SIGNS" ".123456"
 uIU:CiIn K "LONGEST" 8
 uEX:CiIn K "DEEP" 5
 uHZ:CiIn K "MOST" 720
 uGT:CiIn K "FAR" 1000000000000
 uGF:CiIn K "KEPT" 20
 eb:EbIn K
 uAA:E1In K "WrongSign" "WrongSign.__init__" mB
 uAR:EaIn K "WrongSign"
 uEL:NoIn K "WrongSign" "place"
 uGD:EgIn K "WrongSign"
 uAF:E1In K "OneLine" "OneLine.__init__" nO
 uAT:EaIn K "OneLine"
 uEH:NoIn K "OneLine" "place"
 uJM:EgIn K "OneLine"
 uEI:E0In K "TooGreat"
 uEF:E0In K "TooFar"
 uEB:E0In K "NoRow"
 uAP:E1In K "Parted" "Parted.__init__" oy
 uAQ:EaIn K "Parted"
 uIL:NoIn K "Parted" "x"
 uJN:NoIn K "Parted" "y"
 uKC:EiIn K "MotifError"
 uKB:EmIn K "WrongSign" "WrongSign"
 uKL:EmIn K "WrongSign" "OneLine"
 uGP:EmIn K "WrongSign" "TooGreat"
 uFW:EmIn K "WrongSign" "TooFar"
 uFM:EmIn K "WrongSign" "NoRow"
 uIT:EmIn K "WrongSign" "Parted"
 uKH:EmIn K "OneLine" "WrongSign"
 uJH:EmIn K "OneLine" "OneLine"
 uJW:EmIn K "OneLine" "TooGreat"
 uHC:EmIn K "OneLine" "TooFar"
 uIH:EmIn K "OneLine" "NoRow"
 uJK:EmIn K "OneLine" "Parted"
 uKG:EmIn K "TooGreat" "WrongSign"
 uHQ:EmIn K "TooGreat" "OneLine"
 uIV:EmIn K "TooGreat" "TooGreat"
 uJD:EmIn K "TooGreat" "TooFar"
 uGR:EmIn K "TooGreat" "NoRow"
 uGM:EmIn K "TooGreat" "Parted"
 uHM:EmIn K "TooFar" "WrongSign"
 uKO:EmIn K "TooFar" "OneLine"
 uGA:EmIn K "TooFar" "TooGreat"
 uJC:EmIn K "TooFar" "TooFar"
 uGI:EmIn K "TooFar" "NoRow"
 uFV:EmIn K "TooFar" "Parted"
 uGQ:EmIn K "NoRow" "WrongSign"
 uGU:EmIn K "NoRow" "OneLine"
 uIZ:EmIn K "NoRow" "TooGreat"
 uJU:EmIn K "NoRow" "TooFar"
 uIY:EmIn K "NoRow" "NoRow"
 uIP:EmIn K "NoRow" "Parted"
 uHT:EmIn K "Parted" "WrongSign"
 uER:EmIn K "Parted" "OneLine"
 uEU:EmIn K "Parted" "TooGreat"
 uFU:EmIn K "Parted" "TooFar"
 uFE:EmIn K "Parted" "NoRow"
 uFB:EmIn K "Parted" "Parted"
def Gs{V:Bx}{h:Heap}(t:TopIn V.K)(X:V.K.In h)(G:h.Ns Pi V.mg){fa:KF}{fd:TQ}(F:Fun V.K "law" "law" jc fa fd):FnOk V.P V.w V.K V.mg V.base (Exc.CX1 V.P V.w) 23 fa fd oP (lSp V.K fo):=by
 have uB:=mg_none_of X G t.uKK;have uA:=mg_none_of X G t.uJA;have uD:=mg_none_of X G t.uGW;have uL:=mg_none_of X G t.uFP;have uR:=mg_none_of X G t.uIA;have uO:=mg_none_of X G t.uGL;have NB:=mg_none_of X G t.uHI;have uX:=mg_none_of X G t.uJY;have PF:=mg_none_of X G t.uHP;have LN:=mg_none_of X G t.uET;have PV:=mg_none_of X G t.uHR;have P5:=t.uCE.i X G;have KG:=t.uBW.a t.uFR;have uG:=t.uBW.a t.uHS;have KI:=t.uBO.a t.uJI;have uK:=t.uBO.a t.uJB;have KJ:=t.uBO.a t.uJX;have uV:=t.uDX.a t.uJQ;have uS:=t.uCT.a t.uGN;have uP:=t.uCA.a t.uFS;have uT:=t.uCA.a t.uGK;have uQ:=t.uBQ.a t.uKE;have KL:=t.uBQ.a t.uGY;have KN:=t.uBQ.a t.uJG;have uU:=t.uBP.a t.uKT;have KO:=t.uBP.a t.uIF;have KP:=t.uBP.a t.uGB;have uY:=t.uCE.a t.uEY;have LJ:=t.uCE.a t.uJT;have LK:=t.uCE.a t.uFD;have uN:=t.uW.a t.uJJ;have LL:=t.uW.a t.uII;have Kt:=t.uW.a t.uHN;have LM:=t.uW.a t.uGO;have uJ:=t.uW.a t.uKR;have Ln:=t.uW.a t.uIG;have uZ:=t.uHK.g X G;have Nz:=t.uIU.g X G;have MN:=t.uEX.g X G;have Py:=t.uHZ.g X G;have PH:=t.uGT.g X G;have PP:=t.uGF.g X G;have uAR:=t.uAA.a t.eb t.uAR X G;have Pg:=t.uEL.all;have uAT:=t.uAF.a t.eb t.uAT X G;have Pw:=t.uEH.all;have PC:=t.uEI.k t.eb X G;have PJ:=t.uEF.k t.eb X G;have PZ:=t.uEB.k t.eb X G;have uAQ:=t.uAP.a t.eb t.uAQ X G;have PM:=t.uIL.all;have PN:=t.uJN.all;have Kn:=t.uKC.b X G;have ND:V.x "place" ["WrongSign","OneLine"]:=AllP.mem #[t.uGD.g uAR t.uEL,t.uJM.g uAT t.uEH,trivial];have ek:wj V:=Ba #[(t.uAA.c t.eb X G),(t.uAF.c t.eb X G),(let ⟨C,N,bm,k,_⟩:=t.uEI.k t.eb X G;#[C,N,bm,k]),(let ⟨C,N,bm,k,_⟩:=t.uEF.k t.eb X G;#[C,N,bm,k]),(let ⟨C,N,bm,k,_⟩:=t.uEB.k t.eb X G;#[C,N,bm,k]),(t.uAP.c t.eb X G),trivial] #[#[t.uKB,t.uKL,t.uGP,t.uFW,t.uFM,t.uIT,trivial],#[t.uKH,t.uJH,t.uJW,t.uHC,t.uIH,t.uJK,trivial],#[t.uKG,t.uHQ,t.uIV,t.uJD,t.uGR,t.uGM,trivial],#[t.uHM,t.uKO,t.uGA,t.uJC,t.uGI,t.uFV,trivial],#[t.uGQ,t.uGU,t.uIZ,t.uJU,t.uIY,t.uIP,trivial],#[t.uHT,t.uER,t.uEU,t.uFU,t.uFE,t.uFB,trivial],trivial];have uM:=EH (t.uFH.tx X G) uB;have LB:=EI (t.uIX.tx X G) uA uM;have O1:=EJ (t.uIN.tx X G) uD;have O2:=EK (t.uJV.tx X G) uA uB;have O3:=EL (t.uHW.tx X G) uL;have O4:=EN (t.uEZ.tx X G) uL uR uD;have P0:=EQ (t.uHF.tx X G) uA uM LB O1 O2 O3 O4;have O5:=ES (t.uGH.tx X G);have Mv:=EU (t.uFZ.tx X G) O5;have P1:=EW (t.uKQ.tx X G) uB Mv;have O7:=EZ (t.uGZ.tx X G);have O8:=E2 (t.uFF.tx X G) uR uD;have O9:=E4 (t.uJP.tx X G) uR O7 O8;have NE:=E6 (t.uKP.tx X G) uA uB uR O9;have LF:=E7 (t.uGC.tx X G) uO;have Pa:=E8 (t.uHG.tx X G);have Nw:=E9 (t.uHY.tx X G) uO LF Pa;have Pb:=Fb (t.uKA.tx X G);have Pf:=Fc (t.uEW.tx X G) LF Pb;have NF:=Fd (t.uES.tx X G) Nw Pf;have uAA:=Fe (t.uAA.txe t.eb X G) Kn uAR Pg;have uH:=Ff (t.uKM.txm t.uBW) uB KG uG;have uC:=Fg (t.uFJ.txm t.uBW) uG uH uAA;have Ny:=Fh (t.uGJ.tx X G) uA uZ uC uH;have Pn:=Fi (t.uIW.tx X G) uB Ny Nz uH;have NA:=Fj (t.uFN.tx X G) uD uH uC;have Kq:=Fk (t.uKI.tx X G) NA uC;have LH:=Fo (t.uGX.tx X G);have LI:=Fp (t.uGG.tx X G) uO LH;have KH:=Fq (t.uIC.tx X G);have Pm:=Fs (t.uIQ.tx X G) NB KH uZ;have Po:=Ft (t.uKJ.txi X G) LI Pm KI uK KJ;have ML:=Fu (t.uIM.tx X G) Pn Kq uG Po uC;have MP:=Fv (t.uJR.txi X G) uV;have MQ:=Fw (t.uHE.txi X G) uS;have MI:=Fx (t.uJZ.txi X G) uP uT;have MJ:=Fy (t.uHV.txi X G) uQ KL KN;have MK:=Fz (t.uIO.txi X G) uU KO KP;have uI:vW V:=FF (t.uHL.tx X G) (t.uFA.tx X G) (t.uJF.tx X G) (t.uFT.tx X G) MI uC Kq MJ uD MK ML MN MP MQ uH 6;have Pz:=FG (t.uHX.txi X G) KG uG;have PB:=FH (t.uEV.txi X G) uY LJ LK;have uAF:=FI (t.uAF.txe t.eb X G) Kn uAT Pw;have MV:=FJ (t.uKF.tx X G) LH;have MX:=FK (t.uHA.tx X G) MV;have MZ:=FL (t.uFX.tx X G);have M0:=FM (t.uHD.tx X G) LI;have uE:vX V:=FS (t.uFL.txm t.uBO) (t.uJO.txm t.uCA) (t.uHU.txm t.uBQ) (t.uGV.txm t.uDX) (t.uFI.txm t.uCT) (t.uFQ.txm t.uBP) uK KI uAF MX uP uT uQ MZ uV M0 uS uU 6;have Ks:=FT (t.uIE.tx X G) uB uI Py uG Pz PB uE uAA PC;have LP:=FU (t.uHH.tx X G) uX PF uD;have LQ:=FW (t.uIK.txi X G) Ks uN LL Kt LM uJ Ln;have PK:=FX (t.uFO.tx X G) LN uO PH PJ;have uF:vZ V:=F7 (t.uID.txm t.uBO) (t.uFK.txm t.uCA) (t.uIR.txm t.uBQ) (t.uIS.txm t.uDX) (t.uHJ.txm t.uCT) (t.uIJ.txm t.uBP) KH KJ uK uP uT uQ KN KL uV uS uU KO KP 6;have Lo:=F8 (t.uIB.tx X G) PK LK uF;have PQ:=Ga (t.uJE.tx X G) uA Lo;have uAP:=Gc (t.uAP.txe t.eb X G) Kn uAQ PM PN;have LO:=Ge (t.uKS.txm t.uW) PP Ln uJ uN;have PR:=Gg (t.uJL.txm t.uW) uN LL uY;have PU:=Gi (t.uJS.txm t.uW) Ks PQ uJ Kt uN LO PR uAP;have P2:=Gk (t.uHB.tx X G) uB Ks LP LQ PU ND ek;have P4:=Gm (t.uGS.tx X G) uB uX PV uA LP;have PX:=Gn (t.uKD.tx X G) uA Lo uZ;have PY:=Gp (t.uFY.txm t.uW) uA PX uJ Kt uN;have P6:=Gq (t.uHO.txd t.uW (by walk_at "bd")) LN LM uJ LO PY PZ;exact Gr F uA uD uX uL P0 uM P1 LB NE NF P2 P4 uY LJ P5 LQ P6
def all_mk{l:IB}{w:TJ}{K:Ex}{h:Heap}{mg:J7->Option KB}{fa:KF}(X:K.In h)(G:h.Ns Pi mg)(Ld:mg "law"=be (.ref fa))(t:TopIn K):
  ∃fd:TQ,(∀(s:KM) (v:KB),UJ s fd #[[v],[]] [("_law_script",v)])/\∀base:Heap,K.In base->base.Ns Pi mg->FnOk l.prog w K mg base (Exc.CX1 l.prog w) 23 fa fd ["_law_script"] (lSp K fo):=by
 let#[fd,b,F]:=t.uFG.law X G Ld (λ_ _ _ _ _ _ _=>rfl);exact#[fd,b,λbase _ _=>Gs (V:=#[l.prog,w,K,mg,base]) t X G F]
def law_walk{l:IB}{q:SB}{m5:List J7}{XP:(J7->Option KB)->Heap->Prop}{YP:TJ->Heap->Prop}{d:DefRec}{K:Params->Ex}(hn:l.most=be 63)(L6:d.params.defaults=[])
  (hY:∀(w:TJ) (h:Heap),YP w h->(K w.params).In h)
  (F:∀(w:TJ) (mg:J7->Option KB) (fa:KF) (h:Heap),(K w.params).In h->h.Ns Pi mg->mg d.name=be (.ref fa)->
   ∃fd:TQ,(∀(s:KM) (u:KB),UJ s fd #[[u],[]] [("_law_script",u)])/\∀base:Heap,(K w.params).In base->base.Ns Pi mg->FnOk l.prog w (K w.params) mg base (Exc.CX1 l.prog w) 23 fa fd ["_law_script"] (lSp (K w.params) fo)):
  Je q m5 XP YP l.row.toRowW d [] (λf vs=>PySem.call f vs):=
 L2.walk_of (n:=63) (k:=23) (x:="_law_script") (CX:=λw=>Exc.CX1 l.prog w) (sp:=λw=>lSp (K w.params) fo) hn K3 L6 #[rfl,K3,K3] hY F (λ_ _ a ns hl _ hS=>zj hl hS) λ_ _ _ _ _ h=>by let#[_,_,_,_,_,_,_,_,_,_,_,_,_,_,_,z]:=h;exact z
end My
open PySem PySem.W PyProof.Rows
set_option maxRecDepth 100000 in
set_option maxHeartbeats 0 in
theorem PySem.Challenge.cw_motiffield_k42_whole_refusals_holds : PySem.Challenge.rw_motiffield_k42_whole_refusals.Holds := by
  w_on;o_law;k_head;(case hw =>w_witness2)
  k_fill
  refine My.law_walk (l :=PySem.Challenge.rw_motiffield_k42_whole_refusals) rfl rfl (λw h Y =>kIn_of Y) ?F
  case F =>
    intro w mg fa h KX G l9;refine My.all_mk KX G l9 ?_;constructor
    all_goals first|((with_reducible refine' My.fnIn_mk ?a ?l ?c ?k);(case a =>k_is);(case l =>k_is);(case c =>k_is);(case k =>k_is))|((with_reducible refine' My.nnIn_mk ?a);(case a =>k_is))|((with_reducible refine' My.noIn_mk ?a ?b);(case a =>k_is);(case b =>k_is))|((with_reducible refine' My.mtIn_mk ?a ?b ?i ?l ?c ?k);(case a =>k_is);(case b =>k_is);(case i =>k_is);(case l =>k_is);(case c =>k_is);(case k =>k_is))|((with_reducible refine' My.mdIn_mk ?a ?b ?i' ?l ?c ?k ?d);(case a =>k_is);(case b =>k_is);(case i' =>k_is);(case l =>k_is);(case c =>k_is);(case k =>k_is);(case d =>k_is))|((with_reducible refine' My.inIn_mk ?a ?mk ?b ?i ?kp ?l ?c ?k);(case a =>k_is);(case mk =>k_is);(case b =>k_is);(case i =>k_is);(case kp =>k_is);(case l =>k_is);(case c =>k_is);(case k =>k_is))|((with_reducible refine' My.clIn_mk ?a ?pg ?hd ?po ?sa ?ha ?hn ?ht ?hm);(case a =>k_is);(case pg =>k_is);(case hd =>k_is);(case po =>k_is);(case sa =>k_is);(case ha =>k_is);(case hn =>k_is);(case ht =>k_is);(case hm =>k_is))|((with_reducible refine' My.ciIn_mk ?a);(case a =>k_is))|((with_reducible refine' My.csIn_mk ?a);(case a =>k_is))|((with_reducible refine' My.ebIn_mk ?a ?kp ?o ?nk ?al ?ni);(case a =>k_is);(case kp =>k_is);(case o =>k_is);(case nk =>k_is);(case al =>rfl);(case ni =>k_is))|((with_reducible refine' My.e0In_mk ?b ?a ?kp ?o ?nk ?al ?ni);(case b =>k_is);(case a =>k_is);(case kp =>k_is);(case o =>k_is);(case nk =>k_is);(case al =>rfl);(case ni =>k_is))|((with_reducible refine' My.e1In_mk ?b ?a ?kp ?o ?j ?i ?l ?c ?k);(case b =>k_is);(case a =>k_is);(case kp =>k_is);(case o =>k_is);(case j =>k_is);(case i =>k_is);(case l =>k_is);(case c =>k_is);(case k =>k_is))|((with_reducible refine' My.eaIn_mk ?a ?b);(case a =>k_is);(case b =>k_is))|((with_reducible refine' My.egIn_mk ?a ?b ?c);(case a =>k_is);(case b =>k_is);(case c =>k_is))|((with_reducible refine' My.eiIn_mk ?a ?b ?c ?d);(case a =>k_is);(case b =>k_is);(case c =>k_is);(case d =>k_is))|((with_reducible refine' My.emIn_mkT ?e ?a ?c ?d);(case e =>decide);(case a =>k_is);(case c =>k_is);(case d =>k_is))|((with_reducible refine' My.emIn_mkF ?e ?a ?c ?d);(case e =>decide);(case a =>k_is);(case c =>k_is);(case d =>k_is))
end
