import PyProof.Rows.All
import Wide.All
import OpenK.AllK
import Wide.FinOn
import Lean
import PyProof.EqAt
import PyProof.EqKinds
import PyProof.TupleCall
import PySem.Challenge.RW_motiffield_k33_kept
set_option compiler.extract_closed false
set_option Elab.async false
set_option linter.all false
set_option maxRecDepth 100000
set_option maxHeartbeats 4000000
local macro_rules|`(#[$x,*])=>`(⟨$x,*⟩)
theorem Jb{p:Prop}(h:p:=by lia):p:=h
theorem Je{p:Prop}(h:p:=by decide+kernel):p:=h
theorem Ji{p:Prop}(h:p:=by decide):p:=h
theorem Jj{p:Prop}(h:p:=by omega):p:=h
theorem J4{p:Prop}(h:p:=by simp):p:=h
theorem Kd{p:Prop}(h:p:=by k_memK):p:=h
theorem Kf{p:Prop}(h:p:=by grind):p:=h
theorem Kl{p:Prop}(h:p:=by walk_at "b1"):p:=h
theorem KK{p:Prop}(h:p:=by walk_at "b2"):p:=h
theorem K_{p:Prop}(h:p:=by cases q:cd.mro with|nil=>rw[q]at hm;simp[aK]at hm|cons _ _=>rfl):p:=h
theorem LS{p:Prop}(h:p:=by show(2:Nat)<=1000;decide):p:=h
theorem NU{p:Prop}(h:p:=by show(1:Nat)<=1000;decide):p:=h
theorem N5{p:Prop}(h:p:=by walk_at "b3"):p:=h
theorem Ob{p:Prop}(h:p:=by show(1:Nat)<1000;decide):p:=h
theorem Qu{p:Prop}(h:p:=by rw[<-hY];rfl):p:=h
theorem Qv{p:Prop}(h:p:=by simp;lia):p:=h
theorem Rs{p:Prop}(h:p:=by unfold mroIn;rw[hc,Gq,if_neg (by rw[ne];decide),dS Je hm]):p:=h
open PySem renaming Str->E_
open Option renaming some->be,none->z8
open PySem renaming Value->KB,Shared->KF,wpAny_bind->KM,mainGlobals->Os,Program->Pi,Expr->P3,wpAny_pure->QY,model->QZ,Stmt->Q0,wpAny->Q1,World->Q2,Around->Q3,starEach->Q4,assignEach->Q5,attributeBase->Q6,eval->Q7,FuncData->Q8,wpAny_mono->Q9,Pos->Q_,wpAny_Call_Name_kw->Rb,bootBuiltins->Rc,Obj->Re,wpAny_newObj_type->Rf,wpAny_loadPart_at->Rg,swapsWith->Rh,compareOp->Ri,excClassObj->Rj,wpAny_holding->Rk,binaryOp->Rl,PassesOwn->Rm,wpAny_passesOwn->Rn,behindInMarks->Ro,sysModules->Rp,holding->Rq,Scope->Rr,ExceptHandler->Rt,wpAny_getItem_str_slice->Ru,keywordEach->Rv,codeAny_mono->Rw,backTo->Rx,plainObj_wpAny_Assign_Attribute->Ry,wpAny_call->Rz,assign->RA,wpAny_standAt->RB,wpAny_field->RC,sliceBounds->RD,codeAny_call_builtin->RE,bindArgs->RF,NameKind->RG,wpAny_execs_nil->RH,Env->RI,wpAny_isSubtype_exc->RJ,standAt->RK,wpAny_truthy_bool->RL,wpAny_pyIter_enum->RN,sizeLine_eq->RO,swapsWithSole->RQ,swappedStores->RR,tupleKind->RS,noteFrame->RT,backToKw->RU,rawInt->RV,BindsTo->RW,post_val_or_str->RY,letOwnedTupleGo->RZ,wpAny_setField->R1,getMethod->R3,codeAny->R4,Keyword->R5,cLine->R6,isInstance->R7,wpAny_assign_Name->R8,callerA->R9,wpAny_lookBehind->R_,setFlight->Sa,pastItsLine_dict->Sb,IsPart->Sd,atKey->Se,valueAt->Sg,getItem->Sh,wpAny_loadPart->Si,wpAny_letOwnedTupleGo_enum->Sj,handleBy->Sk,dictSetDefault->Sl,Operator->Sm,wpAny_comprehension_free->Sn,bindL->So,bindC->Sq,ClassData->Sr,wpAny_nsSet1->Ss,setItem->Sv,seqIndex_neg->Sw,leaving->Sx,getAttr->Sy,codeAny_compStart_list->Sz,call_meetsIn->SA,Sem->SB,codeAny_handlers_test->SG,wpAny_of_eq->SH,wpAny_newFunctionEnv->SI,seqIndex_of->SJ,callWith->SK,Model->SL,GenState->SM,wpAny_handleBy_cons->SN,wpAny_call_exc_subT->SO,wpAny_entryPlaceOf->SQ,wpAny_Name->SR,typeIs_str->SS,tupleKind_room_in1->SU,call_meets->SV,builtinsNs->SW,wpAny_frameOf_fun->SX,setAttr->SY,release->SZ,relabel->S1,foldedSetIterable->S2,Tok->S3,CmpOp->S4
open PyProof.Rows renaming envOfC->Ra,AllBare->RP,subscriptTail_builtinR->Su,IntsAre->SE
open PySem.Spec renaming same->Sf
open PySem.W renaming Frag->Ex,findIn->E9,mroIn->FM,OpenLaw->G6,clsIn->Ha,handedIn->Hv,WalkO->HB
open List renaming mem_singleton->E6,range->E8,mem_cons->Fb,length_cons->Fc,mem_cons_of_mem->Fe,size_toArray->Ff,mem_cons_self->Fi,getElem?_set_ne->Fj,getElem?_eq_some_iff->Fk,getElem?_map->Fo,length_append->Fp,lookup_cons->Fq,length_map->Fs,map_cons->Ft,mem_append_right->Fw,getElem?_eq_getElem->Fy,replicate->FD,append_nil->FE,mem_map->FF,map_append->FG,mem_append->FH,getElem?_set_self->FI,getD->FJ,nodup_cons->FN,getElem?_append_left->FO,all_eq_true->FP,getElem_mem->FQ,getElem?_eq_none->FR,getElem?_range->FT,length_set->FV,append_assoc->FX,lookup->FZ,getElem?_append_right->F5,length_drop->F6,getElem?_set->F7,mem_append_left->Ga,all_cons->Gb,any_cons->Gc,find?_cons->Gd,ext_getElem?->Ge,take_of_length_le->Gf,nodup_append->Gg,drop_eq_getElem_cons->Gk,range_succ->Gr,map_congr_left->Gs,drop->Gu,eq_nil_of_length_eq_zero->Gv,map_map->Gx,not_mem_nil->Gy,filterMap_cons->GD,length_take->GI,mem_of_getElem?->GJ,replicate_succ->GK,flatten_cons->GL,map_nil->GM,map->GP,of_mem_zip->G2,length->G3,getElem?_replicate->G4,getElem?_take_of_lt->G5,contains_cons->G7,forIn_cons->G8,length_range->Hk,drop_zero->Hl,drop_of_length_le->Hn,drop_eq_nil_of_le->Hq,mem_filter->Ht,mem_filterMap->Hu,filterMap_map->Hx,length_singleton->Hz,nodup_nil->HE,dropLast_cons₂->HI,getElem?_drop->H8,map_take->Ii,take_range->Ij,map_drop->Il,mem_of_mem_drop->Im,drop_length->Io,dropLast_concat_getLast->Ip
open Nat renaming le_refl->E7,ne_of_lt->Fd,le_trans->Fg,lt_of_lt_of_le->Fv,zero_le->Fz,ne_of_gt->FU,lt_irrefl->FY,le_succ->F4,min_eq_left->Go,le_of_lt->GC,le_of_eq->GH,le_of_not_lt->GN,lt_or_ge->GR,not_lt_zero->GS,pow_pos->GU,pow_succ->GV,min_eq_right->G0,lt_succ_of_lt->G9,mul_le_mul->Hg,add_comm->Hi,pow_le_pow_right->Hj,lt_succ_self->Hw,lt_of_le_of_lt->HC,lt_trans->HD,log2_lt->HF,add_sub_add_right->HG,succ_ne_self->HJ,mod_eq_of_lt->H9,zero_add->Ie,mul_succ->Ig,sub_zero->Ih
open Bool renaming false_ne_true->Fh,and_eq_true->Fx,eq_false_iff->Gp,eq_iff_iff->GF,or_true->GO
open Int renaming mul_pos->Fu,mul_le_mul_of_nonneg_right->FA,toNat_of_nonneg->FC,mul_comm->FK,mul_ediv_cancel->FL,add_zero->FS,mul_neg->FW,emod_def->F8,neg_mul->F9,emod_nonneg->Gh,emod_lt_of_pos->Gi,eq_of_mul_eq_mul_right->Gj,natCast_add->Gm,zero_add->Gn,mul_nonpos_of_nonpos_of_nonneg->Gw,add_assoc->Gz,toNat_natCast->GA,le_trans->GB,mul_eq_zero->GT,emod_add_mul_ediv->GW,sub_mul->GX,add_mul->GY,lt_trichotomy->GZ,neg_add->G1,natAbs_mul->Hc,mul_emod_left->Hd,fmod_eq_zero_of_dvd->Hf,eq_of_mul_eq_mul_left->Hh,mul_neg_of_neg_of_pos->Hm,neg_neg->Ho,ediv_nonneg->Hr,ediv_le_self->Hs,le_total->HK,mul_nonneg->HL,fmod_nonneg_of_pos->HM,fmod_lt_of_pos->HN,mul_le_mul_of_nonneg_left->HP,mul_fdiv_cancel_of_fmod_eq_zero->HQ,dvd_mul_of_dvd_right->HR,add_mul_emod_self_right->HU,add_mul_ediv_right->HV,dvd_add_left->HW,dvd_mul_right->HX,sub_eq_add_neg->HY,mul_zero->HZ,natCast_emod->Ia,zero_mul->Ib,ediv_eq_zero_of_lt->Ic,add_comm->Ik
open Option renaming bind_some->Gq,getD_none->Hy
open Array renaming length_toList->GE,getElem?_eq_some_iff->GQ,all_toList->Hb,getElem?_toList->HA,getElem?_eq_getElem->HH,toList_inj->HS
open PySem.W (InitBack any_some callWith_K callWith_K0 cellsFrom_some cls_value codeIn codeRec_of emptyDict eq_bytes findCls findObj_own fnOf get_value hasDictIn hideAll hideAll_get hideAll_none hideAll_size instObj isFn isNs_of_in kIn_of keepIn ki_setAt ki_setBack kia_one kitOne kitx_bool kitx_dict kitx_float kitx_int kitx_list kitx_none kitx_own kitx_str kitx_tuple kun_itemsOf len_bytes lookIn make_core makesIn makes_of methodCall_KW methodObj method_cls method_fn mg_none_of mg_of ne_bytes nsIn nsMap_none_of_in nsOkIn of_hideAll osa_open plainGet plainGet_of plainOver readsIn specialIn tailIn tail_of_in takerIn takesIn truthy_bytes)
def qZ0(_:0=0:=by rfl):=0
def zA0:=qZ0._auto_1
def qZ1(_:0=0:=by decide):=0
def zA1:=qZ1._auto_1
def qZ2(_:0=0:=by first|exact .inl rfl|exact .inr rfl|assumption):=0
def zA2:=qZ2._auto_1
def qZ3(_:0=0:=by exact λ_=>rfl):=0
def zA3:=qZ3._auto_1
def qZ4(_:0=0:=by first|exact Or.inl rfl|exact Or.inr rfl):=0
def zA4:=qZ4._auto_1
def qZ5(_:0=0:=by first|exact Or.inl rfl|exact Or.inr (Or.inl rfl)|exact Or.inr (Or.inr rfl)):=0
def zA5:=qZ5._auto_1
def qZ6(_:0=0:=by exact λ_ _=>rfl):=0
def zA6:=qZ6._auto_1
def qZ7(_:0=0:=by intros;rfl):=0
def zA7:=qZ7._auto_1
namespace PySem.W.Fast
def tw500058488379445632:=Nat
def tw7374326932597843651:=Nat
def tw7823637920835955260:=Nat
def tw5578093207404223160:=Nat
def tw13706623493945910690:=Nat
def tw16886351279618044776:=Nat
def tw9397900836138930883:=Nat
def tw2972489102355357625:=Nat
def tw17187963418604732777:=Nat
def tw11140512418524506215:=Nat
def tw15966079732793590396:=Nat
def tw11067115070463591414:=Nat
def tw16019125268496838199:=Nat
def tw11377326869413602661:=Nat
def tw10203128022814351137:=Nat
def tw10299562310392775368:=Nat
def tw4715788369995403642:=Nat
def tw5901372902257751761:=Nat
def tw11574584867512097331:=Nat
def tw17016605561393056382:=Nat
def tw4744423437420135373:=Nat
def tw1362782005947977916:=Nat
def tw6206718393041414327:=Nat
def tw8958831253515271552:=Nat
def tw2423982895940023781:=Nat
def tw12102033833232772167:=Nat
def tw16155271850604312898:=Nat
def tw17346187485127304909:=Nat
def tw2338030929831463208:=Nat
def tw1515391566766130841:=Nat
def tw4063915730081996689:=Nat
def tw14642019138289631863:=Nat
def tw5332327137852280960:=Nat
def tw14299671643380827464:=Nat
def tw15834895975400660137:=Nat
def tw17259933703782288375:=Nat
def tw9173709215710096968:=Nat
def tw14333967957458674269:=Nat
def tw7537308470164570410:=Nat
def tw11684760908129261152:=Nat
def tw1313553659553065295:=Nat
def tw9774780248094673326:=Nat
def tw9066577920077900151:=Nat
def tw5120860367508684017:=Nat
def tw16220113166892769443:=Nat
def tw8792936239567513680:=Nat
def tw11923167304191468520:=Nat
def tw12805553787887755395:=Nat
def tw1942644150932406602:=Nat
def tw1642025672077976777:=Nat
def tw9665463224309353088:=Nat
def tw2892119435205989127:=Nat
def tw17310196086114428281:=Nat
def tw17084833803672742660:=Nat
def tw13440017977425641758:=Nat
def tw15775719032113193139:=Nat
def tw14911037902881741964:=Nat
def tw2841094722902890665:=Nat
def tw739203180610624812:=Nat
def tw14977380714863476782:=Nat
def tw2315158150858596382:=Nat
def tw3724034427743539977:=Nat
def tw7600615639185481035:=Nat
def tw5908018998019424811:=Nat
def tw5324603762022753844:=Nat
def tw10117591016065101828:=Nat
def tw11984848572093915940:=Nat
def tw4412651446435432753:=Nat
def tw15537172912793086244:=Nat
def tw17177727676958028137:=Nat
def tw11766746196676839550:=Nat
def tw14248861933428437138:=Nat
def tw4039108914791431449:=Nat
def tw6274919422069873634:=Nat
def tw14755297042491679412:=Nat
def tw16219544041937864576:=Nat
def tw1026803370238830663:=Nat
def tw270444010823334230:=Nat
def tw12015061760449376191:=Nat
def tw11488008737121525797:=Nat
def tw6692933698160023075:=Nat
def tw1407826063167798446:=Nat
def tw5667329712935239975:=Nat
def tw9121146830129132906:=Nat
def tw3415158458303885451:=Nat
def tw5730333784748153559:=Nat
def tw17326817386783705741:=Nat
def tw4872604631044224172:=Nat
def tw7050827513127111279:=Nat
def tw179919179194487278:=Nat
def tw1059043196699883885:=Nat
def tw10604744061162421245:=Nat
def tw390891359329368486:=Nat
def tw9195390757170385213:=Nat
def tw1216257307283940295:=Nat
def tw11843167485256150098:=Nat
def tw6741255077509572060:=Nat
def tw3561073869095359595:=Nat
def tw10686087509797946183:=Nat
def tw4126491011060514804:=Nat
def tw10395848233103320697:=Nat
def tw6966058628486589789:=Nat
def tw8349208237169938267:=Nat
def tw12370624248284683434:=Nat
def tw14739534730373459167:=Nat
def tw6196078060636390328:=Nat
def tw18254928308360604297:=Nat
def tw16245282424583131635:=Nat
def tw4588302730016791950:=Nat
def tw4750772417114538662:=Nat
def tw9008877510600316927:=Nat
def tw1490944936107176291:=Nat
def tw15328618693414551561:=Nat
def tw3233245138547949238:=Nat
def tw814816315137351624:=Nat
def tw9528930025532010630:=Nat
def tw16287679434129988925:=Nat
def tw1503397782356287052:=Nat
def tw9745828903974828914:=Nat
def tw4634537672573489336:=Nat
def tw15417091309610909835:=Nat
def tw13426293730028890898:=Nat
def tw1970071909022385233:=Nat
def tw10270564637847411505:=Nat
def tw2140476116237511598:=Nat
def tw17238992545043758035:=Nat
def tw17256875099597915216:=Nat
def tw970768859150019104:=Nat
def tw3469008151108598766:=Nat
def tw3349109997719916241:=Nat
def tw16388623627047903382:=Nat
def tw6839285497430662586:=Nat
def tw15679860866289372212:=Nat
def tw12822057662043533937:=Nat
def tw181257324565189079:=Nat
def tw5124339783338269598:=Nat
def tw935157693874486001:=Nat
def tw7614330665991140890:=Nat
def tw14746619471233718662:=Nat
def tw16435420238617232426:=Nat
def tw1572265317815545142:=Nat
def tw16819469834886491344:=Nat
def tw4904602464110581000:=Nat
def tw8480907566321062176:=Nat
def tw3152960769687648096:=Nat
def tw3754632420598139571:=Nat
def tw3317244150943092593:=Nat
def tw7721032248709548891:=Nat
def tw1579883577906830423:=Nat
def tw13966770824811335360:=Nat
def tw13926622771047398412:=Nat
def tw4296022650950420413:=Nat
def tw8563996167345279736:=Nat
def tw13563351669857125207:=Nat
def tw5770281302518830419:=Nat
def tw14804981566641489948:=Nat
def tw11319330240209714533:=Nat
def tw9137438179917457871:=Nat
def tw1051028571677194048:=Nat
def tw18196123326602535279:=Nat
def tw8921859476845389862:=Nat
def tw16766911521043072600:=Nat
def tw6742559096544940438:=Nat
def tw18043515514832996925:=Nat
def tw15142263497331979426:=Nat
def tw14275218462256370532:=Nat
def tw11875115978086789552:=Nat
def tw18385352080013480913:=Nat
def tw13564129588793148431:=Nat
def tw8880397435597302735:=Nat
def tw8392768991568663857:=Nat
def tw4257235618335952933:=Nat
def tw16690853155956550751:=Nat
def tw16098427379394441596:=Nat
def tw2649324870718970546:=Nat
def tw16138971131344510512:=Nat
def tw12949718441186027624:=Nat
def tw1811958683329091767:=Nat
def tw9800451013733968984:=Nat
def tw16531546418706050968:=Nat
def tw10032810463770270489:=Nat
def tw16562672574262832442:=Nat
def tw2069964868803556684:=Nat
def tw9754371855828838600:=Nat
def tw7000958321874759485:=Nat
def tw14144018831025018419:=Nat
def tw7887977225004889029:=Nat
def tw16615897898955704865:=Nat
def tw5677207318019812995:=Nat
def tw13446609662488466466:=Nat
def tw10324604689791957239:=Nat
def tw16833092042945356733:=Nat
def tw8329405196101958776:=Nat
def tw12966189407523884984:=Nat
def tw16382992209947858743:=Nat
def tw6219786834800195978:=Nat
def tw8812886256434095979:=Nat
def tw3347736748425250131:=Nat
def tw15191909938015733289:=Nat
def tw4628935618110700225:=Nat
def tw17770227468905431281:=Nat
def tw6287682615204507514:=Nat
def tw6684589294051588664:=Nat
def tw17024296737513476808:=Nat
def tw593004698513082522:=Nat
def tw3608103640904081063:=Nat
def tw899094483024604769:=Nat
def tw10042846328144009327:=Nat
def tw4237608544886379184:=Nat
def tw3351262266386210697:=Nat
def tw11231827903201660008:=Nat
def tw4733388152365464195:=Nat
def tw3714270723246887696:=Nat
def tw212242273509273157:=Nat
def tw3701173420357711803:=Nat
def tw7905452464939805252:=Nat
def tw5069319745340980397:=Nat
def tw11957646760719353925:=Nat
def tw4659905624710164391:=Nat
def tw6201613019503365266:=Nat
def tw10327102922229738807:=Nat
def tw217693066106172164:=Nat
def tw9896993638918643189:=Nat
def tw2764517559160948886:=Nat
def tw3520581357752529853:=Nat
def tw17573654039733289503:=Nat
def tw16465317144923669751:=Nat
def tw2991207626110607612:=Nat
def tw171202877914650078:=Nat
def tw17824218555786153027:=Nat
def tw6126620576388693241:=Nat
def tw8365982750115960220:=Nat
def tw6938323289140661265:=Nat
def tw8749512452214037558:=Nat
def tw7796918228607874962:=Nat
def tw15813878761508527481:=Nat
def tw8640543424866107409:=Nat
def tw13013051621647401977:=Nat
def tw13289556822091137436:=Nat
def tw5244705302817563217:=Nat
def tw3045921845195767753:=Nat
def tw10771012247432777825:=Nat
def tw16135301436452459054:=Nat
def tw9982931018085904282:=Nat
def tw7760457407893676049:=Nat
def tw7719384859378184116:=Nat
def tw18054034590141860115:=Nat
def tw15013470792692024764:=Nat
def tw16913806981432758174:=Nat
def tw16051396231277117054:=Nat
def tw4791940941949056894:=Nat
def tw13358365127185053901:=Nat
def tw8848260601314334801:=Nat
def tw3053769587644525365:=Nat
def tw3059672232588759875:=Nat
def tw3702630795716998106:=Nat
def tw6158343775062073624:=Nat
def tw2293363771287163192:=Nat
def tw11320425540173653278:=Nat
def tw11680697286529319966:=Nat
def tw6833635129840818134:=Nat
def tw3141293577741942002:=Nat
def tw7391116435622825789:=Nat
def tw2157930817492398433:=Nat
def tw17869186154063613941:=Nat
def tw15464614587363527567:=Nat
def tw15123582972648991076:=Nat
def tw5371157135346950241:=Nat
def tw17525586783540643058:=Nat
def tw13936165163702063751:=Nat
def tw14913433855604310538:=Nat
def tw5467638356285441311:=Nat
def tw14711781557210305804:=Nat
def tw18005530117836804132:=Nat
def tw17774817976601493441:=Nat
def tw1442742599850547248:=Nat
def tw1257168986162508283:=Nat
def tw10974988576365117570:=Nat
def tw12993111943624726559:=Nat
def tw13442270368966832822:=Nat
def tw3319872722880002604:=Nat
def tw2670604790882696470:=Nat
def tw15945531964636223345:=Nat
def tw12394145956364316112:=Nat
def tw11300192541202254761:=Nat
def tw3985353414378663635:=Nat
def tw15004892123960651676:=Nat
def tw2799653139898491148:=Nat
def tw11790605729287350574:=Nat
def tw8394803407260642478:=Nat
def tw173660515894955273:=Nat
def tw11757110478144831388:=Nat
def tw10414018172280774560:=Nat
def tw87759645745262785:=Nat
def tw82385727753682169:=Nat
def tw10935218445440623768:=Nat
def tw1618507453400112584:=Nat
def tw10077569395711154853:=Nat
def tw8527163004628625352:=Nat
def tw13496891737758481087:=Nat
def tw3697313624207388711:=Nat
def tw5183421955780718132:=Nat
def tw9760760807202498409:=Nat
def tw1919211798696944674:=Nat
def tw17028883431294551686:=Nat
def tw964089406611329262:=Nat
def tw11916012254373594486:=Nat
def tw6611887344299700351:=Nat
def tw1962799790469207982:=Nat
def tw8118961300618864167:=Nat
def tw6119820502868999049:=Nat
def tw5035864875748884989:=Nat
def tw5429811665769712473:=Nat
def tw11786889869516708067:=Nat
def tw10183357226255151464:=Nat
def tw5679877118521123975:=Nat
def tw5926464831061005406:=Nat
def tw13035966267950104871:=Nat
def tw1012928097022517275:=Nat
def tw104002359562666362:=Nat
def tw7703754243638340214:=Nat
def tw5941099281544675779:=Nat
def tw4080920023410851657:=Nat
def tw8157863817386817288:=Nat
def tw8863895874764934644:=Nat
def tw18291602185520001466:=Nat
def tw17304385883723758726:=Nat
def tw8871268271231033872:=Nat
def tw18025100482022848013:=Nat
def tw8779979576894716216:=Nat
def tw8976168611114087935:=Nat
def tw445491246100185008:=Nat
def tw3941398170487736821:=Nat
def tw470032228360191643:=Nat
def tw3065633930007202430:=Nat
def tw6531730227244871898:=Nat
def tw10199331915762101502:=Nat
def tw13135810681077110269:=Nat
def tw11871214374529861087:=Nat
def tw5699873607391903994:=Nat
def tw653463614481377979:=Nat
def tw10575587156798504812:=Nat
def tw3371164055603032579:=Nat
def tw16513443986586165354:=Nat
def tw7079469910618828084:=Nat
def tw18048854547536940339:=Nat
def tw389209639495427873:=Nat
def tw4675287209553257891:=Nat
def tw2706851054665662812:=Nat
def tw15525833466584341238:=Nat
def tw6442951923947799230:=Nat
def tw3299375016957829958:=Nat
def tw11779022358144021350:=Nat
def tw484071123453754001:=Nat
def tw14828234669825405903:=Nat
def tw2155554877733280877:=Nat
def tw4250089279621848725:=Nat
def tw1991545838956508105:=Nat
def tw3592740157689634021:=Nat
def tw15153661108876242131:=Nat
def tw4653684648155644139:=Nat
def tw9382480306374753494:=Nat
def tw842229115362637048:=Nat
def tw7838393799196615879:=Nat
def tw7140099927215980658:=Nat
def tw8389622121169471390:=Nat
def tw7199155138756929651:=Nat
def tw16308150374468894217:=Nat
def tw11760921509037877485:=Nat
def tw13419409645246818254:=Nat
def tw15000694025971306084:=Nat
def tw5902647032956495940:=Nat
def tw17631766346680200460:=Nat
def tw4684275614205052117:=Nat
def tw17009047926711795144:=Nat
def tw9003851738004711975:=Nat
def tw2986126214191480509:=Nat
def tw6841349988754613090:=Nat
def tw763347481943015075:=Nat
def tw5646549520571446842:=Nat
def tw15289202529635189199:=Nat
def tw16724908395750706183:=Nat
def tw9439650387608183630:=Nat
def tw17642396016687548363:=Nat
def tw10668524372035138341:=Nat
def tw15557448291758733760:=Nat
def tw11222857594308692017:=Nat
def tw495306080369853356:=Nat
def tw1375230614470766294:=Nat
def tw4329625018609299382:=Nat
def tw12680381628875045994:=Nat
def tw11468288633593212030:=Nat
def tw4034892745875582795:=Nat
def tw8979443953711721146:=Nat
def tw6539176059357166438:=Nat
def tw3628759375980988392:=Nat
def tw6360470326538952994:=Nat
def tw4459911036025476971:=Nat
def tw2366953817067549189:=Nat
def tw16035211126928254736:=Nat
def tw14135227443135925509:=Nat
def tw6119348461986807746:=Nat
def tw5852209694503914174:=Nat
def tw6869619232798509405:=Nat
def tw15348676518307425815:=Nat
def tw5013291940910400353:=Nat
def tw3896676176147748751:=Nat
def tw14516991079291587588:=Nat
def tw18421183612813311313:=Nat
def tw5729384125229992914:=Nat
def tw8186935340958763941:=Nat
def tw12298182296710331482:=Nat
def tw2788549828879696549:=Nat
def tw262665102852556768:=Nat
def tw5146495021876312920:=Nat
def tw10699995989325446722:=Nat
def tw9646284448320141768:=Nat
def tw8797230814261966747:=Nat
def tw7878178156415611822:=Nat
def tw6490409439872776046:=Nat
def tw3779903279285449676:=Nat
def tw1007898643815520206:=Nat
def tw12401707414058901171:=Nat
def tw7369910018112777864:=Nat
def tw8230752821252693600:=Nat
def tw582947634439748080:=Nat
def tw15869997092693330854:=Nat
def tw13901335798199266867:=Nat
def tw5919597164981321919:=Nat
def tw13378016358048417154:=Nat
def tw10928225467482096657:=Nat
def tw17377857349959162689:=Nat
def tw10645306464350187857:=Nat
def tw16506275793712051166:=Nat
def tw4541623409740157405:=Nat
def tw17067735985999223092:=Nat
def tw8974416774520727928:=Nat
def tw7009065985953627353:=Nat
def tw1713123621131880443:=Nat
def tw4570156071304199122:=Nat
def tw8158516621953322245:=Nat
def tw6216176737812960300:=Nat
def tw2151460086976375505:=Nat
def tw377808799252606243:=Nat
def tw8530706080195798198:=Nat
def tw7890521051813574694:=Nat
def tw3613213899106645115:=Nat
def tw185965525488919451:=Nat
def tw11976378192701238377:=Nat
def tw10705580233166000922:=Nat
def tw16383516558026956136:=Nat
def tw11239251539002867634:=Nat
def tw173124896729528827:=Nat
def tw7782140486172769738:=Nat
def tw12007103140304411049:=Nat
def tw5571513633864493287:=Nat
def tw1865671148589161256:=Nat
def tw1931196460180009971:=Nat
def tw4073137478141627160:=Nat
def tw3873918664626531344:=Nat
def tw7722734136595898371:=Nat
def tw1435575545191340495:=Nat
def tw1613692942207811258:=Nat
def tw10910354645942281297:=Nat
def tw12854546385462650928:=Nat
def tw4684593847002382887:=Nat
def tw7492490075976990021:=Nat
def tw4711982236516179696:=Nat
def tw9888646634424745660:=Nat
def tw5650233903625434081:=Nat
def tw16261811391262024956:=Nat
def tw13378801995554003647:=Nat
def tw12217528231124176917:=Nat
def tw461757158438139253:=Nat
def tw1011777983163104791:=Nat
def tw12492883461720546934:=Nat
def tw12978079952358919377:=Nat
def tw1195041813707647810:=Nat
def tw12062277732570905643:=Nat
def tw13920387842449629752:=Nat
def tw4729551870542571734:=Nat
def tw3426213377962201195:=Nat
def tw9330680669475256273:=Nat
def tw13407053591405051516:=Nat
def tw5853126165603775975:=Nat
def tw6051743520116429658:=Nat
def tw10532655834788451183:=Nat
def tw3053478195803091342:=Nat
def tw11694659510711130243:=Nat
def tw536475778998814651:=Nat
def tw6719252049179343796:=Nat
def tw5716497380258698145:=Nat
def tw10997041354412207067:=Nat
def tw12204008471969054193:=Nat
def tw5300030849965820973:=Nat
def tw12765193550952350688:=Nat
def tw4445178784597698993:=Nat
def tw3511674465709911457:=Nat
def tw8173394951029987741:=Nat
def tw6571784824724279131:=Nat
def tw8288205157506561055:=Nat
def tw16321711111465304202:=Nat
def tw17549969901396284252:=Nat
def tw4304429808075303484:=Nat
def tw3041199317522999132:=Nat
def tw5896587007156126535:=Nat
def tw13458883409817123367:=Nat
def tw858065282376487551:=Nat
def tw7655313487504961329:=Nat
def tw3070063554888138168:=Nat
def tw13942130907941082345:=Nat
def tw4202020462617290035:=Nat
def tw15880780378540782952:=Nat
def tw8482745881301056788:=Nat
def tw8585546869992454675:=Nat
def tw18432810334387958181:=Nat
def tw14357687875877783608:=Nat
def tw11287334283975664141:=Nat
def tw3308867231763385884:=Nat
def tw9394803208734409047:=Nat
def tw1740285309751150206:=Nat
def tw2444069968483324742:=Nat
def tw14085982838712004155:=Nat
def tw1577021293383486781:=Nat
def tw16419191114664158659:=Nat
def tw17174447871245608969:=Nat
def tw4507494119862835292:=Nat
def tw16593408966107700809:=Nat
def tw2890863002812495074:=Nat
def tw5848576217702616207:=Nat
def tw4315713256520080859:=Nat
def tw9515762318447328222:=Nat
def tw3647406820971700233:=Nat
def tw6915352204996963514:=Nat
def tw14325108727857170528:=Nat
def tw12141122171958837366:=Nat
def tw12884171487822793246:=Nat
def tw5998063290538842896:=Nat
def tw13038649592860104738:=Nat
def tw2089904249360739166:=Nat
def tw8821832025851714797:=Nat
def tw5726347585806954661:=Nat
def tw13794868085705557780:=Nat
def tw4769185308824351919:=Nat
def tw12720168249057184828:=Nat
def tw12277269899538444708:=Nat
def tw3859653682889710806:=Nat
def tw16568804004274665597:=Nat
def tw6746803070570858092:=Nat
def tw5120639872846902296:=Nat
def tw12980485943856575401:=Nat
def tw11899203185142151947:=Nat
def tw13282509953564772911:=Nat
def tw9888946130047349680:=Nat
def tw14850623759121287155:=Nat
def tw184518089224896425:=Nat
def tw17631815900479710351:=Nat
def tw12332929949762592917:=Nat
def tw8679480562149970649:=Nat
def tw15332380599465255949:=Nat
def tw11402921146265718124:=Nat
def tw18303117761605292248:=Nat
def tw5632871629386631405:=Nat
def tw4575304377813945764:=Nat
def tw13563657973526028337:=Nat
def tw1770299008157444340:=Nat
def tw9099109117850971887:=Nat
def tw17091624296267470786:=Nat
def tw14702866431505793715:=Nat
def tw3367273914293583370:=Nat
def tw7250345614409436353:=Nat
end PySem.W.Fast
section
namespace L2
open PySem PySem.Spec PyProof.Rows
abbrev Key:=Sum Int E_
def dM:Key->KB->Bool
 |.inl k,v=>Value.isInt k v
 |.inr x,v=>Value.isStrOf x v
def keyH(w:Q2):Key->Int
 |.inl k=>hashInt k
 |.inr x=>hashStr w x
def keyIs_shape:∀{k:Key} {v:KB},dM k v=true->(∃i t,k=Sum.inl i/\v=Value.int i t)\/(∃x t,k=Sum.inr x/\v=Value.str x t)
 |.inl i,v,h=>by
  obtain⟨t,e⟩:=Value.isInt_shape (k:=i) (v:=v) h;exact .inl #[i,t,rfl,e]
 |.inr x,v,h=>by
  obtain⟨t,e⟩:=Value.isStrOf_shape (x:=x) (v:=v) h;exact .inr #[x,t,rfl,e]
def uj(i:Int)(t:S3):dM (.inl i) (.int i t)=true:=by simp[dM,Value.isInt]
def uk(x:E_)(t:S3):dM (.inr x) (.str x t)=true:=by simp[dM,Value.isStrOf]
def ul(a b:Int):decide ((Sum.inl a:Key)=Sum.inl b)=(a==b):=by
 by_cases e:a=b
 .subst e;simp
 .have h:¬(Sum.inl a:Key)=Sum.inl b:=λq=>e (Sum.inl.inj q);rw[decide_eq_false h];exact(beq_eq_false_iff_ne.mpr e).symm
def um(a b:E_):decide ((Sum.inr a:Key)=Sum.inr b)=decide (a=b):=by
 by_cases e:a=b
 .subst e;simp
 .have h:¬(Sum.inr a:Key)=Sum.inr b:=λq=>e (Sum.inr.inj q);rw[decide_eq_false h,decide_eq_false e]
def uo(a:Int)(b:E_):decide ((Sum.inl a:Key)=Sum.inr b)=false:=decide_eq_false (λq=>nomatch q)
def uq(a:E_)(b:Int):decide ((Sum.inr a:Key)=Sum.inl b)=false:=decide_eq_false (λq=>nomatch q)
def bz(prog:Pi)(w:Q2):PySem.KeyKind prog w Key where
 is:=dM
 hash:=keyH w
 inj:=λv a b ha hb=>by
  rcases keyIs_shape ha with⟨i,t,rfl,rfl⟩|⟨x,t,rfl,rfl⟩
  .rcases keyIs_shape hb with⟨j,u,rfl,e⟩|⟨y,u,rfl,e⟩
   .injection e with e1 _;rw[e1]
   .exact nomatch e
  .rcases keyIs_shape hb with⟨j,u,rfl,e⟩|⟨y,u,rfl,e⟩
   .exact nomatch e
   .injection e with e1 _;rw[e1]
 byValue:=λk v h=>by
  rcases keyIs_shape h with⟨i,t,rfl,rfl⟩|⟨x,t,rfl,rfl⟩<;>rfl
 pyHash:=λhv h=>by
  rcases keyIs_shape hv with⟨i,t,rfl,rfl⟩|⟨x,t,rfl,rfl⟩
  .exact wpAny_pyHash_int h
  .exact wpAny_pyHash_str h
 eqBool:=λhu hv h=>by
  rcases keyIs_shape hu with⟨i,t,rfl,rfl⟩|⟨x,t,rfl,rfl⟩
  .rcases keyIs_shape hv with⟨j,u,rfl,rfl⟩|⟨y,u,rfl,rfl⟩
   .rw[ul]at h;exact wpAny_eqBool_int h
   .rw[uo]at h;exact SeqAt.EqAt.int_str i t y u _ _ _ _ h
  .rcases keyIs_shape hv with⟨j,u,rfl,rfl⟩|⟨y,u,rfl,rfl⟩
   .rw[uq]at h;exact SeqAt.EqAt.str_int x t j u _ _ _ _ h
   .rw[um]at h;exact wpAny_eqBool_str h
 «strs»:=λk x t v h=>by
  rcases keyIs_shape h with⟨i,u,rfl,e⟩|⟨y,u,rfl,e⟩
  .exact nomatch e
  .injection e with e1 _;subst e1;cases v<;>rfl
def mixKind_int(prog:Pi)(w:Q2)(i:Int)(t:S3):(bz prog w).is (.inl i) (.int i t)=true:=uj i t
def ut(prog:Pi)(w:Q2)(x:E_)(t:S3):(bz prog w).is (.inr x) (.str x t)=true:=uk x t
inductive V where
 |non|bl (b:Bool)|int (i:Int)|str (x:Str)|byt (b:Array UInt8)|flt (b:UInt64)|ref (a:Addr)|ty (n:String)
 deriving DecidableEq
def RelV:V->KB->Prop
 |.non,u=>u=Value.none
 |.bl b,u=>u=Value.bool b
 |.int i,u=>∃t,u=Value.int i t
 |.str x,u=>∃t,u=Value.str x t
 |.byt b,u=>∃t,u=Value.bytes b t
 |.flt b,u=>∃t,u=Value.float b t
 |.ref a,u=>u=Value.ref a
 |.ty n,u=>u=Value.type n
abbrev Vals:List V->List KB->Prop:=Paired RelV
variable{xs:List V}{us:List KB}
def Vals.length(r:Vals xs us):xs.length=us.length:=Paired.length r
def Vals.get:∀{xs:List V} {us:List KB} {i:Nat} {x:V},Vals xs us->xs[i]?=be x->∃u,us[i]?=be u/\RelV x u
 |_,_,_,_,.nil,e=>by simp at e
 |_,_,0,_,.cons r _,e=>by simp at e;subst e;exact#[_,rfl,r]
 |_,_,i+1,x,.cons _ t,e=>by
  obtain⟨u,h1,h2⟩:=Vals.get (i:=i) (x:=x) t (by simpa using e);exact#[u,by simpa using h1,h2]
def Vals.set{x:V}{u:KB}(r:RelV x u):∀{xs:List V} {us:List KB} (i:Nat),Vals xs us->Vals (xs.set i x) (us.set i u)
 |_,_,_,.nil=>.nil
 |_,_,0,.cons _ t=>.cons r t
 |_,_,i+1,.cons q t=>.cons q (Vals.set r i t)
def Vals.append:∀{xs ys:List V} {us ws:List KB},Vals xs us->Vals ys ws->Vals (xs++ys) (us++ws):=by
 intro xs ys us ws h s;induction h with
 |nil=>exact s
 |cons r _ e=>exact .cons r e
def Vals.take:∀{xs:List V} {us:List KB} (n:Nat),Vals xs us->Vals (xs.take n) (us.take n)
 |_,_,0,_=>.nil
 |_,_,_+1,.nil=>.nil
 |_,_,n+1,.cons r t=>.cons r (Vals.take n t)
def Vals.drop:∀{xs:List V} {us:List KB} (n:Nat),Vals xs us->Vals (xs.drop n) (us.drop n)
 |_,_,0,r=>r
 |_,_,_+1,.nil=>.nil
 |_,_,n+1,.cons _ t=>Vals.drop n t
def RelO:Option V->Option KB->Prop
 |some v,be u=>RelV v u
 |none,z8=>True
 |_,_=>False
def KV{κ:Type}:List (κ×V)->List (κ×KB)->Prop:=Paired λ(p:κ×V) (q:κ×KB)=>p.1=q.1/\RelV p.2 q.2
def kV:Key->V
 |.inl i=>.int i
 |.inr x=>.str x
inductive HO where
  |lst (xs:List V)
  |tup (xs:List V)
  |dK (a8:List (Key×V))|dT (a8:List (List Key×V))
  |set (S:Int->Bool) (n:Nat)
  |ins (C dx:Addr) (fs:List (E_×V))
  |own (x:Addr)
  |xd (fs:List (E_×V))
  |met (f x:Addr)
  |rng (lo hi:Int)
  |frz (o:Re) (u:HO)
  |tbl (ps:Array KB)
  |ext (φ:Heap->Prop)
abbrev Hp:=Addr->Option HO
def upd(H:Hp)(a:Addr)(o:HO):Hp:=λb=>if b=a then be o else H b
variable{H:Hp}{a:Addr}{o:HO}
def aw:upd H a o a=be o:=by unfold upd;rw[if_pos rfl]
variable{b:Addr}
def aj(h:b≠a):upd H a o b=H b:=by unfold upd;rw[if_neg h]
def uu{u:HO}(h:H a=be o)(h':H b=be u)(d:o≠u):a≠b:=by
 intro e;subst e;rw[h]at h';exact d (Option.some.inj h')
def bw(h:H a=be o)(h':H b=z8):a≠b:=by
 intro e;subst e;rw[h]at h';cases h'
section
variable (P:Pi)(w:Q2)
def ObjOk(H:Hp)(h:Heap)(a:Addr):HO->Prop
 |.lst xs=>xs.length<=sizeLine/\∃(its:List KB) (n:Nat),Vals xs its/\h.get? a=be {cls:=.type "list",data:=.seq its.toArray n}
 |.tup xs=>xs.length<=sizeLine/\∃its:List KB,Vals xs its/\IsTup h a its.toArray
 |.dK a8=>a8.length<=sizeLine/\(a==Rp)=false/\∃vs,KV a8 vs/\h.DictOf (bz P w) a vs
 | .dT a8=>a8.length<=sizeLine/\(a==Rp)=false/\∃xs:List (List Key×Addr×KB),
   Paired (λ(p:List Key×V) (q:List Key×Addr×KB)=>p.1=q.1/\H q.2.1=be (.tup (p.1.map kV))/\RelV p.2 q.2.2) a8 xs/\
   ∃o es ep,h.get? a=be o/\o.ExactDict/\o.data=.dict es ep/\es.toList=xs.map (entryOfKey (RS (bz P w)))/\(xs.map (·.1)).Nodup
 |.set S n=>h.SetOf (intKind P w) a S n
 | .ins C dx fs=>H dx=be (.own a)/\fs.length<=1000/\dx≠a/\h.get? a=be (instObj C dx)/\
   ∃mA,h.Ns1 dx mA/\(∀f,RelO (fs.lookup f) (mA f))/\PySem.Within mA (fs.map (·.1))
 |.own _=>∃o,h.get? a=be o
 |.xd fs=>∃mA,h.Ns1 a mA/\∀f,RelO (fs.lookup f) (mA f)
 |.rng lo hi=>∃t u v,h.get? a=be {cls:=.type "range",data:=.fields [.int lo t,.int hi u,.int 1 v].toArray}
 |.frz o u=>h.get? a=be o/\ObjOk H h a u
 |.tbl ps=>h.get? a=be {cls:=.none,data:=.fields ps}
 |.met f x=>h.get? a=be (methodObj (.ref f) (.ref x))
 |.ext φ=>φ h/\(∃o,h.get? a=be o)/\∀h1 h2:Heap,φ h1->(∀o,h1.get? a=be o->h2.get? a=be o)->φ h2
def HOk(H:Hp)(h:Heap):Prop:=∀a o,H a=be o->ObjOk P w H h a o
end
section
variable {P:Pi}{w:Q2}{H H':Hp}{h h':Heap}{a:Addr}{o:HO}
def ObjOk.lt(x:ObjOk P w H h a o):a<h.objs.size:=by
 cases o with
 |lst xs=>obtain⟨_,_,_,_,e⟩:=x;exact Heap.lt_size e
 |tup xs=>obtain⟨_,_,_,p⟩:=x;exact p.lt
 |dK a8=>obtain⟨_,_,_,_,o,_,_,e,_⟩:=x;exact Heap.lt_size e
 |dT a8=>obtain⟨_,_,_,_,o,_,_,e,_⟩:=x;exact Heap.lt_size e
 |set S n=>obtain⟨o,_,_,_,e,_⟩:=x;exact Heap.lt_size e
 |ins C dx fs=>obtain⟨_,_,_,e,_⟩:=x;exact Heap.lt_size e
 |own y=>obtain⟨_,e⟩:=x;exact Heap.lt_size e
 |xd fs=>obtain⟨_,⟨_,_,_,e,_⟩,_⟩:=x;exact Heap.lt_size e
 |rng lo hi=>obtain⟨_,_,_,e⟩:=x;exact Heap.lt_size e
 |frz ob u=>obtain⟨e,_⟩:=x;exact Heap.lt_size e
 |tbl ps=>exact Heap.lt_size (show h.get? a=be _ from x)
 |met f y=>exact Heap.lt_size (show h.get? a=be _ from x)
 |ext φ=>obtain⟨_,⟨_,e⟩,_⟩:=x;exact Heap.lt_size e
def Paired.mapP{α β:Type}{F G:α->β->Prop}:∀{l₁:List α} {l₂:List β},Paired F l₁ l₂->(∀a b,F a b->G a b)->Paired G l₁ l₂:=by
 intro l₁ l₂ h f;induction h with
 |nil=>exact .nil
 |cons r _ e=>exact .cons (f _ _ r) e
def ObjOk.stay(x:ObjOk P w H h a o)(k:∀b u,(b=a\/H b=be (.own a))->h.get? b=be u->h'.get? b=be u)
  (ho:∀b,H b=be (.own a)->H' b=be (.own a)) (ht:∀b xs,H b=be (.tup xs)->H' b=be (.tup xs)):ObjOk P w H' h' a o:=by
 induction o with
 |lst xs=>obtain⟨z,its,n,r,e⟩:=x;exact#[z,its,n,r,k _ _ (.inl rfl) e]
 |tup xs=>obtain⟨z,its,r,ob,e,c⟩:=x;exact#[z,its,r,ob,k _ _ (.inl rfl) e,c]
 |dK a8=>obtain⟨z,y,vs,r,ob,es,ep,e,c⟩:=x;exact#[z,y,vs,r,ob,es,ep,k _ _ (.inl rfl) e,c]
 |dT a8=>
  obtain⟨z,y,xs,r,ob,es,ep,e,c⟩:=x;exact#[z,y,xs,Paired.mapP r λp q z=>#[z.1,ht _ _ z.2.1,z.2.2],ob,es,ep,k _ _ (.inl rfl) e,c]
 |set S n=>obtain⟨ob,es,ep,t,e,c⟩:=x;exact#[ob,es,ep,t,k _ _ (.inl rfl) e,c]
 |ins C dx fs=>
  obtain⟨d,z,ne,e,mA,⟨od,es,ep,e2,c⟩,r⟩:=x;exact#[ho _ d,z,ne,k _ _ (.inl rfl) e,mA,#[od,es,ep,k _ _ (.inr d) e2,c],r]
 |own y=>obtain⟨ob,e⟩:=x;exact#[ob,k _ _ (.inl rfl) e]
 |xd fs=>obtain⟨mA,⟨od,es,ep,e,c⟩,r⟩:=x;exact#[mA,#[od,es,ep,k _ _ (.inl rfl) e,c],r]
 |rng lo hi=>obtain⟨t,u,v,e⟩:=x;exact#[t,u,v,k _ _ (.inl rfl) e]
 |frz ob u ih=>obtain⟨e,q⟩:=x;exact#[k _ _ (.inl rfl) e,ih q]
 |tbl ps=>
  have e:h.get? a=be {cls:=.none,data:=.fields ps}:=x;show h'.get? a=be {cls:=.none,data:=.fields ps};exact k a _ (.inl rfl) e
 |met f y=>
  have e:h.get? a=be (methodObj (.ref f) (.ref y)):=x;show h'.get? a=be (methodObj (.ref f) (.ref y));exact k a _ (.inl rfl) e
 |ext φ=>obtain⟨p,⟨o,e⟩,st⟩:=x;exact#[st _ _ p λo q=>k _ _ (.inl rfl) q,#[o,k _ _ (.inl rfl) e],st]
def HOk.lt(x:HOk P w H h)(e:H a=be o):a<h.objs.size:=(x a o e).lt
def HOk.fresh(x:HOk P w H h)(e:h.objs.size<=a):H a=none:=by
 cases q:H a with
 |none=>rfl
 |some u=>exact absurd (Fv (x.lt q) e) (FY _)
def HOk.kept(x:HOk P w H h)(k:∀b u,h.get? b=be u->h'.get? b=be u):HOk P w H h':=λa o e=>
 (x a o e).stay (λb u _ q=>k b u q) (λ_ q=>q) λ_ _ q=>q
def HOk.laid(x:HOk P w H h)(k:∀b u,h.get? b=be u->h'.get? b=be u)(hp:h.objs.size<=a)(new:ObjOk P w (upd H a o) h' a o):HOk P w (upd H a o) h':=λb u e=>by
 have hn:=x.fresh hp;by_cases hb:b=a
 .subst hb;rw[aw]at e;cases e;exact new
 .rw[aj hb]at e;exact(x b u e).stay (λc v _ q=>k c v q) (λc q=>by rw[aj (bw q hn)];exact q) λc xs q=>by rw[aj (bw q hn)];exact q
end
def Rd(H:Hp)(a:Addr)(u:HO):Prop:=H a=be u\/∃o,H a=be (.frz o u)
def Rd.of{u:HO}(h:H a=be u):Rd H a u:=.inl h
variable{P:Pi}{w:Q2}{h:Heap}
def Rd.ok{u:HO}(r:Rd H a u)(x:HOk P w H h):ObjOk P w H h a u:=by
 rcases r with r|⟨o,r⟩
 .exact x a u r
 .obtain⟨_,q⟩:=x a _ r;exact q
def Mut:Option HO->Prop
 |some (.lst _)=>True
 |some (.dK _)=>True
 |some (.dT _)=>True
 |some (.set _ _)=>True
 |some (.ins _ _ _)=>True
 |some (.ext _)=>True
 |_=>False
section
variable {P:Pi}{w:Q2}{H:Hp}{h h':Heap}{x e:Addr}{o':HO}
def HOk.write(ok:HOk P w H h)(mu:Mut (H x))(he:e=x\/H e=be (.own x))(k:∀b u,b≠e->h.get? b=be u->h'.get? b=be u)(z6:∃u,h'.get? e=be u)
  (new:ObjOk P w (upd H x o') h' x o'):HOk P w (upd H x o') h':=λb u q=>by
 have nown:∀c y,H c=be (.own y)->c≠x:=λc y r z=>by subst z;rw[r]at mu;exact mu
 have LA:∀c xs,H c=be (.tup xs)->c≠x:=λc xs r z=>by subst z;rw[r]at mu;exact mu
 by_cases hb:b=x
 .subst hb;rw[aw]at q;cases q;exact new
 .rw[aj hb]at q;by_cases IZ:b=e
  .have q':H b=be (.own x):=by
    rcases he with z|z
    .exact absurd (IZ.trans z) hb
    .rw[IZ];exact z
   rw[q]at q';cases q';obtain⟨v,hv⟩:=z6;exact#[v,by rw[IZ];exact hv]
  .refine(ok b u q).stay (λc v hc r=>k c v ?_ r) (λc r=>by rw[aj (nown c b r)];exact r) λc xs r=>by rw[aj (LA c xs r)];exact r
   rcases hc with rfl|hc
   .exact IZ
   .rintro rfl;rcases he with z|z
    .exact nown c b hc z
    .rw[hc]at z;cases z;exact hb rfl
end
structure Un(fs ex:List Addr)(H H':Hp)(h h':Heap):Prop where
 keep:∀b o,h.get? b=be o->H b=z8->b∉fs->b∉ex->h'.get? b=be o
 slot:∀b o,h.get? b=be o->H b=z8->b∈fs->b∉ex->∃sl,h'.get? b=be {o with slots:=sl}
 free:∀b o,h.get? b=be o->H b=z8->b∉ex->H' b=z8
 there:∀b o,h.get? b=be o->b∉ex->∃o',h'.get? b=be o'
 tups:∀b xs,H b=be (.tup xs)->H' b=be (.tup xs)
 frzs:∀b o u,H b=be (.frz o u)->H' b=be (.frz o u)
 tbls:∀b ps,H b=be (.tbl ps)->∃more,H' b=be (.tbl (ps++more))
section
variable {fs j9 ex NP:List Addr}{H H1 H2:Hp}{h h1 h2 h':Heap}{a x e:Addr}{o:HO}
def Un.any(u:Un fs ex H H1 h h1){b:Addr}{ob:Re}(q:h.get? b=be ob)(n:H b=z8)(hx:b∉ex):∃sl,h1.get? b=be {ob with slots:=sl}:=by
 by_cases hb:b∈fs
 .exact u.slot b ob q n hb hx
 .exact#[ob.slots,u.keep b ob q n hb hx]
def Un.kept(k:∀b u,h.get? b=be u->h'.get? b=be u):Un fs ex H H h h':=
 #[λb ob q _ _ _=>k b ob q,λb ob q _ _ _=>#[ob.slots,k b ob q],λ_ _ _ n _=>n,λb ob q _=>#[ob,k b ob q],λ_ _ q=>q,λ_ _ _ q=>q,λ_ ps q=>#[[].toArray,by rw[q];simp]]
def Un.refl:Un fs ex H H h h:=Un.kept λ_ _ q=>q
def Un.laid(k:∀b u,h.get? b=be u->h'.get? b=be u)(hp:h.objs.size<=a)(hn:H a=z8):Un fs ex H (upd H a o) h h' where
 keep:=λb u q _ _ _=>k b u q
 slot:=λb u q _ _ _=>#[u.slots,k b u q]
 free:=λb u q n _=>by rw[aj (Fd (Fv (Heap.lt_size q) hp))];exact n
 there:=λb u q _=>#[u,k b u q]
 tups:=λb xs q=>by rw[aj (bw q hn)];exact q
 frzs:=λb u xs q=>by rw[aj (bw q hn)];exact q
 tbls:=λb ps q=>#[[].toArray,by rw[aj (bw q hn),q];simp]
def Un.write(mu:Mut (H x))(he:e=x\/H e=be (.own x))(k:∀b u,b≠e->h.get? b=be u->h'.get? b=be u)(z6:∃u,h'.get? e=be u):Un fs ex H (upd H x o) h h':=by
 have hx:∀b,H b=z8->b≠x:=λb n z=>by subst z;rw[n]at mu;exact mu
 have hb:∀b,H b=z8->b≠e:=λb n z=>by
  subst z;rcases he with r|r
  .exact hx b n r
  .rw[n]at r;cases r
 have hm:∀b u,H b=be u->¬Mut (be u)->b≠x:=λb u q nm z=>by subst z;rw[q]at mu;exact nm mu
 refine⟨λb u q n _ _=>k b u (hb b n) q,λb u q n _ _=>#[u.slots,k b u (hb b n) q],λb u q n _=>by rw[aj (hx b n)];exact n,λb u q _=>?_,
  λb xs q=>by rw[aj (hm b _ q λz=>z)];exact q,λb u xs q=>by rw[aj (hm b _ q λz=>z)];exact q,λb ps q=>#[[].toArray,by rw[aj (hm b _ q λz=>z),q];simp]⟩
 by_cases IZ:b=e
 .subst IZ;exact z6
 .exact#[u,k b u IZ q]
end
def trk(h:Heap)(H:Hp):List Addr:=(E8 h.objs.size).filter λa=>(H a).isSome
def hidT(h:Heap)(H:Hp):Heap:=hideAll h (trk h H)
def uw(h:Heap)(H:Hp):(hidT h H).objs.size=h.objs.size:=hideAll_size _ _
def ux{o:Re}(e:h.get? b=be o)(n:H b=z8):(hidT h H).get? b=be o:=
 hideAll_get _ e λhm=>by
  have q:(H b).isSome=true:=(Ht.mp hm).2;rw[n]at q;simp at q
def uy{o:Re}(e:(hidT h H).get? b=be o):h.get? b=be o/\H b=none:=by
 have e':h.get? b=be o:=of_hideAll (trk h H) e;refine#[e',?_];cases q:H b with
 |none=>rfl
 |some x=>
  have hm:b∈trk h H:=Ht.mpr #[List.mem_range.mpr (Heap.lt_size e'),by simp[q]];have z:(hidT h H).get? b=none:=hideAll_none (trk h H) hm;rw[z]at e;cases e
def allNews(g h:Heap)(L:Addr):List (Addr×Re):=(E8 h.objs.size).filterMap λa=>if a=L\/(g.get? a).isSome=true then z8 else(h.get? a).map λo=>(a,o)
def rest(g h:Heap)(L d:Addr):List (Addr×Re):=(allNews g h L).filter λp=>decide (p.1≠d)
structure Mod(K:Ex)(mg:Str->Option KB)(base:Heap):Prop where
 kin:K.In base
 glob:base.Ns Os mg
 blt:∃mb,base.Ns SW mb/\∀x:E_,x≠"__name__"->mb x=Rc x
 nolimit:base.NoLimit
structure Cx where
 prog:Pi
 w:Q2
 K:Ex
 mg:E_->Option KB
 base:Heap
 A:Q3
 N:List E_
 s₀:KF
 H₀:Hp
 env:RI
 outer:List RI
 stack:List RI
 ex:List Addr
 fn:E_->Bool
 calm:Bool
 pn:List (Addr×Re)
 xe:KB->KF->Prop
abbrev zSE(X:Cx)(e:P3)(es:List P3):Prop:=Q4 (e::es) X.env=(false,Q7 e X.env)::Q4 es X.env
abbrev zPL(X:Cx)(p:Q_)(es:List P3):Prop:=(Rx p (Q4 es X.env)).any (·.1)=false
abbrev zHF(X:Cx)(p:Q_)(es:List P3):Prop:=((Rx p (Q4 es X.env)).all (λx=>!x.1)&&(RU p (Rv [] X.env)).all (λx=>x.1.isSome)&&decide (es.length+([]:List R5).length+(if([]:List R5).isEmpty then 0 else 1)<30))=true
abbrev zFN(X:Cx)(x:E_):Prop:=X.fn x=true\/X.env.scope.names.lookup x=be .local
abbrev zND(x:E_):Prop:=(x==("__debug__":E_))=false
abbrev zNC(x:E_):Prop:=(x==("__classdict__":E_))=false
abbrev zFS(X:Cx)(e:P3)(y:KB):Prop:=S2 e X.env y=pure y
def frs(l:List RI):List Addr:=l.filterMap (·.frame)
abbrev Cx.fs(X:Cx):List Addr:=frs X.outer
def Vis(sc:Rr)(x:E_):Prop:=sc.names.lookup x=be .local\/sc.names.lookup x=be .cell\/sc.names.lookup x=be .free
def Loc(sc:Rr)(x:E_):Prop:=sc.names.lookup x=be .local\/sc.names.lookup x=be .cell
def Look(env:RI)(h:Heap)(m:E_->Option KB)(x:E_)(u:KB):Prop:=
 (env.kindOf x=be .local/\m x=be u)\/((env.kindOf x=be .cell\/env.kindOf x=be .free)/\∃c,env.cells.lookup x=be c/\h.IsCell c (be u))
structure Cx.Ok(X:Cx):Prop where
 mod:Mod X.K X.mg X.base
 kind:X.env.scope.kind=.function
 glob:X.env.globals=Os
 blt:X.env.builtins=SW
 above:X.s₀.heap.objs.size<=X.env.locals
 inj:∀x y c,X.env.cells.lookup x=be c->X.env.cells.lookup y=be c->x=y
 has:∀x,(X.env.kindOf x=be .cell\/X.env.kindOf x=be .free)->∃c,X.env.cells.lookup x=be c
 cab:∀x c,X.fn x=true->X.env.cells.lookup x=be c->X.s₀.heap.objs.size<=c
 hd:X.calm=true->X.A.handled=z8
 frames:X.A.frames=be X.stack
 stk:X.stack=X.outer\/(X.stack=X.env::X.outer/\X.env.frame=be X.env.locals)
 exf:∀b∈X.ex,b≠X.env.locals/\∀x c,X.env.cells.lookup x=be c->c≠b
 bs:∀b o,X.base.get? b=be o->X.s₀.heap.get? b=be o/\X.H₀ b=z8
 bsz:X.base.objs.size<=X.s₀.heap.objs.size
 noex:∀b o,X.base.get? b=be o->b∉X.ex
 exfs:∀b∈X.ex,b∉X.fs
 funs:X.s₀.heap.FunFrames X.base X.outer
 frf:∀b∈X.fs,X.H₀ b=z8
structure Inv(X:Cx)(pins:List (Addr×Re))(σ:List (Option V))(H:Hp)(s:KF):Prop where
 ok:X.Ok
 os:s.os=X.s₀.os
 bare:RP s.gens
 base:Un X.fs X.ex X.H₀ H X.s₀.heap s.heap
 loc:∃m,s.heap.Ns X.env.locals m/\∀(i:Nat) (x:E_) (v:V),X.N[i]?=be x->σ[i]?=be (be v)->Vis X.env.scope x->∃u,RelV v u/\Look X.env s.heap m x u
 cell:∀x c,X.env.cells.lookup x=be c->∃v,s.heap.IsCell c v
 free:H X.env.locals=z8
 freeC:∀x c,X.env.cells.lookup x=be c->H c=z8
 pin:∀p∈X.pn++pins,s.heap.get? p.1=be p.2/\H p.1=z8/\p.1≠X.env.locals/\p.1∉X.fs/\∀v,p.2.data≠.cell v
 hok:HOk X.prog X.w H s.heap
 len:σ.length=X.N.length
section
variable {X:Cx}{pins:List (Addr×Re)}{σ:List (Option V)}{H H':Hp}{s:KF}{h':Heap}
def Cx.Ok.nofr(ok:X.Ok){b:Addr}{o:Re}(e:X.base.get? b=be o):b∉X.fs:=λhb=>by
 have:=(ok.funs.mem hb).1;rw[e]at this;cases this
def Inv.bs(I:Inv X pins σ H s):∀b o,X.base.get? b=be o->s.heap.get? b=be o/\H b=none:=λb o e=>
 #[I.base.keep b o (I.ok.bs b o e).1 (I.ok.bs b o e).2 (I.ok.nofr e) (I.ok.noex b o e),I.base.free b o (I.ok.bs b o e).1 (I.ok.bs b o e).2 (I.ok.noex b o e)]
def Inv.bk(I:Inv X pins σ H s):∀b o,X.base.get? b=be o->s.heap.get? b=be o:=λb o e=>(I.bs b o e).1
def Inv.mod(I:Inv X pins σ H s):Mod X.K X.mg X.base:=I.ok.mod
def Inv.kIn(I:Inv X pins σ H s):X.K.In s.heap:=I.ok.mod.kin.keeps I.bk
def Inv.nolimit(I:Inv X pins σ H s):s.heap.NoLimit:=I.ok.mod.nolimit.keeps I.bk
def Inv.fr(I:Inv X pins σ H s):∃m,Fr X.base X.env.locals s.heap m:=
 let ⟨m,hn,_⟩:=I.loc
 #[m,hn,I.bk,Fg I.ok.bsz I.ok.above]
def Inv.lt(I:Inv X pins σ H s):X.env.locals<s.heap.objs.size:=let ⟨_,hn,_⟩:=I.loc;hn.lt
def Inv.sz(I:Inv X pins σ H s):X.s₀.heap.objs.size<=s.heap.objs.size:=Fg I.ok.above (GC I.lt)
def Inv.nofs(I:Inv X pins σ H s){a:Addr}(h:s.heap.objs.size<=a):a∉X.fs:=λhb=>by
 obtain⟨_,o,ho,_⟩:=I.ok.funs.mem hb;exact absurd (Fv (Heap.lt_size ho) (Fg I.sz h)) (FY _)
def Inv.cne(I:Inv X pins σ H s):∀x c,X.env.cells.lookup x=be c->c≠X.env.locals:=λx c e z=>by
 obtain⟨v,o,ho,hd⟩:=I.cell x c e;obtain⟨m,⟨o',es,ep,I_,d8,_⟩,_⟩:=I.loc;rw[z,I_]at ho;cases ho;rw[d8]at hd;cases hd
def Inv.funs(I:Inv X pins σ H s):s.heap.FunFrames X.base X.outer:=by
 have all:∀(l:List RI),(∀b∈frs l,b∈X.fs)->X.s₀.heap.FunFrames X.base l->s.heap.FunFrames X.base l:=by
  intro l;induction l with
  |nil=>intro _ _;trivial
  |cons env r ih=>
   intro hs hl;obtain⟨hk,⟨L,o,hf,hn,ho,hd⟩,hr⟩:=hl;have hL:L∈X.fs:=hs L (by unfold frs;rw[GD,hf];exact Fi);obtain⟨sl,e⟩:=I.base.slot L o ho (I.ok.frf L hL) hL λz=>I.ok.exfs L z hL;exact#[hk,#[L,_,hf,hn,e,hd],ih (λb hb=>hs b (by unfold frs;rw[GD,hf];exact Fe _ hb)) hr]
 exact all X.outer (λ_ hb=>hb) I.ok.funs
def Inv.stack(I:Inv X pins σ H s):s.heap.FunFrames X.base X.stack:=by
 rcases I.ok.stk with e|⟨e,hf⟩
 .rw[e];exact I.funs
 .rw[e];obtain⟨m,hn,_⟩:=I.loc;refine .cons (by rw[I.ok.kind];decide) hf hn ?_ I.funs;exact Heap.get?_none_of_le (Fg I.ok.bsz I.ok.above)
def Inv.stkSub(I:Inv X pins σ H s):∀b∈frs X.stack,b∈X.env.locals::X.fs:=λb hb=>by
 rcases I.ok.stk with e|⟨e,hf⟩
 .rw[e]at hb;exact Fe _ hb
 .rw[e]at hb;unfold frs at hb;rw[GD,hf]at hb;exact hb
def Inv.stkFree(I:Inv X pins σ H s):∀b∈frs X.stack,H b=none:=λb hb=>by
 rcases Fb.mp (I.stkSub b hb)with e|hb
 .rw[e];exact I.free
 .obtain⟨_,o,ho,_⟩:=I.ok.funs.mem hb;exact I.base.free b o ho (I.ok.frf b hb) λz=>I.ok.exfs b z hb
variable{g':Array SM}{ch:List Addr}
def Inv.step{t':Nat}{d':Drawn}(I:Inv X pins σ H s)
  (z7:∀b∈ch,(b∈X.ex\/X.s₀.heap.objs.size<=b)/\b≠X.env.locals/\(∀x c,X.env.cells.lookup x=be c->c≠b)/\∀p∈X.pn++pins,p.1≠b)
  (keep:∀b o,b≠X.env.locals->b∉X.fs->b∉ch->s.heap.get? b=be o->H b=z8->h'.get? b=be o)
  (slot:∀b o,b≠X.env.locals->b∈X.fs->b∉ch->s.heap.get? b=be o->H b=z8->∃sl,h'.get? b=be {o with slots:=sl}) (free:∀b o,b∉ch->s.heap.get? b=be o->H b=z8->H' b=z8)
  (there:∀b o,b∉ch->s.heap.get? b=be o->∃o',h'.get? b=be o')
  (tups:∀b xs,H b=be (.tup xs)->H' b=be (.tup xs)) (frzs:∀b o u,H b=be (.frz o u)->H' b=be (.frz o u)) (tbls:∀b ps,H b=be (.tbl ps)->∃more,H' b=be (.tbl (ps++more)))
  (ns:∀m,s.heap.Ns X.env.locals m->h'.Ns X.env.locals m) (hok:HOk X.prog X.w H' h') (hg:RP g'):
  Inv X pins σ H' {s with heap:=h',gens:=g',drawn:=d',toks:=t'}:=by
 have NQ:∀b o,X.s₀.heap.get? b=be o->b≠X.env.locals:=λb o e=>Fd (Fv (Heap.lt_size e) I.ok.above);have K5:∀b o,X.s₀.heap.get? b=be o->b∉X.ex->b∉ch:=λb o e hx hb=>by
  rcases(z7 b hb).1 with z|z
  .exact hx z
  .exact absurd (Fv (Heap.lt_size e) z) (FY _)
 have k8:∀x c,X.env.cells.lookup x=be c->∀v,s.heap.IsCell c v->h'.IsCell c v:=λx c e v ⟨o,ho,hd⟩=>by
  have J1:c∉ch:=λz=>(z7 c z).2.2.1 x c e rfl;by_cases hc:c∈X.fs
  .obtain⟨sl,q⟩:=slot c o (I.cne x c e) hc J1 ho (I.freeC x c e);exact#[_,q,hd]
  .exact#[o,keep c o (I.cne x c e) hc J1 ho (I.freeC x c e),hd]
 refine#[I.ok,I.os,hg,#[λb o e n hb hx=>?_,λb o e n hb hx=>?_,λb o e n hx=>?_,λb o e hx=>?_,λb xs e=>tups b xs (I.base.tups b xs e),λb o xs e=>frzs b o xs (I.base.frzs b o xs e),λb ps e=>?_],?_,λx c e=>?_,?_,λx c e=>?_,λp hp=>?_,hok,I.len]
 .exact keep b o (NQ b o e) hb (K5 b o e hx) (I.base.keep b o e n hb hx) (I.base.free b o e n hx)
 .obtain⟨sl,e1⟩:=I.base.slot b o e n hb hx;obtain⟨q9,e2⟩:=slot b _ (NQ b o e) hb (K5 b o e hx) e1 (I.base.free b o e n hx);exact#[q9,e2]
 .obtain⟨o',e1⟩:=I.base.there b o e hx;exact free b o' (K5 b o e hx) e1 (I.base.free b o e n hx)
 .obtain⟨o',e1⟩:=I.base.there b o e hx;exact there b o' (K5 b o e hx) e1
 .obtain⟨m1,e1⟩:=I.base.tbls b ps e;obtain⟨m2,e2⟩:=tbls b _ e1;exact#[m1++m2,by rw[e2,Array.append_assoc]]
 .obtain⟨m,hn,hl⟩:=I.loc;refine#[m,ns m hn,λi x v e1 e2 e3=>?_];obtain⟨u,r,l⟩:=hl i x v e1 e2 e3;refine#[u,r,?_];rcases l with l|⟨k,c,e,z⟩
  .exact .inl l
  .exact .inr #[k,c,e,k8 x c e _ z]
 .obtain⟨v,z⟩:=I.cell x c e;exact#[v,k8 x c e v z]
 .obtain⟨m,⟨o,_,_,ho,_⟩,_⟩:=I.loc;exact free _ o (λz=>(z7 _ z).2.1 rfl) ho I.free
 .obtain⟨v,o,ho,hd⟩:=I.cell x c e;exact free c o (λz=>(z7 c z).2.2.1 x c e rfl) ho (I.freeC x c e)
 .obtain⟨e,n,ne,nf,d⟩:=I.pin p hp;have J1:p.1∉ch:=λz=>(z7 p.1 z).2.2.2 p hp rfl;exact#[keep p.1 p.2 ne nf J1 e n,free p.1 p.2 J1 e n,ne,nf,d]
def Inv.un{t':Nat}(I:Inv X pins σ H s)(u:Un X.fs [] H H' s.heap h')(hok:HOk X.prog X.w H' h'):Inv X pins σ H' {s with heap:=h',toks:=t'}:=by
 obtain⟨m,⟨o,es,ep,ho,r⟩,_⟩:=id I.loc;obtain⟨sl,hL⟩:=u.any ho I.free J4;exact I.step (g':=s.gens) (d':=s.drawn) (ch:=[]) (λ_ z=>nomatch z) (λb o _ hb _ e n=>u.keep b o e n hb J4) (λb o _ hb _ e n=>u.slot b o e n hb J4) (λb o _ e n=>u.free b o e n J4) (λb o _ e=>u.there b o e J4) u.tups u.frzs u.tbls (λm' hm=>by
  obtain⟨o',K6,LB,I_,r'⟩:=hm;rw[ho]at I_;cases I_;exact#[_,K6,LB,hL,r']) hok I.bare
def Inv.call{t':Nat}{d':Drawn}(I:Inv X pins σ H s)(u:Un (frs X.stack) ch H H' s.heap h')(hok:HOk X.prog X.w H' h')(hg:RP g')
  (z7:∀b∈ch,(b∈X.ex\/X.s₀.heap.objs.size<=b)/\b≠X.env.locals/\(∀x c,X.env.cells.lookup x=be c->c≠b)/\∀p∈X.pn++pins,p.1≠b):
  Inv X pins σ H' {s with heap:=h',gens:=g',drawn:=d',toks:=t'}:=by
 obtain⟨m,⟨o,es,ep,ho,r⟩,_⟩:=id I.loc;obtain⟨sl,hL⟩:=u.any ho I.free λz=>(z7 _ z).2.1 rfl;exact I.step (ch:=ch) z7 (λb o hL hb hc e n=>u.keep b o e n (λz=>(Fb.mp (I.stkSub b z)).elim hL hb) hc) (λb o _ _ hc e n=>u.any e n hc) (λb o hc e n=>u.free b o e n hc) (λb o hc e=>u.there b o e hc) u.tups u.frzs u.tbls (λm' hm=>by
  obtain⟨o',K6,LB,I_,r'⟩:=hm;rw[ho]at I_;cases I_;exact#[_,K6,LB,hL,r']) hok hg
def Inv.turned{t':Nat}{it:Addr}(I:Inv X pins σ H s)(k:∀b o,b≠it->s.heap.get? b=be o->h'.get? b=be o)(hn:H it=z8)(hL:it≠X.env.locals)
  (h1:it∈X.ex\/X.s₀.heap.objs.size<=it) (h2:∀x c,X.env.cells.lookup x=be c->c≠it) (h3:∀p∈X.pn++pins,p.1≠it):Inv X pins σ H {s with heap:=h',toks:=t'}:=by
 have Ja:∀b u,H b=be u->b≠it:=λb u e z=>by rw[z,hn]at e;cases e
 refine I.step (g':=s.gens) (d':=s.drawn) (ch:=[it]) (λb hb=>?_) (λb o _ _ hc e _=>k b o (λz=>hc (by simp[z])) e) (λb o _ _ hc e _=>#[o.slots,k b o (λz=>hc (by simp[z])) e]) (λ_ _ _ _ n=>n)
  (λb o hc e=>#[o,k b o (λz=>hc (by simp[z])) e]) (λ_ _ e=>e) (λ_ _ _ e=>e) (λb ps e=>#[[].toArray,by rw[e];simp]) (λm hm=>?_) (λb u e=>?_) I.bare
 .have e:b=it:=by simpa using hb
  subst e;exact#[h1,hL,h2,h3]
 .obtain⟨o,es,ep,ho,r⟩:=hm;exact#[o,es,ep,k _ o (Ne.symm hL) ho,r]
 .refine(I.hok b u e).stay (λc v hc q=>k c v ?_ q) (λ_ q=>q) λ_ _ q=>q;rcases hc with z|z
  .rw[z];exact Ja b u e
  .exact Ja c _ z
def Inv.tok(I:Inv X pins σ H s)(t:Nat):Inv X pins σ H {s with toks:=t}:=I.un (h':=s.heap) (t':=t) Un.refl I.hok
def Inv.kept{t':Nat}(I:Inv X pins σ H s)(k:∀b u,s.heap.get? b=be u->h'.get? b=be u):Inv X pins σ H {s with heap:=h',toks:=t'}:=I.un (Un.kept k) (I.hok.kept k)
def Inv.laid{a:Addr}{o:HO}{t':Nat}(I:Inv X pins σ H s)(k:∀b u,s.heap.get? b=be u->h'.get? b=be u)(hp:s.heap.objs.size<=a)(new:ObjOk X.prog X.w (upd H a o) h' a o):
  Inv X pins σ (upd H a o) {s with heap:=h',toks:=t'}:=I.un (Un.laid k hp (I.hok.fresh hp)) (I.hok.laid k hp new)
def Inv.write{x e:Addr}{o:HO}{t':Nat}(I:Inv X pins σ H s)(mu:Mut (H x))(he:e=x\/H e=be (.own x))(k:∀b u,b≠e->s.heap.get? b=be u->h'.get? b=be u)(z6:∃u,h'.get? e=be u)
  (new:ObjOk X.prog X.w (upd H x o) h' x o):Inv X pins σ (upd H x o) {s with heap:=h',toks:=t'}:=I.un (Un.write mu he k z6) (I.hok.write mu he k z6 new)
def Inv.pins_of{II:List (Addr×Re)}(I:Inv X pins σ H s)(h:∀p∈II,s.heap.get? p.1=be p.2/\H p.1=z8/\p.1≠X.env.locals/\p.1∉X.fs/\∀v,p.2.data≠.cell v):Inv X II σ H s:=
 #[I.ok,I.os,I.bare,I.base,I.loc,I.cell,I.free,I.freeC,λp hp=>(FH.mp hp).elim (λz=>I.pin p (Ga _ z)) (h p),I.hok,I.len]
variable{x:E_}{i:Nat}
def jc{N:List E_}(hN:N.Nodup){j:Nat}(a:N[i]?=be x)(b:N[j]?=be x):i=j:=by
 obtain⟨h1,e1⟩:=Fk.mp a;obtain⟨h2,e2⟩:=Fk.mp b;exact(List.getElem_inj hN).mp (e1.trans e2.symm)
variable{E:KB->KF->Prop}{Q:Unit->KF->Prop}
def pe{M:SL}{A:Q3}{v:V}{u:KB}(I:Inv X pins σ H s)(hN:X.N.Nodup)(hi:X.N[i]?=be x)(hx:Loc X.env.scope x)(r:RelV v u)
  (h:∀s',Inv X pins (σ.set i (be v)) H s'->(∃a,Heap.SameBut a s.heap s'.heap/\(a=X.env.locals\/X.env.cells.lookup x=be a))->Q () s') (hf:autoParam (zFN X x) zA2):Q1 M A (storeName X.env x u) Q E s:=by
 obtain⟨m,hn,hl⟩:=id I.loc;have u8:(X.env.scope.kind== .class||(X.env.scope.kind== .module&&X.env.locals !=X.env.globals))=false:=by rw[I.ok.kind];rfl
 have hiσ:i<σ.length:=by rw[I.len];exact(Fk.mp hi).1
 have cne:=I.cne;have f6:∀{a:Addr} {h':Heap},(∃o,s.heap.get? a=be o/\H a=z8)->Heap.SameBut a s.heap h'->HOk X.prog X.w H h':=λ{a h'} ha hs b ob e=>by
  obtain⟨_,_,i9⟩:=ha;refine(I.hok b ob e).stay (λc w' hc q=>(hs.2 c ?_).trans q) (λ_ q=>q) λ_ _ q=>q;rintro rfl;rcases hc with rfl|hc
  .rw[i9]at e;cases e
  .rw[i9]at hc;cases hc
 rcases hx with hk|hk
 .refine wpAny_storeName_local hk hn (λh' f8 hs=>?_) u8;obtain⟨oL,_,_,NR,_⟩:=id hn;refine h _ #[I.ok,I.os,I.bare,#[λb o e n hb hx=>?_,λb o e n hb hx=>?_,I.base.free,λb o e hx=>?_,I.base.tups,I.base.frzs,I.base.tbls],#[_,f8,λj y v' e1 e2 e3=>?_],λy c e=>?_,I.free,I.freeC,λp hp=>?_,f6 #[oL,NR,I.free] hs,by simpa using I.len] #[_,hs,.inl rfl]
  .exact(hs.2 b (Fd (Fv (Heap.lt_size e) I.ok.above))).trans (I.base.keep b o e n hb hx)
  .obtain⟨sl,e1⟩:=I.base.slot b o e n hb hx;exact#[sl,(hs.2 b (Fd (Fv (Heap.lt_size e) I.ok.above))).trans e1]
  .obtain⟨o',e1⟩:=I.base.there b o e hx;exact#[o',(hs.2 b (Fd (Fv (Heap.lt_size e) I.ok.above))).trans e1]
  .by_cases hj:j=i
   .subst hj;rw[hi]at e1;cases e1;rw[FI hiσ]at e2;cases e2;exact#[u,r,.inl #[hk,J4]]
   .rw[Fj (Ne.symm hj)]at e2;obtain⟨u',r',q⟩:=hl j y v' e1 e2 e3;refine#[u',r',?_];rcases q with⟨k,e⟩|⟨k,c,e,z⟩
    .refine .inl #[k,?_];have:y≠x:=λe=>hj (jc hN e1 (e ▸ hi));simp[this,e]
    .exact .inr #[k,c,e,z.sameBut hs (cne y c e)]
  .obtain⟨w',z⟩:=I.cell y c e;exact#[w',z.sameBut hs (cne y c e)]
  .obtain⟨e,n,ne,nf,d⟩:=I.pin p hp;exact#[(hs.2 p.1 ne).trans e,n,ne,nf,d]
 .have J2:X.fn x=true:=by
   rcases hf with z|z
   .exact z
   .rw[z]at hk;cases hk
  obtain⟨c,hc⟩:=I.ok.has x (.inl hk);obtain⟨w',z⟩:=I.cell x c hc;refine wpAny_storeName_cell I.ok.kind hk hc z (λh' IJ hs=>?_);obtain⟨oc,NS,LC⟩:=id z;refine h {s with heap:=h'} #[I.ok,I.os,I.bare,#[λb o e n hb hx=>?_,λb o e n hb hx=>?_,I.base.free,λb o e hx=>?_,I.base.tups,I.base.frzs,I.base.tbls],#[m,hn.sameBut hs (Ne.symm (cne x c hc)),λj y v' e1 e2 e3=>?_],λy c' e=>?_,I.free,I.freeC,λp hp=>?_,f6 #[oc,NS,I.freeC x c hc] hs,by simpa using I.len] #[c,hs,.inr hc]
  .exact(hs.2 b (Fd (Fv (Heap.lt_size e) (I.ok.cab x c J2 hc)))).trans (I.base.keep b o e n hb hx)
  .obtain⟨sl,e1⟩:=I.base.slot b o e n hb hx;exact#[sl,(hs.2 b (Fd (Fv (Heap.lt_size e) (I.ok.cab x c J2 hc)))).trans e1]
  .obtain⟨o',e1⟩:=I.base.there b o e hx;exact#[o',(hs.2 b (Fd (Fv (Heap.lt_size e) (I.ok.cab x c J2 hc)))).trans e1]
  .by_cases hj:j=i
   .subst hj;rw[hi]at e1;cases e1;rw[FI hiσ]at e2;cases e2;exact#[u,r,.inr #[.inl hk,c,hc,IJ]]
   .rw[Fj (Ne.symm hj)]at e2;obtain⟨u',r',q⟩:=hl j y v' e1 e2 e3;refine#[u',r',?_];rcases q with q|⟨k,c',e,z'⟩
    .exact .inl q
    .refine .inr #[k,c',e,z'.sameBut hs ?_];rintro rfl;exact hj (jc hN e1 (I.ok.inj _ _ _ e hc ▸ hi))
  .by_cases NT:c'=c
   .subst NT;exact#[_,IJ]
   .obtain⟨w2,z2⟩:=I.cell y c' e;exact#[w2,z2.sameBut hs NT]
  .obtain⟨e,n,ne,nf,d⟩:=I.pin p hp;refine#[(hs.2 p.1 ?_).trans e,n,ne,nf,d];intro q;rw[q,NS]at e;have q':oc=p.2:=Option.some.inj e;exact d w' (by rw[<-q'];exact LC)
def fS{M:SL}{A:Q3}{v:V}{u:KB}(I:Inv X pins σ H s)(hN:X.N.Nodup)(hi:X.N[i]?=be x)(hx:Loc X.env.scope x)(r:RelV v u)
  (h:∀s',Inv X pins (σ.set i (be v)) H s'->Q () s') (hf:autoParam (zFN X x) zA2):Q1 M A (storeName X.env x u) Q E s:=
 pe I hN hi hx r (λs' I' _=>h s' I') hf
def Inv.call'{s':KF}(I:Inv X pins σ H s)(ho:s'.os=s.os)(u:Un (frs X.stack) ch H H' s.heap s'.heap)(hok:HOk X.prog X.w H' s'.heap)(hg:RP s'.gens)
  (z7:∀b∈ch,(b∈X.ex\/X.s₀.heap.objs.size<=b)/\b≠X.env.locals/\(∀x c,X.env.cells.lookup x=be c->c≠b)/\∀p∈X.pn++pins,p.1≠b):Inv X pins σ H' s':=by
 obtain⟨h',g',d',t',o'⟩:=s';have e:o'=s.os:=ho;subst e;exact I.call (g':=g') (t':=t') (d':=d') u hok hg z7
end
abbrev XK:=KB->Option Addr->Hp->Prop
abbrev St:=List (Option V)
abbrev VK:=V->Hp->Prop
abbrev TE:=St->Hp->VK->Prop
abbrev TT:=St->Hp->(Bool->Hp->Prop)->Prop
abbrev TA:=St->Hp->(List V->Hp->Prop)->Prop
structure Ends where
 nx:St->Hp->Prop
 rt:VK
 bk:St->Hp->Prop:=λ_ _=>False
 ct:St->Hp->Prop:=λ_ _=>False
abbrev TS:=Ends->St->Hp->Prop
def EP(X:Cx)(pins:List (Addr×Re))(σ:St)(Q:VK)(u:KB)(s':KF):Prop:=∃v H',Inv X pins σ H' s'/\RelV v u/\Q v H'
def TP(X:Cx)(pins:List (Addr×Re))(σ:St)(Q:Bool->Hp->Prop)(b:Bool)(s':KF):Prop:=∃H',Inv X pins σ H' s'/\Q b H'
def AP(X:Cx)(pins:List (Addr×Re))(σ:St)(Q:List V->Hp->Prop)(us:List KB)(s':KF):Prop:=∃vs H',Inv X pins σ H' s'/\Vals vs us/\Q vs H'
def SP(X:Cx)(pins:List (Addr×Re))(D:Ends)(f:Flow)(s':KF):Prop:=
 match f with
 |.next=>∃σ' H',Inv X pins σ' H' s'/\D.nx σ' H'
 |.brk=>∃σ' H',Inv X pins σ' H' s'/\D.bk σ' H'
 |.cont=>∃σ' H',Inv X pins σ' H' s'/\D.ct σ' H'
 |.ret u=>∃v σ' H',Inv X pins σ' H' s'/\RelV v u/\D.rt v H'
def PE(X:Cx)(e:P3)(t:TE):Prop:=
 ∀(pins:List (Addr×Re)) (s:KF) (σ:St) (H:Hp) (Q:VK),Inv X pins σ H s->t σ H Q->Q1 (QZ X.prog X.w) X.A (Q7 e X.env) (EP X pins σ Q) X.xe s
def PT(X:Cx)(e:P3)(t:TT):Prop:=
 ∀(pins:List (Addr×Re)) (s:KF) (σ:St) (H:Hp) (Q:Bool->Hp->Prop),Inv X pins σ H s->t σ H Q->Q1 (QZ X.prog X.w) X.A (isTrue e X.env (Q7 e X.env)) (TP X pins σ Q) X.xe s
def PW(X:Cx)(e:P3)(t:TT):Prop:=
 ∀(d9:SB KB) (pins:List (Addr×Re)) (s:KF) (σ:St) (H:Hp) (Q:Bool->Hp->Prop),Inv X pins σ H s->t σ H Q->Q1 (QZ X.prog X.w) X.A (isTrue e X.env d9) (TP X pins σ Q) X.xe s
variable{X:Cx}
def PW.pt{e:P3}{t:TT}(h:PW X e t):PT X e t:=h _
def PA(X:Cx)(es:List P3)(t:TA):Prop:=
 ∀(pos:Q_) (pins:List (Addr×Re)) (s:KF) (σ:St) (H:Hp) (Q:List V->Hp->Prop),Inv X pins σ H s->t σ H Q->Q1 (QZ X.prog X.w) X.A (spliced (Rx pos (Q4 es X.env))) (AP X pins σ Q) X.xe s
def PS(X:Cx)(st:Q0)(t:TS):Prop:=
 ∀(pins:List (Addr×Re)) (s:KF) (σ:St) (H:Hp) (D:Ends),Inv X pins σ H s->t D σ H->Q1 (QZ X.prog X.w) X.A (exec st X.env) (SP X pins D) X.xe s
def PSs(X:Cx)(st:List Q0)(t:TS):Prop:=
 ∀(pins:List (Addr×Re)) (s:KF) (σ:St) (H:Hp) (D:Ends),Inv X pins σ H s->t D σ H->Q1 (QZ X.prog X.w) X.A (execs st X.env) (SP X pins D) X.xe s
variable{A:Q3}{E:KB->KF->Prop}{s:KF}
def thn{α:Type}{t:SB α}{Q Q':α->KF->Prop}{M:SL}(h:Q1 M A t Q E s)(hQ:∀a s,Q a s->Q' a s):Q1 M A t Q' E s:=Q9 h hQ λ_ _ x=>x
section
variable {X:Cx}
def tVar(i:Nat):TE:=λσ H Q=>∃v,σ[i]?=be (be v)/\Q v H
def tC(v:V):TE:=λ_ H Q=>Q v H
variable{x:E_}{pos:Q_}
def cG{i:Nat}(hN:X.N[i]?=be x)(hv:Vis X.env.scope x)(hd:autoParam (zND x) zA1)(d_:autoParam (zNC x) zA1):PE X (.Name x pos) (tVar i):=by
 intro pins s σ H Q I h;obtain⟨v,e,h⟩:=h;obtain⟨m,hn,hl⟩:=I.loc;obtain⟨u,r,l⟩:=hl i x v hN e hv;have ge:EP X pins σ Q u s:=#[v,H,I,r,h];rcases l with⟨hk,hm⟩|⟨hk,c,hc,k9⟩
 .exact SR (wpAny_loadName_local I.ok.kind hk hn hm ge) hd
 .rcases hk with hk|hk
  .exact SR (wpAny_loadName_cell I.ok.kind hk hc k9 ge) hd
  .exact SR (wpAny_loadName_free I.ok.kind hk hc k9 ge d_) hd
def uz{i j pos}:PE X (.Constant (.int i) j pos) (tC (.int i)):=λ_ _ _ H _ I h=>wpAny_Constant_int #[.int i,H,I.tok _,#[_,rfl],h]
def va{b j pos}:PE X (.Constant (.bool b) j pos) (tC (.bl b)):=λ_ _ _ H _ I h=>Constant_bool #[.bl b,H,I,rfl,h]
def vb{j pos}:PE X (.Constant .none j pos) (tC .non):=λ_ _ _ H _ I h=>Constant_none #[.non,H,I,rfl,h]
def pf{x j pos}:PE X (.Constant (.str x) j pos) (tC (.str x)):=λ_ _ _ H _ I h=>Calls.Constant_str #[.str x,H,I.tok _,#[_,rfl],h]
def Gl(X:Cx)(x:E_):Prop:=X.env.kindOf x=be .globalImplicit
variable{E Q:KB->KF->Prop}{pins:List (Addr×Re)}{u:KB}
def cj{s:KF}{σ:St}{H:Hp}(I:Inv X pins σ H s)(hg:Gl X x)(hm:X.mg x=be u)(h:Q u s)
  (hd:autoParam (zND x) zA1):Q1 (QZ X.prog X.w) X.A (Q7 (.Name x pos) X.env) Q E s:=
 Calls.Name_function_global I.ok.kind hg (Calls.loadGlobal_global (by rw[I.ok.glob];exact I.mod.glob.keeps I.bk) hm h) hd
def df{s:KF}{σ:St}{H:Hp}(I:Inv X pins σ H s)(hg:Gl X x)(hm:X.mg x=z8)(hv:Rc x=be u)(h:Q u s)
  (hn:autoParam (x≠"__name__") zA1) (hd:autoParam (zND x) zA1):Q1 (QZ X.prog X.w) X.A (Q7 (.Name x pos) X.env) Q E s:=by
 obtain⟨mb,h1,h2⟩:=I.mod.blt;exact Calls.Name_function_global I.ok.kind hg (Calls.loadGlobal_builtin (by rw[I.ok.glob];exact I.mod.glob.keeps I.bk) hm (by rw[I.ok.blt];exact h1.keeps I.bk) ((h2 x hn).trans hv) h) hd
def vc{v:V}(hg:Gl X x)(hm:X.mg x=be u)(r:RelV v u)(hd:autoParam (zND x) zA1):PE X (.Name x pos) (tC v):=
 λ_ _ _ H _ I h=>cj I hg hm #[v,H,I,r,h] hd
def ph{v:V}(hg:Gl X x)(hm:X.mg x=z8)(hv:Rc x=be u)(r:RelV v u)(hn:autoParam (x≠"__name__") zA1)(hd:autoParam (zND x) zA1):PE X (.Name x pos) (tC v):=
 λ_ _ _ H _ I h=>df I hg hm hv #[v,H,I,r,h] hn hd
variable {a b:P3}{ta tb:TE}{pos:Q_}
def tB(t:TE):TT:=λσ H Q=>t σ H λx H1=>∃c,x=.bl c/\Q c H1
variable {tA C_:TT}{rest:List P3}
def tAnd(t u:TT):TT:=λσ H Q=>t σ H λc H1=>if c=true then u σ H1 Q else Q false H1
def tOr(t u:TT):TT:=λσ H Q=>t σ H λc H1=>if c=true then Q true H1 else u σ H1 Q
def tNot(t:TT):TT:=λσ H Q=>t σ H λc H1=>Q (!c) H1
def pi(ha:PT X a tA):PW X (.BoolOp .And [a] pos) tA:=by
 intro wh pins s σ H Q I h;refine isTrue_and (thn (ha pins s σ H Q I h) λc s1 e=>?_);cases c with
 |true=>exact isTrue_and_nil e
 |false=>exact e
def pj(ha:PT X a tA):PW X (.BoolOp .Or [a] pos) tA:=by
 intro wh pins s σ H Q I h;refine isTrue_or (thn (ha pins s σ H Q I h) λc s1 e=>?_);cases c with
 |false=>exact isTrue_or_nil e
 |true=>exact e
def pk(ha:PT X a tA)(hb:PW X (.BoolOp .And (b::rest) pos) C_):PW X (.BoolOp .And (a::b::rest) pos) (tAnd tA C_):=by
 intro wh pins s σ H Q I h;refine isTrue_and (thn (ha pins s σ H _ I h) λc s1 b9=>?_);obtain⟨H1,I1,q1⟩:=b9;cases c with
 |true=>exact hb wh pins s1 σ H1 Q I1 q1
 |false=>exact#[H1,I1,q1]
def pq(ha:PT X a tA)(hb:PW X (.BoolOp .Or (b::rest) pos) C_):PW X (.BoolOp .Or (a::b::rest) pos) (tOr tA C_):=by
 intro wh pins s σ H Q I h;refine isTrue_or (thn (ha pins s σ H _ I h) λc s1 b9=>?_);obtain⟨H1,I1,q1⟩:=b9;cases c with
 |true=>exact#[H1,I1,q1]
 |false=>exact hb wh pins s1 σ H1 Q I1 q1
def pr(ha:PT X a tA):PT X (.UnaryOp .Not a pos) (tNot tA):=by
 intro pins s σ H Q I h;exact isTrue_not (ha pins s σ H (λc H1=>Q (!c) H1) I h)
def vd(ta tb:TE):TE:=λσ H Q=>ta σ H λx H1=>∃c,x=.bl c/\if c=true then tb σ H1 Q else Q (.bl false) H1
def ve(ta:TE):TE:=λσ H Q=>ta σ H λx H1=>∃c,x=.bl c/\Q (.bl (!c)) H1
def vf{op}{t:TE}(h:PE X a t):PE X (.BoolOp op [a] pos) t:=λpins s σ H Q I hw=>BoolOp_one (h pins s σ H Q I hw)
def vg(ha:PE X a ta)(hb:PE X (.BoolOp .And (b::rest) pos) tb):PE X (.BoolOp .And (a::b::rest) pos) (vd ta tb):=by
 intro pins s σ H Q I h;refine BoolOp_and (thn (ha pins s σ H _ I h) λv s1 b9=>?_);obtain⟨x,H1,I1,r1,q1⟩:=b9;obtain⟨c,rfl,q1⟩:=q1;cases r1;refine RL ?_;cases c with
 |true=>exact hb pins s1 σ H1 Q I1 q1
 |false=>exact#[.bl false,H1,I1,rfl,q1]
def vh(ha:PE X a ta):PE X (.UnaryOp .Not a pos) (ve ta):=by
 intro pins s σ H Q I h;refine UnaryOp_ (thn (ha pins s σ H _ I h) λv s1 b9=>?_);obtain⟨x,H1,I1,r1,q1⟩:=b9;obtain⟨c,rfl,q1⟩:=q1;cases r1;exact not_of (RL #[.bl (!c),H1,I1,rfl,q1])
def tIf(t:TT)(ta tb:TE):TE:=λσ H Q=>t σ H λc H1=>if c=true then ta σ H1 Q else tb σ H1 Q
def vi{c:P3}(hc:PT X c tA)(ha:PE X a ta)(hb:PE X b tb):PE X (.IfExp c a b pos) (tIf tA ta tb):=by
 intro pins s σ H Q I h;refine wpAny_IfExp (thn (hc pins s σ H _ I h) λd s1 b9=>?_);obtain⟨H1,I1,q1⟩:=b9;cases d with
 |true=>exact ha pins s1 σ H1 Q I1 q1
 |false=>exact hb pins s1 σ H1 Q I1 q1
end
def SqL(K:Ex)(H:Hp)(a:Addr)(xs:List V):Prop:=
 Rd H a (.lst xs)\/
  ∃(o:Re) (its:Array KB) (n:Nat),K.lookup a=be o/\o.cls=.type "list"/\o.dict=z8/\o.data=.seq its n/\its.size<=sizeLine/\Vals xs its.toList
def SqT(K:Ex)(H:Hp)(a:Addr)(xs:List V):Prop:=
 Rd H a (.tup xs)\/
  ∃(o:Re) (its:Array KB) (n:Nat),K.lookup a=be o/\o.cls=.type "tuple"/\o.data=.seq its n/\its.size<=sizeLine/\Vals xs its.toList
def absV:KB->Option V
 |.none=>be .non
 |.bool b=>be (.bl b)
 |.int i _=>be (.int i)
 |.str x _=>be (.str x)
 |.bytes b _=>be (.byt b)
 |.float b _=>be (.flt b)
 |.ref a=>be (.ref a)
 |.type n=>be (.ty n)
 |_=>z8
variable{u:KB}
def RelV.abs{x:V}(r:RelV x u):absV u=be x:=by
 cases x with
 |non=>cases r;rfl
 |bl _=>cases r;rfl
 |int _=>obtain⟨t,rfl⟩:=r;rfl
 |str _=>obtain⟨t,rfl⟩:=r;rfl
 |byt _=>obtain⟨t,rfl⟩:=r;rfl
 |flt _=>obtain⟨t,rfl⟩:=r;rfl
 |ref _=>cases r;rfl
 |ty _=>cases r;rfl
def RelV.inj{x y:V}(r:RelV x u)(q:RelV y u):x=y:=Option.some.inj (r.abs.symm.trans q.abs)
def Vals.inj:∀{xs ys:List V} {us:List KB},Vals xs us->Vals ys us->xs=ys:=by
 intro xs ys us h;induction h generalizing ys with
 |nil=>intro g;cases g;rfl
 |cons r _ e=>
  intro g;cases g with
  |cons r' t'=>rw[r.inj r',e t']
section
variable {X:Cx}{pins:List (Addr×Re)}{σ:St}{H:Hp}{s:KF}{a:Addr}{xs ys:List V}
def SqL.of{K:Ex}(h:H a=be (.lst xs)):SqL K H a xs:=.inl (.inl h)
def SqT.of{K:Ex}(h:H a=be (.tup xs)):SqT K H a xs:=.inl (.inl h)
def Inv.list(I:Inv X pins σ H s)(h:SqL X.K H a xs):∃its:List KB,Vals xs its/\PlainL s.heap a its.toArray/\xs.length<=sizeLine:=by
 rcases h with h|⟨o,its,n,hk,hc,hd,hs,hz,r⟩
 .obtain⟨z,its,n,r,e⟩:=h.ok I.hok;exact#[its,r,#[_,n,e,rfl,rfl,rfl],z]
 .refine#[its.toList,r,#[o,n,I.kIn a o hk,hc,hd,by simpa using hs],?_];have e:=r.length;simp only[GE]at e;lia
def Inv.tuple(I:Inv X pins σ H s)(h:SqT X.K H a xs):∃its:List KB,Vals xs its/\IsTup s.heap a its.toArray/\xs.length<=sizeLine:=by
 rcases h with h|⟨o,its,n,hk,hc,hs,hz,r⟩
 .obtain⟨z,its,r,p⟩:=h.ok I.hok;exact#[its,r,p,z]
 .refine#[its.toList,r,#[o,I.kIn a o hk,hc,n,by simpa using hs],?_];have e:=r.length;simp only[GE]at e;lia
def Inv.list_inj(I:Inv X pins σ H s)(h:SqL X.K H a xs)(h':SqL X.K H a ys):xs=ys:=by
 obtain⟨its,r,⟨o,n,e,_,_,d⟩,_⟩:=I.list h;obtain⟨its',r',⟨o',n',e',_,_,d'⟩,_⟩:=I.list h';rw[e]at e';cases e';rw[d]at d';injection d' with d1 _;have:its=its':=by simpa using congrArg Array.toList d1
 subst this;exact r.inj r'
end
abbrev Cx.wish(X:Cx)(E:KB->KF->Prop):Cx:={X with xe:=E}
abbrev Cx.nox(X:Cx):Cx:=X.wish λ_ _=>False
def Cx.Ok.wish(ok:X.Ok)(E:KB->KF->Prop):(X.wish E).Ok:=
 #[ok.mod,ok.kind,ok.glob,ok.blt,ok.above,ok.inj,ok.has,ok.cab,ok.hd,ok.frames,ok.stk,ok.exf,ok.bs,ok.bsz,ok.noex,ok.exfs,ok.funs,ok.frf]
def Cx.Ok.unwish(ok:(X.wish E).Ok):X.Ok:=
 #[ok.mod,ok.kind,ok.glob,ok.blt,ok.above,ok.inj,ok.has,ok.cab,ok.hd,ok.frames,ok.stk,ok.exf,ok.bs,ok.bsz,ok.noex,ok.exfs,ok.funs,ok.frf]
section
variable {X:Cx}{pins:List (Addr×Re)}{σ:St}{H:Hp}{s:KF}{E:KB->KF->Prop}
def Inv.wish(I:Inv X pins σ H s)(E:KB->KF->Prop):Inv (X.wish E) pins σ H s:=#[I.ok.wish E,I.os,I.bare,I.base,I.loc,I.cell,I.free,I.freeC,I.pin,I.hok,I.len]
def Inv.unwish(I:Inv (X.wish E) pins σ H s):Inv X pins σ H s:=#[I.ok.unwish,I.os,I.bare,I.base,I.loc,I.cell,I.free,I.freeC,I.pin,I.hok,I.len]
def SP.unwish{D:Ends}{f:Flow}{s':KF}(h:SP (X.wish E) pins D f s'):SP X pins D f s':=by
 cases f with
 |next=>obtain⟨σ',H',I,q⟩:=h;exact#[σ',H',I.unwish,q]
 |brk=>obtain⟨σ',H',I,q⟩:=h;exact#[σ',H',I.unwish,q]
 |cont=>obtain⟨σ',H',I,q⟩:=h;exact#[σ',H',I.unwish,q]
 |ret u=>obtain⟨v,σ',H',I,r,q⟩:=h;exact#[v,σ',H',I.unwish,r,q]
def PE.nox{e:P3}{t:TE}(h:PE X.nox e t):PE X e t:=λpins s σ H Q I hw=>
 Q9 (h pins s σ H Q (I.wish _) hw) (λ_ _ ⟨v,H',I',r,q⟩=>#[v,H',I'.unwish,r,q]) λ_ _ z=>False.elim z
def PT.nox{e:P3}{t:TT}(h:PT X.nox e t):PT X e t:=λpins s σ H Q I hw=>
 Q9 (h pins s σ H Q (I.wish _) hw) (λ_ _ ⟨H',I',q⟩=>#[H',I'.unwish,q]) λ_ _ z=>False.elim z
def PSs.nox{st:List Q0}{t:TS}(h:PSs X.nox st t):PSs X st t:=λpins s σ H D I hw=>
 Q9 (h pins s σ H D (I.wish _) hw) (λ_ _ q=>q.unwish) λ_ _ z=>False.elim z
end
section
variable {X:Cx}{st:Q0}{rest:List Q0}{t u:TS}{e:P3}{te:TE}{pos:Q_}
def vj:TS:=λD σ H=>D.nx σ H
def tSeq(t u:TS):TS:=λD σ H=>t {D with nx:=u D} σ H
def pss_nil:PSs X [] vj:=λ_ _ σ H _ I h=>RH #[σ,H,I,h]
def dN(h1:PS X st t)(h2:PSs X rest u):PSs X (st::rest) (tSeq t u):=by
 intro pins s σ H D I h;refine wpAny_execs_cons (thn (h1 pins s σ H {D with nx:=u D} I h) λf s1 q=>?_);cases f with
 |next=>
  obtain⟨σ',H',I',q⟩:=q;exact h2 pins s1 σ' H' D I' q
 |ret v=>exact q
 |brk=>exact q
 |cont=>exact q
def pv(h1:PS X st t):PSs X [st] t:=by
 intro pins s σ H D I h;refine wpAny_execs_cons (thn (h1 pins s σ H D I h) λf s1 q=>?_);cases f with
 |next=>exact RH q
 |ret v=>exact q
 |brk=>exact q
 |cont=>exact q
def Inv.quiet{pins:List (Addr×Re)}{σ:St}{H:Hp}{s:KF}(I:Inv X pins σ H s):interactive X.env=false:=by simp[interactive,I.ok.kind]
def vk(te:TE):TS:=λD σ H=>te σ H λ_ H1=>D.nx σ H1
def jd(he:PE X e te)(hs:autoParam (Rh e z8 pos.line X.env=pure false) zA0):PS X (.Expr e pos) (vk te):=by
 intro pins s σ H D I h;exact wpAny_Expr_any (thn (he pins s σ H _ I h) λv s1 ⟨x,H1,I1,r1,q1⟩=>#[σ,H1,I1,q1]) I.quiet hs
def tRet(te:TE):TS:=λD σ H=>te σ H D.rt
def pw(he:PE X e te):PS X (.Return (be e) pos) (tRet te):=by
 intro pins s σ H D I h;exact wpAny_Return_some (thn (he pins s σ H _ I h) λv s1 ⟨x,H1,I1,r1,q1⟩=>#[x,σ,H1,I1,r1,q1])
def tIfS(c:TT)(t u:TS):TS:=λD σ H=>c σ H λb H1=>if b=true then t D σ H1 else u D σ H1
def pz{c:P3}{a b:List Q0}{tc:TT}(hc:PT X c tc)(ha:PSs X a t)(hb:PSs X b u):PS X (.If c a b pos) (tIfS tc t u):=by
 intro pins s σ H D I h;refine wpAny_If (thn (hc pins s σ H _ I h) λd s1 b9=>?_);obtain⟨H1,I1,q1⟩:=b9;cases d with
 |true=>exact ha pins s1 σ H1 D I1 q1
 |false=>exact hb pins s1 σ H1 D I1 q1
def vm:TS:=λ_ _ _=>False
def ps_never:PS X st vm:=λ_ _ _ _ _ _ h=>h.elim
end
abbrev TG:=V->St->Hp->(St->Hp->Prop)->Prop
abbrev TGs:=List V->St->Hp->(St->Hp->Prop)->Prop
def PG(X:Cx)(f9:P3)(t:TG):Prop:=
 ∀(pins:List (Addr×Re)) (s:KF) (σ:St) (H:Hp) (v:V) (u:KB) (Q:St->Hp->Prop),Inv X pins σ H s->RelV v u->t v σ H Q->
  Q1 (QZ X.prog X.w) X.A (RA f9 X.env u) (λ_ s'=>∃σ' H',Inv X pins σ' H' s'/\Q σ' H') X.xe s
def PGs(X:Cx)(ts:List P3)(t:TGs):Prop:=
 ∀(pins:List (Addr×Re)) (s:KF) (σ:St) (H:Hp) (vs:List V) (us:List KB) (Q:St->Hp->Prop),Inv X pins σ H s->Vals vs us->t vs σ H Q->
  Q1 (QZ X.prog X.w) X.A (assignInOrder ((Q5 ts X.env).map (·.2)) us) (λ_ s'=>∃σ' H',Inv X pins σ' H' s'/\Q σ' H') X.xe s
abbrev TSet:=V->V->V->Hp->(Hp->Prop)->Prop
def PSet(X:Cx)(t:TSet):Prop:=
 ∀(pins:List (Addr×Re)) (s:KF) (σ:St) (H:Hp) (o i v:V) (ov iv u:KB) (Q:Hp->Prop),Inv X pins σ H s->RelV o ov->RelV i iv->RelV v u->t o i v H Q->
  Q1 (QZ X.prog X.w) X.A (Sv ov iv u) (λ_ s'=>∃H',Inv X pins σ H' s'/\Q H') X.xe s
abbrev TIp:=V->V->Hp->VK->Prop
def PIp(X:Cx)(op:Sm)(t:TIp):Prop:=
 ∀(pins:List (Addr×Re)) (s:KF) (σ:St) (H:Hp) (x y:V) (v u:KB) (Q:VK),Inv X pins σ H s->RelV x v->RelV y u->t x y H Q->
  Q1 (QZ X.prog X.w) X.A (inplaceOp op v u) (EP X pins σ Q) X.xe s
section
variable {X:Cx}{pos:Q_}
def fT(i:Nat):TG:=λv σ H Q=>Q (σ.set i (be v)) H
def dO{i:Nat}{x:E_}(hN:X.N.Nodup)(hi:X.N[i]?=be x)(hx:Loc X.env.scope x)(hf:autoParam (zFN X x) zA2):PG X (.Name x pos) (fT i):=by
 intro pins s σ H v u Q I r h;exact R8 (fS I hN hi hx r (λs' I'=>#[_,H,I',h]) hf)
def gNil:TGs:=λvs σ H Q=>vs=[]/\Q σ H
def vn(t:TG)(u:TGs):TGs:=λvs σ H Q=>∃v r,vs=v::r/\t v σ H λσ' H'=>u r σ' H' Q
def vo:PGs X [] gNil:=by
 intro pins s σ H vs us Q I r h;obtain⟨e,h⟩:=h;subst e;cases r;exact assignInOrder_nil #[σ,H,I,h]
variable{e:P3}{es:List P3}
def vp{t:TG}{u:TGs}(h1:PG X e t)(h2:PGs X es u)
  (hs:autoParam ((Q5 (e::es) X.env).map (·.2)=RA e X.env::(Q5 es X.env).map (·.2)) zA0):PGs X (e::es) (vn t u):=by
 intro pins s σ H vs us Q I r h;obtain⟨v,vr,e1,h⟩:=h;subst e1;cases r with
 |cons r rr=>
  rw[hs];refine assignInOrder_cons (thn (h1 pins s σ H _ _ _ I r h) λ_ s1 b9=>?_);obtain⟨σ1,H1,I1,q1⟩:=b9;exact h2 pins s1 σ1 H1 _ _ Q I1 rr q1
def gTup(K:Ex)(n:Nat)(t:TGs):TG:=λv σ H Q=>∃a xs,v=.ref a/\SqT K H a xs/\xs.length=n/\t xs σ H Q
def eZ{k:Nat}{t:TGs}{n:Nat}(hc:X.calm=true)(h:PGs X es t)
  (hn:autoParam ((Q5 es X.env).length=n) zA0) (j4:autoParam ((Q5 es X.env).findIdx? (·.1)=none) zA0):PG X (.Tuple es k pos) (gTup X.K n t):=by
 intro pins s σ H v u Q I r hw;obtain⟨a,xs,e1,hq,hl,hw⟩:=hw;subst e1;cases r;obtain⟨its,rv,ht,hz⟩:=I.tuple hq;refine assign_Tuple_tuple (I.ok.hd hc) ht (by simp[hn,<-hl,rv.length]) j4 λh' hx=>?_;have I1:Inv X pins σ H {s with heap:=h'}:=I.kept (t':=s.toks) λb o e=>hx b o (Fd (Heap.lt_size e)) e;exact h pins _ σ H xs _ Q I1 (by simpa using rv) hw
def gSub(to ti:TE)(t:TSet):TG:=λv σ H Q=>to σ H λo H1=>ti σ H1 λi H2=>t o i v H2 λH3=>Q σ H3
def vq{o i:P3}{to ti:TE}{t:TSet}(ho:PE X o to)(hi:PE X i ti)(hs:PSet X t)
  (ha:∀v,RA (.Subscript o i pos) X.env v=(do
   let ov <-Rq [v] (Q7 o X.env)
   let iv <-Rq [v,ov] (Q7 i X.env)
   RK pos
   Rq [v,ov,iv] (Sv ov iv v)
   SZ [v,ov,iv] []):=by intro _;rfl):PG X (.Subscript o i pos) (gSub to ti t):=by
 intro pins s σ H v u Q I r h;rw[ha];refine KM (Rk (thn (ho pins s σ H _ I h) λov s1 b9=>?_));obtain⟨x,H1,I1,r1,q1⟩:=b9;refine KM (Rk (thn (hi pins s1 σ H1 _ I1 q1) λiv s2 b9=>?_));obtain⟨y,H2,I2,r2,q2⟩:=b9;refine KM (RB (KM (Rk (thn (hs pins s2 σ H2 x y v ov iv u _ I2 r1 r2 r q2) λ_ s3 b9=>?_))));obtain⟨H3,I3,q3⟩:=b9;exact wpAny_release #[σ,H3,I3,q3]
def tAsg(te:TE)(g:TG):TS:=λD σ H=>te σ H λx H1=>g x σ H1 D.nx
variable{te:TE}
def fU{tg:P3}{g:TG}(he:PE X e te)(hg:PG X tg g)(hs:autoParam (RQ [tg] e pos.line X.env=pure false) zA0)(hw:autoParam (RR [tg] e X.env=pure none) zA0)
  (h1:autoParam ((Q5 [tg] X.env).map (·.2)=[RA tg X.env]) zA0):PS X (.Assign [tg] e pos) (tAsg te g):=by
 intro pins s σ H D I h;refine wpAny_Assign_stores (thn (he pins s σ H _ I h) λv s1 hh=>?_) hs hw;obtain⟨x,H1,I1,r1,q1⟩:=hh;rw[h1];exact thn (hg pins s1 σ H1 x v _ I1 r1 q1) λ_ s2 q=>q
def je{i:Nat}{x:E_}{c7:Q_}(hN:X.N.Nodup)(hi:X.N[i]?=be x)(hx:Loc X.env.scope x)(he:PE X e te)(hs:autoParam (Rh e (be (.Name x c7)) pos.line X.env=pure false) zA0)(hf:autoParam (zFN X x) zA2):
  PS X (.Assign [.Name x c7] e pos) (tAsg te (fT i)):=by
 intro pins s σ H D I h;refine wpAny_Assign_Name (thn (he pins s σ H _ I h) λv s1 hh=>?_) hs;obtain⟨y,H1,I1,r1,q1⟩:=hh;exact fS I1 hN hi hx r1 (λs2 I2=>#[_,H1,I2,q1]) hf
def vt(to ti te:TE)(D':V->V->Hp->VK->Prop)(K7:TIp)(D_:TSet):TS:=λD σ H=>to σ H λo H1=>ti σ H1 λi H2=>D' o i H2 λx H3=>te σ H3 λy H4=>K7 x y H4 λz H5=>D_ o i z H5 λH6=>D.nx σ H6
def PGet(X:Cx)(t:V->V->Hp->VK->Prop):Prop:=
 ∀(pins:List (Addr×Re)) (s:KF) (σ:St) (H:Hp) (o i:V) (ov iv:KB) (Q:VK),Inv X pins σ H s->RelV o ov->RelV i iv->t o i H Q->
  Q1 (QZ X.prog X.w) X.A (Sh ov iv) (EP X pins σ Q) X.xe s
def vw{o i:P3}{to ti:TE}{D':V->V->Hp->VK->Prop}{K7:TIp}{D_:TSet}{op:Sm}{J3:Q_}(ho:PE X o to)(hi:PE X i ti)(hg:PGet X D')(he:PE X e te)(hp:PIp X op K7)(hs:PSet X D_)
  (ha:autoParam (∀ov iv new,augStore i ov iv new=(do Rq [new,ov,iv] (Sv ov iv new);SZ [new,ov,iv] [];pure .next)) zA7):PS X (.AugAssign (.Subscript o i J3) op e pos) (vt to ti te D' K7 D_):=by
 intro pins s σ H D I h;refine wpAny_AugAssign_SubscriptAny (thn (ho pins s σ H _ I h) λov s1 hh=>?_) ha;obtain⟨x1,H1,I1,r1,q1⟩:=hh;refine thn (hi pins s1 σ H1 _ I1 q1) λiv s2 b9=>?_;obtain⟨x2,H2,I2,r2,q2⟩:=b9;refine thn (hg pins s2 σ H2 x1 x2 ov iv _ I2 r1 r2 q2) λj5 s3 b9=>?_;obtain⟨x3,H3,I3,r3,q3⟩:=b9;refine thn (he pins s3 σ H3 _ I3 q3) λv s4 b9=>?_;obtain⟨x4,H4,I4,r4,q4⟩:=b9;refine thn (hp pins s4 σ H4 x3 x4 j5 v _ I4 r3 r4 q4) λnew s5 b9=>?_;obtain⟨x5,H5,I5,r5,q5⟩:=b9;exact thn (hs pins s5 σ H5 x1 x2 x5 ov iv new _ I5 r1 r2 r5 q5) λ_ s6 ⟨H6,I6,q6⟩=>#[σ,H6,I6,q6]
def ipI(f:Int->Int->Int):TIp:=λx y H Q=>∃i j,x=.int i/\y=.int j/\Q (.int (f i j)) H
def vx:PIp X .Add (ipI λi j=>i+j):=by
 intro pins s σ H x y v u Q I r1 r2 h;obtain⟨i,j,e1,e2,q⟩:=h;subst e1;subst e2;obtain⟨t,rfl⟩:=r1;obtain⟨t',rfl⟩:=r2;exact iadd_int #[.int _,H,I.tok _,#[_,rfl],q]
def vy(c:TT)(tb:TS):TS:=λD σ H=>∃W:Nat->St->Hp->Prop,(∃m,W m σ H)/\∀m σ H,W m σ H->
 c σ H λb H1=>if b=true then ∃N:St->Hp->Prop,(∀σ' H',N σ' H'->∃m',m'<m/\W m' σ' H')/\tb {D with nx:=N,ct:=N,bk:=D.nx} σ H1 else D.nx σ H1
def pA{c:P3}{body:List Q0}{tc:TT}{tb:TS}(hp:Rm (QZ X.prog X.w) X.A X.env X.xe)(hc:PT X c tc)(hb:PSs X body tb):PS X (.While c body [] pos) (vy tc tb):=by
 intro pins s σ H D I h;obtain⟨W,⟨m0,w0⟩,c3⟩:=h;refine wpAny_While (codeAny_whileLoop (λn s'=>∃σ' H',Inv X pins σ' H' s'/\W n σ' H') ?_ m0 #[σ,H,I,w0]);rintro n s1⟨σ1,H1,I1,w1⟩;refine Rn hp (thn (hc pins s1 σ1 H1 _ I1 (c3 n σ1 H1 w1)) λb s2 b9=>?_);obtain⟨H2,I2,q2⟩:=b9;cases b with
 |true=>
  obtain⟨N,hN,q2⟩:=q2;rw[if_pos rfl];refine Rn hp (thn (hb pins s2 σ1 H2 _ I2 q2) λf s3 q3=>?_);cases f with
  |next=>
   obtain⟨σ3,H3,I3,n3⟩:=q3;obtain⟨m',hm,w3⟩:=hN σ3 H3 n3;exact#[m',hm,σ3,H3,I3,w3]
  |cont=>
   obtain⟨σ3,H3,I3,n3⟩:=q3;obtain⟨m',hm,w3⟩:=hN σ3 H3 n3;exact#[m',hm,σ3,H3,I3,w3]
  |brk=>exact q3
  |ret v=>exact q3
 |false=>
  rw[if_neg Fh];exact RH #[σ1,H2,I2,q2]
end
structure It where
 go:Nat->Hp->Prop
 yld:Nat->Hp->V->Hp->Prop
 stop:Nat->Hp->Prop
def FpOk(X:Cx)(pins:List (Addr×Re))(H:Hp)(b:Addr):Prop:=
 H b=z8/\b≠X.env.locals/\b∉X.fs/\(b∈X.ex\/X.s₀.heap.objs.size<=b)/\(∀x c,X.env.cells.lookup x=be c->c≠b)/\∀p∈X.pn++pins,p.1≠b
variable{σ:St}
def Inv.fpOk{pins:List (Addr×Re)}{H':Hp}(I:Inv X pins σ H s)(hb:s.heap.objs.size<=b)(hn:H' b=z8):FpOk X pins H' b:=by
 refine#[hn,FU (Fv I.lt hb),I.nofs hb,.inr (Fg I.sz hb),λx c e z=>?_,λp hp z=>?_]
 .obtain⟨v,q⟩:=I.cell x c e;exact absurd (Fv q.lt (by rw[z];exact hb)) (FY _)
 .exact absurd (Fv (Heap.lt_size (I.pin p hp).1) (by rw[z];exact hb)) (FY _)
structure Turn(P:Pi)(w:Q2)(K:Ex)(tg:P3)(J:It)(fp:List Addr)(it:Addr)(tn:Nat->Heap->Prop):Prop where
 mem:it∈fp
 obj:∀i h,tn i h->∀b∈fp,∃o,h.get? b=be o/\∀v,o.data≠.cell v
 keep:∀i h h',tn i h->(∀b∈fp,∀o,h.get? b=be o->h'.get? b=be o)->tn i h'
 item:∀(X:Cx),X.prog=P->X.w=w->X.K=K->X.calm=true->∀(i:Nat) (pins:List (Addr×Re)) (s:KF) (σ:St) (H:Hp) (E:KB->KF->Prop),Inv X pins σ H s->(∀b∈fp,FpOk X pins H b)->tn i s.heap->J.go i H->
  Q1 (QZ P w) X.A (pyNext (.ref it)) (λr s1=>∃u,r=be u/\
   Q1 (QZ P w) X.A (RZ tg (.ref it) u) (λ_ s2=>∃x H',Inv X pins σ H' s2/\RelV x u/\J.yld i H x H'/\tn (i+1) s2.heap/\∀b∈fp,H' b=z8) E s1) E s
 done:∀(X:Cx),X.prog=P->X.w=w->X.K=K->X.calm=true->∀(i:Nat) (pins:List (Addr×Re)) (s:KF) (σ:St) (H:Hp) (E:KB->KF->Prop),Inv X pins σ H s->(∀b∈fp,FpOk X pins H b)->tn i s.heap->J.stop i H->
  Q1 (QZ P w) X.A (pyNext (.ref it)) (λr s1=>r=z8/\Inv X pins σ H s1) E s
 self:∀(A:Q3) (i:Nat) (s:KF) (Q:KB->KF->Prop) (E:KB->KF->Prop),tn i s.heap->Q (.ref it) s->Q1 (QZ P w) A (pyIter (.ref it)) Q E s
abbrev TI:=St->Hp->(It->Hp->Prop)->Prop
def PIE(X:Cx)(pins:List (Addr×Re))(σ:St)(tg:P3)(R:It->Hp->Prop)(K8:KB)(s2:KF):Prop:=
 ∃(it:Addr) (fp:List Addr) (tn:Nat->Heap->Prop) (J:It) (H':Hp),K8=.ref it/\Inv X pins σ H' s2/\Turn X.prog X.w X.K tg J fp it tn/\tn 0 s2.heap/\(∀b∈fp,FpOk X pins H' b)/\R J H'
def PI(X:Cx)(tg iter:P3)(wi:TI):Prop:=
 ∀(pins:List (Addr×Re)) (s:KF) (σ:St) (H:Hp) (R:It->Hp->Prop),Inv X pins σ H s->wi σ H R->
  Q1 (QZ X.prog X.w) X.A (Q7 iter X.env) (λv s1=>Q1 (QZ X.prog X.w) X.A (pyIter v) (PIE X pins σ tg R) X.xe s1) X.xe s
variable{tg:P3}
def jg{M:SL}{it:Addr}{o:Re}{n:String}{vs:Array KB}{Q:Unit->KF->Prop}(ho:s.heap.get? it=be o)(hc:o.cls=.type n)(hd:o.data=.fields vs)
    (hn:["enumerate","zip","dict_itemiterator","dict_reverseitemiterator","odict_iterator","itertools.zip_longest","itertools.pairwise"].contains n=false) (hQ:Q () s):Q1 M A (RZ tg (.ref it) u) Q E s:=by
  unfold RZ;cases tg<;>first
    |exact QY hQ
    |(cases u<;>first
        |exact QY hQ
        |( refine KM (wpAny_load ho ?_)
           rw[hc,hd];show Q1 M A (if(["enumerate","zip","dict_itemiterator","dict_reverseitemiterator","odict_iterator","itertools.zip_longest","itertools.pairwise"].contains n&&vs[0]?==be (RV _))=true then _ else _) Q E s;rw[if_neg (by intro h;rw[hn,Bool.false_and]at h;cases h)];exact QY hQ))
def Itl(K:Ex)(a:Addr):It:=
 #[λi H=>∃xs x,SqL K H a xs/\xs[i]?=be x,λi H x H'=>H'=H/\∀xs,SqL K H a xs->xs[i]?=be x,λi H=>∃xs,SqL K H a xs/\xs.length<=i]
def Itr(lo:Int)(n:Nat):It:=#[λi _=>i<n,λi H x H'=>H'=H/\x=.int (lo+i),λi _=>n<=i]
variable{K:Ex}
def vz(a it:Addr):Turn P w K tg (Itl K a) [it] it (λi h=>h.IsListIter it a i) where
 mem:=J4
 obj:=λi h st b hb=>by
  have e:b=it:=by simpa using hb
  subst e;obtain⟨o,e,c,d⟩:=st;exact#[o,e,λv z=>by rw[d]at z;cases z]
 keep:=λi h h' st k=>st.at λo e=>k it J4 o e
 item:=by
  intro X hP hw hK hc i pins s σ H E I hf st hg;subst hP hw hK;obtain⟨xs,x,hq,hx⟩:=hg;obtain⟨its,rv,p,hz⟩:=I.list hq;obtain⟨u,hu,ru⟩:=rv.get hx;obtain⟨f0,f1,f2,f3,f4,f5⟩:=hf it J4;refine wpAny_pyNext_list_item st p.isList (x:=u) (by simpa using hu) λh' q_ sb=>?_;have I1:Inv X pins σ H {s with heap:=h'}:=I.turned (t':=s.toks) (λb o hb e=>(sb.2 b hb).trans e) f0 f1 f3 f4 f5;obtain⟨o,e,c,d⟩:=id q_;exact#[u,rfl,jg (s:={s with heap:=h'}) e c d Ji #[x,H,I1,ru,#[rfl,λys hy=>by rw[I.list_inj hy hq];exact hx],q_,λb hb=>(hf b hb).1]]
 done:=by
  intro X hP hw hK hc i pins s σ H E I hf st hg;subst hP hw hK;obtain⟨xs,hq,hx⟩:=hg;obtain⟨its,rv,p,hz⟩:=I.list hq;obtain⟨f0,f1,f2,f3,f4,f5⟩:=hf it J4;have hl:=rv.length;exact wpAny_pyNext_list_end (I.ok.hd hc) st p.isList Qv λh' eb=>#[rfl,I.turned (t':=s.toks) (λb o hb e=>eb b o hb e) f0 f1 f3 f4 f5]
 self:=λ_ _ _ _ _ st h=>wpAny_pyIter_listiter st h
def vA(it:Addr)(lo:Int)(n:Nat):Turn P w K tg (Itr lo n) [it] it (λi h=>IsRangeIter h it (lo+(i:Nat)*1) ((n:Int)-(i:Nat)) 1) where
 mem:=J4
 obj:=λi h st b hb=>by
  have e:b=it:=by simpa using hb
  subst e;exact⟨_,st,λv z=>by
   have z':Data.fields _=Data.cell v:=z;cases z'⟩
 keep:=λi h h' st k=>k it J4 _ st
 item:=by
  intro X hP hw hK hc i pins s σ H E I hf st hg;subst hP hw hK;obtain⟨f0,f1,f2,f3,f4,f5⟩:=hf it J4;have W:=Walks.range (prog:=X.prog) (w:=X.w) (I.ok.hd hc) it lo 1 n;refine W.item i s _ _ hg st λv h' tk hv q_ kk=>?_;obtain⟨t,rfl⟩:=hv;have I1:Inv X pins σ H {s with heap:=h',toks:=tk}:=I.turned (λb o hb e=>kk b o (by simpa using hb) e) f0 f1 f3 f4 f5;refine#[_,rfl,jg (s:={s with heap:=h',toks:=tk}) (n:="range_iterator") q_ rfl rfl Ji #[.int (lo+i),H,I1,#[t,?_],#[rfl,rfl],q_,λb hb=>(hf b hb).1]];rw[Int.mul_one]
 done:=by
  intro X hP hw hK hc i pins s σ H E I hf st hg;subst hP hw hK;obtain⟨f0,f1,f2,f3,f4,f5⟩:=hf it J4;exact wpAny_pyNext_range_end (I.ok.hd hc) st (by have:n<=i:=hg;lia) λh' eb=>#[rfl,I.turned (t':=s.toks) (λb o hb e=>eb b o hb e) f0 f1 f3 f4 f5]
 self:=λ_ _ _ _ _ st h=>wpAny_pyIter_rangeiter st h
section
variable {X:Cx}{tg:P3}
def vB(K:Ex)(tl:TE):TI:=λσ H R=>tl σ H λx H1=>∃a,x=.ref a/\(∃xs,SqL K H1 a xs)/\R (Itl K a) H1
def vC{l:P3}{tl:TE}(hl:PE X l tl):PI X tg l (vB X.K tl):=by
 intro pins s σ H R I h;refine thn (hl pins s σ H _ I h) λv s1 b9=>?_;obtain⟨x,H1,I1,r1,q1⟩:=b9;obtain⟨a,e,⟨xs,hq⟩,q⟩:=q1;subst e;cases r1;obtain⟨its,rv,p,hz⟩:=I1.list hq;refine wpAny_pyIter_list p.isList ?_;refine#[s1.heap.objs.size,[s1.heap.objs.size],_,_,H1,rfl,I1.kept (t':=s1.toks) λb o e=>Heap.get?_push_of_some _ e,vz a _,#[_,Heap.get?_push_size _ rfl,rfl,rfl],λb hb=>?_,q];have e:b=s1.heap.objs.size:=by simpa using hb
 subst e;exact I1.fpOk (E7 _) (I1.hok.fresh (E7 _))
variable{pins:List (Addr×Re)}{σ:St}{H:Hp}{s:KF}
def pB{R:It->Hp->Prop}{E:KB->KF->Prop}{lo hi:Int}{t u v:S3}{tk:Nat}(I:Inv X pins σ H s)(h1:-(2^62)<=lo)(h2:lo<2^62)(h3:-(2^62)<=hi)(h4:hi<2^62)
  (q:R (Itr lo (hi-lo).toNat) H):Q1 (QZ X.prog X.w) X.A (pyIter (.ref s.heap.objs.size)) (PIE X pins σ tg R) E {s with heap:=s.heap.push {cls:=.type "range",data:=.fields [.int lo t,.int hi u,.int 1 v].toArray},toks:=tk}:=by
 refine wpAny_pyIter_range (IsRange.new ..) (small_one h1 h2 h3 h4) ?_;have I1:Inv X pins σ H {s with heap:=s.heap.push {cls:=.type "range",data:=.fields [.int lo t,.int hi u,.int 1 v].toArray},toks:=tk}:=I.kept λb o e=>Heap.get?_push_of_some _ e;refine⟨(s.heap.push {cls:=.type "range",data:=.fields [.int lo t,.int hi u,.int 1 v].toArray}).objs.size,[(s.heap.push {cls:=.type "range",data:=.fields [.int lo t,.int hi u,.int 1 v].toArray}).objs.size],_,_,H,rfl,
  I1.kept (t':=tk) λb o e=>Heap.get?_push_of_some _ e,vA _ lo (hi-lo).toNat,?_,λb hb=>?_,q⟩
 .have e1:lo+((0:Nat):Int)*1=lo:=by simp
  have e2:(((hi-lo).toNat:Nat):Int)-((0:Nat):Int)=Builtin.Range.rangeSize lo hi 1:=by rw[rangeSize_one];split<;>lia
  show IsRangeIter _ _ (lo+((0:Nat):Int)*1) ((((hi-lo).toNat:Nat):Int)-((0:Nat):Int)) 1;rw[e1,e2];exact Heap.get?_push_size _ rfl
 .have e:b=(s.heap.push {cls:=.type "range",data:=.fields [.int lo t,.int hi u,.int 1 v].toArray}).objs.size:=by simpa using hb
  subst e;exact I1.fpOk (E7 _) (I1.hok.fresh (E7 _))
def pC(ta:TA):TI:=λσ H R=>ta σ H λvs H1=>∃j:Int,vs=[.int j]/\-(2^62)<=j/\j<2^62/\R (Itr 0 j.toNat) H1
def vD(ta:TA):TI:=λσ H R=>ta σ H λvs H1=>∃i j:Int,vs=[.int i,.int j]/\(-(2^62)<=i/\i<2^62/\-(2^62)<=j/\j<2^62)/\R (Itr i (j-i).toNat) H1
variable{pos:Q_}
def jh{a:P3}{ta:TA}{p:Q_}(hg:Gl X "range")(hm:X.mg "range"=z8)(ha:PA X [a] ta)(hs:autoParam (Q4 [a] X.env=[(false,Q7 a X.env)]) zA0):PI X tg (.Call (.Name "range" p) [a] [] pos) (pC ta):=by
 intro pins s σ H R I h;refine Call_ (df I hg hm boot_range (PyProof.Rows.callWith_type1 (thn (ha pos pins s σ H _ I h) λus s1 hh=>?_) hs rfl));obtain⟨vs,H1,I1,r1,q1⟩:=hh;obtain⟨j,e,q1,q2,q⟩:=q1;subst e;cases r1 with
 |cons r rr=>
  cases rr;obtain⟨t,rfl⟩:=r;exact call_range_1 (pB I1 Jb Jb q1 q2 (by simpa using q))
def vE{a b:P3}{ta:TA}{p:Q_}(hg:Gl X "range")(hm:X.mg "range"=z8)(ha:PA X [a,b] ta)(hs:autoParam (Q4 [a,b] X.env=[(false,Q7 a X.env),(false,Q7 b X.env)]) zA0)(k_:autoParam (Q4 [b] X.env=[(false,Q7 b X.env)]) zA0):
  PI X tg (.Call (.Name "range" p) [a,b] [] pos) (vD ta):=by
 intro pins s σ H R I h;refine Call_ (df I hg hm boot_range (PyProof.Rows.callWith_type1 (thn (ha pos pins s σ H _ I h) λus s1 hh=>?_) (by rw[hs,k_]) (by rw[k_];rfl)));obtain⟨vs,H1,I1,r1,q1⟩:=hh;obtain⟨i,j,e,⟨q1,q2,q3,q4⟩,q⟩:=q1;subst e;cases r1 with
 |cons r rr=>
  cases rr with
  |cons r' rr=>
   cases rr;obtain⟨t,rfl⟩:=r;obtain⟨t',rfl⟩:=r';exact call_range_2 (pB I1 q1 q2 q3 q4 q)
def tFor(wi:TI)(g:TG)(tb:TS):TS:=λD σ H=>wi σ H λJ H1=>∃W:Nat->Nat->St->Hp->Prop,(∃m,W 0 m σ H1)/\∀i m σ H,W i m σ H->
 (J.stop i H/\D.nx σ H)\/(J.go i H/\∃N:St->Hp->Prop,(∀σ' H',N σ' H'->∃m',m'<m/\W (i+1) m' σ' H')/\∀x H',J.yld i H x H'->g x σ H' λσ2 H2=>tb {D with nx:=N,ct:=N,bk:=D.nx} σ2 H2)
def fV(fp:List Addr)(h:Heap):List (Addr×Re):=fp.filterMap λb=>(h.get? b).map λo=>(b,o)
variable{fp:List Addr}
def dP{h:Heap}{b:Addr}{o:Re}(hb:b∈fp)(e:h.get? b=be o):(b,o)∈fV fp h:=Hu.mpr #[b,hb,by rw[e];rfl]
def vF{h:Heap}{p:Addr×Re}(hp:p∈fV fp h):p.1∈fp/\h.get? p.1=be p.2:=by
 obtain⟨b,hb,e⟩:=Hu.mp hp;cases q:h.get? b with
 |none=>rw[q]at e;cases e
 |some o=>
  rw[q]at e;have e':(b,o)=p:=Option.some.inj e;subst e';exact#[hb,q]
def Inv.pinned(I:Inv X pins σ H s)(hf:∀b∈fp,FpOk X pins H b)(ho:∀b∈fp,∃o,s.heap.get? b=be o/\∀v,o.data≠.cell v):Inv X (pins++fV fp s.heap) σ H s:=
 I.pins_of λp hp=>(FH.mp hp).elim (λz=>I.pin p (Fw _ z)) λz=>by
  obtain⟨hb,e⟩:=vF z;obtain⟨f0,f1,f2,_⟩:=hf p.1 hb;obtain⟨o,e',d⟩:=ho p.1 hb;rw[e]at e';cases e';exact#[e,f0,f1,f2,d]
def Inv.unpinned{pl:List (Addr×Re)}(I:Inv X (pins++pl) σ H s):Inv X pins σ H s:=I.pins_of λp hp=>I.pin p (Fw _ (Ga _ hp))
def cN{iter:P3}{body:List Q0}{wi:TI}{g:TG}{tb:TS}(hp:Rm (QZ X.prog X.w) X.A X.env X.xe)(hc:X.calm=true)(hi:PI X tg iter wi)(hg:PG X tg g)(hb:PSs X body tb)
  (hs:∀x,S2 iter X.env x=pure x:=by intro _;rfl):PS X (.For tg iter body [] pos) (tFor wi g tb):=by
 intro pins s σ H D I h;refine wpAny_For (thn (hi pins s σ H _ I h) λv s1 h1=>thn h1 λK8 s2 h2=>?_) hs;obtain⟨it,fp,tn,J,H2,e,I2,T,o7,f2,W,⟨m0,w0⟩,c3⟩:=h2;subst e;have m4:∀{H':Hp},(∀b∈fp,H' b=z8)->∀b∈fp,FpOk X pins H' b:=λhn b hb=>#[hn b hb,(f2 b hb).2];refine codeAny_forLoop_any (λn s'=>∃i σ' H',Inv X pins σ' H' s'/\tn i s'.heap/\(∀b∈fp,H' b=z8)/\W i n σ' H') ?_ m0 #[0,σ,H2,I2,o7,λb hb=>(f2 b hb).1,w0];rintro n s3⟨i,σ3,H3,I3,z9,NV,w3⟩;rcases c3 i n σ3 H3 w3 with⟨stop,qn⟩|⟨go,N,hN,step⟩
 .refine Rn hp (thn (T.done X rfl rfl rfl hc i pins s3 σ3 H3 X.xe I3 (m4 NV) z9 stop) λr s4 b9=>?_);obtain⟨hr,I4⟩:=b9;subst hr;exact RH #[σ3,H3,I4,qn]
 .refine Rn hp (thn (T.item X rfl rfl rfl hc i pins s3 σ3 H3 X.xe I3 (m4 NV) z9 go) λr s4 b9=>?_);obtain⟨u,hr,h4⟩:=b9;subst hr;refine Rn hp (thn h4 λ_ s5 b9=>?_);obtain⟨x,H5,I5,r5,y5,F_,LD⟩:=b9;have OT:=I5.pinned (m4 LD) (T.obj _ _ F_);refine Rn hp (thn (hg _ s5 σ3 H5 x u _ OT r5 (step x H5 y5)) λ_ s6 b9=>?_);obtain⟨σ6,H6,I6,q6⟩:=b9;refine Rn hp (thn (hb _ s6 σ6 H6 _ I6 q6) λf s7 q7=>?_);have again:∀{σ7:St} {H7:Hp},Inv X (pins++fV fp s5.heap) σ7 H7 s7->N σ7 H7->∃m,m<n/\∃i σ' H',Inv X pins σ' H' s7/\tn i s7.heap/\(∀b∈fp,H' b=z8)/\W i m σ' H':=λ{σ7 H7} I7 n7=>by
   obtain⟨m',hm,w7⟩:=hN σ7 H7 n7;refine#[m',hm,i+1,σ7,H7,I7.unpinned,T.keep _ _ _ F_ λb hb o e=>(I7.pin (b,o) (Fw _ (Fw _ (dP hb e)))).1,λb hb=>?_,w7];obtain⟨o,e,d⟩:=T.obj _ _ F_ b hb;exact(I7.pin (b,o) (Fw _ (Fw _ (dP hb e)))).2.1
  cases f with
  |next=>obtain⟨σ7,H7,I7,n7⟩:=q7;exact again I7 n7
  |cont=>obtain⟨σ7,H7,I7,n7⟩:=q7;exact again I7 n7
  |brk=>obtain⟨σ7,H7,I7,q7⟩:=q7;exact#[σ7,H7,I7.unpinned,q7]
  |ret v=>obtain⟨x7,σ7,H7,I7,r7,q7⟩:=q7;exact#[x7,σ7,H7,I7.unpinned,r7,q7]
end
def pD{g:TG}{tb:TS}{D:Ends}(Pv:Nat->St->Hp->Prop)(h0:Pv 0 σ H)(hl:∀i σ H,i<=xs.length->Pv i σ H->SqL K H a xs)
  (hs:∀i x σ H,xs[i]?=be x->Pv i σ H->g x σ H λσ2 H2=>tb {D with nx:=Pv (i+1),ct:=Pv (i+1),bk:=D.nx} σ2 H2) (hd:∀σ H,Pv xs.length σ H->D.nx σ H):
  ∃W:Nat->Nat->St->Hp->Prop,(∃m,W 0 m σ H)/\∀i m σ H,W i m σ H->
   ((Itl K a).stop i H/\D.nx σ H)\/((Itl K a).go i H/\∃N:St->Hp->Prop,(∀σ' H',N σ' H'->∃m',m'<m/\W (i+1) m' σ' H')/\∀x H',(Itl K a).yld i H x H'->g x σ H' λσ2 H2=>tb {D with nx:=N,ct:=N,bk:=D.nx} σ2 H2):=by
 refine#[λi m σ H=>m=xs.length-i/\i<=xs.length/\Pv i σ H,#[xs.length,J4,Fz _,h0],?_];rintro i m σ H ⟨rfl,hi,p⟩;have q:=hl i σ H hi p;by_cases e8:i<xs.length
 .refine .inr #[#[xs,xs[i],q,by simp[e8]],Pv (i+1),λσ' H' p'=>#[xs.length-(i+1),Jb,rfl,e8,p'],λx H' y=>?_];obtain⟨e,y⟩:=y;subst e;exact hs i x σ _ (y xs q) p
 .have e:i=xs.length:=by lia
  subst e;exact .inl #[#[xs,q,E7 _],hd σ H p]
def ji{lo:Int}{n:Nat}{g:TG}{tb:TS}{D:Ends}(Pv:Nat->St->Hp->Prop)(h0:Pv 0 σ H)
  (hs:∀i σ H,i<n->Pv i σ H->g (.int (lo+i)) σ H λσ2 H2=>tb {D with nx:=Pv (i+1),ct:=Pv (i+1),bk:=D.nx} σ2 H2) (hd:∀σ H,Pv n σ H->D.nx σ H):
  ∃W:Nat->Nat->St->Hp->Prop,(∃m,W 0 m σ H)/\∀i m σ H,W i m σ H->
   ((Itr lo n).stop i H/\D.nx σ H)\/((Itr lo n).go i H/\∃N:St->Hp->Prop,(∀σ' H',N σ' H'->∃m',m'<m/\W (i+1) m' σ' H')/\∀x H',(Itr lo n).yld i H x H'->g x σ H' λσ2 H2=>tb {D with nx:=N,ct:=N,bk:=D.nx} σ2 H2):=by
 refine#[λi m σ H=>m=n-i/\i<=n/\Pv i σ H,#[n,J4,Fz _,h0],?_];rintro i m σ H ⟨rfl,hi,p⟩;by_cases e8:i<n
 .refine .inr #[e8,Pv (i+1),λσ' H' p'=>#[n-(i+1),Jb,rfl,e8,p'],λx H' y=>?_];obtain⟨e,y⟩:=y;subst e y;exact hs i σ _ e8 p
 .have e:i=n:=by lia
  subst e;exact .inl #[E7 _,hd σ H p]
abbrev R2:=V->V->Hp->VK->Prop
def OpR(X:Cx)(f:KB->KB->SB KB)(r:R2):Prop:=
 ∀(pins:List (Addr×Re)) (s:KF) (σ:St) (H:Hp) (x y:V) (v u:KB) (Q:VK),Inv X pins σ H s->RelV x v->RelV y u->r x y H Q->
  Q1 (QZ X.prog X.w) X.A (f v u) (EP X pins σ Q) X.xe s
def UnR(X:Cx)(f:KB->SB KB)(r:V->Hp->VK->Prop):Prop:=
 ∀(pins:List (Addr×Re)) (s:KF) (σ:St) (H:Hp) (x:V) (v:KB) (Q:VK),Inv X pins σ H s->RelV x v->r x H Q->
  Q1 (QZ X.prog X.w) X.A (f v) (EP X pins σ Q) X.xe s
def bK(X:Cx)(f:KB)(r:List V->Hp->VK->Prop):Prop:=
 ∀(pins:List (Addr×Re)) (s:KF) (σ:St) (H:Hp) (xs:List V) (us:List KB) (Q:VK),Inv X pins σ H s->Vals xs us->r xs H Q->
  Q1 (QZ X.prog X.w) X.A (call f us) (EP X pins σ Q) X.xe s
def TruR(X:Cx)(r:V->Hp->(Bool->Hp->Prop)->Prop):Prop:=
 ∀(pins:List (Addr×Re)) (s:KF) (σ:St) (H:Hp) (x:V) (v:KB) (Q:Bool->Hp->Prop),Inv X pins σ H s->RelV x v->r x H Q->
  Q1 (QZ X.prog X.w) X.A (truthy v) (TP X pins σ Q) X.xe s
def tOp(r:R2)(ta tb:TE):TE:=λσ H Q=>ta σ H λx H1=>tb σ H1 λy H2=>r x y H2 Q
def tUn(r:V->Hp->VK->Prop)(ta:TE):TE:=λσ H Q=>ta σ H λx H1=>r x H1 Q
def rI(C:Int->Int->Prop)(g:Int->Int->V):R2:=λx y H Q=>∃i j,x=.int i/\y=.int j/\C i j/\Q (g i j) H
def rI0(g:Int->Int->V):R2:=λx y H Q=>∃i j,x=.int i/\y=.int j/\Q (g i j) H
def rU(g:Int->V):V->Hp->VK->Prop:=λx H Q=>∃i,x=.int i/\Q (g i) H
section
variable {X:Cx}{a b c:P3}{ta tb tc:TE}{pos:Q_}
variable{f:KB->KB->SB KB}
def binT(ha:PE X a ta)(hb:PE X b tb){pins:List (Addr×Re)}{s:KF}{σ:St}{H:Hp}{R:V->V->Hp->Prop}(I:Inv X pins σ H s)
  (h:ta σ H λx H1=>tb σ H1 λy H2=>R x y H2) {Q:KB->KF->Prop} 
  (hf:∀v u s2 x y H2,Inv X pins σ H2 s2->RelV x v->RelV y u->R x y H2->Q1 (QZ X.prog X.w) X.A (f v u) Q X.xe s2):
  Q1 (QZ X.prog X.w) X.A (Q7 a X.env) (λv s₁=>Q1 (QZ X.prog X.w) X.A (Q7 b X.env) (λu s₂=>Q1 (QZ X.prog X.w) X.A (f v u) Q X.xe s₂) X.xe s₁) X.xe s:=by
 refine thn (ha pins s σ H _ I h) λv s1 b9=>?_;obtain⟨x,H1,I1,r1,q1⟩:=b9;refine thn (hb pins s1 σ H1 _ I1 q1) λu s2 b9=>?_;obtain⟨y,H2,I2,r2,q2⟩:=b9;exact hf v u s2 x y H2 I2 r1 r2 q2
def jj{op:Sm}{r:R2}(ho:OpR X (Rl op) r)(ha:PE X a ta)(hb:PE X b tb):PE X (.BinOp a op b pos) (tOp r ta tb):=by
 intro pins s σ H Q I h;exact wpAny_BinOp (binT ha hb I h λv u s2 x y H2 I2 rx ry q=>ho pins s2 σ H2 x y v u Q I2 rx ry q)
def vG{op:UnaryOp}{r:V->Hp->VK->Prop}(ho:UnR X (unaryOp op) r)(ha:PE X a ta):PE X (.UnaryOp op a pos) (tUn r ta):=by
 intro pins s σ H Q I h;exact UnaryOp_ (thn (ha pins s σ H _ I h) λv s1 ⟨x,H1,I1,r1,q1⟩=>ho pins s1 σ H1 x v Q I1 r1 q1)
variable{g:Int->Int->Int}
def opI{C:Int->Int->Prop}
  (rule:∀(i j:Int) (t u:S3) (s:KF) (Q:KB->KF->Prop) (E:KB->KF->Prop),C i j->Q (.int (g i j) s.toks) {s with toks:=s.toks+1}->Q1 (QZ X.prog X.w) X.A (f (.int i t) (.int j u)) Q E s):
  OpR X f (rI C λi j=>.int (g i j)):=by
 intro pins s σ H x y v u Q I rx ry h;obtain⟨i,j,rfl,rfl,hc,q⟩:=h;obtain⟨t,rfl⟩:=rx;obtain⟨t',rfl⟩:=ry;exact rule i j t t' s _ _ hc #[.int (g i j),H,I.tok _,#[_,rfl],q]
def opI0
  (rule:∀(i j:Int) (t u:S3) (s:KF) (Q:KB->KF->Prop) (E:KB->KF->Prop),Q (.int (g i j) s.toks) {s with toks:=s.toks+1}->Q1 (QZ X.prog X.w) X.A (f (.int i t) (.int j u)) Q E s):
  OpR X f (rI0 λi j=>.int (g i j)):=by
 intro pins s σ H x y v u Q I rx ry h;obtain⟨i,j,rfl,rfl,q⟩:=h;obtain⟨t,rfl⟩:=rx;obtain⟨t',rfl⟩:=ry;exact rule i j t t' s _ _ #[.int (g i j),H,I.tok _,#[_,rfl],q]
def opB0{g:Int->Int->Bool}
  (rule:∀(i j:Int) (t u:S3) (s:KF) (Q:KB->KF->Prop) (E:KB->KF->Prop),Q (.bool (g i j)) s->Q1 (QZ X.prog X.w) X.A (f (.int i t) (.int j u)) Q E s):
  OpR X f (rI0 λi j=>.bl (g i j)):=by
 intro pins s σ H x y v u Q I rx ry h;obtain⟨i,j,rfl,rfl,q⟩:=h;obtain⟨t,rfl⟩:=rx;obtain⟨t',rfl⟩:=ry;exact rule i j t t' s _ _ #[.bl (g i j),H,I,rfl,q]
def CDiv(i j:Int):Prop:=0<j/\j<1073741824
def CMul(i j:Int):Prop:=(-(2^64)<i/\i<2^64)\/(-(2^64)<j/\j<2^64)
def CMul.ok{i j:Int}(h:CMul i j):IntMulOk i j:=by
 rcases h with⟨h1,h2⟩|⟨h1,h2⟩
 .exact .of_left (intBits_le_64 h1 h2)
 .exact .of_right (intBits_le_64 h1 h2)
def vH:OpR X (Rl .Add) (rI0 λi j=>.int (i+j)):=opI0 λ_ _ _ _ _ _ _ q=>add_int q
def pE:OpR X (Rl .Sub) (rI0 λi j=>.int (i-j)):=opI0 λ_ _ _ _ _ _ _ q=>sub_int q
def vI:OpR X (Rl .Mult) (rI CMul λi j=>.int (i*j)):=opI λ_ _ _ _ _ _ _ hc q=>mul_int q hc.ok
def vJ:OpR X (Rl .FloorDiv) (rI CDiv λi j=>.int (i/j)):=opI λi j _ _ _ _ _ hc q=>by
 have h1:(0:Int)<j:=hc.1;have h2:j<1073741824:=hc.2;exact floordiv_int Jb (by rw[Int.fdiv_eq_ediv_of_nonneg i Jb];exact q) (.inl (PyProof.noPylong_small Jb))
def vK:OpR X (Rl .Mod) (rI (λ_ j=>0<j) λi j=>.int (i%j)):=opI λi j _ _ _ _ _ hc q=>by
 have h1:(0:Int)<j:=hc;exact mod_int' Jb (by rw[Int.fmod_eq_emod_of_nonneg i Jb];exact q)
def vL:OpR X (Rl .Mod) (rI (λ_ j=>j≠0) λi j=>.int (i.fmod j)):=opI λ_ _ _ _ _ _ _ hc q=>mod_int' hc q
def unI{f:KB->SB KB}{g:Int->Int}
  (rule:∀(i:Int) (t:S3) (s:KF) (Q:KB->KF->Prop) (E:KB->KF->Prop),Q (.int (g i) s.toks) {s with toks:=s.toks+1}->Q1 (QZ X.prog X.w) X.A (f (.int i t)) Q E s):
  UnR X f (rU λi=>.int (g i)):=by
 intro pins s σ H x v Q I rx h;obtain⟨i,rfl,q⟩:=h;obtain⟨t,rfl⟩:=rx;exact rule i t s _ _ #[.int (g i),H,I.tok _,#[_,rfl],q]
def vM:UnR X (unaryOp .USub) (rU λi=>.int (-i)):=unI λ_ _ _ _ _ q=>neg_int q
end
def scal:V->V->Bool
 |.non,.non=>true|.non,.int _=>true|.int _,.non=>true|.non,.bl _=>true|.bl _,.non=>true|.non,.str _=>true|.str _,.non=>true
 |.int _,.int _=>true|.bl _,.bl _=>true|.str _,.str _=>true|.byt _,.byt _=>true
 |.int _,.str _=>true|.str _,.int _=>true|.bl _,.str _=>true|.str _,.bl _=>true
 |_,_=>false
def rEq:R2:=λx y H Q=>scal x y=true/\Q (.bl (decide (x=y))) H
def rNe:R2:=λx y H Q=>scal x y=true/\Q (.bl (!decide (x=y))) H
def pF{i j:Int}:decide (V.int i=V.int j)=(i==j):=by
 rw[GF];simp
def pG{i j:Bool}:decide (V.bl i=V.bl j)=(i==j):=by
 rw[GF];simp
def pH{i j:E_}:decide (V.str i=V.str j)=(i==j):=by
 rw[GF];simp
def pI{i j:Array UInt8}:decide (V.byt i=V.byt j)=(i.toList==j.toList):=by
 rw[GF];cases i;cases j;simp
section
variable {X:Cx}{a b c:P3}{ta tb tc:TE}{pos:Q_}
def aO{pins:List (Addr×Re)}{σ:St}{H:Hp}{s:KF}{Q:VK}{k k':Bool}(I:Inv X pins σ H s)(q:Q (.bl k) H)(e:k=k'):EP X pins σ Q (.bool k') s:=by
 subst e;exact#[.bl k,H,I,rfl,q]
def jk:OpR X (Ri .Eq) rEq:=by
 intro pins s σ H x y v u Q I rx ry h;obtain⟨hs,q⟩:=h;cases x with
 |non=>
  cases rx;cases y with
  |non=>cases ry;exact PySem.EqNone.eq_none_none (aO I q J4)
  |bl j=>cases ry;exact PySem.EqNone.eq_none_bool (aO I q J4)
  |int j=>obtain⟨t',rfl⟩:=ry;exact PySem.EqNone.eq_none_int (aO I q J4)
  |str j=>obtain⟨t',rfl⟩:=ry;exact PySem.EqNone.eq_none_str (aO I q J4)
  |_=>exact absurd (show false=true from hs) Fh
 |bl i=>
  cases rx;cases y with
  |non=>cases ry;exact PySem.EqNone.eq_bool_none (aO I q J4)
  |bl j=>cases ry;exact eq_bool (aO I q pG)
  |str j=>obtain⟨t',rfl⟩:=ry;exact PySem.EqMixed.eq_bool_str (aO I q J4)
  |_=>exact absurd (show false=true from hs) Fh
 |int i=>
  obtain⟨t,rfl⟩:=rx;cases y with
  |non=>cases ry;exact PySem.EqNone.eq_int_none (aO I q J4)
  |int j=>obtain⟨t',rfl⟩:=ry;exact eq_int (aO I q pF)
  |str j=>obtain⟨t',rfl⟩:=ry;exact PySem.EqMixed.eq_int_str (aO I q J4)
  |_=>exact absurd (show false=true from hs) Fh
 |str i=>
  obtain⟨t,rfl⟩:=rx;cases y with
  |non=>cases ry;exact PySem.EqNone.eq_str_none (aO I q J4)
  |bl j=>cases ry;exact PySem.EqMixed.eq_str_bool (aO I q J4)
  |int j=>obtain⟨t',rfl⟩:=ry;exact PySem.EqMixed.eq_str_int (aO I q J4)
  |str j=>obtain⟨t',rfl⟩:=ry;exact eq_str (aO I q pH)
  |_=>exact absurd (show false=true from hs) Fh
 |byt i=>
  obtain⟨t,rfl⟩:=rx;cases y with
  |byt j=>obtain⟨t',rfl⟩:=ry;exact eq_bytes (aO I q pI)
  |_=>exact absurd (show false=true from hs) Fh
 |_=>cases y<;>exact absurd (show false=true from hs) Fh
def pJ:OpR X (Ri .NotEq) rNe:=by
 intro pins s σ H x y v u Q I rx ry h;obtain⟨hs,q⟩:=h;cases x with
 |non=>
  cases rx;cases y with
  |non=>cases ry;exact PySem.EqNone.ne_none_none (aO I q J4)
  |bl j=>cases ry;exact PySem.EqNone.ne_none_bool (aO I q J4)
  |int j=>obtain⟨t',rfl⟩:=ry;exact PySem.EqNone.ne_none_int (aO I q J4)
  |str j=>obtain⟨t',rfl⟩:=ry;exact PySem.EqNone.ne_none_str (aO I q J4)
  |_=>exact absurd (show false=true from hs) Fh
 |bl i=>
  cases rx;cases y with
  |non=>cases ry;exact PySem.EqNone.ne_bool_none (aO I q J4)
  |bl j=>cases ry;exact ne_bool (aO I q (congrArg not pG))
  |str j=>obtain⟨t',rfl⟩:=ry;exact PySem.EqMixed.ne_bool_str (aO I q J4)
  |_=>exact absurd (show false=true from hs) Fh
 |int i=>
  obtain⟨t,rfl⟩:=rx;cases y with
  |non=>cases ry;exact PySem.EqNone.ne_int_none (aO I q J4)
  |int j=>obtain⟨t',rfl⟩:=ry;exact ne_int (aO I q (congrArg not pF))
  |str j=>obtain⟨t',rfl⟩:=ry;exact PySem.EqMixed.ne_int_str (aO I q J4)
  |_=>exact absurd (show false=true from hs) Fh
 |str i=>
  obtain⟨t,rfl⟩:=rx;cases y with
  |non=>cases ry;exact PySem.EqNone.ne_str_none (aO I q J4)
  |bl j=>cases ry;exact PySem.EqMixed.ne_str_bool (aO I q J4)
  |int j=>obtain⟨t',rfl⟩:=ry;exact PySem.EqMixed.ne_str_int (aO I q J4)
  |str j=>obtain⟨t',rfl⟩:=ry;exact ne_str (aO I q (congrArg not pH))
  |_=>exact absurd (show false=true from hs) Fh
 |byt i=>
  obtain⟨t,rfl⟩:=rx;cases y with
  |byt j=>obtain⟨t',rfl⟩:=ry;exact ne_bytes (aO I q (congrArg not pI))
  |_=>exact absurd (show false=true from hs) Fh
 |_=>cases y<;>exact absurd (show false=true from hs) Fh
def pK:OpR X (Ri .Lt) (rI0 λi j=>.bl (decide (i<j))):=opB0 λ_ _ _ _ _ _ _ q=>lt_int q
def jl:OpR X (Ri .Gt) (rI0 λi j=>.bl (decide (j<i))):=opB0 λ_ _ _ _ _ _ _ q=>gt_int q
def pL:OpR X (Ri .Is) (λx y H Q=>y=.non/\Q (.bl (decide (x=.non))) H):=by
 intro pins s σ H x y v u Q I rx ry h;obtain⟨rfl,q⟩:=h;cases ry;refine is_none_gen (aO I q ?_);cases x<;>first
  |(cases rx;rfl)
  |(obtain⟨t,rfl⟩:=rx;rfl)
def vN:OpR X (Ri .IsNot) (λx y H Q=>y=.non/\Q (.bl (!decide (x=.non))) H):=by
 intro pins s σ H x y v u Q I rx ry h;obtain⟨rfl,q⟩:=h;cases ry;refine isnot_none_gen (aO I q ?_);cases x<;>first
  |(cases rx;rfl)
  |(obtain⟨t,rfl⟩:=rx;rfl)
variable{r:R2}
def OpR.or{f:KB->KB->SB KB}{r':R2}(h:OpR X f r)(h':OpR X f r'):OpR X f (λx y H Q=>r x y H Q\/r' x y H Q):=by
 intro pins s σ H x y v u Q I rx ry q;rcases q with q|q
 .exact h pins s σ H x y v u Q I rx ry q
 .exact h' pins s σ H x y v u Q I rx ry q
variable{op:S4}
def nomark(b:P3)(h:autoParam (op≠.In) zA1)(h2:autoParam (op≠.NotIn) zA1):Ro op b=false:=by
 have e1:(op==CmpOp.In)=false:=by cases op<;>first|rfl|exact absurd rfl h
 have e2:(op==CmpOp.NotIn)=false:=by cases op<;>first|rfl|exact absurd rfl h2
 cases b<;>simp[Ro,e1,e2]
def vO(ho:OpR X (Ri op) r)(ha:PE X a ta)(hb:PE X b tb)(hm:Ro op b=false):PE X (.Compare a [op] [b] pos) (tOp r ta tb):=by
 intro pins s σ H Q I h;exact wpAny_Compare1 (binT ha hb I h λv u s2 x y H2 I2 rx ry q=>ho pins s2 σ H2 x y v u Q I2 rx ry q) hm
def vP(t:TE):TT:=λσ H Q=>t σ H λx H'=>∃k,x=.bl k/\Q k H'
def jm(ho:OpR X (Ri op) r)(ha:PE X a ta)(hb:PE X b tb)(hm:Ro op b=false):PT X (.Compare a [op] [b] pos) (vP (tOp r ta tb)):=by
 intro pins s σ H Q I h;refine wpAny_isTrue_Compare1 (thn (ha pins s σ H _ I h) λv s1 ⟨x,H1,I1,r1,q1⟩=>thn (hb pins s1 σ H1 _ I1 q1) λu s2 ⟨y,H2,I2,r2,q2⟩=>
  thn (ho pins s2 σ H2 x y v u _ I2 r1 r2 q2) λc s3 hh=>?_) hm
 obtain⟨z,H3,I3,r3,k,e,q3⟩:=hh;subst e;cases r3;exact RL #[H3,I3,q3]
def TruV(K:Ex)(x:V)(H:Hp)(k:Bool):Prop:=
 match x with
 |.non=>k=false
 |.bl b=>k=b
 |.int i=>k=(i !=0)
 |.str y=>y.length<=sizeLine/\k=((y.length:Int) !=0)
 |.byt y=>y.size<=sizeLine/\k=((y.size:Int) !=0)
 |.ref p=>(∃xs,SqL K H p xs/\k=!xs.isEmpty)\/(∃xs,SqT K H p xs/\k=!xs.isEmpty)\/∃a8,H p=be (.dK a8)/\k=!a8.isEmpty
 |_=>False
def vQ{κ:Type}{a8:List (κ×V)}{vs:List (κ×KB)}(r:KV a8 vs):(!vs.isEmpty)=!a8.isEmpty:=by
 cases r<;>rfl
def isEmpty_of{xs:List V}{its:List KB}(r:Vals xs its):(!its.toArray.isEmpty)=!xs.isEmpty:=by
 cases r<;>simp
def line63:(sizeLine:Nat)<2^63:=by rw[RO];decide
def vR:TruR X (λx H Q=>∃k,TruV X.K x H k/\Q k H):=by
 intro pins s σ H x v Q I rx h;obtain⟨k,e,q⟩:=h;have hl:=line63;have hs:sizeLine=16777216:=RO;cases x with
 |non=>
  cases rx;have e':k=false:=e;subst e';exact truthy_none #[H,I,q]
 |bl b=>
  cases rx;have e':k=b:=e;subst e';exact RL #[H,I,q]
 |int i=>
  obtain⟨t,rfl⟩:=rx;have e':k=(i !=0):=e;subst e';exact PySem.P.truthy_int #[H,I,q]
 |str y=>
  obtain⟨t,rfl⟩:=rx;obtain⟨hy,e'⟩:y.length<=sizeLine/\k=((y.length:Int) !=0):=e;subst e';exact PySem.P.truthy_str Jb #[H,I.tok _,q]
 |byt y=>
  obtain⟨t,rfl⟩:=rx;obtain⟨hy,e'⟩:y.size<=sizeLine/\k=((y.size:Int) !=0):=e;subst e';exact truthy_bytes Jb #[H,I.tok _,q]
 |ref p=>
  cases rx;have e':(∃xs,SqL X.K H p xs/\k=!xs.isEmpty)\/(∃xs,SqT X.K H p xs/\k=!xs.isEmpty)\/∃a8,H p=be (.dK a8)/\k=!a8.isEmpty:=e;rcases e' with⟨xs,hx,e'⟩|⟨xs,hx,e'⟩|⟨a8,hx,e'⟩
  .subst e';obtain⟨its,r,pl,hz⟩:=I.list hx;have b8:=r.length;exact wpAny_truthy_list pl.isList (by simp only[Ff];lia) #[H,I.tok _,by rw[isEmpty_of r];exact q]
  .subst e';obtain⟨its,r,pl,hz⟩:=I.tuple hx;have b8:=r.length;exact truthy_tuple pl (by simp only[Ff];lia) #[H,I.tok _,by rw[isEmpty_of r];exact q]
  .subst e';obtain⟨hz,hS,vs,r,m⟩:a8.length<=sizeLine/\(p==Rp)=false/\∃vs,KV a8 vs/\s.heap.DictOf (bz X.prog X.w) p vs:=I.hok p _ hx;have b8:a8.length=vs.length:=Paired.length r;exact wpAny_truthy_dict hS m Jb #[H,I.tok _,by rw[vQ r];exact q]
 |_=>exact(show False from e).elim
def pM(ha:PE X a ta)(he:∀d9,isTrue a X.env d9=(do let v <-d9;RK a.pos;Rq [v] (truthy v))):
  PT X a (λσ H Q=>ta σ H λx H'=>∃k,TruV X.K x H' k/\Q k H'):=by
 intro pins s σ H Q I h;exact isTrue_plain (thn (ha pins s σ H _ I h) λv s1 ⟨x,H1,I1,r1,q1⟩=>vR pins s1 σ H1 x v Q I1 r1 q1) (he _)
def vS:OpR X (Rl .Add) (λx y H Q=>∃i j,x=.str i/\y=.str j/\i.length+j.length<=sizeLine/\Q (.str (i++j)) H):=by
 intro pins s σ H x y v u Q I rx ry h;obtain⟨i,j,rfl,rfl,hz,q⟩:=h;obtain⟨t,rfl⟩:=rx;obtain⟨t',rfl⟩:=ry;exact add_str (λt' tk=>#[.str (i++j),H,I.tok _,#[_,rfl],q]) hz
variable{us:List KB}
def bT{x:V}(r:Vals [x] us):∃u,us=[u]/\RelV x u:=by
 cases r with
 |cons r1 r2=>cases r2;exact#[_,rfl,r1]
def fb{x y:V}(r:Vals [x,y] us):∃u w',us=[u,w']/\RelV x u/\RelV y w':=by
 cases r with
 |cons r1 r2=>
  cases r2 with
  |cons r3 r4=>cases r4;exact#[_,_,rfl,r1,r3]
def vT:bK X (.builtin "abs") (λxs H Q=>∃i,xs=[.int i]/\Q (.int (if i<0 then -i else i)) H):=by
 intro pins s σ H xs us Q I r h;obtain⟨i,rfl,q⟩:=h;obtain⟨u,rfl,t,rfl⟩:=bT r;exact call_abs_int λu tk=>#[.int (if i<0 then -i else i),H,I.tok _,#[_,rfl],q]
def vU(hc:X.calm=true):bK X (.builtin "max") (λxs H Q=>∃i j,xs=[.int i,.int j]/\Q (.int (if j>i then j else i)) H):=by
 intro pins s σ H xs us Q I r h;obtain⟨i,j,rfl,q⟩:=h;obtain⟨u,w',rfl,⟨t,rfl⟩,⟨t',rfl⟩⟩:=fb r;refine max_two_ints (I.ok.hd hc) λh' tk k=>#[_,H,I.kept k,?_,q];by_cases hj:j>i
 .rw[if_pos hj,if_pos hj];exact#[_,rfl]
 .rw[if_neg hj,if_neg hj];exact#[_,rfl]
def vV(hc:X.calm=true):bK X (.builtin "min") (λxs H Q=>∃i j,xs=[.int i,.int j]/\Q (.int (if j<i then j else i)) H):=by
 intro pins s σ H xs us Q I r h;obtain⟨i,j,rfl,q⟩:=h;obtain⟨u,w',rfl,⟨t,rfl⟩,⟨t',rfl⟩⟩:=fb r;refine min_two_ints (I.ok.hd hc) λh' tk k=>#[_,H,I.kept k,?_,q];by_cases hj:j<i
 .rw[if_pos hj,if_pos hj];exact#[_,rfl]
 .rw[if_neg hj,if_neg hj];exact#[_,rfl]
def vW:bK X (.type "int") (λxs H Q=>(∃i,xs=[.int i]/\Q (.int i) H)\/∃k,xs=[.bl k]/\Q (.int (if k then 1 else 0)) H):=by
 intro pins s σ H xs us Q I r h;rcases h with⟨i,rfl,q⟩|⟨k,rfl,q⟩
 .obtain⟨u,rfl,t,rfl⟩:=bT r;exact call_int_int #[.int i,H,I,#[_,rfl],q]
 .obtain⟨u,rfl,r1⟩:=bT r;cases r1;exact call_int_bool #[.int (if k then 1 else 0),H,I.tok _,#[_,rfl],q]
def vX:bK X (.type "str") (λxs H Q=>∃i,xs=[.int i]/\i.natAbs.log2<1920/\Q (.str (toString i)) H):=by
 intro pins s σ H xs us Q I r h;obtain⟨i,rfl,hz,q⟩:=h;obtain⟨u,rfl,t,rfl⟩:=bT r;exact PySem.P.str_of_int hz #[.str _,H,I.tok _,#[_,rfl],q]
def LenV(K:Ex)(x:V)(H:Hp)(n:Nat):Prop:=
 match x with
 |.str y=>y.length<=sizeLine/\n=y.length
 |.byt y=>y.size<=sizeLine/\n=y.size
 |.ref p=>(∃xs,SqL K H p xs/\n=xs.length)\/∃xs,SqT K H p xs/\n=xs.length
 |_=>False
def jn:bK X (.builtin "len") (λxs H Q=>∃x n,xs=[x]/\LenV X.K x H n/\Q (.int n) H):=by
 intro pins s σ H xs us Q I r h;obtain⟨x,n,rfl,e,q⟩:=h;obtain⟨u,rfl,rx⟩:=bT r;have hl:=line63;have hs:sizeLine=16777216:=RO;cases x with
 |str y=>
  obtain⟨t,rfl⟩:=rx;obtain⟨hy,e'⟩:y.length<=sizeLine/\n=y.length:=e;subst e';exact len_str Jb #[.int _,H,I.tok _,#[_,rfl],q]
 |byt y=>
  obtain⟨t,rfl⟩:=rx;obtain⟨hy,e'⟩:y.size<=sizeLine/\n=y.size:=e;subst e';exact len_bytes Jb #[.int _,H,I.tok _,#[_,rfl],q]
 |ref p=>
  cases rx;have e':(∃xs,SqL X.K H p xs/\n=xs.length)\/∃xs,SqT X.K H p xs/\n=xs.length:=e;rcases e' with⟨xs,hx,e'⟩|⟨xs,hx,e'⟩
  .subst e';obtain⟨its,r',pl,hz⟩:=I.list hx;have b8:=r'.length;exact Calls.call_len_list pl.isList (by simp only[Ff];lia) #[.int xs.length,H,I.tok _,#[_,by simp only[Ff];rw[b8]],q]
  .subst e';obtain⟨its,r',pl,hz⟩:=I.tuple hx;have b8:=r'.length;exact len_tuple pl (by simp only[Ff];lia) #[.int xs.length,H,I.tok _,#[_,by simp only[Ff];rw[b8]],q]
 |_=>exact(show False from e).elim
end
structure ObjM(h:Heap)(x dx C:Addr)(mA:Str->Option KB):Prop where
 obj:h.get? x=be (instObj C dx)
 ns:h.Ns1 dx mA
 ne:dx≠x
variable{mA:E_->Option KB}
def pN{dx:Addr}(n:h.Ns1 dx mA):∃od,h.get? dx=be od/\∀name,lookIn name od=be (mA name):=by
 obtain⟨o,es,ep,ho,hd,hk,_,hm⟩:=n;refine#[o,ho,λname=>?_];have e:=hm name;unfold nsFind findBy at e;rw[<-Array.find?_toList]at e;unfold lookIn;rw[hd];dsimp only;split
 .rename_i y q;rw[q]at e;exact congrArg be e
 .rename_i q;rw[q]at e;have a:es.toList.any (·.refKey)=false:=by
   rw[List.any_eq_false];intro y hy;obtain⟨z,t,m5⟩:=hk y (Array.mem_toList_iff.mp hy);simp[DictEntry.refKey,m5]
  have a':¬es.toList.any (·.refKey)=true:=by rw[a];exact Fh
  rw[if_neg a'];exact congrArg be e
variable{C:Addr}
def ObjM.look{x dx:Addr}(I:ObjM h x dx C mA):∃od,PySem.W.InstAt h x (instObj C dx) C (be od)/\∀name,lookIn name od=be (mA name):=
 let ⟨od,ho,hl⟩:=pN I.ns
 #[od,#[I.obj,rfl,rfl,ho],hl]
section
variable {prog:Pi}{w:Q2}{A:Q3}{E:KB->KF->Prop}{s:KF}{K:Ex}{x dx C f:Addr}{mA:E_->Option KB}{name:E_}{v:KB}
def vY{u9:Bool}{Q:KB->KF->Prop}(X:K.In s.heap)(I:ObjM s.heap x dx C mA)(hg:plainGet K C name=true)(hh:hasDictIn K C=true)
  (ha:E9 K (.ref C) name=be z8) (hv:mA name=be v) (OU:Hv v=true) (h:Q v {s with toks:=s.toks+1}):
  Q1 (QZ prog w) A (Sy (.ref x) name u9) Q E s:=by
 obtain⟨od,J,hl⟩:=I.look;exact get_value X J (plainGet_of hg).1 (findObj_own hh ha rfl (by rw[hl,hv])) OU h
def vZ{pl:SB Bool}{Q:KB×List KB->KF->Prop}(X:K.In s.heap)(I:ObjM s.heap x dx C mA)(hg:plainGet K C name=true)
  (hf:E9 K (.ref C) name=be (be (.ref f))) (ht:isFn K (.ref f)=true) (hv:mA name=z8) (h:Q (.ref f,[.ref x]) s):
  Q1 (QZ prog w) A (R3 (.ref x) name pl) Q E s:=by
 obtain⟨od,J,hl⟩:=I.look;exact method_fn X J (plainGet_of hg).1 (plainGet_of hg).2 hf (beq_iff_eq.mp ht) (by show(lookIn name od).map (·.isSome)=be false;rw[hl,hv];rfl) h
def wa{ns:List E_}{Q:Unit->KF->Prop}(X:K.In s.heap)(I:ObjM s.heap x dx C mA)
  (hs:E9 K (.ref C) "__setattr__"=be (be (.builtin "object.__setattr__"))) (hp:plainOver K C=true) (ht:takerIn K C name=be z8) (hh:hasDictIn K C=true)
  (hw:PySem.Within mA ns) (h_:ns.length<=sizeLine)
  (h:∀h',ObjM h' x dx C (λy=>if y=name then be v else mA y)->Heap.SameBut dx s.heap h'->Q () {s with heap:=h',toks:=s.toks+2}):
  Q1 (QZ prog w) A (SY (.ref x) name v) Q E s:=by
 obtain⟨od,J,hl⟩:=I.look;refine PySem.W.set_plain X J hs (osa_open (s:={s with toks:=s.toks+1}) (r:=z8) X J hp ht λb=>?_);obtain⟨cd,hc,d8⟩:=any_some hh;have hx:s.heap.get? x=be #[.ref C,be dx,.plain,[].toArray]:=I.obj;refine KM (QY (KM (KM (Si hx (KM (PySem.W.Looks.here (s:={s with toks:=s.toks+1}) (PySem.W.looks_clsIn X hc) ?_))))));rw[d8];refine QY (a:=be dx) (KM (QY (KM ?_)));refine Ss (s:={s with toks:=s.toks+1}) I.ns λh' r_ k_=>?_;obtain⟨oD,NW,NX,J5,J6,J7⟩:=r_.count (PySem.Within.cons name v hw);refine KM (R_ J5 (by rw[J6];exact Sb (Fg J7 (by rw[Fc];lia))) ?_);exact QY (h _ #[(k_.2 _ (Ne.symm I.ne)).trans I.obj,r_,I.ne] k_)
def wb{R:Result->KF->Prop}{vs:List KB}{kw:List (E_×KB)}(X:K.In s.heap)(hm:makesIn K C=true)
  (hi:E9 K (.ref C) "__init__"=be (be (.ref f))) (hf:PySem.W.typeIn K (.ref f)=be (.type "function"))
  (h:R4 (QZ prog w) (A.under (.builtin "type.__call__" #[.ref C::vs,kw])) (.call (.ref f) #[.ref (s.heap.objs.size+1)::vs,kw]) (InitBack (s.heap.objs.size+1) R)
   {s with heap:=(s.heap.push emptyDict).push (instObj C s.heap.objs.size)}):
  R4 (QZ prog w) A (.call (.ref C) #[vs,kw]) R s:=by
 obtain⟨hh,g,d,t,os⟩:=s;exact make_core (makes_of X hm) (PySem.W.looks_findIn X hi) (λself=>PySem.W.bind_fn X self hf) (.inl rfl) h
end
def putF(f:E_)(v:V):List (E_×V)->List (E_×V)
 |[]=>[(f,v)]
 |(g,x)::r=>if g=f then(g,v)::r else(g,x)::putF f v r
def pO(f g:E_)(v:V):∀fs:List (E_×V),(putF f v fs).lookup g=if g=f then be v else fs.lookup g
 |[]=>by
  show FZ g [(f,v)]=_;by_cases h:g=f
  .have hb:(g==f)=true:=beq_iff_eq.mpr h;simp only[FZ,hb,if_pos h]
  .have hb:(g==f)=false:=beq_eq_false_iff_ne.mpr h;simp only[FZ,hb,if_neg h]
 |(k,x)::r=>by
  have ih:=pO f g v r;rw[show putF f v ((k,x)::r)=(if k=f then(k,v)::r else(k,x)::putF f v r)from rfl];by_cases hk:k=f
  .rw[if_pos hk];by_cases h:g=k
   .have hb:(g==k)=true:=beq_iff_eq.mpr h;simp only[FZ,hb,if_pos (h.trans hk)]
   .have hb:(g==k)=false:=beq_eq_false_iff_ne.mpr h;simp only[FZ,hb,if_neg (λe:g=f=>h (e.trans hk.symm))]
  .rw[if_neg hk];by_cases h:g=k
   .have hb:(g==k)=true:=beq_iff_eq.mpr h;simp only[FZ,hb,if_neg (λe:g=f=>hk (h.symm.trans e))]
   .have hb:(g==k)=false:=beq_eq_false_iff_ne.mpr h;simp only[FZ,hb];exact ih
def jp(f:E_)(v:V):∀fs:List (E_×V),f∈(putF f v fs).map (·.1)/\∀g,g∈fs.map (·.1)->g∈(putF f v fs).map (·.1)
 |[]=>#[by simp[putF],λg h=>by simp at h]
 |(k,x)::r=>by
  obtain⟨i1,i2⟩:=jp f v r;rw[show putF f v ((k,x)::r)=(if k=f then(k,v)::r else(k,x)::putF f v r)from rfl];by_cases hk:k=f
  .rw[if_pos hk];subst hk;exact#[J4,λg h=>by simpa using h]
  .rw[if_neg hk];refine#[?_,λg h=>?_]
   .rw[Ft];exact Fe _ i1
   .rw[Ft]at h ⊢;rcases Fb.mp h with e|e
    .exact Fb.mpr (.inl e)
    .exact Fe _ (i2 g e)
def pP(f:E_)(v:V):∀fs:List (E_×V),(putF f v fs).length<=fs.length+1
 |[]=>by simp[putF]
 |(k,x)::r=>by
  have ih:=pP f v r;rw[show putF f v ((k,x)::r)=(if k=f then(k,v)::r else(k,x)::putF f v r)from rfl];by_cases hk:k=f
  .rw[if_pos hk,Fc,Fc];lia
  .rw[if_neg hk,Fc,Fc];lia
def RelO.some_of{v:V}{o:Option KB}(r:RelO (be v) o):∃u,o=be u/\RelV v u:=by
 cases o with
 |none=>exact(show False from r).elim
 |some u=>exact#[u,rfl,r]
def RelO.none_of{o:Option KB}(r:RelO z8 o):o=none:=by
 cases o with
 |none=>rfl
 |some u=>exact(show False from r).elim
def pQ{v:V}(r:RelV v u):Hv u=true:=by
 cases v with
 |non=>cases(show u=Value.none from r);rfl
 |bl b=>cases(show u=Value.bool b from r);rfl
 |int i=>obtain⟨t,e⟩:=(show ∃t,u=Value.int i t from r);cases e;rfl
 |str x=>obtain⟨t,e⟩:=(show ∃t,u=Value.str x t from r);cases e;rfl
 |byt b=>obtain⟨t,e⟩:=(show ∃t,u=Value.bytes b t from r);cases e;rfl
 |flt b=>obtain⟨t,e⟩:=(show ∃t,u=Value.float b t from r);cases e;rfl
 |ref a=>cases(show u=Value.ref a from r);rfl
 |ty n=>cases(show u=Value.type n from r);rfl
section
variable {P:Pi}{w:Q2}{H H':Hp}{h h':Heap}{a C dx:Addr}{fs j9:List (E_×V)}
def fW(hok:HOk P w H h)(e:H a=be (.ins C dx fs)):∃mA,ObjM h a dx C mA/\(∀f,RelO (fs.lookup f) (mA f))/\PySem.Within mA (fs.map (·.1))/\fs.length<=1000/\H dx=be (.own a):=by
 obtain⟨d,z,ne,ob,mA,n,r,q⟩:=(show ObjOk P w H h a (.ins C dx fs)from hok a _ e);exact#[mA,#[ob,n,ne],r,q,z,d]
end
structure Cls(K:Ex)(C:Addr):Prop where
 pg:plainGet K C Str.empty=true
 hd:hasDictIn K C=true
 po:plainOver K C=true
 sa:E9 K (.ref C) "__setattr__"=be (be (.builtin "object.__setattr__"))
def Cls.get(c:Cls K C)(f:E_):plainGet K C f=true:=c.pg
def NoAttr(K:Ex)(C:Addr)(f:E_):Prop:=E9 K (.ref C) f=be z8
def NoAttr.taker{f:E_}(n:NoAttr K C f):takerIn K C f=be none:=by
 unfold takerIn;rw[show E9 K (.ref C) f=be z8 from n];rfl
structure Meth(K:Ex)(C:Addr)(m:Str)(f:Addr):Prop where
 at_:E9 K (.ref C) m=be (be (.ref f))
 fn:isFn K (.ref f)=true
 kp:keepIn K (.ref f)=true
section
variable {X:Cx}{pins:List (Addr×Re)}{σ:St}{H:Hp}{s:KF}{a C dx:Addr}{fs:List (E_×V)}{f:E_}{v:V}{A:Q3}{E:KB->KF->Prop}
variable{Q:KB->KF->Prop}
def wc{b:Bool}(I:Inv X pins σ H s)(e:H a=be (.ins C dx fs))(c:Cls X.K C)(n:NoAttr X.K C f)(l:fs.lookup f=be v)
  (h:∀u s',Inv X pins σ H s'->RelV v u->Q u s'):Q1 (QZ X.prog X.w) A (Sy (.ref a) f b) Q E s:=by
 obtain⟨mA,O,r,_,_,_⟩:=fW I.hok e;obtain⟨u,hu,ru⟩:=RelO.some_of (v:=v) (o:=mA f) (by rw[<-l];exact r f);exact vY I.kIn O (c.get f) c.hd n hu (pQ ru) (h u _ (I.tok _) ru)
def jq{m:E_}{g:Addr}{pl:SB Bool}{Q:KB×List KB->KF->Prop}(I:Inv X pins σ H s)(e:H a=be (.ins C dx fs))(c:Cls X.K C)(k:Meth X.K C m g)(l:fs.lookup m=z8)
  (h:Q (.ref g,[.ref a]) s):Q1 (QZ X.prog X.w) A (R3 (.ref a) m pl) Q E s:=by
 obtain⟨mA,O,r,_,_,_⟩:=fW I.hok e;have hn:mA m=none:=RelO.none_of (by rw[<-l];exact r m);exact vZ I.kIn O (c.get m) k.at_ k.fn hn h
def we{y:V}{u:KB}{Q:Unit->KF->Prop}(I:Inv X pins σ H s)(e:H a=be (.ins C dx fs))(c:Cls X.K C)(n:NoAttr X.K C f)(hl:fs.length<1000)(ry:RelV y u)
  (h:∀s',Inv X pins σ (upd H a (.ins C dx (putF f y fs))) s'->Q () s'):Q1 (QZ X.prog X.w) A (SY (.ref a) f u) Q E s:=by
 obtain⟨mA,O,r,wi,_,ho⟩:=fW I.hok e;have hz:(fs.map (·.1)).length<=sizeLine:=by rw[Fs,RO];lia
 refine wa I.kIn O c.sa c.po n.taker c.hd wi hz λh' O' sb=>h _ ?_;have hd:∃o,h'.get? dx=be o:=let ⟨o,_,_,e',_⟩:=O'.ns;#[o,e']
 refine I.write (x:=a) (e:=dx) (by rw[e];exact True.intro) (.inr ho) (λb q hb z=>(sb.2 b hb).trans z) hd ?_;refine#[by rw[aj O.ne];exact ho,?_,O.ne,O'.obj,_,O'.ns,λg=>?_,λg hg=>?_]
 .have:=pP f y fs;lia
 .show RelO ((putF f y fs).lookup g) (if g=f then be u else mA g);rw[pO];by_cases q:g=f
  .rw[if_pos q,if_pos q];exact ry
  .rw[if_neg q,if_neg q];exact r g
 .by_cases q:g=f
  .rw[q];exact(jp f y fs).1
  .refine(jp f y fs).2 g (wi g λz=>hg ?_);show(if g=f then be u else mA g)=z8;rw[if_neg q];exact z
def Inv.made(I:Inv X pins σ H s):Inv X pins σ (upd (upd H s.heap.objs.size (.own (s.heap.objs.size+1))) (s.heap.objs.size+1) (.ins C s.heap.objs.size []))
  {s with heap:=(s.heap.push emptyDict).push (instObj C s.heap.objs.size)}:=by
 have e1:(s.heap.push emptyDict).get? s.heap.objs.size=be emptyDict:=Heap.get?_push_size s.heap rfl;have e2:((s.heap.push emptyDict).push (instObj C s.heap.objs.size)).get? (s.heap.objs.size+1)=be (instObj C s.heap.objs.size):=by
  have:=Heap.get?_push_size (s.heap.push emptyDict) (o:=instObj C s.heap.objs.size) rfl;rwa [Heap.size_push]at this
 have e3:(s.heap.push emptyDict).Ns s.heap.objs.size (λ_=>z8):=#[emptyDict,[].toArray,_,e1,rfl,(λe he=>absurd he J4),λ_=>rfl];have I1:=I.laid (a:=s.heap.objs.size) (o:=.own (s.heap.objs.size+1)) (h':=s.heap.push emptyDict) (t':=s.toks) (λb u q=>Heap.get?_push_of_some _ q) (E7 _) #[_,e1];refine I1.laid (a:=s.heap.objs.size+1) (o:=.ins C s.heap.objs.size []) (t':=s.toks) (λb u q=>Heap.get?_push_of_some _ q) (GH (Heap.size_push _ _)) ?_;have ne:s.heap.objs.size≠s.heap.objs.size+1:=Fd (Hw _);refine#[by rw[aj ne,aw],Fz _,ne,e2,λ_=>z8,(Heap.Ns1.of_empty e3).at λo q=>Heap.get?_push_of_some _ q,λ_=>True.intro,λy hy=>absurd rfl hy]
def attr_of{prog:Pi}{w:Q2}{env:RI}{e:P3}{f:E_}{pos:Q_}{s:KF}(hb:Q6 e f env (Q7 e env)=Q7 e env)
  (h:Q1 (QZ prog w) A (Q7 e env) (λo s₁=>Q1 (QZ prog w) A (Sy o f true) Q E s₁) E s):Q1 (QZ prog w) A (Q7 (.Attribute e f pos) env) Q E s:=
 Attribute_any_ h (by rw[arm_eval_Attribute,hb])
end
def tFld(K:Ex)(ta:TE)(f:E_):TE:=λσ H Q=>ta σ H λx H1=>∃a C dx fs v,x=.ref a/\H1 a=be (.ins C dx fs)/\Cls K C/\NoAttr K C f/\fs.lookup f=be v/\Q v H1
def sFld(K:Ex)(ta tv:TE)(f:E_):TS:=λD σ H=>tv σ H λy H1=>ta σ H1 λx H2=>∃a C dx fs,x=.ref a/\H2 a=be (.ins C dx fs)/\Cls K C/\NoAttr K C f/\fs.length<1000/\
 D.nx σ (upd H2 a (.ins C dx (putF f y fs)))
section
variable {X:Cx}{o e value:P3}{f:E_}{pos c7 J3:Q_}{ta tv:TE}
def pR(he:PE X e ta)(hb:Q6 e f X.env (Q7 e X.env)=Q7 e X.env):PE X (.Attribute e f pos) (tFld X.K ta f):=by
 intro pins s σ H Q I h;refine attr_of hb (thn (he pins s σ H _ I h) λu s1 b9=>?_);obtain⟨x,H1,I1,rx,a,C,dx,fs,v,ex,ea,c,n,l,q⟩:=b9;subst ex;obtain rfl:u=Value.ref a:=rx;exact wc I1 ea c n l λu' s2 I2 ru=>#[v,H1,I2,ru,q]
def pS(ha:PE X o ta)(hv:PE X value tv)(hs:Rh value (be (.Attribute o f c7)) pos.line X.env=pure false):PS X (.Assign [.Attribute o f c7] value pos) (sFld X.K ta tv f):=by
 intro pins s σ H D I h;refine Ry (thn (hv pins s σ H _ I h) λu s1 ⟨y,H1,I1,ry,q⟩=>thn (ha pins s1 σ H1 _ I1 q) λov s2 hh=>?_) hs;obtain⟨x,H2,I2,rx,a,C,dx,fs,ex,ea,c,n,l,q2⟩:=hh;subst ex;obtain rfl:ov=Value.ref a:=rx;exact we I2 ea c n l ry λs3 I3=>#[σ,_,I3,q2]
end
section
variable {X:Cx}{pins:List (Addr×Re)}{σ:St}{H:Hp}{s:KF}{A:Q3}{E:KB->KF->Prop}{Q:KB->KF->Prop}{c:KB}{b:Bool}
inductive TyOf(K:Ex)(H:Hp):V->KB->Prop where
 |non:TyOf K H .non (.type "NoneType")
 |bl (x:Bool):TyOf K H (.bl x) (.type "bool")
 |int (i:Int):TyOf K H (.int i) (.type "int")
 |str (x:Str):TyOf K H (.str x) (.type "str")
 |flt (x:UInt64):TyOf K H (.flt x) (.type "float")
 |lst {a:Addr} {xs:List V} (e:H a=some (.lst xs)):TyOf K H (.ref a) (.type "list")
 |frz {a:Addr} {o:Re} {xs:List V} (e:H a=some (.frz o (.lst xs))):TyOf K H (.ref a) (.type "list")
 |tup {a:Addr} {xs:List V} (e:H a=some (.tup xs)):TyOf K H (.ref a) (.type "tuple")
 |dK {a:Addr} {a8:List (Key×V)} (e:H a=some (.dK a8)):TyOf K H (.ref a) (.type "dict")
 |dT {a:Addr} {a8:List (List Key×V)} (e:H a=some (.dT a8)):TyOf K H (.ref a) (.type "dict")
 |ins {a C dx:Addr} {fs:List (Str×V)} (e:H a=some (.ins C dx fs)) (cl:Cls K C) (ha:E9 K (.ref C) "__class__"=some (some (.builtin "object.__class__")))
   (hn:specialIn K (.builtin "object.__class__") "__get__"=be (be (.builtin "getset_descriptor.__get__"))) (htk:takesIn K (.builtin "object.__class__")=be true)
   (hm:FM K C (.type "object")=be true):TyOf K H (.ref a) (.ref C)
def wg{x:V}{u t:KB}(I:Inv X pins σ H s)(rx:RelV x u)(ty:TyOf X.K H x t)(e:kitOne X.K t c=be b)(h:∀tk,Q (.bool b) {s with toks:=tk}):
  Q1 (QZ X.prog X.w) A (call (.builtin "isinstance") [u,c]) Q E s:=by
 cases ty with
 |non=>cases(show u=Value.none from rx);exact kia_one kitx_none I.kIn True.intro e (λz=>nomatch z) h
 |bl y=>cases(show u=Value.bool y from rx);exact kia_one kitx_bool I.kIn True.intro e (λz=>nomatch z) h
 |int i=>obtain⟨t,q⟩:=(show ∃t,u=Value.int i t from rx);cases q;exact kia_one kitx_int I.kIn True.intro e (λz=>nomatch z) h
 |str y=>obtain⟨t,q⟩:=(show ∃t,u=Value.str y t from rx);cases q;exact kia_one kitx_str I.kIn True.intro e (λz=>nomatch z) h
 |flt y=>obtain⟨t,q⟩:=(show ∃t,u=Value.float y t from rx);cases q;exact kia_one kitx_float I.kIn True.intro e (λz=>nomatch z) h
 |@lst a xs ea=>
  cases(show u=Value.ref a from rx);obtain⟨_,_,n,_,h1⟩:=(show ObjOk X.prog X.w H s.heap a (.lst xs)from I.hok a _ ea);exact kia_one kitx_list I.kIn #[_,h1,rfl] e (λz=>nomatch z) h
 |@frz a ob xs ea=>
  cases(show u=Value.ref a from rx);obtain⟨_,_,_,n,_,h1⟩:=(show ObjOk X.prog X.w H s.heap a (.frz ob (.lst xs))from I.hok a _ ea);exact kia_one kitx_list I.kIn #[_,h1,rfl] e (λz=>nomatch z) h
 |@tup a xs ea=>
  cases(show u=Value.ref a from rx);obtain⟨_,_,_,p⟩:=(show ObjOk X.prog X.w H s.heap a (.tup xs)from I.hok a _ ea);obtain⟨o,h1,h2,_⟩:=p;exact kia_one kitx_tuple I.kIn #[o,h1,h2] e (λz=>nomatch z) h
 |@dK a a8 ea=>
  cases(show u=Value.ref a from rx);obtain⟨_,_,vs,_,p⟩:=(show ObjOk X.prog X.w H s.heap a (.dK a8)from I.hok a _ ea);obtain⟨o,es,ep,h1,h2,_⟩:=p;exact kia_one kitx_dict I.kIn #[o,h1,h2.1] e (λz=>nomatch z) h
 |@dT a a8 ea=>
  cases(show u=Value.ref a from rx);obtain⟨_,_,xs,_,o,es,ep,h1,h2,_⟩:=(show ObjOk X.prog X.w H s.heap a (.dT a8)from I.hok a _ ea);exact kia_one kitx_dict I.kIn #[o,h1,h2.1] e (λz=>nomatch z) h
 |@ins a C dx fs ea cl ha hn htk hm=>
  cases(show u=Value.ref a from rx);obtain⟨mA,O,_⟩:=fW I.hok ea;obtain⟨od,J,_⟩:=O.look;exact kia_one (kitx_own (cl.get _) cl.hd ha hn htk hm) I.kIn J e (λz=>nomatch z) h
end
structure Room(k:Nat)(A:Q3):Prop where
 hd:A.handled=z8
 dp:A.depth+3*k+5<recursionLimit
 un:A.units+16*k+200<R6
variable{k:Nat}
def Room.mono{j:Nat}(r:Room k A)(h:j<=k):Room j A:=#[r.hd,by have:=r.dp;lia,by have:=r.un;lia]
def Room.deeper(r:Room (k+1) A)(env:RI):Room k (A.deeper env):=
 #[r.hd,by have:=r.dp;show A.depth+1+3*k+5<_;lia,by have:=r.un;show A.units+3+16*k+200<_;lia]
def Room.in1(r:Room (k+1) A):Room k A.in1:=
 #[r.hd,by have:=r.dp;show A.depth+3*k+5<_;lia,by have:=r.un;show A.units+1+16*k+200<_;lia]
variable{kw:List (E_×KB)}
def wj:(A.under (.builtin "type.__call__" #[.ref C::us,kw])).depth=A.depth+1:=by
 first|rfl|simp[Around.under,Code.weight,Code.isCreation,Code.isGuard,Code.isCaller,Code.frames,Code.isFrame,guardIds]
def wk:(A.under (.builtin "type.__call__" #[.ref C::us,kw])).units=A.units+1:=by
 first|rfl|simp[Around.under,Code.cUnits,Code.frames,Code.isFrame]
def Room.make(r:Room (k+1) A)(C:Addr)(us:List KB)(kw:List (E_×KB)):Room k (A.under (.builtin "type.__call__" #[.ref C::us,kw])):=
 #[r.hd,by have:=r.dp;rw[wj];lia,by have:=r.un;rw[wk];lia]
def Room.depth(r:Room k A):A.depth<recursionLimit:=by have:=r.dp;lia
def Room.units(r:Room k A):A.units+64<R6:=by have:=r.un;lia
def tNil:TA:=λ_ H Q=>Q [] H
def pT(ta:TE)(tr:TA):TA:=λσ H Q=>ta σ H λx H1=>tr σ H1 λxs H2=>Q (x::xs) H2
section
variable {X:Cx}{e:P3}{es:List P3}{te:TE}{t:TA}{pos:Q_}
def pa_nil:PA X [] tNil:=λ_ _ _ _ H Q I h=>Calls.spliced_nil #[[],H,I,.nil,h]
def bo(ha:PE X e te)(hr:PA X es t)(hs:autoParam (zSE X e es) zA0):PA X (e::es) (pT te t):=by
 intro pos pins s σ H Q I h;rw[hs];show Q1 _ _ (spliced ((false,Q7 e X.env)::Rx pos (Q4 es X.env))) _ _ s;refine Calls.spliced_cons (thn (ha pins s σ H _ I h) λu s1 b9=>?_);obtain⟨x,H1,I1,r1,q1⟩:=b9;exact thn (hr pos pins s1 σ H1 _ I1 q1) λus s2 ⟨xs,H2,I2,r2,q2⟩=>#[x::xs,H2,I2,.cons r1 r2,q2]
def tTup(t:TA):TE:=λσ H Q=>t σ H λxs H1=>xs.length<=sizeLine/\∀p,H1 p=z8->Q (.ref p) (upd H1 p (.tup xs))
def tLst(t:TA):TE:=λσ H Q=>t σ H λxs H1=>xs.length<=sizeLine/\∀p,H1 p=z8->Q (.ref p) (upd H1 p (.lst xs))
def pU{x1}(h:PA X es t):PE X (.Tuple es x1 pos) (tTup t):=by
 intro pins s σ H Q I hq;refine wpAny_Tuple_spliced (thn (h pos pins s σ H _ I hq) λus s1 ⟨xs,H1,I1,r,z,q⟩=>#[by rw[<-r.length];exact z,?_]);have hf:H1 s1.heap.objs.size=none:=I1.hok.fresh (E7 _);refine#[.ref s1.heap.objs.size,upd H1 s1.heap.objs.size (.tup xs),I1.laid (t':=s1.toks) (λb u e=>Heap.get?_push_of_some _ e) (E7 _) ?_,rfl,q _ hf];exact#[z,us,r,#[_,Heap.get?_push_size _ rfl,rfl,_,rfl]]
def jr(h:PA X es t):PE X (.List es pos) (tLst t):=by
 intro pins s σ H Q I hq;refine wpAny_List_spliced (thn (h pos pins s σ H _ I hq) λus s1 ⟨xs,H1,I1,r,z,q⟩=>#[by rw[<-r.length];exact z,?_]);have hf:H1 s1.heap.objs.size=none:=I1.hok.fresh (E7 _);refine#[.ref s1.heap.objs.size,upd H1 s1.heap.objs.size (.lst xs),I1.laid (t':=s1.toks) (λb u e=>Heap.get?_push_of_some _ e) (E7 _) ?_,rfl,q _ hf];exact#[z,us,0,r,Heap.get?_push_size _ rfl]
end
abbrev Sp:=List V->Hp->VK->XK->Prop
abbrev CXT:=List RI->Hp->KF->XK->KB->KF->Prop
structure Env0(P:Pi)(w:Q2)(K:Ex)(mg:Str->Option KB)(base:Heap)(A:Q3)(outer:List RI)(s:KF)(H:Hp):Prop where
 frames:A.frames=be outer
 mod:Mod K mg base
 bs:∀b o,base.get? b=be o->s.heap.get? b=be o/\H b=z8
 bsz:base.objs.size<=s.heap.objs.size
 funs:s.heap.FunFrames base outer
 frf:∀b∈frs outer,H b=z8
 hok:HOk P w H s.heap
 bare:RP s.gens
def CE(outer:List RI)(P:Pi)(w:Q2)(H:Hp)(s:KF)(Q:VK)(u:KB)(s':KF):Prop:=
 ∃v H',s'.os=s.os/\RP s'.gens/\Un (frs outer) [] H H' s.heap s'.heap/\HOk P w H' s'.heap/\RelV v u/\Q v H'
def CR(CX:CXT)(outer:List RI)(P:Pi)(w:Q2)(H:Hp)(s:KF)(Q:VK)(E:XK)(r:Result)(s':KF):Prop:=
 match r with
 |.ok (.ret u)=>CE outer P w H s Q u s'
 |.ok _=>False
 |.error e=>CX outer H s E e s'
structure FnOk(P:Pi)(w:Q2)(K:Ex)(mg:Str->Option KB)(base:Heap)(CX:CXT)(k:Nat)(f:Addr)(fd:Q8)(ps:List Str)(sp:Sp):Prop where
 len:∀vs H Q E,sp vs H Q E->vs.length=ps.length
 run:∀(A:Q3) (outer:List RI) (s:KF) (H:Hp) (args:Args) (us:List KB) (vs:List V) (Q:VK) (E:XK),Room k A->Env0 P w K mg base A outer s H->RW s fd args (ps.zip us)->Vals vs us->sp vs H Q E->
  R4 (QZ P w) A (.call (.ref f) args) (CR CX outer P w H s Q E) s
variable{f:Addr}{mg:E_->Option KB}{base:Heap}{CX:CXT}{fd:Q8}{ps:List E_}{sp:Sp}
def FnOk.mono{j:Nat}(F:FnOk P w K mg base CX j f fd ps sp)(h:j<=k):
  FnOk P w K mg base CX k f fd ps sp:=#[F.len,λA outer s H args us vs Q E hr=>F.run A outer s H args us vs Q E (hr.mono h)]
def FnOk.imp{IK:Sp}(F:FnOk P w K mg base CX k f fd ps sp)
  (h:∀vs H Q E,IK vs H Q E->sp vs H Q E):FnOk P w K mg base CX k f fd ps IK:=
 #[λvs H Q E q=>F.len vs H Q E (h _ _ _ _ q),λA outer s H args us vs Q E hr he hb hv hs=>F.run A outer s H args us vs Q E hr he hb hv (h _ _ _ _ hs)]
variable{outer:List RI}
def Env0.make(e:Env0 P w K mg base A outer s H)(C:Addr)(us:List KB)(kw:List (E_×KB)):
  Env0 P w K mg base (A.under (.builtin "type.__call__" #[.ref C::us,kw])) outer s H:=#[by first|exact e.frames|(simpa[Around.under,Code.envs,Code.isFrame,pushEnvs]using e.frames),e.mod,e.bs,e.bsz,e.funs,e.frf,e.hok,e.bare]
def Env0.in1(e:Env0 P w K mg base A outer s H):
  Env0 P w K mg base A.in1 outer s H:=#[e.frames,e.mod,e.bs,e.bsz,e.funs,e.frf,e.hok,e.bare]
section
variable {X:Cx}{pins:List (Addr×Re)}{σ:St}{H:Hp}{s s':KF}
def Inv.env0(I:Inv X pins σ H s):Env0 X.prog X.w X.K X.mg X.base X.A X.stack s H:=
 #[I.ok.frames,I.ok.mod,I.bs,Fg I.ok.bsz I.sz,I.stack,I.stkFree,I.hok,I.bare]
def Inv.after{Q:VK}{u:KB}(I:Inv X pins σ H s)(h:CE X.stack X.prog X.w H s Q u s'):EP X pins σ Q u s':=by
 obtain⟨v,H',os,bare,un,hok,r,q⟩:=h;obtain⟨hh,g,d,t,OV⟩:=s';obtain rfl:OV=s.os:=os;exact#[v,H',I.call (h':=hh) (g':=g) (d':=d) (t':=t) (ch:=[]) un hok bare (λb z=>absurd z J4),r,q]
end
def pV(sp:Sp)(e9:List V)(E:XK)(t:TA):TE:=λσ H Q=>t σ H λvs H1=>sp (vs++e9) H1 Q E
def wl(C:Addr)(sp:Sp)(e9:List V)(E:XK)(t:TA):TE:=λσ H Q=>t σ H λvs H1=>∀x dx,H1 x=z8->H1 dx=z8->dx≠x->
 sp (.ref x::(vs++e9)) (upd (upd H1 dx (.own x)) x (.ins C dx [])) (λv H2=>v=.non/\Q (.ref x) H2) E
def Binds(K:Ex)(fd:Q8)(ps:List E_)(ds:List KB):Prop:=
 ∀(s:KF) (us:List KB),K.In s.heap->(us++ds).length=ps.length->RW s fd #[us,[]] (ps.zip (us++ds))
def Binds.all(h:∀us:List KB,us.length=ps.length->RF fd #[us,[]]=pure (ps.zip us)):Binds K fd ps []:=λs us _ hl=>by
 rw[FE]at hl ⊢;exact .of_eq (h us hl)
def fg(CX:CXT)(X:Cx)(E:XK):Prop:=∀(pins:List (Addr×Re)) (σ:St) (H:Hp) (s:KF) (e:KB) (s':KF),Inv X pins σ H s->CX X.stack H s E e s'->X.xe e s'
section
variable {X:Cx}{CX:CXT}{k:Nat}{f C:Addr}{fd:Q8}{ps:List E_}{sp:Sp}{e9:List V}{ds:List KB}{E:XK}{x m:E_}{p pos apos:Q_}{e o:P3}{es:List P3}{ta:TE}{t:TA}
variable{pins:List (Addr×Re)}{us:List KB}{vs:List V}
def wm{σ:St}{H:Hp}{s:KF}{Q:VK}(F:FnOk X.prog X.w X.K X.mg X.base CX k f fd ps sp)(hr:Room k X.A)(hb:Binds X.K fd ps ds)(hd:Vals e9 ds)(hx:fg CX X E)
  (I:Inv X pins σ H s) (r:Vals vs us) (h:sp (vs++e9) H Q E):Q1 (QZ X.prog X.w) X.A (call (.ref f) us) (EP X pins σ Q) X.xe s:=by
 have r2:Vals (vs++e9) (us++ds):=r.append hd;have hl:(us++ds).length=ps.length:=by rw[<-r2.length];exact F.len _ _ _ _ h
 refine Rz (Rw (F.run X.A X.stack s H #[us,[]] (us++ds) (vs++e9) Q E hr I.env0 (hb s us I.kIn hl) r2 h) λr s' hq=>?_);cases r with
 |error e=>exact hx pins σ H s e s' I hq
 |ok fl=>
  cases fl with
  |ret u=>exact I.after hq
  |next=>exact False.elim hq
  |brk=>exact False.elim hq
  |cont=>exact False.elim hq
def wn(F:FnOk X.prog X.w X.K X.mg X.base CX k f fd ps sp)(hr:Room k X.A)(hg:Gl X x)(hm:X.mg x=be (.ref f))(hk:keepIn X.K (.ref f)=true)(hb:Binds X.K fd ps ds)(hd:Vals e9 ds)(hx:fg CX X E)
  (ha:PA X (e::es) t) (c_:autoParam (zND x) zA1) (he:autoParam (zSE X e es) zA0) (c5:autoParam (zPL X pos es) zA0):
  PE X (.Call (.Name x p) (e::es) [] pos) (pV sp e9 E t):=by
 intro pins s σ H Q I h;refine Rb (cj I hg hm ?_ c_);refine callWith_K (h₀:=X.base) I.ok.mod.kin hk (thn (ha pos pins s σ H _ I h) λus s1 ⟨vs,H1,I1,r,q⟩=>#[I1.kIn,?_]) he c5;exact wm F hr hb hd hx I1 r q
structure Mk(K:Ex)(C f:Addr):Prop where
 makes:makesIn K C=true
 init:E9 K (.ref C) "__init__"=be (be (.ref f))
 fn:isFn K (.ref f)=true
 kp:keepIn K (.ref C)=true
def wo{σ:St}{H:Hp}{s:KF}{Q:VK}(M:Mk X.K C f)(F:FnOk X.prog X.w X.K X.mg X.base CX k f fd ps sp)(hr:Room (k+1) X.A)(hb:Binds X.K fd ps ds)(hd:Vals e9 ds)
  (hx:fg CX X E) (I:Inv X pins σ H s) (r:Vals vs us)
  (h:∀x dx,H x=z8->H dx=z8->dx≠x->sp (.ref x::(vs++e9)) (upd (upd H dx (.own x)) x (.ins C dx [])) (λv H2=>v=.non/\Q (.ref x) H2) E):
  Q1 (QZ X.prog X.w) X.A (call (.ref C) us) (EP X pins σ Q) X.xe s:=by
 have hq:=h (s.heap.objs.size+1) s.heap.objs.size (I.hok.fresh (F4 _)) (I.hok.fresh (E7 _)) (Fd (Hw _));have I2:=Inv.made (C:=C) I;have r2:Vals (V.ref (s.heap.objs.size+1)::(vs++e9)) (Value.ref (s.heap.objs.size+1)::(us++ds)):=.cons rfl (r.append hd);have hl:(Value.ref (s.heap.objs.size+1)::us++ds).length=ps.length:=by
  have e:=r2.length;rw[F.len _ _ _ _ hq]at e;exact e.symm
 refine Rz (wb (f:=f) I.kIn M.makes M.init (beq_iff_eq.mp M.fn) (Rw (F.run _ X.stack _ _ #[Value.ref (s.heap.objs.size+1)::us,[]] (Value.ref (s.heap.objs.size+1)::(us++ds)) _ _ E (hr.make C us [])
  (I2.env0.make C us []) (hb _ (Value.ref (s.heap.objs.size+1)::us) I2.kIn hl) r2 hq) λr s' m6=>?_))
 cases r with
 |error e=>exact hx pins σ _ _ e s' I2 m6
 |ok fl=>
  cases fl with
  |ret u=>
   obtain⟨v,H',I3,rv,ev,q3⟩:=I2.after m6;subst ev;exact#[rv,#[V.ref (s.heap.objs.size+1),H',I3,rfl,q3]]
  |next=>exact False.elim m6
  |brk=>exact False.elim m6
  |cont=>exact False.elim m6
def fX(M:Mk X.K C f)(F:FnOk X.prog X.w X.K X.mg X.base CX k f fd ps sp)(hr:Room (k+1) X.A)(hg:Gl X x)(hm:X.mg x=be (.ref C))(hb:Binds X.K fd ps ds)(hd:Vals e9 ds)(hx:fg CX X E)
  (ha:PA X (e::es) t) (c_:autoParam (zND x) zA1) (he:autoParam (zSE X e es) zA0) (c5:autoParam (zPL X pos es) zA0):
  PE X (.Call (.Name x p) (e::es) [] pos) (wl C sp e9 E t):=by
 intro pins s σ H Q I h;refine Rb (cj I hg hm ?_ c_);refine callWith_K (h₀:=X.base) I.ok.mod.kin M.kp (thn (ha pos pins s σ H _ I h) λus s1 ⟨vs,H1,I1,r,q⟩=>#[I1.kIn,?_]) he c5;exact wo M F hr hb hd hx I1 r q
end
structure FnScope(N P:List Str)(sc:Rr):Prop where
 kind:sc.kind=.function
 co:sc.isCoroutine=false
 gen:sc.isGenerator=false
 nd:N.Nodup
 pre:N.take P.length=P
 par:∀x∈P,sc.names.lookup x=be .local\/sc.names.lookup x=be .cell
 nofree:∀y∈sc.names,y.2≠.free
def pW{kindOf:E_->Option RG}{x:E_}:∀{binds:List (E_×KB)} {m:E_->Option KB},(∀v,(x,v)∉binds)->So kindOf binds m x=m x
 |[],_,_=>rfl
 |(n,v)::r,m,h=>by
  unfold So;rw[pW λw hw=>h w (Fe _ hw)];split
  .have:x≠n:=by rintro rfl;exact h v Fi
   simp[this]
  .rfl
def bindC_out{kindOf:E_->Option RG}{x:E_}:∀{binds:List (E_×KB)} {m:E_->Option KB},(∀v,(x,v)∉binds)->Sq kindOf binds m x=m x
 |[],_,_=>rfl
 |(n,v)::r,m,h=>by
  unfold Sq;rw[bindC_out λw hw=>h w (Fe _ hw)];split
  .rfl
  .have:x≠n:=by rintro rfl;exact h v Fi
   simp[this]
def bindL_get{kindOf:E_->Option RG}{x:E_}{v:KB}:∀{P:List E_} {vs:List KB} {i:Nat} {m:E_->Option KB},P.Nodup->P[i]?=be x->vs[i]?=be v->kindOf x=be .local->
  So kindOf (P.zip vs) m x=be v
 |[],_,_,_,_,h,_,_=>by simp at h
 |_::_,[],_,_,_,_,h,_=>by simp at h
 |p::P,w::vs,0,m,nd,h1,h2,hk=>by
  simp at h1 h2;subst h1;subst h2;show So kindOf ((p,w)::P.zip vs) m p=_;unfold So;rw[pW λv hv=>(FN.mp nd).1 (G2 hv).1,if_pos hk];simp
 |p::P,w::vs,i+1,m,nd,h1,h2,hk=>by
  show So kindOf ((p,w)::P.zip vs) m x=_;unfold So;exact bindL_get (i:=i) (FN.mp nd).2 (by simpa using h1) (by simpa using h2) hk
def pX{kindOf:E_->Option RG}{x:E_}{v:KB}:∀{P:List E_} {vs:List KB} {i:Nat} {m:E_->Option KB},P.Nodup->P[i]?=be x->vs[i]?=be v->kindOf x≠be .local->
  Sq kindOf (P.zip vs) m x=be v
 |[],_,_,_,_,h,_,_=>by simp at h
 |_::_,[],_,_,_,_,h,_=>by simp at h
 |p::P,w::vs,0,m,nd,h1,h2,hk=>by
  simp at h1 h2;subst h1;subst h2;show Sq kindOf ((p,w)::P.zip vs) m p=_;unfold Sq;rw[bindC_out λv hv=>(FN.mp nd).1 (G2 hv).1,if_neg hk];simp
 |p::P,w::vs,i+1,m,nd,h1,h2,hk=>by
  show Sq kindOf ((p,w)::P.zip vs) m x=_;unfold Sq;exact pX (i:=i) (FN.mp nd).2 (by simpa using h1) (by simpa using h2) hk
def start(N:List E_)(vs:List V):St:=vs.map be++FD (N.length-vs.length) z8
def cxOf(CX:CXT)(P:Pi)(w:Q2)(K:Ex)(mg:E_->Option KB)(base:Heap)(N:List E_)(qual:E_)(scope:Rr)(f:Addr)(cd:KB)(A:Q3)(outer:List RI)(s:KF)(H:Hp)(E:XK):Cx where
 prog:=P
 w:=w
 K:=K
 mg:=mg
 base:=base
 A:=A.deeper (Ra qual scope s.heap.objs.size f cd)
 N:=N
 s₀:=s
 H₀:=H
 env:=Ra qual scope s.heap.objs.size f cd
 outer:=outer
 stack:=Ra qual scope s.heap.objs.size f cd::outer
 ex:=[]
 calm:=true
 fn:=λ_=>true
 pn:=[]
 xe:=λe s'=>Q1 (QZ P w) (A.deeper (Ra qual scope s.heap.objs.size f cd)) (Sx (Ra qual scope s.heap.objs.size f cd) e) (λ_ LF=>CX outer H s E e LF) (λe' LF=>CX outer H s E e' LF) s'
def cell_has{sc:Rr}{n:Nat}{x:E_}(h:sc.names.lookup x=be .cell):∃c,(cellsFrom n sc.names []).lookup x=be c:=by
 have q:=cellsFrom_some sc.names n [] (.inl h);exact Option.isSome_iff_exists.mp q
variable{N:List E_}{scope:Rr}
def wp{qual:E_}{cd:KB}{s1:KF}{E:XK}{vs:List V}
  (S:FnScope N ps scope) (hd:A.handled=z8) (e0:Env0 P w K mg base A outer s H) (hl:vs.length=ps.length) (r:Vals vs us)
  (x:InCallC s s.heap.objs.size (So (Ra qual scope s.heap.objs.size f cd).kindOf (ps.zip us) λ_=>z8) (cellsFrom (s.heap.objs.size+1) scope.names []) (Sq (Ra qual scope s.heap.objs.size f cd).kindOf (ps.zip us) λ_=>z8) s1):
  Inv (cxOf CX P w K mg base N qual scope f cd A outer s H E) [] (start N vs) H s1:=by
 have c5:ps.length<=N.length:=by have:=congrArg G3 S.pre;rw[GI]at this;lia
 obtain⟨h1,tk,rfl,hk⟩:=x.done;have J8:∀b:Addr,b∉(cxOf CX P w K mg base N qual scope f cd A outer s H E).ex:=λb z=>absurd (show b∈([]:List Addr)from z) J4;refine⟨#[e0.mod,S.kind,rfl,rfl,E7 _,λy z c h1 h2=>?_,λy hy=>?_,λy c _ h=>?_,λ_=>hd,Around.frames_deeper e0.frames,.inr #[rfl,rfl],λb z=>absurd z (J8 b),e0.bs,e0.bsz,λb _ _=>J8 b,λb z=>absurd z (J8 b),e0.funs,e0.frf],
  rfl,e0.bare,Un.kept hk,#[_,x.toInCall.ns,λi y v h1 h2 h3=>?_],λy c h=>#[_,x.cell y c h],e0.hok.fresh (E7 _),λy c h=>?_,λp hp=>absurd (show p∈([]:List (Addr×Re))from hp) J4,e0.hok.kept hk,?_⟩
 .exact name_of_addr x.apart (PySem.mem_of_lookup h1) (PySem.mem_of_lookup h2)
 .have hy:scope.names.lookup y=be .cell\/scope.names.lookup y=be .free:=hy;rcases hy with hy|hy
  .exact cell_has hy
  .exact absurd rfl (S.nofree _ (PySem.mem_of_lookup hy))
 .exact GC (x.above y c (PySem.mem_of_lookup h))
 .have hi:i<vs.length:=by
   unfold start at h2;by_cases hi:i<vs.length
   .exact hi
   .rw[F5 (by simpa using hi)]at h2;rw[G4]at h2;split at h2<;>cases h2
  have ha:vs[i]?=be v:=by
   unfold start at h2;rw[FO (by simpa using hi),Fo]at h2;cases e:vs[i]? with
   |none=>rw[e]at h2;cases h2
   |some a=>rw[e]at h2;cases h2;rfl
  obtain⟨u,hu,rv⟩:=r.get ha;have hp:ps[i]?=be y:=by
   rw[<-S.pre,G5 Jb];exact h1
  have NY:ps.Nodup:=by rw[<-S.pre];exact S.nd.sublist (List.take_sublist _ _)
  refine#[u,rv,?_];rcases S.par y (GJ hp)with k|k
  .exact .inl #[k,bindL_get NY hp hu k]
  .obtain⟨c,e⟩:=cell_has (n:=s.heap.objs.size+1) k;refine .inr #[.inl k,c,e,?_];have q:=x.cell y c e;rw[pX NY hp hu (by show scope.names.lookup y≠_;rw[k];decide)]at q;exact q
 .exact e0.hok.fresh (GC (x.above y c (PySem.mem_of_lookup h)))
 .unfold start;show _=N.length;rw[Fp,Fs,List.length_replicate];lia
def pY{name qual:E_}{params:Arguments}{body:List Q0}{dV kV doc pm cdv ct oc:KB}{an od:Option Addr}
  {osl:Array (Option KB)}   (lk:K.lookup f=be #[oc,od,.func (fnOf name qual params body scope dV kV doc pm an cdv ct),osl]) (d_:codeIn K cdv qual=true) (S:FnScope N ps scope)
  (len:∀vs H Q E,sp vs H Q E->vs.length=ps.length)
  (a9:∀(A:Q3) (outer:List RI) (s:KF) (H:Hp) (vs:List V) (Q:VK) (E:XK),Room k (A.deeper (Ra qual scope s.heap.objs.size f cdv))->sp vs H Q E->
   ∃t,PSs (cxOf CX P w K mg base N qual scope f cdv A outer s H E) body t/\t {nx:=λ_ H'=>Q .non H',rt:=Q} (start N vs) H):
  FnOk P w K mg base CX (k+1) f (fnOf name qual params body scope dV kV doc pm an cdv ct) ps sp:=by
 refine#[len,λA outer s H args us vs Q E hr e0 hb r o9=>?_];have hl:=len _ _ _ _ o9;have KX:K.In s.heap:=e0.mod.kin.keeps λb o e=>(e0.bs b o e).1;have OW:s.heap.NoLimit:=e0.mod.nolimit.keeps λb o e=>(e0.bs b o e).1;have J9:∀y∈ps.zip us,scope.names.lookup y.1=be .local\/(scope.names.lookup y.1=be .cell/\((cellsFrom (s.heap.objs.size+1) scope.names []).lookup y.1).isSome=true):=λ⟨n,v⟩ hy=>by
  rcases S.par n (G2 hy).1 with q|q
  .exact .inl q
  .exact .inr #[q,cellsFrom_some _ _ _ (.inl q)]
 refine codeAny_call_function hr.depth (KX _ _ lk) rfl S.co S.gen rfl (codeRec_of KX d_) (hb _ _ _ _ ?_);refine wpAny_newFunctionEnv_cells S.kind J9 λenv he s1 x=>?_;subst he;refine#[OW.keeps x.toInCall.keep,codeAny_func ?_];obtain⟨t,ht,hq⟩:=a9 A outer s H vs Q E (hr.deeper _) o9;have I:Inv (cxOf CX P w K mg base N qual scope f cdv A outer s H E) [] (start N vs) H s1:=wp S hr.hd e0 hl r x;refine Q9 (ht [] s1 (start N vs) H _ I hq) (λfl s' hs=>?_) λe s' hs=>hs;have ge:∀{σ':St} {H':Hp} {v:V} {u:KB},Inv (cxOf CX P w K mg base N qual scope f cdv A outer s H E) [] σ' H' s'->RelV v u->Q v H'->CE outer P w H s Q u s':=
  λ{σ' H' v u} J rv q=>#[v,H',J.os,J.bare,J.base,J.hok,rv,q]
 cases fl with
 |ret u=>
  obtain⟨v,σ',H',J,rv,q⟩:=hs;exact ge J rv q
 |next=>
  obtain⟨σ',H',J,q⟩:=hs;exact ge (v:=V.non) (u:=Value.none) J rfl q
 |brk=>
  obtain⟨_,_,_,q⟩:=hs;exact False.elim q
 |cont=>
  obtain⟨_,_,_,q⟩:=hs;exact False.elim q
section
variable {X:Cx}{x:E_}{p pos:Q_}{e:P3}{es:List P3}{t:TA}{id T:String}{r:List V->Hp->VK->Prop}
def tCB(r:List V->Hp->VK->Prop)(t:TA):TE:=λσ H Q=>t σ H λvs H1=>r vs H1 Q
def fj(hc:bK X (.builtin id) r)(hg:Gl X x)(hm:X.mg x=z8)(hv:Rc x=be (.builtin id))(ha:PA X (e::es) t)(hn:autoParam (x≠"__name__") zA1)(c_:autoParam (zND x) zA1)
  (he:autoParam (zSE X e es) zA0) (c5:autoParam (zPL X pos es) zA0):PE X (.Call (.Name x p) (e::es) [] pos) (tCB r t):=by
 intro pins s σ H Q I h;refine Rb (df I hg hm hv ?_ hn c_);exact PyProof.Rows.callWith_builtin1 (thn (ha pos pins s σ H _ I h) λus s1 ⟨vs,H1,I1,r1,q1⟩=>hc pins s1 σ H1 vs us Q I1 r1 q1) he c5
def pZ(hc:bK X (.type T) r)(hg:Gl X x)(hm:X.mg x=z8)(hv:Rc x=be (.type T))(ha:PA X (e::es) t)(hn:autoParam (x≠"__name__") zA1)(c_:autoParam (zND x) zA1)
  (he:autoParam (zSE X e es) zA0) (c5:autoParam (zPL X pos es) zA0):PE X (.Call (.Name x p) (e::es) [] pos) (tCB r t):=by
 intro pins s σ H Q I h;refine Rb (df I hg hm hv ?_ hn c_);exact PyProof.Rows.callWith_type1 (thn (ha pos pins s σ H _ I h) λus s1 ⟨vs,H1,I1,r1,q1⟩=>hc pins s1 σ H1 vs us Q I1 r1 q1) he c5
end
end L2
namespace HT
open PySem PyProof.Rows
section
variable {prog:Pi}{w:Q2}{A:Q3}{E:KB->KF->Prop}{s:KF}
variable{Q:KB->KF->Prop}
def cat_tup{t b:Addr}{vs ws:List KB}(ht:IsTup s.heap t vs.toArray)(hb:IsTup s.heap b ws.toArray)(hv:vs≠[])
  (h1:ws=[]->Q (.ref t) s) (h2:ws≠[]->Q (.ref s.heap.objs.size) {s with heap:=s.heap.push {cls:=.type "tuple",data:=.seq (vs++ws).toArray} })
  (h_:vs.length+ws.length<=sizeLine):Q1 (QZ prog w) A (Rl .Add (.ref t) (.ref b)) Q E s:=by
 obtain⟨⟨cls,dd,data,sl⟩,ho,hc,n,hd⟩:=id ht;obtain⟨⟨OX,NZ,data2,N1⟩,K9,N2,n2,JE⟩:=id hb;simp only at hc hd N2 JE;subst hc hd N2 JE;have e:vs.toArray++ws.toArray=(vs++ws).toArray:=J4
 by_cases hw:ws=[]
 .exact concat_meets #[_,ho,rfl] #[_,K9,rfl] noFill_tuple_add seq_tuple_add PySem.F.slot_tuple_add PySem.F.entry_tuple_add (PySem.F.args_tuple_add_2 _ _)
   (tuple_addW1 t b vs.toArray ws.toArray n n2 dd NZ sl N1 (by simpa using hv) (by simp[hw])) #[ho,K9,h1 hw]
 .refine concat_meets #[_,ho,rfl] #[_,K9,rfl] noFill_tuple_add seq_tuple_add PySem.F.slot_tuple_add PySem.F.entry_tuple_add (PySem.F.args_tuple_add_2 _ _)
   (tuple_addW2 t b vs.toArray ws.toArray n n2 dd NZ sl N1 (by simpa using hv) (by simpa using hw) (by rw[Ff,Ff];exact h_)) #[ho,K9,?_]
  rw[e];exact h2 hw
def sIx(n d:Nat):Option Int->Nat
 |none=>d
 |some v=>if v<0 then(v+(n:Int)).toNat else min v.toNat n
def sIx_le(n d:Nat)(hd:d<=n)(o:Option Int):sIx n d o<=n:=by
 cases o with
 |none=>exact hd
 |some v=>
  show(if v<0 then(v+(n:Int)).toNat else min v.toNat n)<=n;by_cases hv:v<0
  .rw[if_pos hv];lia
  .rw[if_neg hv];exact Nat.min_le_right _ _
def qc(v:Int)(n d:Nat):(if v<0 then max (v+(n:Int)) 0 else min v (n:Int))=((sIx n d (be v):Nat):Int):=by
 show(if v<0 then max (v+(n:Int)) 0 else min v (n:Int))=(((if v<0 then(v+(n:Int)).toNat else min v.toNat n):Nat):Int);by_cases hv:v<0
 .simp only[if_pos hv];lia
 .simp only[if_neg hv];lia
def wq(lo hi:Option Int)(n:Nat):Builtin.Slice.sliceAdjust lo hi 1 (n:Int)=(((sIx n 0 lo:Nat):Int),((sIx n n hi:Nat):Int)):=by
 have h1:¬((1:Int)<0):=Jb
 unfold Builtin.Slice.sliceAdjust;simp only[h1,if_false];refine Prod.ext ?_ ?_
 .cases lo with
  |none=>rfl
  |some v=>exact qc v n 0
 .cases hi with
  |none=>rfl
  |some v=>exact qc v n n
def wr(i j:Nat):Builtin.Slice.slicePlaces (i:Int) (j:Int) 1=j-i:=by
 unfold Builtin.Slice.slicePlaces;have h1:(1:Int)>0:=Jb
 simp only[h1,if_true,Int.ediv_one];split<;>lia
def qd{v:KB}{o:Option Int}{Q:Option Int->KF->Prop}(p:Sd v o)(h:Q o s):Q1 (QZ prog w) A (Builtin.Slice.slicePartIndex v) Q E s:=by
 cases p with
 |none=>exact slicePart_none h
 |int i t=>exact slicePart_int h
variable{lo hi:Option Int}
def wt{sl:Addr}{vl vu:KB}{n:Nat}{Q:Int×Int×Nat->KF->Prop}(hs:s.heap.IsSliceOf sl vl vu .none)(pl:Sd vl lo)(pu:Sd vu hi)
  (h:Q (((sIx n 0 lo:Nat):Int),1,sIx n n hi-sIx n 0 lo) s):Q1 (QZ prog w) A (Builtin.Slice.sliceApplied (.ref sl) (pure (n:Int))) Q E s:=by
 obtain⟨os,G_,N3,IL⟩:=id hs;unfold Builtin.Slice.sliceApplied Builtin.Slice.sliceFields;refine KM (KM (RC G_ IL (x:=vl) rfl (KM (RC G_ IL (x:=vu) rfl (KM (RC G_ IL (x:=.none) rfl (QY ?_)))))));refine KM (slicePart_none ?_);show Q1 _ _ (if((1:Int)==0)=true then _ else _) _ _ s;rw[if_neg Ji];refine KM (qd pl (KM (qd pu (KM (QY ?_)))));show Q1 _ _ (match Builtin.Slice.sliceAdjust lo hi 1 (n:Int)with|(lo,hi)=>pure (lo,(1:Int),Builtin.Slice.slicePlaces lo hi 1)) _ _ s;rw[wq lo hi n];show Q1 _ _ (pure (((sIx n 0 lo:Nat):Int),(1:Int),Builtin.Slice.slicePlaces ((sIx n 0 lo:Nat):Int) ((sIx n n hi:Nat):Int) 1)) _ _ s;rw[wr];exact QY h
def wu(xs:Array KB)(i k:Nat):((E8 k).filterMap λ(m:Nat)=>xs[((i:Int)+(m:Int)*1).toNat]?).toArray=((xs.toList.drop i).take k).toArray:=by
 have e:(λ(m:Nat)=>xs[((i:Int)+(m:Int)*1).toNat]?)=λm=>xs[i+m]?:=by
  funext m;have:((i:Int)+(m:Int)*1).toNat=i+m:=Jb
  rw[this]
 rw[e];have:=pick_run xs i k;rw[Hx]at this;have e2:((λx=>xs[x]?) ∘ λx=>i+x)=λm=>xs[i+m]?:=rfl;rw[e2]at this;rw[this]
def getItem_tuple_cut{t sl:Addr}{items:Array KB}{vl vu:KB}(ht:IsTup s.heap t items)(hs:s.heap.IsSliceOf sl vl vu .none)(pl:Sd vl lo)(pu:Sd vu hi)
  (hw:¬(sIx items.size 0 lo=0/\sIx items.size items.size hi=items.size))
  (h:Q (.ref s.heap.objs.size) {s with heap:=s.heap.push {cls:=.type "tuple",data:=.seq ((items.toList.drop (sIx items.size 0 lo)).take (sIx items.size items.size hi-sIx items.size 0 lo)).toArray} })
  (h_:items.size<=sizeLine):Q1 (QZ prog w) A (Sh (.ref t) (.ref sl)) Q E s:=by
 have n9:sizeOk (.seq ((items.toList.drop (sIx items.size 0 lo)).take (sIx items.size items.size hi-sIx items.size 0 lo)).toArray):=by
  show((items.toList.drop (sIx items.size 0 lo)).take (sIx items.size items.size hi-sIx items.size 0 lo)).toArray.size<=sizeLine;rw[Ff,GI,F6,GE];lia
 have hj:sIx items.size items.size hi<=items.size:=sIx_le _ _ (E7 _) hi;obtain⟨os,G_,N3,IL⟩:=id hs;have OY:s.TypeIs (.ref sl) "slice":=#[os,G_,N3];unfold Sh
 try with_reducible refine Rk ?_
 first|refine KM (QY ?_)|skip
 refine KM (wpAny_sequenceKey ht.typeIs Ji ?_);refine KM (wpAny_callSpecial?_slot (name:=Str.ofString "__getitem__") ht.typeIs PyProof.Rows.slot_tuple_getitem
  (wpAny_call_entry PyProof.Rows.slot_tuple_getitem ht.typeIs entry_tuple_getitem ?_ (args_tuple_getitem _ _)))
 show Q1 _ _ (Builtin.Tuple.tupleItemsOf (.ref t)>>=_) _ _ s;refine KM (tupleItemsOf_ ht ?_);refine KM (wpAny_typeOf OY ?_);rw[if_pos Ji];refine KM (wt hs pl pu ?_);have JF:¬((((sIx items.size 0 lo:Nat):Int)==0&&(1:Int)==1&&(sIx items.size items.size hi-sIx items.size 0 lo)==items.size)=true):=by
  intro q;rw[Fx,Fx]at q;have q1:((sIx items.size 0 lo:Nat):Int)=0:=eq_of_beq q.1.1;have q2:sIx items.size items.size hi-sIx items.size 0 lo=items.size:=eq_of_beq q.2;exact hw #[Jb,Jb]
 show Q1 _ _ (if(((sIx items.size 0 lo:Nat):Int)==0&&(1:Int)==1&&(sIx items.size items.size hi-sIx items.size 0 lo)==items.size)=true then _ else _) _ _ s;rw[if_neg JF,wu]
 first
  |exact KM (m:=Builtin.Tuple.tupleExact _) (Rf (QY ⟨_,rfl,QY h⟩) n9)
  |exact KM (m:=Builtin.Tuple.tupleExact _) (Rf (KM (QY (QY ⟨_,rfl,QY h⟩))) n9)
  |exact KM (KM (m:=Builtin.Tuple.tupleExact _) (Rf (QY (QY ⟨_,rfl,QY h⟩)) n9))
  |exact KM (KM (m:=Builtin.Tuple.tupleExact _) (Rf (QY ⟨_,rfl,QY h⟩) n9))
end
end HT
namespace L2
open PySem PySem.Spec PyProof.Rows
abbrev TO:=St->Hp->(Option Int->Hp->Prop)->Prop
def PO(X:Cx)(e:Option P3)(t:TO):Prop:=
 ∀(pins:List (Addr×Re)) (s:KF) (σ:St) (H:Hp) (Q:Option Int->Hp->Prop),Inv X pins σ H s->t σ H Q->
  Q1 (QZ X.prog X.w) X.A (evalPart e X.env) (λu s'=>∃o H',Inv X pins σ H' s'/\Sd u o/\Q o H') X.xe s
def wv:TO:=λ_ H Q=>Q z8 H
def ww(t:TE):TO:=λσ H Q=>t σ H λx H1=>∃i,x=.int i/\Q (be i) H1
section
variable {X:Cx}{e:P3}{te:TE}{lo hi:Option P3}{tl th:TO}{pos p2:Q_}
def qe:PO X z8 wv:=by
 intro pins s σ H Q I h;rw[evalPart_none];exact QY #[z8,H,I,.none,h]
def qf(h:PE X e te):PO X (be e) (ww te):=by
 intro pins s σ H Q I hw;rw[evalPart_some];refine thn (h pins s σ H _ I hw) λu s1 b9=>?_;obtain⟨x,H1,I1,r1,q1⟩:=b9;obtain⟨i,rfl,q⟩:=q1;obtain⟨t,rfl⟩:=r1;exact#[be i,H1,I1,.int i t,q]
def SlR(X:Cx)(r:V->Option Int->Option Int->Hp->VK->Prop):Prop:=
 ∀(pins:List (Addr×Re)) (s:KF) (σ:St) (H:Hp) (x:V) (v vl vu:KB) (lo hi:Option Int) (sl:Addr) (Q:VK),Inv X pins σ H s->RelV x v->s.heap.IsSliceOf sl vl vu .none->Sd vl lo->Sd vu hi->r x lo hi H Q->
  ∃T id,typeLookup (.type T) "__getitem__"=pure (be (.builtin id))/\s.TypeIs v T/\Q1 (QZ X.prog X.w) X.A (Sh v (.ref sl)) (EP X pins σ Q) X.xe s
variable{r:V->Option Int->Option Int->Hp->VK->Prop}
def SlR.or{r':V->Option Int->Option Int->Hp->VK->Prop}(h:SlR X r)(h':SlR X r'):SlR X (λx lo hi H Q=>r x lo hi H Q\/r' x lo hi H Q):=by
 intro pins s σ H x v vl vu lo hi sl Q I rx hs pl pu q;rcases q with q|q
 .exact h pins s σ H x v vl vu lo hi sl Q I rx hs pl pu q
 .exact h' pins s σ H x v vl vu lo hi sl Q I rx hs pl pu q
def tSl(r:V->Option Int->Option Int->Hp->VK->Prop)(te:TE)(tl th:TO):TE:=λσ H Q=>te σ H λx H1=>tl σ H1 λl H2=>th σ H2 λu H3=>r x l u H3 Q
def js(hr:SlR X r)(he:PE X e te)(hl:PO X lo tl)(hu:PO X hi th):PE X (.Subscript e (.Slice lo hi z8 p2) pos) (tSl r te tl th):=by
 intro pins s σ H Q I h;refine Subscript_ (thn (he pins s σ H _ I h) λv s1 b9=>?_);obtain⟨x,H1,I1,r1,q1⟩:=b9;refine wpAny_Slice (thn (hl pins s1 σ H1 _ I1 q1) λvl s2 ⟨l,H2,I2,pl,q2⟩=>thn (hu pins s2 σ H2 _ I2 q2) λvu s3 b9=>?_);obtain⟨u,H3,I3,pu,q3⟩:=b9;rw[evalPart_none];refine QY ?_;have I4:Inv X pins σ H3 {s3 with heap:=s3.heap.push {cls:=.type "slice",data:=.fields [vl,vu,.none].toArray} }:=I3.kept (t':=s3.toks) λb ob q=>Heap.get?_push_of_some _ q;obtain⟨T,id,hT,ht,hg⟩:=hr pins {s3 with heap:=s3.heap.push {cls:=.type "slice",data:=.fields [vl,vu,.none].toArray} } σ H3 x v vl vu l u s3.heap.objs.size Q I4 r1 (Heap.IsSliceOf.new ..) pl pu q3;show Q1 (QZ X.prog X.w) X.A (subscriptTail e (.Slice lo hi z8 p2) v (.ref s3.heap.objs.size)) (EP X pins σ Q) X.xe {s3 with heap:=s3.heap.push {cls:=.type "slice",data:=.fields [vl,vu,.none].toArray} };exact tail_any (ops:=[.ref s3.heap.objs.size,v]) ht hT hg (by with_unfolding_all rfl)
def cutV(xs:List V)(lo hi:Option Int):List V:=(xs.drop (HT.sIx xs.length 0 lo)).take (HT.sIx xs.length xs.length hi-HT.sIx xs.length 0 lo)
def qg(xs:List V)(lo hi:Option Int):(cutV xs lo hi).length<=xs.length:=by
 unfold cutV;rw[GI,F6];lia
def rSlT(K:Ex):V->Option Int->Option Int->Hp->VK->Prop:=λx lo hi H Q=>∃a xs,x=.ref a/\SqT K H a xs/\
 ¬(HT.sIx xs.length 0 lo=0/\HT.sIx xs.length xs.length hi=xs.length)/\∀p,H p=z8->Q (.ref p) (upd H p (.tup (cutV xs lo hi)))
def qh:SlR X (rSlT X.K):=by
 intro pins s σ H x v vl vu lo hi sl Q I rx hs pl pu h;obtain⟨a,xs,rfl,hx,hw,q⟩:=h;cases rx;obtain⟨its,r,ht,hz⟩:=I.tuple hx;have b8:its.toArray.size=xs.length:=by rw[Ff];exact r.length.symm
 refine#["tuple",_,PyProof.Rows.slot_tuple_getitem.lookup,ht.typeIs,?_];refine HT.getItem_tuple_cut ht hs pl pu (by rw[b8];exact hw) ?_ (by rw[b8];exact hz);rw[b8];refine#[.ref s.heap.objs.size,_,I.laid (t':=s.toks) (o:=.tup (cutV xs lo hi)) (λb ob q=>Heap.get?_push_of_some _ q) (E7 _) ?_,rfl,q _ (I.hok.fresh (E7 _))];exact#[Fg (qg xs lo hi) hz,_,(r.drop (HT.sIx xs.length 0 lo)).take (HT.sIx xs.length xs.length hi-HT.sIx xs.length 0 lo),IsTup.new _ _]
def qi(K:Ex):R2:=λx y H Q=>∃a b xs ys,x=.ref a/\y=.ref b/\SqT K H a xs/\SqT K H b ys/\xs≠[]/\xs.length+ys.length<=sizeLine/\
 (ys=[]->Q (.ref a) H)/\(ys≠[]->∀p,H p=z8->Q (.ref p) (upd H p (.tup (xs++ys))))
def Vals.nil_iff{xs:List V}{us:List KB}(r:Vals xs us):us=[]↔xs=[]:=by
 cases r with
 |nil=>simp
 |cons _ _=>simp
def wx:OpR X (Rl .Add) (qi X.K):=by
 intro pins s σ H x y v u Q I rx ry h;obtain⟨a,b,xs,ys,rfl,rfl,ha,hb,hx,hz,q1,q2⟩:=h;cases rx;cases ry;obtain⟨its,r1,p1,_⟩:=I.tuple ha;obtain⟨g6,r2,p2,_⟩:=I.tuple hb;refine HT.cat_tup p1 p2 (λz=>hx (r1.nil_iff.mp z)) (λz=>#[.ref a,H,I,rfl,q1 (r2.nil_iff.mp z)]) (λz=>?_) (by rw[<-r1.length,<-r2.length];exact hz);refine#[.ref s.heap.objs.size,_,I.laid (t':=s.toks) (o:=.tup (xs++ys)) (λb ob q=>Heap.get?_push_of_some _ q) (E7 _) ?_,rfl,q2 (λw=>z (r2.nil_iff.mpr w)) _ (I.hok.fresh (E7 _))];exact#[by rw[Fp];exact hz,_,r1.append r2,IsTup.new _ _]
end
def ixN(n:Nat)(i:Int):Option Nat:=if 0<=i then(if i<n then be i.toNat else z8)else if -(n:Int)<=i then be (i+n).toNat else z8
def atI{α:Type}(xs:List α)(i:Int):Option α:=(ixN xs.length i).bind λj=>xs[j]?
def qj{n:Nat}{i:Int}{j:Nat}(h:ixN n i=be j):seqIndex? i n=be j/\j<n/\-(n:Int)<=i/\i<n:=by
 unfold ixN at h;by_cases h0:0<=i
 .rw[if_pos h0]at h;by_cases h1:i<n
  .rw[if_pos h1]at h;have e:i.toNat=j:=Option.some.inj h;exact#[by rw[SJ h0 h1,e],Jb,Jb,h1]
  .rw[if_neg h1]at h;cases h
 .rw[if_neg h0]at h;by_cases h1:-(n:Int)<=i
  .rw[if_pos h1]at h;have e:(i+n).toNat=j:=Option.some.inj h;exact#[by rw[Sw Jb h1,e],Jb,h1,Jb]
  .rw[if_neg h1]at h;cases h
def atI_get{α:Type}{xs:List α}{i:Int}{v:α}(h:atI xs i=be v):∃j,seqIndex? i xs.length=be j/\xs[j]?=be v/\j<xs.length/\-(xs.length:Int)<=i/\i<xs.length:=by
 unfold atI at h;cases e:ixN xs.length i with
 |none=>rw[e]at h;cases h
 |some j=>
  rw[e]at h;obtain⟨h1,h2,h3,h4⟩:=qj e;exact#[j,h1,h,h2,h3,h4]
def cw{α:Type}{xs:List α}{j:Nat}{v:α}(h:xs[j]?=be v):atI xs (j:Int)=be v:=by
 have hj:j<xs.length:=(Fk.mp h).1;have e:ixN xs.length (j:Int)=be j:=by
  unfold ixN;rw[if_pos Jb,if_pos Jb];simp
 unfold atI;rw[e];exact h
def dQ(b:P3):Prop:=∀o i,subscripted b false o i=operate [o,i] (Sh o i)
def IxR(X:Cx)(r:R2):Prop:=
 ∀(value slice:P3) (pins:List (Addr×Re)) (s:KF) (σ:St) (H:Hp) (x y:V) (v u:KB) (Q:VK),Inv X pins σ H s->RelV x v->RelV y u->r x y H Q->
  subscripted slice false v u=operate [v,u] (Sh v u)->Q1 (QZ X.prog X.w) X.A (subscriptTail value slice v u) (EP X pins σ Q) X.xe s
def MtR(X:Cx)(id:String)(r:V->List V->Hp->VK->Prop):Prop:=
 ∀(pins:List (Addr×Re)) (s:KF) (σ:St) (H:Hp) (x:V) (xs:List V) (v:KB) (us:List KB) (Q:VK),Inv X pins σ H s->RelV x v->Vals xs us->r x xs H Q->
  Q1 (QZ X.prog X.w) X.A (call (.builtin id) (v::us)) (EP X pins σ Q) X.xe s
section
variable {X:Cx}{a b:P3}{ta tb:TE}{pos:Q_}
def IxR.or{r r':R2}(h:IxR X r)(h':IxR X r'):IxR X (λx y H Q=>r x y H Q\/r' x y H Q):=by
 intro value slice pins s σ H x y v u Q I rx ry q hs;rcases q with q|q
 .exact h value slice pins s σ H x y v u Q I rx ry q hs
 .exact h' value slice pins s σ H x y v u Q I rx ry q hs
def pe_ix{r:R2}(hr:IxR X r)(ha:PE X a ta)(hb:PE X b tb)(hs:dQ b):PE X (.Subscript a b pos) (tOp r ta tb):=by
 intro pins s σ H Q I h;exact Subscript_ (binT ha hb I h λv u s2 x y H2 I2 rx ry q=>hr a b pins s2 σ H2 x y v u Q I2 rx ry q (hs _ _))
def rIxL(K:Ex):R2:=λx y H Q=>∃p xs i v,x=.ref p/\y=.int i/\SqL K H p xs/\atI xs i=be v/\Q v H
def rIxT(K:Ex):R2:=λx y H Q=>∃p xs i v,x=.ref p/\y=.int i/\SqT K H p xs/\atI xs i=be v/\Q v H
def rIxS:R2:=λx y H Q=>∃z i c,x=.str z/\y=.int i/\z.length<=sizeLine/\atI z.cps.toList i=be c/\Q (.str #[[c].toArray]) H
def ix_list:IxR X (rIxL X.K):=by
 intro value slice pins s σ H x y v u Q I rx ry h hs;obtain⟨p,xs,i,z,rfl,rfl,hq,he,q⟩:=h;cases rx;obtain⟨t,rfl⟩:=ry;obtain⟨its,r,pl,hz⟩:=I.list hq;obtain⟨j,h1,h2,h3,h4,h5⟩:=atI_get he;obtain⟨w,ew,g7⟩:=r.get h2;have hl:=r.length;have hn:=line63;have ge:EP X pins σ Q w s:=#[z,H,I,g7,q];by_cases h0:0<=i
 .have hj:i.toNat=j:=by
   rw[SJ h0 h5]at h1;exact Option.some.inj h1
  exact item_listR pl.isList h0 Jb (by rw[hj];simpa using ew) ge hs
 .have hj:(i+(its.toArray.size:Int)).toNat=j:=by
   rw[Sw Jb h4]at h1;rw[Ff,<-hl];exact Option.some.inj h1
  exact Su (x:=w) pl.isList.typeIs slot_list_getitem.lookup
   (wpAny_getItem_list_neg (Q:=λr s'=>r=w/\EP X pins σ Q r s') pl.isList Jb (by rw[Ff]<;>lia) Jb (by rw[hj];simpa using ew) #[rfl,ge]) hs
def ix_tup:IxR X (rIxT X.K):=by
 intro value slice pins s σ H x y v u Q I rx ry h hs;obtain⟨p,xs,i,z,rfl,rfl,hq,he,q⟩:=h;cases rx;obtain⟨t,rfl⟩:=ry;obtain⟨its,r,pl,hz⟩:=I.tuple hq;obtain⟨j,h1,h2,h3,h4,h5⟩:=atI_get he;obtain⟨w,ew,g7⟩:=r.get h2;have hl:=r.length;have hn:=line63;have ge:EP X pins σ Q w s:=#[z,H,I,g7,q];exact Su (x:=w) pl.typeIs slot_tuple_getitem.lookup
  (getItem_tuple (j:=j) (Q:=λr s'=>r=w/\EP X pins σ Q r s') pl Jb Jb (by rw[Ff,<-hl];exact h1) (by simpa using ew) #[rfl,ge]) hs
def wy:IxR X rIxS:=by
 intro value slice pins s σ H x y v u Q I rx ry h hs;obtain⟨z,i,c,rfl,rfl,hz,he,q⟩:=h;obtain⟨t,rfl⟩:=rx;obtain⟨t',rfl⟩:=ry;obtain⟨j,h1,h2,h3,h4,h5⟩:=atI_get he;have hl:z.cps.toList.length=z.length:=by simp[Str.length]
 rw[hl]at h1 h4 h5;have hn:=line63;exact tail_any (SS s z t) slot_str_getitem.lookup (getItem_str (c:=c) (by
  have e1:decide (i< -(2^63:Int))=false:=decide_eq_false Jb;have e2:decide (i>=2^63)=false:=decide_eq_false Jb;rw[e1,e2,Bool.or_false]) (by rw[h1];simpa using h2) #[.str #[[c].toArray],H,I.tok _,#[_,rfl],q]) hs
def rIx(K:Ex):R2:=λx y H Q=>rIxL K x y H Q\/rIxT K x y H Q\/rIxS x y H Q
def qk:IxR X (rIx X.K):=ix_list.or (ix_tup.or wy)
def wz(its:List KB)(n j:Nat)(u:KB):Obj.mapSeq (·.setIfInBounds j u) {cls:=.type "list",data:=.seq its.toArray n}={cls:=.type "list",data:=.seq (its.set j u).toArray n}:=by
 simp[Obj.mapSeq]
def Inv.lst{pins:List (Addr×Re)}{σ:St}{H:Hp}{s:KF}{p:Addr}{xs:List V}(I:Inv X pins σ H s)(h:H p=be (.lst xs)):
  ∃(its:List KB) (n:Nat),Vals xs its/\s.heap.get? p=be {cls:=.type "list",data:=.seq its.toArray n}/\xs.length<=sizeLine:=by
 obtain⟨z,its,n,r,e⟩:=I.hok p _ h;exact#[its,n,r,e,z]
variable{pins:List (Addr×Re)}{s:KF}
def Inv.lstUpd{σ:St}{H:Hp}{p:Addr}{xs ys:List V}{its its':List KB}{n n':Nat}{f:Re->Re}(I:Inv X pins σ H s)(h:H p=be (.lst xs))
  (ho:s.heap.get? p=be {cls:=.type "list",data:=.seq its.toArray n}) (hf:f {cls:=.type "list",data:=.seq its.toArray n}={cls:=.type "list",data:=.seq its'.toArray n'}) (r:Vals ys its') (hz:ys.length<=sizeLine) (t:Nat):
  Inv X pins σ (upd H p (.lst ys)) {s with heap:=s.heap.update p f,toks:=t}:=by
 have e:(s.heap.update p f).get? p=be {cls:=.type "list",data:=.seq its'.toArray n'}:=by
  rw[Heap.get?_update_self f ho (by rw[hf]<;>rfl),hf]
 refine I.write (x:=p) (e:=p) (by rw[h];trivial) (.inl rfl) (λb u hb q=>(Heap.get?_update_other _ _ (Ne.symm hb)).trans q) #[_,e] ?_;exact#[hz,its',n',r,e]
def wA:V->V->V->Hp->(Hp->Prop)->Prop:=λo i v H Q=>∃p xs k j,o=.ref p/\i=.int k/\H p=be (.lst xs)/\ixN xs.length k=be j/\Q (upd H p (.lst (xs.set j v)))
def ql:PSet X wA:=by
 intro pins s σ H o i v ov iv u Q I ro ri rv h;obtain⟨p,xs,k,j,rfl,rfl,hp,hj,q⟩:=h;cases ro;obtain⟨t,rfl⟩:=ri;obtain⟨its,n,r,ho,hz⟩:=I.lst hp;obtain⟨h1,h2,h3,h4⟩:=qj hj;have hl:=r.length;have hn:=line63;have I':Inv X pins σ (upd H p (.lst (xs.set j v))) {s with heap:=s.heap.update p (Obj.mapSeq (·.setIfInBounds j u))}:=
  I.lstUpd hp ho (wz its n j u) (r.set rv j) (by rw[FV];exact hz) s.toks
 by_cases h0:0<=k
 .have hk:k.toNat=j:=by
   rw[SJ h0 h4]at h1;exact Option.some.inj h1
  exact ki_setAt ho h0 Jb (by rw[Ff,<-hl];exact h4) (by rw[hk];exact#[_,I',q])
 .have hk:(k+(its.toArray.size:Int)).toNat=j:=by
   rw[Sw Jb h3]at h1;rw[Ff,<-hl];exact Option.some.inj h1
  exact ki_setBack ho Jb (by rw[Ff,<-hl];exact h3) Jb (by rw[hk];exact#[_,I',q])
def wB(lo hi:Option Int)(n:Nat):(RD lo hi z8 n).1=((HT.sIx n 0 lo:Nat):Int)/\(RD lo hi z8 n).2.1=((HT.sIx n n hi:Nat):Int)/\(RD lo hi z8 n).2.2=1:=by
 refine#[?_,?_,rfl]
 .cases lo with
  |none=>simp[RD,HT.sIx]
  |some i=>
   simp only[RD,HT.sIx,Hy,show(1:Int)>0 by decide,if_true];by_cases h:i<0
   .simp only[h,if_true]<;>lia
   .simp only[h,if_false]<;>lia
 .cases hi with
  |none=>simp[RD,HT.sIx]
  |some i=>
   simp only[RD,HT.sIx,Hy,show(1:Int)>0 by decide,if_true];by_cases h:i<0
   .simp only[h,if_true]<;>lia
   .simp only[h,if_false]<;>lia
def wC(its:List KB)(lo hi:Option Int):slicePick its.toArray lo hi z8=((its.drop (HT.sIx its.length 0 lo)).take (HT.sIx its.length its.length hi-HT.sIx its.length 0 lo)).toArray:=by
 obtain⟨h1,h2,h3⟩:=wB lo hi its.toArray.size;unfold slicePick;rw[h1,h2,h3];simp only[sliceRange_one,pick_run,Ff]<;>rfl
def rSlL(K:Ex):V->Option Int->Option Int->Hp->VK->Prop:=λx lo hi H Q=>∃a xs,x=.ref a/\SqL K H a xs/\∀p,H p=z8->Q (.ref p) (upd H p (.lst (cutV xs lo hi)))
def jt:SlR X (rSlL X.K):=by
 intro pins s σ H x v vl vu lo hi sl Q I rx hs pl pu h;obtain⟨a,xs,rfl,hx,q⟩:=h;cases rx;obtain⟨its,r,ht,hz⟩:=I.list hx;have b8:=r.length;refine#["list",_,slot_list_getitem.lookup,ht.isList.typeIs,?_];refine wpAny_getItem_list_slice ht.isList hs pl pu .none J4 ?_ (by rw[Ff]<;>lia);rw[wC,<-b8];refine#[.ref s.heap.objs.size,_,I.laid (t':=s.toks) (o:=.lst (cutV xs lo hi)) (λb ob q=>Heap.get?_push_of_some _ q) (E7 _) ?_,rfl,q _ (I.hok.fresh (E7 _))];exact#[Fg (qg xs lo hi) hz,_,0,(r.drop (HT.sIx xs.length 0 lo)).take (HT.sIx xs.length xs.length hi-HT.sIx xs.length 0 lo),Heap.get?_push_size _ rfl]
def bp:V->Bool
 |.non=>true
 |.bl _=>true
 |.int _=>true
 |.str _=>true
 |_=>false
def eqV:V->V->Bool
 |.non,.non=>true
 |.bl a,.bl b=>a==b
 |.bl a,.int b=>(if a then 1 else 0)==b
 |.int a,.bl b=>a==(if b then 1 else 0)
 |.int a,.int b=>a==b
 |.str a,.str b=>a==b
 |_,_=>false
variable{x:V}
def eqAt_V{A:Q3}{y:V}{u v:KB}(ry:RelV y u)(rx:RelV x v)(fy:bp y=true)(fx:bp x=true):SeqAt.EqAt A s u v (eqV y x):=by
 cases y with
 |non=>
  cases ry;cases x with
  |non=>cases rx;exact SeqAt.EqAt.same _
  |bl b=>cases rx;exact SeqAt.EqAt.none_bool b
  |int b=>obtain⟨t,rfl⟩:=rx;exact SeqAt.EqAt.none_int b t
  |str b=>obtain⟨t,rfl⟩:=rx;exact SeqAt.EqAt.none_str b t
  |_=>exact absurd (show false=true from fx) Fh
 |bl a=>
  cases ry;cases x with
  |non=>cases rx;exact SeqAt.EqAt.bool_none a
  |bl b=>cases rx;exact SeqAt.EqAt.bool_bool a b
  |int b=>obtain⟨t,rfl⟩:=rx;exact SeqAt.EqAt.bool_int a b t
  |str b=>obtain⟨t,rfl⟩:=rx;exact SeqAt.EqAt.bool_str a b t
  |_=>exact absurd (show false=true from fx) Fh
 |int a=>
  obtain⟨t',rfl⟩:=ry;cases x with
  |non=>cases rx;exact SeqAt.EqAt.int_none a t'
  |bl b=>cases rx;exact SeqAt.EqAt.int_bool a t' b
  |int b=>obtain⟨t,rfl⟩:=rx;exact SeqAt.EqAt.int_int a t' b t
  |str b=>obtain⟨t,rfl⟩:=rx;exact SeqAt.EqAt.int_str a t' b t
  |_=>exact absurd (show false=true from fx) Fh
 |str a=>
  obtain⟨t',rfl⟩:=ry;cases x with
  |non=>cases rx;exact SeqAt.EqAt.str_none a t'
  |bl b=>cases rx;exact SeqAt.EqAt.str_bool a t' b
  |int b=>obtain⟨t,rfl⟩:=rx;exact SeqAt.EqAt.str_int a t' b t
  |str b=>obtain⟨t,rfl⟩:=rx;exact SeqAt.EqAt.str_str a t' b t
  |_=>exact absurd (show false=true from fx) Fh
 |_=>exact absurd (show false=true from fy) Fh
def eqU(x:V)(u:KB):Bool:=match u with
 |.none=>eqV .non x
 |.bool b=>eqV (.bl b) x
 |.int i _=>eqV (.int i) x
 |.str z _=>eqV (.str z) x
 |_=>false
def qm{y:V}{u:KB}(r:RelV y u)(f:bp y=true):eqU x u=eqV y x:=by
 cases y with
 |non=>cases r;rfl
 |bl b=>cases r;rfl
 |int i=>obtain⟨t,rfl⟩:=r;rfl
 |str z=>obtain⟨t,rfl⟩:=r;rfl
 |_=>exact absurd (show false=true from f) Fh
def ju{x:V}:∀{xs:List V} {us:List KB},Vals xs us->xs.all bp=true->us.any (eqU x)=xs.any λy=>eqV y x
 |_,_,.nil,_=>rfl
 |y::xs,u::us,.cons r t,f=>by
  rw[Gb,Fx]at f;rw[Gc,Gc,qm r f.1,ju t f.2]
def mem_eqAt{A:Q3}{s:KF}{x:V}{v:KB}(rx:RelV x v)(fx:bp x=true):∀{xs:List V} {us:List KB},Vals xs us->xs.all bp=true->∀u∈us,SeqAt.EqAt A s u v (eqU x u)
 |_,_,.nil,_=>λu hu=>by cases hu
 |y::xs,u::us,.cons r t,f=>λu' hu=>by
  rw[Gb,Fx]at f;rcases Fb.mp hu with rfl|hu
  .rw[qm r f.1];exact eqAt_V r rx f.1 fx
  .exact mem_eqAt rx fx t f.2 u' hu
def inV(x:V)(xs:List V):Bool:=xs.any λy=>eqV y x
def rIn(K:Ex)(neg:Bool):R2:=λx y H Q=>∃p xs,y=.ref p/\(SqL K H p xs\/SqT K H p xs)/\bp x=true/\xs.all bp=true/\Q (.bl (if neg then !inV x xs else inV x xs)) H
def wD:OpR X (Ri .NotIn) (rIn X.K true):=by
 intro pins s σ H x y v u Q I rx ry h;obtain⟨p,xs,rfl,hq,fx,fs,q⟩:=h;cases ry;rcases hq with hq|hq
 .obtain⟨its,r,pl,hz⟩:=I.list hq;refine SeqAt.notIn_listAt (eqU x) pl.isList (λw hw=>mem_eqAt rx fx r fs w (by simpa using hw)) #[.bl _,H,I,rfl,?_];rw[show its.toArray.any (eqU x)=its.any (eqU x)by simp,ju r fs];exact q
 .obtain⟨its,r,pl,hz⟩:=I.tuple hq;refine SeqAt.notIn_tupleAt (eqU x) pl (λw hw=>mem_eqAt rx fx r fs w (by simpa using hw)) #[.bl _,H,I,rfl,?_];rw[show its.toArray.any (eqU x)=its.any (eqU x)by simp,ju r fs];exact q
def wE:OpR X (Ri .NotIn) (λx y H Q=>∃i j,x=.str i/\y=.str j/\Q (.bl (!(!(Builtin.Str.occurrences j i 0 j.length 1).isEmpty))) H):=by
 intro pins s σ H x y v u Q I rx ry h;obtain⟨i,j,rfl,rfl,q⟩:=h;obtain⟨t,rfl⟩:=rx;obtain⟨t',rfl⟩:=ry;exact notIn_str #[.bl _,H,I,rfl,q]
def tyV(K:Ex)(T:String)(x:V)(H:Hp):Prop:=match x with
 |.str _=>T="str"
 |.int _=>T="int"
 | .ref p=>(T="list"/\∃xs,SqL K H p xs)\/(T="tuple"/\∃o,K.lookup p=be o/\o.cls=.type "tuple"/\o.dict=z8)\/
   (T="dict"/\((∃a8,H p=be (.dK a8))\/∃a8,H p=be (.dT a8)))\/(T="set"/\∃S n,H p=be (.set S n))
 |_=>False
def qo{σ:St}{H:Hp}{T:String}{v:KB}(I:Inv X pins σ H s)(r:RelV x v)(ty:tyV X.K T x H):
  s.TypeIs v T/\∀a,v=.ref a->∃ob,s.heap.get? a=be ob/\ob.dict=none:=by
 cases x with
 |str z=>
  obtain⟨t,rfl⟩:=r;cases(show T="str" from ty);exact#[SS s z t,λ_ e=>nomatch e]
 |int i=>
  obtain⟨t,rfl⟩:=r;cases(show T="int" from ty);exact#[typeIs_int s i t,λ_ e=>nomatch e]
 |ref p=>
  cases r;rcases ty with⟨rfl,xs,hq⟩|⟨rfl,o,hk,hc,hd⟩|⟨rfl,hk⟩|⟨rfl,S,n,hk⟩
  .obtain⟨its,_,pl,_⟩:=I.list hq;refine#[pl.isList.typeIs,λa e=>?_];cases e;obtain⟨o,n,e,c,hd,_⟩:=pl;exact#[o,e,hd]
  .refine#[#[o,I.kIn p o hk,hc],λa e=>?_];cases e;exact#[o,I.kIn _ o hk,hd]
  .have z:∃o,s.heap.get? p=be o/\o.ExactDict:=by
    rcases hk with⟨a8,hk⟩|⟨a8,hk⟩
    .obtain⟨_,_,_,_,o,_,_,e,ex,_⟩:=I.hok p _ hk;exact#[o,e,ex]
    .obtain⟨_,_,_,_,o,_,_,e,ex,_⟩:=I.hok p _ hk;exact#[o,e,ex]
   obtain⟨o,e,ex⟩:=z;refine#[#[o,e,ex.1],λa e2=>?_];cases e2;exact#[o,e,ex.2.1]
  .obtain⟨o,_,_,_,e,ex,_⟩:=I.hok p _ hk;refine#[#[o,e,ex.1],λa e2=>?_];cases e2;exact#[o,e,ex.2.1]
 |_=>exact False.elim ty
def tBM0(K:Ex)(T:String)(r:V->List V->Hp->VK->Prop)(to:TE):TE:=λσ H Q=>to σ H λx H1=>tyV K T x H1/\r x [] H1 Q
def tBM(K:Ex)(T:String)(r:V->List V->Hp->VK->Prop)(to:TE)(t:TA):TE:=λσ H Q=>to σ H λx H1=>tyV K T x H1/\t σ H1 λxs H2=>r x xs H2 Q
variable {o e:P3}{es:List P3}{to:TE}{t:TA}{name:E_}{apos cpos:Q_}{T id:String}{r:V->List V->Hp->VK->Prop}
def wF(pa:PlainAttrs T)(slot:Slot T name id)(J_:typeOf (.builtin id)=pure (.type "method_descriptor"))(hm:MtR X id r)(ho:PE X o to)
  (b7:autoParam (Q6 o name X.env (Q7 o X.env)=Q7 o X.env) zA0) (b_:autoParam ((apos.endLine==cpos.line)=true) zA0):PE X (.Call (.Attribute o name apos) [] [] cpos) (tBM0 X.K T r to):=by
 intro pins s σ H Q I h;refine wpAny_Call_method0_late b7 b_ (thn (ho pins s σ H _ I h) λv s1 b9=>?_);obtain⟨x,H1,I1,r1,ty,q1⟩:=b9;obtain⟨h1,h2⟩:=qo I1 r1 ty;exact#[T,id,pa,slot,J_,h1,h2,Calls.callWith_builtin rfl (PySem.evalArgs_none (hm pins s1 σ H1 x [] v [] Q I1 r1 .nil q1))]
def dR(pa:PlainAttrs T)(slot:Slot T name id)(J_:typeOf (.builtin id)=pure (.type "method_descriptor"))(hm:MtR X id r)(ho:PE X o to)(ha:PA X (e::es) t)
  (b7:autoParam (Q6 o name X.env (Q7 o X.env)=Q7 o X.env) zA0)
  (d4:((Rx cpos (Q4 (e::es) X.env)).all (λx=>!x.1)&&(RU cpos (Rv [] X.env)).all (λx=>x.1.isSome)
   && decide ((e::es).length+([]:List R5).length+(if([]:List R5).isEmpty then 0 else 1)<30))=true:=by rfl)
  (b_:autoParam ((apos.endLine==cpos.line)=true) zA0) (hs:autoParam (zSE X e es) zA0) (m7:autoParam (zPL X cpos es) zA0):
  PE X (.Call (.Attribute o name apos) (e::es) [] cpos) (tBM X.K T r to t):=by
 intro pins s σ H Q I h;refine wpAny_Call_method_late b7 d4 b_ rfl (thn (ho pins s σ H _ I h) λv s1 b9=>?_);obtain⟨x,H1,I1,r1,ty,q1⟩:=b9;obtain⟨h1,h2⟩:=qo I1 r1 ty;refine#[T,id,pa,slot,J_,h1,h2,?_];have hA:=ha cpos pins s1 σ H1 _ I1 q1;rw[hs]at hA ⊢;refine Calls.callWith_builtin (by show(false||(Rx cpos (Q4 es X.env)).any (·.1))=false;rw[m7]<;>rfl) (Calls.evalArgs_plain ?_);exact thn hA λus s2 ⟨vs,H2,I2,r2,q2⟩=>hm pins s2 σ H2 x vs v us Q I2 r1 r2 q2
end
def MtM(X:Cx)(id:String)(r:V->List V->Hp->VK->Prop):Prop:=
 ∀(pins:List (Addr×Re)) (s:KF) (σ:St) (H:Hp) (x:V) (xs:List V) (v:KB) (us:List KB) (Q:VK),Inv X pins σ H s->RelV x v->Vals xs us->r x xs H Q->
  Q1 (QZ X.prog X.w) X.A (call (.builtin id) (v::us)) (EP X pins σ Q) X.xe s
def Vals.one:∀{x:V} {us:List KB},Vals [x] us->∃u,us=[u]/\RelV x u:=by
 intro x us h;cases h with
 |cons r h=>cases h;exact#[_,rfl,r]
def Vals.two:∀{x y:V} {us:List KB},Vals [x,y] us->∃u v,us=[u,v]/\RelV x u/\RelV y v:=by
 intro x y us h;cases h with
 |cons r h=>
  obtain⟨u,rfl,q⟩:=Vals.one h;exact#[_,_,rfl,r,q]
def Vals.zero:∀{us:List KB},Vals [] us->us=[]
 |_,.nil=>rfl
def Vals.dropLast{xs:List V}{us:List KB}(h:Vals xs us):Vals xs.dropLast us.dropLast:=by
 induction h with
 |nil=>exact .nil
 |cons r t ih=>
  cases t with
  |nil=>exact .nil
  |cons q t'=>exact .cons r ih
def Vals.rep{xs:List V}{us:List KB}(h:Vals xs us):∀k:Nat,Vals (FD k xs).flatten (FD k us).flatten
 |0=>.nil
 |k+1=>by
  rw[GK,GK,GL,GL];exact Vals.append h (Vals.rep h k)
def wG{α:Type}(l:List α):l.eraseIdx (l.length-1)=l.dropLast:=by
 induction l with
 |nil=>rfl
 |cons a r ih=>
  cases r with
  |nil=>rfl
  |cons b r=>
   have e:(a::b::r).length-1=((b::r).length-1)+1:=by
    have h1:(a::b::r).length=r.length+2:=rfl;have h2:(b::r).length=r.length+1:=rfl;lia
   rw[e,List.eraseIdx_cons_succ,ih]
   all_goals rfl
section
variable {X:Cx}{pins:List (Addr×Re)}{σ:St}{H:Hp}{s:KF}{l b:Addr}{xs ys zs:List V}
variable{its:List KB}
def Inv.lset{its':List KB}{n:Nat}{f:Array KB->Array KB}{t':Nat}(I:Inv X pins σ H s)(hH:H l=be (.lst xs))
  (e:s.heap.get? l=be {cls:=.type "list",data:=.seq its.toArray n}) (hf:f its.toArray=its'.toArray) (hv:Vals ys its') (hz:ys.length<=sizeLine):
  Inv X pins σ (upd H l (.lst ys)) {s with heap:=s.heap.update l (Obj.mapSeq f),toks:=t'}:=by
 have q:=PySem.IsL.update e f;rw[hf]at q;refine I.write (x:=l) (e:=l) (by rw[hH];exact trivial) (.inl rfl) (λb' u hb hu=>(Heap.get?_update_other s.heap (Obj.mapSeq f) (Ne.symm hb)).trans hu) #[_,q] ?_;exact#[hz,its',_,hv,q]
def Inv.lnew{t':Nat}(I:Inv X pins σ H s)(hv:Vals ys its)(hz:ys.length<=sizeLine):
  Inv X pins σ (upd H s.heap.objs.size (.lst ys)) {s with heap:=s.heap.push {cls:=.type "list",data:=.seq its.toArray},toks:=t'}:=
 I.laid (λ_ _ q=>Heap.get?_push_of_some _ q) (E7 _) #[hz,its,0,hv,Heap.get?_push_size _ rfl]
def Inv.fresh(I:Inv X pins σ H s):H s.heap.objs.size=none:=I.hok.fresh (E7 _)
def Inv.lstM(I:Inv X pins σ H s)(hH:H l=be (.lst xs)):xs.length<=sizeLine/\∃(its:List KB) (n:Nat),Vals xs its/\xs.length=its.length/\s.heap.get? l=be {cls:=.type "list",data:=.seq its.toArray n}:=by
 obtain⟨z,its,n,r,e⟩:=I.hok l _ hH;exact#[z,its,n,r,r.length,e]
def wH{n:Nat}(h:n<=sizeLine):Builtin.List.listTooLong n=false:=by
 unfold Builtin.List.listTooLong;exact decide_eq_false Jb
end
section
variable {X:Cx}
def wI:V->List V->Hp->VK->Prop:=λx vs H Q=>∃l xs y,x=.ref l/\vs=[y]/\H l=be (.lst xs)/\xs.length<sizeLine/\Q .non (upd H l (.lst (xs++[y])))
def jv:MtM X "list.append" wI:=by
 intro pins s σ H x vs v us Q I rx rv h;obtain⟨l,xs,y,rfl,rfl,hH,hz,q⟩:=h;cases rx;obtain⟨u,rfl,ru⟩:=rv.one;obtain⟨z,its,n,r,hl,e⟩:=I.lstM hH;refine SV F.slot_list_append #[_,e,rfl] F.entry_list_append (F.args_list_append_2 _ _) (PySem.list_append l its.toArray n u (by rw[Ff];lia)) #[e,?_];refine#[.non,_,I.lset (its':=its++[u]) hH e J4 (r.append (.cons ru .nil)) ?_,rfl,q];rw[Fp,Hz];lia
def wJ:V->List V->Hp->VK->Prop:=λx vs H Q=>∃l b xs zs,x=.ref l/\vs=[.ref b]/\H l=be (.lst xs)/\H b=be (.lst zs)/\xs.length+zs.length<=sizeLine/\Q .non (upd H l (.lst (xs++zs)))
def EZ:MtM X "list.extend" wJ:=by
 intro pins s σ H x vs v us Q I rx rv h;obtain⟨l,b,xs,zs,rfl,rfl,hH,hB,hz,q⟩:=h;cases rx;obtain⟨u,rfl,ru⟩:=rv.one;cases ru;obtain⟨z,its,n,r,hl,e⟩:=I.lstM hH;obtain⟨z2,g6,n2,r2,K',e2⟩:=I.lstM hB;have h_:its.toArray.size+g6.toArray.size<=sizeLine:=by rw[Ff,Ff];lia
 have Ka:¬(!its.toArray.isEmpty&&Builtin.List.listTooLong (its.toArray.size+g6.toArray.size))=true:=by
  rw[wH h_,Bool.and_false];exact Fh
 refine SV F.slot_list_extend #[_,e,rfl] F.entry_list_extend (F.args_list_extend_2 _ _)
  (AutoSeq1.list_extend_list_list_0 l its.toArray n b g6.toArray n2 Ka (by rw[Ff];lia) Jb) #[e,e2,?_]
 refine#[.non,_,I.lset (its':=its++g6) hH e J4 (r.append r2) ?_,rfl,q];rw[Fp];lia
def rPop:V->List V->Hp->VK->Prop:=λx vs H Q=>∃l xs y,x=.ref l/\vs=[]/\H l=be (.lst xs)/\xs[xs.length-1]?=be y/\Q y (upd H l (.lst xs.dropLast))
def wK:MtM X "list.pop" rPop:=by
 intro pins s σ H x vs v us Q I rx rv h;obtain⟨l,xs,y,rfl,rfl,hH,hy,q⟩:=h;cases rx;have OZ:=rv.zero;subst OZ;obtain⟨z,its,n,r,hl,e⟩:=I.lstM hH;obtain⟨u,hu,ru⟩:=r.get hy;have LG:its.toArray[its.toArray.size-1]?=be u:=by
  show its.toArray[its.length-1]?=be u;rw[<-HA,<-hl];exact hu
 refine SV F.slot_list_pop #[_,e,rfl] F.entry_list_pop (F.args_list_pop_1 _) (MeetsSeq.list_pop_last l its.toArray n u LG (by rw[Ff];lia)) #[e,?_];refine#[y,_,I.lset (its':=its.dropLast) hH e ?_ r.dropLast ?_,ru,q]
 .show its.toArray.eraseIdxIfInBounds (its.toArray.size-1)=its.dropLast.toArray;rw[Ff,List.eraseIdxIfInBounds_toArray,wG]
 .rw[List.length_dropLast];lia
def rCat:R2:=λx y H Q=>∃l b xs zs,x=.ref l/\y=.ref b/\H l=be (.lst xs)/\H b=be (.lst zs)/\xs.length+zs.length<=sizeLine/\∀p,H p=z8->Q (.ref p) (upd H p (.lst (xs++zs)))
def qp:OpR X (Rl .Add) rCat:=by
 intro pins s σ H x y v u Q I rx ry h;obtain⟨l,b,xs,zs,rfl,rfl,hH,hB,hz,q⟩:=h;cases rx;cases ry;obtain⟨z,its,n,r,hl,e⟩:=I.lstM hH;obtain⟨z2,g6,n2,r2,K',e2⟩:=I.lstM hB;refine PySem.P.add_list e e2 ?_ (by rw[Ff,Ff];lia);have ea:its.toArray++g6.toArray=(its++g6).toArray:=J4
 rw[ea];exact#[.ref _,_,I.lnew (t':=s.toks) (r.append r2) (by rw[Fp];lia),rfl,q _ I.fresh]
end
end L2
namespace N4
open PySem PySem.W PySem.Calls PyProof.Rows
variable{P:Params}
def wL{h:Heap}:∀(ns:List Int) (vs:List KB),WellAll P h vs (ns.map WData.int)->SE vs ns:=by
 intro ns;induction ns with
 |nil=>
  intro vs w;rw[GM]at w;cases w;exact .nil
 |cons n ns ih=>
  intro vs w;rw[Ft]at w;cases w with
  |cons a b=>
   cases a;exact .cons _ _ (ih _ b)
variable{l:OpenLaw}
def wM{n:Nat}(hn:l.most=be n){h:Heap}{args:List WData}{Jc:List KB}
  (H_:l.row.toRowW.claim.pre args=true) (LH:WellAll P h Jc args):
  ∃a vs ns,Jc=[Value.ref a]/\args=[WData.list (ns.map WData.int)]/\h.get? a=be {cls:=.type "list",data:=.seq vs.toArray}/\SE vs ns/\ns.length<=n:=by
 have O0:WShape.hasAll [] args [.list .int]=true:=(pre_splitW H_).1;have hc:l.pre.holds [] {args:=args}=true:=(pre_splitW H_).2;obtain⟨d,r,rfl,h1,h2⟩:=hasAllW_cons O0;obtain rfl:=hasAllW_nil h2;obtain⟨xs,rfl,h3⟩:=hasW_list h1;obtain⟨ns,rfl⟩:=items_int h3;have b8:ns.length<=n:=by
  unfold OpenLaw.pre at hc;have h4:(WTm.not (.lt (.lit (.int (n:Int))) (.len (.arg 0)))).holds [] {args:=[.list (ns.map .int)]}=true:=by
   have h4:=(holds_andW hc).1;rw[hn]at h4;exact h4
  have h5:=condW_of h4 (w_not (w_lt w_lit (w_len_list (w_arg rfl))));rw[Fs]at h5;refine GN λq=>?_;have q':(n:Int)<((ns.length:Nat):Int):=Jb
  first
   |(rw[decide_eq_true q']at h5;exact absurd h5 Ji)
   |(simp at h5;lia)
 cases LH with
 |cons w1 w2=>
  cases w2;cases w1 with
  |list ho LI=>exact#[_,_,ns,rfl,rfl,ho,wL ns _ LI,b8]
def wO(l:OpenLaw)(args:List WData):l.row.toRowW.claim.post args (.bool true) args=true:=
 postW_of (r:=l.row.toRowW) (X:=(true==true))
  (show WShape.has [] (.bool true) .bool=true by first|rfl|decide|simp[WShape.has,WShape.arms,WShape.armsAll])
  (show(WTm.eq .res (.lit (.bool true))).value [] {args:=args,res:=be (.bool true),after:=args}=be (.bool (true==true))from w_eq_bool (w_res rfl) w_lit) rfl
def attach_call{n:Nat}{q:Pi}{i_:List E_}{XP:(E_->Option KB)->Heap->Prop}{YP:Q2->Heap->Prop}{d:DefRec}
  (hn:l.most=be n) (Kb:d.params.defaults=[])
  (call:∀(w:Q2) (s₀ s₁:KF) (mg mb:E_->Option KB) (fa:Addr) (o:Re) (pm cd doc:KB) (a:Addr) (vs:List KB) (ns:List Int),
   Ground q i_ [] XP w s₀ mg mb s₁.heap->YP w s₁.heap->
   s₁.heap.get? fa=be o->o.data=.func (docDef d.name d.params d.body d.scope pm cd doc)->s₁.heap.CodeRec cd d.name->mg d.name=be (.ref fa)->
   s₁.heap.get? a=be {cls:=.type "list",data:=.seq vs.toArray}->SE vs ns->ns.length<=n->s₁.gens=[].toArray->
   R4 (QZ l.prog w) R9 (.call (.ref fa) #[[.ref a],[]]) (λr s'=>r=.ok (.ret (.bool true))/\OldK s₁.heap s'.heap/\s'.os=s₁.os/\RP s'.gens) s₁):
  WalkO q i_ XP YP l.row.toRowW d [] (λf vs=>PySem.call f vs):=by
 intro w s₀ s₁ mg mb G Y fa o pm cd doc dV kV ho hd d_ hD i8 hg args Jc as H_ O1 Qr LH Qt;obtain rfl:dV=.none:=Dflts.none hD Kb;obtain rfl:kV=.none:=Dflts.noKw hD;obtain⟨a,vs,ns,rfl,rfl,Jd,u_,b8⟩:=wM hn H_ LH;refine enter_call (Rw (call w s₀ s₁ mg mb fa o pm cd doc a vs ns G Y ho (fd_plain hd) d_ i8 Jd u_ b8 hg) λr s' hq=>?_);obtain⟨rfl,h2,h3,h4⟩:=hq;exact#[.inl #[.bool true,.bool true,[],rfl,λ_=>rfl,.bool true,wO l _,λ_=>#[List.Pairwise.nil,λ_ hm=>(nomatch hm)]],h2,h3,h4]
end N4
namespace L2
open PySem PySem.Spec PyProof.Rows
def qq:∀{vs:List KB} {ns:List Int},SE vs ns->Vals (ns.map V.int) vs
 |_,_,.nil=>.nil
 |_,_,.cons n t h=>.cons #[t,rfl] (qq h)
def Only(H:Hp):Prop:=∀b,H b=z8\/∃o xs,H b=be (.frz o (.lst xs))
variable{P:Pi}{w:Q2}{a:Addr}
def wP{K:Ex}{mg mb:E_->Option KB}{CX:CXT}{k:Nat}{fa:Addr}{fd:Q8}{x:E_}{sp:Sp}{s₁:KF}{vs:List KB}{ns:List Int}
  (KX:K.In s₁.heap) (hns:s₁.heap.Ns Os mg) (hb:s₁.heap.Ns SW mb) (O2:∀x:E_,x≠"__name__"->mb x=Rc x) (LJ:s₁.heap.NoLimit) (hg:s₁.gens=[].toArray)
  (ha:s₁.heap.get? a=be {cls:=.type "list",data:=.seq vs.toArray}) (hi:SE vs ns) (hl:ns.length<=sizeLine) (hr:Room k R9)
  (F:∀base:Heap,K.In base->base.Ns Os mg->FnOk P w K mg base CX k fa fd [x] sp) (Kc:∀(s:KF) (u:KB),RW s fd #[[u],[]] [(x,u)])
  (o9:∀H:Hp,Only H->SqL K H a (ns.map V.int)->sp [.ref a] H (λv _=>v=.bl true) λ_ _ _=>False)
  (LK:∀H e s',CX [] H s₁ (λ_ _ _=>False) e s'->False):
  R4 (QZ P w) R9 (.call (.ref fa) #[[.ref a],[]]) (λr s'=>r=.ok (.ret (.bool true))/\OldK s₁.heap s'.heap/\s'.os=s₁.os/\RP s'.gens) s₁:=by
 have rv:=qq hi;have LL:=hi.length;have Ke:∀H:Hp,Only H->SqL K H a (ns.map V.int)->HOk P w H s₁.heap->(∀b,H b≠z8->b=a)->(H a≠z8->K.lookup a=z8)->
   R4 (QZ P w) R9 (.call (.ref fa) #[[.ref a],[]]) (λr s'=>r=.ok (.ret (.bool true))/\OldK s₁.heap s'.heap/\s'.os=s₁.os/\RP s'.gens) s₁:=by
  intro H hO hS hok hA hK;have n_:∀{b:Addr} {o:Re},s₁.heap.get? b=be o->H b=z8->(hidT s₁.heap H).get? b=be o:=λe n=>ux e n;have J8:∀{b:Addr} {o:Re} {es:Array DictEntry} {ep:Nat},s₁.heap.get? b=be o->o.data=.dict es ep->H b=none:=λ{b o es ep} e d=>by
   cases q:H b with
   |none=>rfl
   |some u=>
    have e':b=a:=hA b (by rw[q];simp);subst e';rw[ha]at e;cases e;have d':Data.seq vs.toArray _=Data.dict es ep:=d;cases d'
  have La:∀{b:Addr} {m:E_->Option KB},s₁.heap.Ns b m->(hidT s₁.heap H).Ns b m:=λ{b m} ⟨o,es,ep,e,d,r⟩=>#[o,es,ep,n_ e (J8 e d),d,r];have N6:K.In (hidT s₁.heap H):=λb o e=>n_ (KX b o e) (by
   cases q:H b with
   |none=>rfl
   |some u=>
    have e':b=a:=hA b (by rw[q];simp);subst e';rw[hK (by rw[q];simp)]at e;cases e)
  have hM:Mod K mg (hidT s₁.heap H):=#[N6,La hns,#[mb,La hb,O2],let ⟨mc,h1,h2⟩:=LJ;#[mc,La h1,h2]];have e0:Env0 P w K mg (hidT s₁.heap H) R9 [] s₁ H:=#[rfl,hM,λb o e=>uy e,GH (uw _ _),trivial,λb hb=>absurd (show b∈([]:List Addr)from hb) J4,hok,.of_eq hg];refine Rw ((F _ N6 (La hns)).run R9 [] s₁ H #[[.ref a],[]] [.ref a] [.ref a] _ _ hr e0 (Kc s₁ (.ref a)) (.cons rfl .nil) (o9 H hO hS)) λr s' h=>?_;cases r with
  |error e=>exact(LK H e s' h).elim
  |ok fl=>
   cases fl with
   |next=>exact False.elim h
   |brk=>exact False.elim h
   |cont=>exact False.elim h
   |ret u=>
    obtain⟨v,H',os,bare,un,LM,r',q⟩:=h;have q':v=.bl true:=q;subst q';obtain rfl:u=Value.bool true:=r';refine#[rfl,OldK.of_keep λb o e=>?_,os,bare];cases q:H b with
    |none=>exact un.keep b o e q (by intro z;exact absurd (show b∈([]:List Addr)from z) J4) J4
    |some u=>
     rcases hO b with z|⟨ob,xs,z⟩
     .rw[q]at z;cases z
     .have z2:=un.frzs b ob _ z;obtain⟨e1,_⟩:=hok b _ z;obtain⟨e2,_⟩:=LM b _ z2;rw[e]at e1;cases e1;exact e2
 cases hk:K.lookup a with
 |some o=>
  have e:=KX a o hk;rw[ha]at e;cases e;refine Ke (λ_=>z8) (λ_=>.inl rfl) (.inr #[_,vs.toArray,_,hk,rfl,rfl,rfl,by rw[Ff,LL];exact hl,by simpa using rv]) (λb u z=>by have z':(z8:Option HO)=be u:=z;cases z') (λb z=>absurd rfl z) λz=>absurd rfl z
 |none=>
  refine Ke (λb=>if b=a then be (.frz {cls:=.type "list",data:=.seq vs.toArray} (.lst (ns.map V.int)))else z8) (λb=>?_) (.inl (.inr #[{cls:=.type "list",data:=.seq vs.toArray},if_pos rfl])) (λb u z=>?_) (λb z=>?_) λ_=>hk
  .by_cases hb:b=a
   .exact .inr #[_,_,if_pos hb]
   .exact .inl (if_neg hb)
  .by_cases hb:b=a
   .have z':=(if_pos hb).symm.trans z;cases z';subst hb;exact#[ha,by rw[Fs];exact hl,vs,_,rv,ha]
   .have z':=(if_neg hb).symm.trans z;cases z'
  .by_cases hb:b=a
   .exact hb
   .exact absurd (if_neg hb) z
def walk_of{l:G6}{n k:Nat}{q:Pi}{i_:List E_}{XP:(E_->Option KB)->Heap->Prop}{YP:Q2->Heap->Prop}{d:DefRec}{K:Params->Ex}{CX:Q2->CXT}{sp:Q2->Sp}{x:E_}
  (hn:l.most=be n) (r_:n<=sizeLine) (Kb:d.params.defaults=[]) (hr:Room k R9)
  (hY:∀(w:Q2) (h:Heap),YP w h->(K w.params).In h)
  (F:∀(w:Q2) (mg:E_->Option KB) (fa:Addr) (h:Heap),(K w.params).In h->h.Ns Os mg->mg d.name=be (.ref fa)->
   ∃fd:Q8,(∀(s:KF) (u:KB),RW s fd #[[u],[]] [(x,u)])/\
    ∀base:Heap,(K w.params).In base->base.Ns Os mg->FnOk l.prog w (K w.params) mg base (CX w) k fa fd [x] (sp w))
  (o9:∀(w:Q2) (H:Hp) (a:Addr) (ns:List Int),ns.length<=n->Only H->SqL (K w.params) H a (ns.map V.int)->sp w [.ref a] H (λv _=>v=.bl true) λ_ _ _=>False)
  (LK:∀(w:Q2) (H:Hp) (s:KF) (e:KB) (s':KF),CX w [] H s (λ_ _ _=>False) e s'->False):
  HB q i_ XP YP l.row.toRowW d [] (λf vs=>PySem.call f vs):=by
 refine N4.attach_call hn Kb λw s₀ s₁ mg mb fa o pm cd doc a vs ns G Y ho hd d_ i8 Jd u_ b8 hg=>?_;have KX:=hY w _ Y;obtain⟨fd,hb,hF⟩:=F w mg fa _ KX G.T.g i8;exact wP KX G.T.g G.T.b G.T.builtins G.T.nolimit hg Jd u_ (Fg b8 r_) hr hF hb (λH hO hS=>o9 w H a ns b8 hO hS) λH e s'=>LK w H s₁ e s'
def aL(s:Q0)(j:Nat):Q0:=match s with
 |.ClassDef _ _ _ body _ _ _ _ _ _ _=>body.getD j (.Pass #[0,0,0,0])
 |_=>.Pass #[0,0,0,0]
def bq(s:Q0):Arguments:=match s with
 |.FunctionDef _ a _ _ _ _ _ _ _ _=>a
 |_=>{posonlyargs:=[],args:=[],vararg:=z8,kwonlyargs:=[],kw_defaults:=[],kwarg:=z8,defaults:=[]}
def aE(s:Q0):List Q0:=match s with
 |.FunctionDef _ _ b _ _ _ _ _ _ _=>b
 |_=>[]
def ag(s:Q0):Rr:=match s with
 |.FunctionDef _ _ _ _ _ _ sc _ _ _=>sc
 |_=>{kind:=.function,names:=[],isGenerator:=false,isCoroutine:=false}
abbrev CX0:CXT:=λ_ _ _ _ _ _=>False
abbrev E0:XK:=λ_ _ _=>False
structure FunG(K:Ex)(dV:KB)(x qual:Str)(st:Q0)(f:Addr)(fd:Q8):Prop where
 ex:∃(oc:KB) (od:Option Addr) (kV doc pm:KB) (an:Option Addr) (cdv ct:KB) (osl:Array (Option KB)),
  fd=fnOf x qual (bq st) (aE st) (ag st) dV kV doc pm an cdv ct/\K.lookup f=be #[oc,od,.func fd,osl]/\codeIn K cdv qual=true
 kp:keepIn K (.ref f)=true
abbrev Fun(K:Ex):E_->E_->Q0->Addr->Q8->Prop:=FunG K .none
section
variable {P:Pi}{w:Q2}{K:Ex}{mg:E_->Option KB}{base:Heap}
variable{x qual:E_}{st:Q0}{f:Addr}{ps:List E_}
def Fun.ok{fd:Q8}{N:List E_}{k:Nat}{sp:Sp}(F:Fun K x qual st f fd)(S:FnScope N ps (ag st))(len:∀vs H Q E,sp vs H Q E->vs.length=ps.length)
  (a9:∀(cdv:KB) (A:Q3) (outer:List RI) (s:KF) (H:Hp) (vs:List V) (Q:VK) (E:XK),Room k (A.deeper (Ra qual (ag st) s.heap.objs.size f cdv))->sp vs H Q E->
   ∃t,PSs (cxOf CX0 P w K mg base N qual (ag st) f cdv A outer s H E).nox (aE st) t/\t {nx:=λ_ H'=>Q .non H',rt:=Q} (start N vs) H):FnOk P w K mg base CX0 (k+1) f fd ps sp:=by
 obtain⟨oc,od,kV,doc,pm,an,cdv,ct,osl,rfl,lk,d_⟩:=F.ex;refine pY lk d_ S len λA outer s H vs Q E hr o9=>?_;obtain⟨t,h,q⟩:=a9 cdv A outer s H vs Q E hr o9;exact#[t,h.nox,q]
def Fun.binds{fd:Q8}(F:Fun K x qual st f fd)
  (h:∀(kV doc pm:KB) (an:Option Addr) (cdv ct:KB) (us:List KB),us.length=ps.length->RF (fnOf x qual (bq st) (aE st) (ag st) .none kV doc pm an cdv ct) #[us,[]]=pure (ps.zip us)):Binds K fd ps []:=by
 obtain⟨oc,od,kV,doc,pm,an,cdv,ct,osl,rfl,lk,d_⟩:=F.ex;exact .all (h kV doc pm an cdv ct)
def fY{oc:KB}{od an:Option Addr}{osl:Array (Option KB)}{kV doc pm cdv ct:KB}(l:K.lookup f=be #[oc,od,.func (fnOf x qual (bq st) (aE st) (ag st) .none kV doc pm an cdv ct),osl])
  (c:codeIn K cdv qual=true) (k:keepIn K (.ref f)=true):Fun K x qual st f (fnOf x qual (bq st) (aE st) (ag st) .none kV doc pm an cdv ct):=#[#[oc,od,kV,doc,pm,an,cdv,ct,osl,rfl,l,c],k]
end
def fk{A:Q3}{k:Nat}(hr:Room k A):A.units+1<R6:=HC (Nat.add_le_add_left (Ji:1<=64) _) hr.units
def wQ{n:Nat}(h:n<=1000):n<sizeLine:=HC h Ji
def ite2{c A B:Prop}[Decidable c](h1:c->A)(h2:¬c->B):if c then A else B:=by
 by_cases h:c
 .rw[if_pos h];exact h1 h
 .rw[if_neg h];exact h2 h
def Same(H H':Hp):Prop:=∀b o,H b=be o->H' b=be o
def Same.refl(H:Hp):Same H H:=λ_ _ h=>h
variable{H:Hp}
def Same.trans{H1 H2:Hp}(a:Same H H1)(b:Same H1 H2):Same H H2:=λc o h=>b c o (a c o h)
variable{H':Hp}
def Same.free(e:Same H H'){l:Addr}(h:H' l=Option.none):H l=Option.none:=by
 cases q:H l with
 |none=>rfl
 |some o=>
  rw[e l o q]at h;cases h
def Same.seq{K:Ex}{xs:List V}(e:Same H H')(h:SqL K H a xs):SqL K H' a xs:=by
 rcases h with(h|⟨o,h⟩)|h
 .exact .inl (.inl (e _ _ h))
 .exact .inl (.inr #[o,e _ _ h])
 .exact .inr h
section
variable {κ:Type}[DecidableEq κ]
def valV(a8:List (κ×V))(k:κ):Option V:=(a8.find? λkv=>decide (kv.1=k)).map (·.2)
def putK(a8:List (κ×V))(k:κ)(v:V):List (κ×V):=
 if(a8.any λkv=>decide (kv.1=k))=true then a8.map (λkv=>if kv.1=k then(kv.1,v)else kv)else a8++[(k,v)]
def jw{p:κ×V}{r:List (κ×V)}{k:κ}(e:p.1=k):valV (p::r) k=be p.2:=by simp[valV,Gd,e]
def jx{p:κ×V}{r:List (κ×V)}{k:κ}(e:¬p.1=k):valV (p::r) k=valV r k:=by simp[valV,Gd,e]
def RelO.getD{o:Option V}{u:Option KB}{d:V}{d':KB}(r:RelO o u)(rd:RelV d d'):RelV (o.getD d) (u.getD d'):=by
 cases o with
 |none=>cases u with
  |none=>exact rd
  |some _=>exact(show False from r).elim
 |some _=>cases u with
  |none=>exact(show False from r).elim
  |some _=>exact r
def KV.val{a8:List (κ×V)}{vs:List (κ×KB)}(r:KV a8 vs)(k:κ):RelO (valV a8 k) (Sg vs k):=by
 unfold KV at r;induction r with
 |nil=>exact True.intro
 |@cons p q ps qs h t ih=>
  obtain⟨h1,h2⟩:=h;by_cases e:p.1=k
  .have e':q.1=k:=h1.symm.trans e;have b:Sg (q::qs) k=be q.2:=by simp[Sg,Gd,e']
   rw[jw e,b];exact h2
  .have e':¬q.1=k:=λz=>e (h1.trans z);have b:Sg (q::qs) k=Sg qs k:=by simp[Sg,Gd,e']
   rw[jx e,b];exact ih
def KV.any{a8:List (κ×V)}{vs:List (κ×KB)}(r:KV a8 vs)(k:κ):(a8.any λkv=>decide (kv.1=k))=vs.any λkv=>decide (kv.1=k):=by
 unfold KV at r;induction r with
 |nil=>rfl
 |cons h t ih=>rw[Gc,Gc,ih,h.1]
def KV.keys{a8:List (κ×V)}{vs:List (κ×KB)}(r:KV a8 vs):a8.map (·.1)=vs.map (·.1):=by
 unfold KV at r;induction r with
 |nil=>rfl
 |cons h t ih=>rw[Ft,Ft,ih,h.1]
def KV.length{a8:List (κ×V)}{vs:List (κ×KB)}(r:KV a8 vs):a8.length=vs.length:=Paired.length r
end
def qr{k:Key}{u:KB}(r:RelV (kV k) u):(bz P w).is k u=true:=by
 cases k with
 |inl i=>obtain⟨t,e⟩:=(show ∃t,u=Value.int i t from r);subst e;exact mixKind_int P w i t
 |inr x=>obtain⟨t,e⟩:=(show ∃t,u=Value.str x t from r);subst e;exact ut P w x t
def qt{P:Pi}{w:Q2}:∀{ks:List Key} {us:List KB},Vals (ks.map kV) us->ItemsAre (bz P w) ks us
 |[],_,r=>by rw[GM]at r;cases r;exact .nil
 |k::ks,_,r=>by
  rw[Ft]at r;cases r with
  |cons h t=>exact .cons (qr h) (qt t)
abbrev KT(H:Hp):List (List Key×V)->List (List Key×Addr×KB)->Prop:=Paired λp q=>p.1=q.1/\H q.2.1=be (.tup (p.1.map kV))/\RelV p.2 q.2.2
variable{xs:List (List Key×Addr×KB)}{a8:List (List Key×V)}
def KT.val(r:KT H a8 xs)(k:List Key):RelO (valV a8 k) ((Se xs k).map (·.2)):=by
 induction r with
 |nil=>exact True.intro
 |@cons p q ps qs h t ih=>
  obtain⟨h1,_,h2⟩:=h;by_cases e:p.1=k
  .have e':q.1=k:=h1.symm.trans e;have b:Se (q::qs) k=be q.2:=by simp[Se,Gd,e']
   rw[jw e,b];exact h2
  .have e':¬q.1=k:=λz=>e (h1.trans z);have b:Se (q::qs) k=Se qs k:=by simp[Se,Gd,e']
   rw[jx e,b];exact ih
def KT.keeps(r:KT H a8 xs)(ht:∀b ys,H b=be (.tup ys)->H' b=be (.tup ys)):KT H' a8 xs:=
 Paired.mapP r λ_ _ z=>#[z.1,ht _ _ z.2.1,z.2.2]
section
variable {P:Pi}{w:Q2}{H:Hp}{h:Heap}{a:Addr}
def qu{u:HO}(ok:HOk P w H h)(e:Rd H a u):ObjOk P w H h a u:=e.ok ok
def wR{a8:List (Key×V)}(ok:HOk P w H h)(e:Rd H a (.dK a8)):a8.length<=sizeLine/\(a==Rp)=false/\∃vs,KV a8 vs/\h.DictOf (bz P w) a vs:=
 show ObjOk P w H h a (.dK a8)from qu ok e
def key_of{ks:List Key}(ok:HOk P w H h)(e:H a=be (.tup (ks.map kV))):(RS (bz P w)).is h ks a:=by
 obtain⟨_,its,r,o,h1,h2,n,h3⟩:=(show ObjOk P w H h a (.tup (ks.map kV))from ok a _ e);exact#[o,its.toArray,n,h1,h2,h3,by simpa using qt r]
variable{a8:List (List Key×V)}
def qv(ok:HOk P w H h)(e:Rd H a (.dT a8)):a8.length<=sizeLine/\(a==Rp)=false/\
  ∃xs,KT H a8 xs/\h.DictOfH (RS (bz P w)) a xs:=by
 obtain⟨z,y,xs,r,o,es,ep,h1,h2,h3,h4,h5⟩:=(show ObjOk P w H h a (.dT a8)from qu ok e);refine#[z,y,xs,r,o,es,ep,h1,h2,h3,h4,λx hx=>?_,h5];have all:∀{l:List (List Key×V)} {m:List (List Key×Addr×KB)},KT H l m->∀x∈m,(RS (bz P w)).is h x.1 x.2.1:=by
  intro l m q;induction q with
  |nil=>intro x hx;exact nomatch hx
  |@cons p q ps qs hq t ih=>
   intro x hx;rcases Fb.mp hx with e|hx
   .subst e;exact key_of ok (by rw[<-hq.1];exact hq.2.1)
   .exact ih x hx
 exact all r x hx
def wS(ok:HOk P w H h)(e:H a=be (.dT a8)):a8.length<=sizeLine/\(a==Rp)=false/\
  ∃xs,KT H a8 xs/\h.DictOfH (RS (bz P w)) a xs:=qv ok (.inl e)
end
def DGet(H:Hp)(a:Addr)(y:V)(r:Option V):Prop:=
 (∃a8 k,Rd H a (.dK a8)/\y=kV k/\r=valV a8 k)\/∃a8 k b,Rd H a (.dT a8)/\y=.ref b/\H b=be (.tup (k.map kV))/\r=valV a8 k
def DPut(H:Hp)(a:Addr)(y v:V)(H':Hp):Prop:=
 (∃a8 k,H a=be (.dK a8)/\y=kV k/\a8.length<sizeLine/\H'=upd H a (.dK (putK a8 k v)))\/
 ∃a8 k b,H a=be (.dT a8)/\y=.ref b/\H b=be (.tup (k.map kV))/\a8.length<sizeLine/\H'=upd H a (.dT (putK a8 k v))
def DGet.k{a8:List (Key×V)}{k:Key}(e:H a=be (.dK a8)):DGet H a (kV k) (valV a8 k):=.inl #[a8,k,.inl e,rfl,rfl]
def DGet.t{b:Addr}{k:List Key}(e:H a=be (.dT a8))(eb:H b=be (.tup (k.map kV))):DGet H a (.ref b) (valV a8 k):=.inr #[a8,k,b,.inl e,rfl,eb,rfl]
def DPut.k{a8:List (Key×V)}{k:Key}{v:V}(e:H a=be (.dK a8))(hl:a8.length<sizeLine):DPut H a (kV k) v (upd H a (.dK (putK a8 k v))):=.inl #[a8,k,e,rfl,hl,rfl]
def DPut.t{b:Addr}{k:List Key}{v:V}(e:H a=be (.dT a8))(eb:H b=be (.tup (k.map kV)))(hl:a8.length<sizeLine):
  DPut H a (.ref b) v (upd H a (.dT (putK a8 k v))):=.inr #[a8,k,b,e,rfl,eb,hl,rfl]
section
variable {X:Cx}{pins:List (Addr×Re)}{σ:St}{H:Hp}{s:KF}{a:Addr}{y v:V}{u r:KB}{o:Option V}{A:Q3}{E:KB->KF->Prop}
def Inv.big(I:Inv X pins σ H s):Rp<s.heap.objs.size:=by
 have h:Os<s.heap.objs.size:=(I.mod.glob.keeps I.bk).lt;exact HD Ji h
def wT{h':Heap}{t':Nat}{ob:HO}(I:Inv X pins σ H s)(mu:Mut (H a))(hs:Heap.SameBut a s.heap h')(he:∃q,h'.get? a=be q)(new:ObjOk X.prog X.w (upd H a ob) h' a ob):
  Inv X pins σ (upd H a ob) {s with heap:=h',toks:=t'}:=
 I.write (x:=a) (e:=a) mu (.inl rfl) (λb q hb z=>(hs.2 b hb).trans z) he new
end
def wU(h:Heap)(hb:Rp<h.objs.size):ObjOk P w H (h.push {cls:=.type "dict",data:=.dict [].toArray}) h.objs.size (.dT []):=
 #[Fz _,beq_eq_false_iff_ne.mpr (Ne.symm (Fd hb)),[],.nil,_,[].toArray,0,Heap.get?_push_size _ rfl,#[rfl,rfl,rfl],rfl,rfl,HE]
def wV:TE:=λ_ H Q=>∀p,H p=z8->Q (.ref p) (upd H p (.dT []))
section
variable {X:Cx}{pos:Q_}
def pe_dnewT:PE X (.Dict [] [] pos) wV:=λpins s σ H Q I h=>
 wpAny_Dict_empty #[.ref s.heap.objs.size,_,I.laid (a:=s.heap.objs.size) (o:=.dT []) (t':=s.toks) (λ_ _ q=>Heap.get?_push_of_some _ q) (E7 _) (wU s.heap I.big),rfl,h _ (I.hok.fresh (E7 _))]
end
structure M1(X:Cx)(o:P3)(m:Str)(apos:Q_)(e:P3)(cpos:Q_):Prop where
 base:Q6 o m X.env (Q7 o X.env)=Q7 o X.env
 few:((Rx cpos (Q4 [e] X.env)).all (λx=>!x.1)&&(RU cpos (Rv [] X.env)).all (λx=>x.1.isSome)
  && decide (([e]:List P3).length+([]:List R5).length+(if([]:List R5).isEmpty then 0 else 1)<30))=true
 line:(apos.endLine==cpos.line)=true
 trees:Rx cpos (Q4 [e] X.env)=[(false,Q7 e X.env)]
structure M2(X:Cx)(o:P3)(m:Str)(apos:Q_)(e f:P3)(cpos:Q_):Prop where
 base:Q6 o m X.env (Q7 o X.env)=Q7 o X.env
 few:((Rx cpos (Q4 [e,f] X.env)).all (λx=>!x.1)&&(RU cpos (Rv [] X.env)).all (λx=>x.1.isSome)
  && decide (([e,f]:List P3).length+([]:List R5).length+(if([]:List R5).isEmpty then 0 else 1)<30))=true
 line:(apos.endLine==cpos.line)=true
 trees:Rx cpos (Q4 [e,f] X.env)=[(false,Q7 e X.env),(false,Q7 f X.env)]
section
variable {X:Cx}{pins:List (Addr×Re)}{σ:St}{H:Hp}{s:KF}{a:Addr}{y d:V}{u r:KB}{o:Option V}{A:Q3}{E:KB->KF->Prop}
def wW{Q:KB->KF->Prop}(hu:A.units+1<R6)(I:Inv X pins σ H s)(g:DGet H a y o)(ry:RelV y u)(rd:RelV d r)(h:∀w' s',Inv X pins σ H s'->RelV (o.getD d) w'->Q w' s'):
  Q1 (QZ X.prog X.w) A (call (.builtin "dict.get") [.ref a,u,r]) Q E s:=by
 rcases g with⟨a8,k,e,ey,l⟩|⟨a8,k,b,e,ey,eb,l⟩
 .subst ey;obtain⟨z,hd,vs,s9,dd⟩:=wR I.hok e;refine SA PySem.F.slot_dict_get dd.typeIs PySem.F.entry_dict_get (PySem.F.args_dict_get_3 _ _ _) (meets_dict_get_default (bz X.prog X.w) a (qr ry) hd r) #[_,dd.mapOf,h _ _ (I.tok _) ?_];rw[l];exact(s9.val k).getD rd
 .subst ey;cases(show u=Value.ref b from ry);obtain⟨z,hd,xs,s9,dd⟩:=qv I.hok e;refine SA PySem.F.slot_dict_get dd.typeIs PySem.F.entry_dict_get (PySem.F.args_dict_get_3 _ _ _) (meetsH_dict_get_default (RS (bz X.prog X.w)) a b hd r) #[SU hu,k,xs,key_of I.hok eb,dd,h _ _ (I.tok _) ?_];rw[l];exact(s9.val k).getD rd
end
end L2
end
section
open PySem PySem.Spec PyProof.Rows L2
namespace Exc
open PySem PySem.Spec PyProof.Rows PySem.W L2
def aK:List KB->Bool
 |.ref _::r=>aK r
 |l=>l==[.type "ValueError",.type "Exception",.type "BaseException",.type "object"]
def jy(self:KB):∀{l:List KB},aK l=true->refuseLoop self "__setattr__" l=pure ()
 |.ref c::r,e=>by rw[refuseLoop_ref];exact jy self (by unfold aK at e;exact e)
 |[],e=>by simp[aK]at e
 |.type n::r,e=>by
  have e':(Value.type n::r)=[.type "ValueError",.type "Exception",.type "BaseException",.type "object"]:=by simpa[aK]using e
  rw[e'];exact PySem.F.store_ValueError.passes self
 |.none::r,e=>by simp[aK]at e
 |.bool _::r,e=>by simp[aK]at e
 |.int _ _::r,e=>by simp[aK]at e
 |.float _ _::r,e=>by simp[aK]at e
 |.str _ _::r,e=>by simp[aK]at e
 |.bytes _ _::r,e=>by simp[aK]at e
 |.builtin _::r,e=>by simp[aK]at e
def dS{T:String}(hT:[Value.type "ValueError",.type "Exception",.type "BaseException",.type "object"].contains (.type T)=true):∀{l:List KB},aK l=true->l.contains (.type T)=true
 |.ref c::r,e=>by rw[G7,dS hT (l:=r) (by unfold aK at e;exact e),GO]
 |[],e=>by simp[aK]at e
 |.type n::r,e=>by
  have e':(Value.type n::r)=[.type "ValueError",.type "Exception",.type "BaseException",.type "object"]:=by simpa[aK]using e
  rw[e'];exact hT
 |.none::r,e=>by simp[aK]at e
 |.bool _::r,e=>by simp[aK]at e
 |.int _ _::r,e=>by simp[aK]at e
 |.float _ _::r,e=>by simp[aK]at e
 |.str _ _::r,e=>by simp[aK]at e
 |.bytes _ _::r,e=>by simp[aK]at e
 |.builtin _::r,e=>by simp[aK]at e
section
variable {prog:Pi}{w:Q2}{A:Q3}{E:KB->KF->Prop}{s:KF}{K:Ex}{x C:Addr}{ox:Re}{cd:Sr}{name:E_}{v:KB}{vs:Array KB}
def wX{Q:Unit->KF->Prop}(X:K.In s.heap)(hx:s.heap.get? x=be ox)(gt:ox.cls=.ref C)(v3:ox.data=.fields vs)(hd:ox.dict=z8)(hc:clsIn K C=be cd)(hm:aK cd.mro=true)(hh:cd.hasDict=true)
  (hs:findIn K (.ref C) "__setattr__"=be (be (.builtin "object.__setattr__"))) (hf:findIn K (.ref C) name=be z8)
  (h:∀h',h'.get? x=be {ox with dict:=be s.heap.objs.size}->h'.Ns1 s.heap.objs.size (λy=>if y=name then be v else z8)->(∀b o,b≠x->s.heap.get? b=be o->h'.get? b=be o)->∀tk,Q () {s with heap:=h',toks:=tk}):
  Q1 (QZ prog w) A (SY (.ref x) name v) Q E s:=by
 have hn:notCls ox=true:=by unfold notCls;rw[v3]
 have I:InstAt s.heap x ox C none:=#[hx,gt,hn,by rw[hd];trivial];refine set_plain X I hs ?_;have SF:=PySem.F.store_object;have ne:cd.mro.isEmpty=false:=K_
 have sub:Looks (QZ prog w) s.heap (R7 (.ref x) (.type "object")) true:=I.type.andThen (looks_mroIn X Rs);refine RE SF.slot.plain SF.entry (@check_slot (QZ prog w) _ _ _ "object.__setattr__" "object" "__setattr__" (.ref x) [.str name s.toks,v] [] _ SF.kind SF.split sub (SF.args (.ref x) (.str name s.toks) v) ?_);have Jf:Looks (QZ prog w) s.heap (mroOf (.ref C)) cd.mro:=(looks_clsIn X hc).andThen .now;rw[osa_eq,refuse_eq];refine KM (KM (I.type.here (s:={s with toks:=s.toks+1}) (KM (Jf.here (s:={s with toks:=s.toks+1}) ?_))));rw[jy _ hm];refine QY (KM (I.type.here (s:={s with toks:=s.toks+1}) (KM ((looks_findIn X hf).here (s:={s with toks:=s.toks+1}) (KM (Looks.now.here (s:={s with toks:=s.toks+1}) ?_))))));obtain⟨oc,N7,N8,osl⟩:=ox;dsimp only at gt hd v3;subst gt hd v3;refine KM (QY (KM (KM (Si hx (KM ((looks_clsIn X hc).here (s:={s with toks:=s.toks+1}) ?_))))));rw[hh];rw[if_neg Ji];have hx₁:(s.heap.push {cls:=.type "dict",data:=.dict [].toArray}).get? x=be #[.ref C,z8,.fields vs,osl]:=Heap.get?_push_of_some _ hx;have N9:x≠s.heap.objs.size:=Fd (Heap.lt_size hx);show Q1 _ _ (do
  let d <-alloc {cls:=Value.type "dict",data:=Data.dict [].toArray}
  update x λo=>{cls:=o.cls,dict:=be d,data:=o.data,slots:=o.slots}
  dictMade (.ref C) x d) _ _ _
 refine KM (wpAny_alloc' ?_);refine KM (wpAny_update' hx₁ ?_);refine QY ?_;have O3:((s.heap.push {cls:=.type "dict",data:=.dict [].toArray}).update x λo=>{cls:=o.cls,dict:=be s.heap.objs.size,data:=o.data,slots:=o.slots}).get? s.heap.objs.size
   =be {cls:=.type "dict",data:=.dict [].toArray}:=
  (Heap.get?_update_ne _ _ _ _ N9.symm).trans (Heap.get?_push_at rfl rfl)
 have O4:((s.heap.push {cls:=.type "dict",data:=.dict [].toArray}).update x λo=>{cls:=o.cls,dict:=be s.heap.objs.size,data:=o.data,slots:=o.slots}).Ns s.heap.objs.size (λ_=>z8):=
  #[_,[].toArray,_,O3,rfl,λe he=>absurd he J4,λ_=>rfl]
 show Q1 _ _ (Builtin.ObjectAttr.storeInDict s.heap.objs.size (.str name s.toks) name v) _ _ _;unfold Builtin.ObjectAttr.storeInDict Builtin.ObjectAttr.newKeyGuard;refine KM (QY (KM (Ss (Heap.Ns1.of_empty O4) λh' f8 hs=>?_)));obtain⟨oD,NW,NX,J5,J6,J7⟩:=f8.count (Within.cons name v Within.nil);refine KM (R_ J5 (by rw[J6];exact Sb (Fg J7 (by rw[Fc,List.length_nil,RO];lia))) ?_);refine QY (h h' ?_ f8 (λb o hb q=>?_) _)
 .exact(hs.2 x N9).trans (Heap.get?_update_self _ hx₁ rfl)
 .exact(hs.2 b (Fd (Heap.lt_size q))).trans ((Heap.get?_update_ne _ _ _ _ hb).trans (Heap.get?_push_of_some _ q))
variable{Q:KB->KF->Prop}
def wY{od:Re}{u9:Bool}(X:K.In s.heap)(I:InstAt s.heap x ox C (be od))(hc:clsIn K C=be cd)(hm:aK cd.mro=true)
  (O5:findIn K (.ref C) "__getattribute__"=be (be (.builtin "BaseException.__getattribute__"))) (O6:findIn K (.ref C) "__getattr__"=be z8)
  (hf:findObj K C (be od) name=be (.value v)) (hh:handedIn v=true) (h:∀tk,Q v {s with toks:=tk}):Q1 (QZ prog w) A (Sy (.ref x) name u9) Q E s:=by
 have FB:=PySem.F.attr_ValueError;obtain⟨hp,g,d,t,os⟩:=s;have L0:=I.type (M:=QZ prog w);have L1:=looks_findIn (M:=QZ prog w) X O5;have L2:=looks_findIn (M:=QZ prog w) X O6;have L3:=looks_find (M:=QZ prog w) X I hf;have f3:=FB.ga.bind (.ref x);have ne:cd.mro.isEmpty=false:=K_
 have sub:Looks (QZ prog w) hp (R7 (.ref x) (.type "BaseException")) true:=I.type.andThen (looks_mroIn X Rs);unfold Sy getAttrBy;refine KM (wpAny_mkText (Rk (KM (L0.at (KM (L1.at ?_))))));dsimp only;have IM:(onTheHeap (Value.ref C)&&Value.builtin "BaseException.__getattribute__"==Value.builtin "object.__getattribute__")=false:=by
  have l9:(Value.builtin "BaseException.__getattribute__"==Value.builtin "object.__getattribute__")=false:=Je
  rw[l9];rfl
 have O7:(u9&&onTheHeap (Value.builtin "BaseException.__getattribute__"))=false:=by cases u9<;>rfl
 rw[IM,if_neg Fh];unfold getAttrByItsOwn hookBefore;rw[show onTheHeap (Value.ref C)=true from rfl,if_pos rfl];refine KM (L2.at ?_);unfold callGetattribute;rw[O7,if_neg Fh];unfold boundAndCalled;refine KM (wpAny_attempt (Rk (KM (SH f3 ?_))));refine Rz (RE FB.ga.plain PySem.F.entry_bexc_ga (@check_slot (QZ prog w) _ _ _ "BaseException.__getattribute__" "BaseException" "__getattribute__" (.ref x) [.str name t] [] _ Je Je sub (PySem.F.args_bexc_ga _ _) ?_));unfold Builtin.«object.__getattribute__»;refine KM (SH (a:=(Value.ref x,[Value.str name t])) rfl ?_);refine KM (SH (a:=name) rfl ?_);refine KM (L0.at (KM (L3.at ?_)));refine QY ?_;show Q1 _ _ (handedOut v) _ _ _;rw[handedOut_of hh];exact QY (h _)
def wZ{rest:List KB}{t0:Addr}{a1 a2 a3 a4 a5:KB}(X:K.In s.heap)(hx:s.heap.get? x=be ox)(gt:ox.cls=.ref C)(v3:ox.data=.fields [.ref t0,a1,a2,a3,a4,a5].toArray)(hc:clsIn K C=be cd)(hm:aK cd.mro=true)(hl:rest.length<=sizeLine)
  (h:∀h',h'.get? x=be {ox with data:=.fields [.ref s.heap.objs.size,a1,a2,a3,a4,a5].toArray}->(∀b o,b≠x->s.heap.get? b=be o->h'.get? b=be o)->Q .none {s with heap:=h'}):
  Q1 (QZ prog w) A (call (.builtin "ValueError.__init__") (.ref x::rest)) Q E s:=by
 have F:=PySem.F.excBase_ValueError;have hn:notCls ox=true:=by unfold notCls;rw[v3]
 have ht:Looks (QZ prog w) s.heap (typeOf (.ref x)) (.ref C):=gt ▸ (Looks.ld hx).andThen .now;have ne:cd.mro.isEmpty=false:=K_
 have sub:Looks (QZ prog w) s.heap (R7 (.ref x) (.type "ValueError")) true:=ht.andThen (looks_mroIn X Rs);have O8:∀{Q:Unit->KF->Prop} {E:KB->KF->Prop} {A:Q3},Q () s->Q1 (QZ prog w) A (checkBuiltinCall "ValueError.__init__" #[.ref x::rest,[]]) Q E s:=λ{Q E A} hq=>by
  have LN:=F.noStar;simp only[checkBuiltinCall,F.initKind,F.initSplit,F.initRow];refine KM (sub.here ?_);obtain⟨hp,g,d,t,os⟩:=s;have Lc:=looks_clsIn (M:=QZ prog w) X hc
  repeat(first|(with_reducible refine Rg hx ?_;rw[gt])|(with_reducible refine Lc.here ?_)|wp_step)
  refine wpAny_onRaise ?_;rw[show ∀(a b:String) (n:Nat),Bind.check #[.positional,"*","ValueError",.self,[#["args",.varPos,false]]] a b n (GP (λx=>x.fst) ({pos:=Value.ref x::rest}:Args).kw)=pure ()from
   λa b n=>check_star_args _ _ _ _ _ _]
  exact QY hq
 refine Rz (RE F.init.plain F.initEntry (O8 ?_));obtain⟨hp,g,d,t,os⟩:=s;obtain⟨oc,N7,N8,osl⟩:=ox;dsimp only at gt v3 hx h;subst gt v3
 wp_walk
 have hx₁:=Heap.get?_push_of_some {cls:=Value.type "tuple",data:=Data.seq rest.toArray} hx;refine h _ ?_ (λb o hb q=>?_)
 .rw[Heap.get?_update_self _ hx₁ rfl];rfl
 .rw[Heap.get?_update_other _ _ (Ne.symm hb)];exact Heap.get?_push_of_some _ q
end
abbrev veLine:List KB:=[.type "ValueError",.type "Exception",.type "BaseException",.type "object"]
section
variable {prog:Pi}{w:Q2}{A:Q3}{E:KB->KF->Prop}{h:Heap}{g:Array SM}{d:Drawn}{t:Nat}{os:OsState}{K:Ex}
variable {nm q:E_}{C N fI:Addr}{bs bm:List KB}{hdct:Bool}{sn:List E_}{sub:List KB}{ab:Bool}{col:Option Bool}{dd:Option Addr}{k0 k1 k2 k3 k5:Option KB}{rest:List KB}
def xa{Q:Fin->KF->Prop}(X:K.In h)(T:OwnTail h veLine bm)(hC:h.get? C=be (Rj nm q C N bs bm hdct sn sub ab col dd k0 k1 k2 k3 k5 "ValueError.__new__"))
  (hi:findIn K (.ref C) "__init__"=be (be (.ref fI))) (hf:typeIn K (.ref fI)=be (.type "function"))
  (hq:∀h' e,Heap.MadeExcOf h h' e (.ref C) rest->Q1 (QZ prog w) A (call (.ref fI) (.ref e::rest)) (λr s'=>r=.none/\Q (.done (.ret (.ref e))) s') E #[h',g,d,t,os]) (hl:rest.length<=sizeLine):
  Q1 (QZ prog w) A (Builtin.«type.__call__» #[.ref C::rest,[]]) Q E #[h,g,d,t,os]:=by
 have F:=PySem.F.excBase_ValueError
 repeat(first|(with_reducible refine Rg hC ?_)|(with_reducible refine wpAny_madeBy_exc hC ?_)|wp_step)
 refine codeAny_call_builtin_code (Code.quiet_builtin _ F.quiet) (wpAny_check_new_subT F T hC (codeAny_exc_new_subT F T hC ?_ hl));have kp:∀b o,h.get? b=be o->((h.push {cls:=.type "tuple",data:=.seq rest.toArray}).push {cls:=.ref C,data:=.fields [.ref h.objs.size,.none,.none,.none,.bool false,.none].toArray}).get? b=be o:=λb o e=>Heap.get?_push_of_some _ (Heap.get?_push_of_some _ e);have O9:=kp _ _ hC;have X1:K.In _:=X.keeps kp;have he:((h.push {cls:=.type "tuple",data:=.seq rest.toArray}).push {cls:=.ref C,data:=.fields [.ref h.objs.size,.none,.none,.none,.bool false,.none].toArray}).get? (h.objs.size+1)=be {cls:=.ref C,data:=.fields [.ref h.objs.size,.none,.none,.none,.bool false,.none].toArray}:=by heap_get
 have O_:(Value.ref C::bm).contains (.ref C)=true:=J4
 have L1:=looks_findIn (M:=QZ prog w) X1 hi;have L2:=bind_fn (M:=QZ prog w) X1 (.ref (h.objs.size+1)) hf;show Q1 _ _ _ _ _ _;unfold R7
 repeat(first|(with_reducible refine Rg he ?_)|(with_reducible refine RJ O9 ?_;rw[O_])|wp_step)
 refine L1.at ?_;refine Rk (KM (L2.at ?_));refine KM (Q9 (hq _ (h.objs.size+1) #[kp,Heap.get?_none_of_le (F4 _),h.objs.size,he,Heap.get?_none_of_le (E7 _),Heap.get?_push_of_some _ (Heap.get?_push_at rfl rfl)]) (λr s' hr=>?_) λ_ _ x=>x);obtain⟨rfl,hQ⟩:=hr;refine QY ?_;exact QY hQ
def xb{Q:KB->KF->Prop}(X:K.In h)(T:OwnTail h veLine bm)(hC:h.get? C=be (Rj nm q C N bs bm hdct sn sub ab col dd k0 k1 k2 k3 k5 "ValueError.__new__"))
  (hi:findIn K (.ref C) "__init__"=be (be (.ref fI))) (hf:typeIn K (.ref fI)=be (.type "function"))
  (hq:∀h' e,Heap.MadeExcOf h h' e (.ref C) rest->Q1 (QZ prog w) (A.under (.builtin "type.__call__" #[.ref C::rest,[]])) (call (.ref fI) (.ref e::rest)) (λr s'=>r=.none/\Q (.ref e) s') E #[h',g,d,t,os]) (hl:rest.length<=sizeLine):
  Q1 (QZ prog w) A (call (.ref C) rest) Q E #[h,g,d,t,os]:=by
 have f1:=tc_lookup;have f2:=tc_bind (.ref C);have hT:(#[h,g,d,t,os]:KF).TypeIs (.ref C) "type":=#[_,hC,rfl];refine Rz (codeAny_of_tree ?_);show Q1 _ _ (callAny (.ref C) _) _ _ _
 repeat(any_goals (first|(with_reducible refine Rg hC ?_)|assumption|wp_step))
 exact#[rfl,codeAny_call_builtin_at (Code.quiet_builtin _ Je) entry_typeCall (wpAny_check_type_call_sub hC (xa X T hC hi hf (λh' e hm=>hq h' e hm) hl))]
end
section
variable {prog:Pi}{w:Q2}{A:Q3}{E:KB->KF->Prop}{s:KF}{env:RI}
variable {nm q:E_}{C N:Addr}{bs bm:List KB}{hdct:Bool}{sn:List E_}{sub:List KB}{ab:Bool}{col:Option Bool}{dd:Option Addr}{k0 k1 k2 k3 k5:Option KB}{newId:String}
variable{Q:Flow->KF->Prop}
def xc{x:SB KB}(b7:bm.contains (.type "BaseException")=true)(hh:A.handled=z8)
  (h:Q1 (QZ prog w) A x (λv s₁=>∃e t od sl,v=.ref e/\s₁.heap.get? C=be (Rj nm q C N bs bm hdct sn sub ab col dd k0 k1 k2 k3 k5 newId)/\
   s₁.heap.get? e=be #[.ref C,od,.fields [.ref t,.none,.none,.none,.bool false,.none].toArray,sl]/\E (.ref e) s₁) E s):
  Q1 (QZ prog w) A (raiseStmt env (be x) z8) Q E s:=by
 have LO:(Value.ref C::bm).contains (.type "BaseException")=true:=by rw[G7,b7,GO]
 unfold raiseStmt;refine KM (Q9 h (λv s₁ h₁=>?_) λ_ _ x=>x);obtain⟨e,t,od,sl,rfl,hC,he,hE⟩:=h₁;obtain⟨hp,g,d,tk,os⟩:=s₁
 repeat(first|(with_reducible refine Rg he ?_)|(with_reducible refine Rg hC ?_)|(with_reducible refine RJ hC ?_;rw[LO])|wp_step)
 exact wpAny_raiseNew_none hh hE
def jz{x:P3}{pos:Q_}(b7:bm.contains (.type "BaseException")=true)(hh:A.handled=z8)
  (h:Q1 (QZ prog w) A (Q7 x env) (λv s₁=>∃e t od sl,v=.ref e/\s₁.heap.get? C=be (Rj nm q C N bs bm hdct sn sub ab col dd k0 k1 k2 k3 k5 newId)/\
   s₁.heap.get? e=be #[.ref C,od,.fields [.ref t,.none,.none,.none,.bool false,.none].toArray,sl]/\E (.ref e) s₁) E s):
  Q1 (QZ prog w) A (exec (.Raise (be x) z8 pos) env) Q E s:=by
 rw[arm_exec_Raise];show Q1 (QZ prog w) A (do RK pos;raiseStmt env (be (do let v <-Q7 x env;RK pos;pure v)) z8) Q E s;exact KM (RB (xc b7 hh (KM (Q9 h (λv s₁ h₁=>KM (RB (QY h₁))) λ_ _ x=>x))))
end
def ExAt(h:Heap)(e C:Addr)(od:Option Addr)(T:Addr)(fl:KB):Prop:=
 ∃sl vs oT ts,h.get? e=be #[.ref C,od,.fields vs,sl]/\vs[1]?=be (.ref T)/\T≠e/\h.get? T=be oT/\oT.data=.fields ts/\ts[3]?=be fl
structure Stay(fs ex:List Addr)(h h':Heap):Prop where
 keep:∀b o,h.get? b=be o->b∉ex->b∉fs->h'.get? b=be o
 slot:∀b o,h.get? b=be o->b∉ex->∃sl,h'.get? b=be {o with slots:=sl}
 there:∀b o,h.get? b=be o->∃o',h'.get? b=be o'
section
variable {M:SL}{A:Q3}{E:KB->KF->Prop}{s:KF}{env:RI}{outer:List RI}{base:Heap}{L e C T:Addr}{od:Option Addr}
variable{Q:Unit->KF->Prop}
def qw{sl:Array (Option KB)}{vs:Array KB}(j_:A.frames=be (env::outer))(hl:s.heap.FunFrames base (env::outer))(hf:env.frame=be L)
  (he:s.heap.get? e=be #[.ref C,od,.fields vs,sl]) (h1:vs[1]?=be .none)
  (h:∀h' T,ExAt h' e C od T (RV L)->s.heap.objs.size<=T->Stay (frs (env::outer)) [e] s.heap h'->Q () {s with heap:=h'}):Q1 M A (RT (.ref e) env) Q E s:=by
 have h_:1<vs.size:=(GQ.mp h1).1;have Jg:e∉(env::outer).filterMap (·.frame):=λhm=>by
  obtain⟨_,o,ho,hnf⟩:=hl.mem hm;rw[he]at ho;injection ho with ho;subst ho;exact hnf vs rfl
 unfold RT;simp only[hf];refine KM (RC he rfl h1 ?_);rw[if_neg Ji];refine KM (SX j_ hl hf λh₁ hs₁=>KM (SQ λpl c5=>?_));unfold EntryCells.newEntry newFields;refine KM (Rf ?_ (c5.sizeOk5 _ _ _ _ _));have he₁:h₁.get? e=be #[.ref C,od,.fields vs,sl]:=(hs₁.2.1 e Jg).trans he;have fresh:h₁.get? h₁.objs.size=none:=Heap.get?_none_of_le (E7 _);generalize Kg:({cls:=.type "traceback",dict:=z8,data:=.fields ([Value.none,.ref L,.none,RV L,.none]++(if pl.isEmpty then FD 6 Value.none else pl)).toArray}:Re)=oT;have he₂:=Heap.get?_push_of_some (h:=h₁) oT he₁;have s_:h₁.objs.size≠e:=FU (Heap.lt_size he₁);refine R1 he₂ rfl h_ (h _ h₁.objs.size ?_ ?_ ?_)
 .refine#[sl,vs.setIfInBounds 1 (.ref h₁.objs.size),oT,([Value.none,.ref L,.none,RV L,.none]++(if pl.isEmpty then FD 6 Value.none else pl)).toArray,?_,by simp[h_],s_,?_,by rw[<-Kg],J4]
  .rw[Heap.get?_update_self _ he₂ rfl];rfl
  .rw[Heap.get?_update_other _ _ (Ne.symm s_)];exact Heap.get?_push_size h₁ (by rw[<-Kg];rfl)
 .exact GH hs₁.1.symm
 .have kp:∀b o,b≠e->h₁.get? b=be o->((h₁.push oT).update e (Obj.mapFields (·.setIfInBounds 1 (Value.ref h₁.objs.size)))).get? b=be o:=λb o hb z=>by
   rw[Heap.get?_update_other _ _ (Ne.symm hb)];exact Heap.get?_push_of_some _ z
  refine#[λb o q n m=>kp b o (λz=>n (by simp[z])) ((hs₁.2.1 b m).trans q),λb o q n=>?_,λb o q=>?_]
  .obtain⟨q9,z⟩:=hs₁.2.2 b o q;exact#[q9,kp b _ (λz=>n (by simp[z])) z]
  .by_cases hb:b=e
   .subst hb;exact#[_,Heap.get?_update_self _ he₂ rfl]
   .obtain⟨q9,z⟩:=hs₁.2.2 b o q;exact#[_,kp b _ hb z]
def qy(j_:A.frames=be (env::outer))(hl:s.heap.FunFrames base (env::outer))(hf:env.frame=be L)(hx:ExAt s.heap e C od T .none)
  (h:∀h' T',ExAt h' e C od T' (RV L)->s.heap.objs.size<=T'->Stay (frs (env::outer)) [T,e] s.heap h'->Q () {s with heap:=h'}):Q1 M A (RT (.ref e) env) Q E s:=by
 obtain⟨sl,vs,oT,ts,he,h1,s_,hT,j6,h3⟩:=hx;have h_:1<vs.size:=(GQ.mp h1).1;have Lb:3<ts.size:=(GQ.mp h3).1;have Jg:e∉(env::outer).filterMap (·.frame):=λhm=>by
  obtain⟨_,o,ho,hnf⟩:=hl.mem hm;rw[he]at ho;injection ho with ho;subst ho;exact hnf vs rfl
 unfold RT;simp only[hf];refine KM (RC he rfl h1 ?_);rw[if_pos (show(Value.ref T !=Value.none)=true from J4)];refine KM (RC hT j6 h3 ?_);rw[if_neg (show¬((Value.none==RV L)=true)from by simp[RV])];refine KM (R1 hT j6 Lb ?_);have other:∀b,b≠T->(s.heap.update T (Obj.mapFields (·.setIfInBounds 3 Value.none))).get? b=s.heap.get? b:=λb hb=>Heap.get?_update_other _ _ (Ne.symm hb);have nT:∀b o,s.heap.get? b=be o->(∀vs,o.data≠.fields vs)->b≠T:=λb o hb hnf q=>by
  rw[q,hT]at hb;injection hb with hb;subst hb;exact hnf ts j6
 have Kh:(s.heap.update T (Obj.mapFields (·.setIfInBounds 3 Value.none))).FunFrames base (env::outer):=hl.of_keeps λb o hb hnf=>#[o,(other b (nT b o hb hnf)).trans hb,rfl];have Pa:∃o',(s.heap.update T (Obj.mapFields (·.setIfInBounds 3 Value.none))).get? T=be o':=#[_,Heap.get?_update_self _ hT (Obj.isFreed_of_fields (Obj.data_mapFields j6 _))];refine KM (SX j_ Kh hf λh₁ hs₁=>KM (SQ λpl c5=>?_));unfold EntryCells.newEntry newFields;refine KM (Rf ?_ (c5.sizeOk5 _ _ _ _ _));have he₁:h₁.get? e=be #[.ref C,od,.fields vs,sl]:=(hs₁.2.1 e Jg).trans ((other e (Ne.symm s_)).trans he);have fresh:h₁.get? h₁.objs.size=none:=Heap.get?_none_of_le (E7 _);generalize Kg:({cls:=.type "traceback",dict:=z8,data:=.fields ([Value.ref T,.ref L,.none,RV L,.none]++(if pl.isEmpty then FD 6 Value.none else pl)).toArray}:Re)=LP;have he₂:=Heap.get?_push_of_some (h:=h₁) LP he₁;have Ki:h₁.objs.size≠e:=FU (Heap.lt_size he₁);refine R1 he₂ rfl h_ (h _ h₁.objs.size ?_ ?_ ?_)
 .refine#[sl,vs.setIfInBounds 1 (.ref h₁.objs.size),LP,([Value.ref T,.ref L,.none,RV L,.none]++(if pl.isEmpty then FD 6 Value.none else pl)).toArray,?_,by simp[h_],Ki,?_,by rw[<-Kg],J4]
  .rw[Heap.get?_update_self _ he₂ rfl];rfl
  .rw[Heap.get?_update_other _ _ (Ne.symm Ki)];exact Heap.get?_push_size h₁ (by rw[<-Kg];rfl)
 .exact GH (hs₁.1.trans (Heap.size_after_update _ _ _)).symm
 .have kp:∀b o,b≠e->h₁.get? b=be o->((h₁.push LP).update e (Obj.mapFields (·.setIfInBounds 1 (Value.ref h₁.objs.size)))).get? b=be o:=λb o hb z=>by
   rw[Heap.get?_update_other _ _ (Ne.symm hb)];exact Heap.get?_push_of_some _ z
  refine#[λb o q n m=>kp b o (λz=>n (by simp[z])) ((hs₁.2.1 b m).trans ((other b (λz=>n (by simp[z]))).trans q)),λb o q n=>?_,λb o q=>?_]
  .obtain⟨q9,z⟩:=hs₁.2.2 b o ((other b (λz=>n (by simp[z]))).trans q);exact#[q9,kp b _ (λz=>n (by simp[z])) z]
  .by_cases hb:b=e
   .subst hb;exact#[_,Heap.get?_update_self _ he₂ rfl]
   .have:∃o',(s.heap.update T (Obj.mapFields (·.setIfInBounds 3 Value.none))).get? b=be o':=by
     by_cases hb:b=T
     .rw[hb];exact Pa
     .exact#[o,(other _ hb).trans q]
    obtain⟨o',q'⟩:=this;obtain⟨q9,z⟩:=hs₁.2.2 b o' q';exact#[_,kp b _ hb z]
def flight_none{fl:KB}(hx:ExAt s.heap e C od T fl)(h:∀h',ExAt h' e C od T .none->Stay [] [T] s.heap h'->Q () {s with heap:=h'}):Q1 M A (Sa (.ref e) z8) Q E s:=by
 obtain⟨sl,vs,oT,ts,he,h1,s_,hT,j6,h3⟩:=hx;have Lb:3<ts.size:=(GQ.mp h3).1;unfold Sa;refine KM (RC he rfl h1 ?_);rw[if_pos (show(Value.ref T !=Value.none)=true from J4)];refine R1 hT j6 Lb (h _ ?_ ?_)
 .exact#[sl,vs,_,_,(Heap.get?_update_other _ _ s_).trans he,h1,s_,Heap.get?_update_self _ hT (Obj.isFreed_of_fields (Obj.data_mapFields j6 _)),Obj.data_mapFields j6 _,by simp[Lb]]
 .have other:∀b o,b∉[T]->s.heap.get? b=be o->(s.heap.update T (Obj.mapFields (·.setIfInBounds 3 ((z8:Option Addr).elim Value.none λf=>RV f)))).get? b=be o:=λb o hb q=>(Heap.get?_update_other _ _ (λz=>hb (by simp[z]))).trans q;refine#[λb o q n _=>other b o n q,λb o q n=>#[o.slots,other b o n q],λb o q=>?_];by_cases hb:b=T
  .subst hb;exact#[_,Heap.get?_update_self _ hT (Obj.isFreed_of_fields (Obj.data_mapFields j6 _))]
  .exact#[o,other b o (by simp[hb]) q]
end
def CX1(P:Pi)(w:Q2):CXT:=λouter H s E ev s'=>∃e C od T H',ev=.ref e/\s'.os=s.os/\RP s'.gens/\Un (frs outer) [] H H' s.heap s'.heap/\HOk P w H' s'.heap/\ExAt s'.heap e C od T .none/\s.heap.get? e=z8/\s.heap.get? T=z8/\H' e=z8/\H' T=z8/\E (.ref C) od H'
variable{fs ex:List Addr}
def fm{P:Pi}{w:Q2}{H:Hp}{h h':Heap}(x:HOk P w H h)(st:Stay fs ex h h')(hf:∀b∈fs,H b=z8)(he:∀b∈ex,H b=z8):HOk P w H h':=λa o q=>
 (x a o q).stay (λb u hb r=>by
  have hn:H b≠none:=by
   rcases hb with rfl|hb
   .rw[q];exact λz=>nomatch z
   .rw[hb];exact λz=>nomatch z
  exact st.keep b u r (λz=>hn (he b z)) (λz=>hn (hf b z))) (λ_ q=>q) λ_ _ q=>q
def fZ{j9:List Addr}{H H':Hp}{h h1 h2:Heap}(u:Un fs [] H H' h h1)(st:Stay j9 ex h1 h2)(d6:∀b∈ex,h.get? b=z8)(Ld:∀b∈j9,b∈fs\/h.get? b=z8):Un fs [] H H' h h2 where
 keep:=λb o q n hb hx=>st.keep b o (u.keep b o q n hb hx) (λz=>by rw[d6 b z]at q;cases q) (λz=>(Ld b z).elim hb λy=>by rw[y]at q;cases q)
 slot:=λb o q n hb hx=>by
  obtain⟨sl,e1⟩:=u.slot b o q n hb hx;obtain⟨q9,e2⟩:=st.slot b _ e1 (λz=>by rw[d6 b z]at q;cases q);exact#[q9,e2]
 free:=u.free
 there:=λb o q hx=>by
  obtain⟨o1,e1⟩:=u.there b o q hx;exact st.there b o1 e1
 tups:=u.tups
 frzs:=u.frzs
 tbls:=u.tbls
section
variable {P:Pi}{w:Q2}{K:Ex}{mg:E_->Option KB}{base:Heap}{N:List E_}{qual:E_}{scope:Rr}{f:Addr}{cd:KB}{A:Q3}{outer:List RI}{s:KF}{H:Hp}{E E':XK}
def qz{b:Addr}(hb:b∈frs (Ra qual scope s.heap.objs.size f cd::outer)):b∈frs outer\/s.heap.get? b=none:=by
 unfold frs at hb;rw[GD]at hb;rcases Fb.mp (show b∈s.heap.objs.size::outer.filterMap (·.frame)from hb)with e|e
 .rw[e];exact .inr (Heap.get?_none_of_le (E7 _))
 .exact .inl e
def qA{pins:List (Addr×Re)}{σ:L2.St}{H1:Hp}{s1:KF}{e C:Addr}{od:Option Addr}{sl:Array (Option KB)}{vs:Array KB}(I:Inv (cxOf (CX1 P w) P w K mg base N qual scope f cd A outer s H E') pins σ H1 s1)
  (he:s1.heap.get? e=be #[.ref C,od,.fields vs,sl]) (h1:vs[1]?=be .none) (He:H1 e=z8) (ne:s.heap.get? e=z8) (hE:E' (.ref C) od H1):(cxOf (CX1 P w) P w K mg base N qual scope f cd A outer s H E').xe (.ref e) s1:=by
 show Q1 _ _ (Sx _ _) _ _ _;unfold Sx;refine KM (qw I.ok.frames I.stack rfl he h1 λh2 T2 l9 v4 o7=>flight_none (s:={s1 with heap:=h2}) l9 λh3 Kj z9=>?_);have Iq:s1.heap.get? T2=none:=Heap.get?_none_of_le v4;have f1:∀b,s1.heap.get? b=z8->s.heap.get? b=none:=λb q=>by
  cases z:s.heap.get? b with
  |none=>rfl
  |some o=>
   obtain⟨o',z'⟩:=I.base.there b o z (by exact λy=>absurd (show b∈([]:List Addr)from y) J4);rw[q]at z';cases z'
 have hok:HOk P w H1 s1.heap:=I.hok;have IN:H1 T2=none:=hok.fresh v4;have u2:Un (frs outer) [] H H1 s.heap h2:=fZ (show Un (frs outer) [] H H1 s.heap s1.heap from I.base) o7 (λb hb=>by rw[E6.mp hb];exact ne) λb hb=>qz hb;have u3:Un (frs outer) [] H H1 s.heap h3:=fZ u2 z9 (λb hb=>by rw[E6.mp hb];exact f1 T2 Iq) λb hb=>by cases hb
 have k2:=fm hok o7 (λb hb=>I.stkFree b hb) (λb hb=>by rw[E6.mp hb];exact He);have k3:=fm k2 z9 (λb hb=>by cases hb) (λb hb=>by rw[E6.mp hb];exact IN);exact#[e,C,od,T2,H1,rfl,I.os,I.bare,u3,k3,Kj,ne,f1 T2 Iq,He,IN,hE]
end
end Exc
namespace L2
def Same.tup{K:Ex}{H H':Hp}{a:Addr}{xs:List V}(e:Same H H')(h:SqT K H a xs):SqT K H' a xs:=by
 rcases h with(h|⟨o,h⟩)|h
 .exact .inl (.inl (e _ _ h))
 .exact .inl (.inr #[o,e _ _ h])
 .exact .inr h
end L2
namespace My
def dU{X:Cx}:fg (Exc.CX1 X.prog X.w) X E0:=λ_ _ _ _ _ _ _ h=>by
 obtain⟨e,C,od,T,H',_,_,_,_,_,_,_,_,_,_,h⟩:=h;exact h.elim
def Fun.okC{P:Pi}{w:Q2}{K:Ex}{mg:E_->Option KB}{base:Heap}{CX:CXT}{x qual:E_}{st:Q0}{f:Addr}{fd:Q8}{N ps:List E_}{k:Nat}{sp:Sp}{dV:KB}(F:FunG K dV x qual st f fd)(S:FnScope N ps (ag st))(len:∀vs H Q E,sp vs H Q E->vs.length=ps.length)
  (a9:∀(cdv:KB) (A:Q3) (outer:List RI) (s:KF) (H:Hp) (vs:List V) (Q:VK) (E:XK),Room k (A.deeper (Ra qual (ag st) s.heap.objs.size f cdv))->sp vs H Q E->
   ∃t,PSs (cxOf CX P w K mg base N qual (ag st) f cdv A outer s H E) (aE st) t/\t {nx:=λ_ H'=>Q .non H',rt:=Q} (start N vs) H):FnOk P w K mg base CX (k+1) f fd ps sp:=by
 obtain⟨oc,od,kV,doc,pm,an,cdv,ct,osl,rfl,lk,d_⟩:=F.ex;refine pY lk d_ S len λA outer s H vs Q E hr o9=>?_;exact a9 cdv A outer s H vs Q E hr o9
def Cal(P:Pi)(w:Q2)(K:Ex)(mg:E_->Option KB)(base:Heap)(n:Nat)(x:E_)(ps:List E_)(sp:Sp):Prop:=
 ∃f fd,FnOk P w K mg base (Exc.CX1 P w) n f fd ps sp/\Binds K fd ps []/\keepIn K (.ref f)=true/\mg x=be (.ref f)
def Tx(K:Ex)(mg:E_->Option KB)(x:E_)(st:Q0)(ps:List E_):Prop:=
 ∃f fd,Fun K x x st f fd/\Binds K fd ps []/\mg x=be (.ref f)
section
variable {X:Cx}{n m:Nat}{ps:List E_}{sp:Sp}{x:E_}{p pos:Q_}{e:P3}{es:List P3}{t:TA}
def xg(C:Cal X.prog X.w X.K X.mg X.base n x ps sp)(hr:Room m X.A)(ha:PA X (e::es) t)(hg:autoParam (Gl X x) zA0)(hn:autoParam (n<=m) zA1)(c_:autoParam (zND x) zA1)
  (he:autoParam (zSE X e es) zA0) (c5:autoParam (zPL X pos es) zA0):
  PE X (.Call (.Name x p) (e::es) [] pos) (pV sp [] E0 t):=by
 obtain⟨f,fd,F,hb,hk,hm⟩:=C;exact wn F (hr.mono hn) hg hm hk hb .nil dU ha c_ he c5
end
section
variable {P:Pi}{w:Q2}{K:Ex}{mg:E_->Option KB}{base:Heap}
def Tx.ok{x:E_}{st:Q0}{N ps:List E_}{k:Nat}{sp:Sp}(T:Tx K mg x st ps)(S:FnScope N ps (ag st))(len:∀vs H Q E,sp vs H Q E->vs.length=ps.length)
  (a9:∀(f:Addr) (cdv:KB) (A:Q3) (outer:List RI) (s:KF) (H:Hp) (vs:List V) (Q:VK) (E:XK),Room k (A.deeper (Ra x (ag st) s.heap.objs.size f cdv))->sp vs H Q E->
   ∃t,PSs (cxOf (Exc.CX1 P w) P w K mg base N x (ag st) f cdv A outer s H E).nox (aE st) t/\t {nx:=λ_ H'=>Q .non H',rt:=Q} (start N vs) H):Cal P w K mg base (k+1) x ps sp:=by
 obtain⟨f,fd,F,hb,hm⟩:=T;refine#[f,fd,Fun.okC F S len (λcdv A outer s H vs Q E hr h=>?_),hb,F.kp,hm];obtain⟨t,h1,h2⟩:=a9 f cdv A outer s H vs Q E hr h;exact#[t,h1.nox,h2]
end
def aR{H:Hp}{p:Addr}(h:H p=z8)(o:HO):Same H (upd H p o):=λb u q=>by rw[aj (bw q h)];exact q
def sz{n:Nat}(h:n<=1000):n<=sizeLine:=GC (wQ h)
end My
namespace L2
section
variable {X:Cx}
variable{e:P3}
def PE.anti{t t':TE}(h:PE X e t)(a:∀s H Q,t' s H Q->t s H Q):PE X e t':=λpins s σ H Q I q=>h pins s σ H Q I (a _ _ _ q)
def PT.anti{t t':TT}(h:PT X e t)(a:∀s H Q,t' s H Q->t s H Q):PT X e t':=λpins s σ H Q I q=>h pins s σ H Q I (a _ _ _ q)
def PW.anti{t t':TT}(h:PW X e t)(a:∀s H Q,t' s H Q->t s H Q):PW X e t':=λwh pins s σ H Q I q=>h wh pins s σ H Q I (a _ _ _ q)
def PA.anti{e:List P3}{t t':TA}(h:PA X e t)(a:∀s H Q,t' s H Q->t s H Q):PA X e t':=λp pins s σ H Q I q=>h p pins s σ H Q I (a _ _ _ q)
def PS.anti{e:Q0}{t t':TS}(h:PS X e t)(a:∀E s H,t' E s H->t E s H):PS X e t':=λpins s σ H Q I q=>h pins s σ H Q I (a _ _ _ q)
def PSs.anti{e:List Q0}{t t':TS}(h:PSs X e t)(a:∀E s H,t' E s H->t E s H):PSs X e t':=λpins s σ H Q I q=>h pins s σ H Q I (a _ _ _ q)
end
end L2
namespace My
inductive D where
 |non|bl (b:Bool)|int (i:Int)|str (x:Str)|tup (xs:List D)|lst (xs:List D)
  |rol (xs:List D)
  |obj (x:E_) (fs:List (E_×D))
  |exc (x:E_) (fs:List (E_×D))
  |own (xs:List D)
  |ptr (a:Addr)
  |dti (a8:List ((Int×Int)×Int))
def dtiV(a8:List ((Int×Int)×Int)):List (List Key×V):=a8.map λe=>([.inl e.1.1,.inl e.1.2],.int e.2)
def XO(e C:Addr)(od:Option Addr):HO:=.ext λh=>∃vs sl,h.get? e=be #[.ref C,od,.fields vs,sl]
mutual
def Rep(K:Ex)(H:Hp):D->V->Prop
 |.non,v=>v=.non
 |.bl b,v=>v=.bl b
 |.int i,v=>v=.int i
 |.str x,v=>v=.str x
 |.tup ds,v=>∃a vs,v=.ref a/\H a=be (.tup vs)/\Reps K H ds vs
 |.lst ds,v=>∃a vs,v=.ref a/\H a=be (.lst vs)/\Reps K H ds vs
 |.rol ds,v=>∃a vs,v=.ref a/\SqL K H a vs/\Reps K H ds vs
 |.obj x fs,v=>∃a C dx vs,v=.ref a/\nsIn K Os x=be (be (.ref C))/\H a=be (.ins C dx vs)/\RepF K H fs vs
 |.exc x fs,v=>∃a C od vs,v=.ref a/\nsIn K Os x=be (be (.ref C))/\H a=be (XO a C od)/\RepF K H fs vs/\((od=z8/\vs=[])\/∃b,od=be b/\H b=be (.xd vs))
 |.own _,_=>False
 |.ptr a,v=>v=.ref a
 |.dti a8,v=>∃a,v=.ref a/\H a=be (.dT (dtiV a8))
def RepF(K:Ex)(H:Hp):List (E_×D)->List (E_×V)->Prop
 |[],vs=>vs=[]
 |(f,d)::ds,vs=>∃v r,vs=(f,v)::r/\Rep K H d v/\RepF K H ds r
def Reps(K:Ex)(H:Hp):List D->List V->Prop
 |[],vs=>vs=[]
 |d::ds,vs=>∃v r,vs=v::r/\Rep K H d v/\Reps K H ds r
end
mutual
def Rep.mono{K:Ex}{H H':Hp}(g:Same H H'):∀(d:D) (v:V),Rep K H d v->Rep K H' d v
 |.non,v,h=>by unfold Rep at h ⊢;exact h
 |.bl b,v,h=>by unfold Rep at h ⊢;exact h
 |.int b,v,h=>by unfold Rep at h ⊢;exact h
 |.str b,v,h=>by unfold Rep at h ⊢;exact h
 |.tup ds,v,h=>by
  unfold Rep at h ⊢;obtain⟨a,vs,e,q,r⟩:=h;exact#[a,vs,e,g _ _ q,Reps.mono g ds vs r]
 |.lst ds,v,h=>by
  unfold Rep at h ⊢;obtain⟨a,vs,e,q,r⟩:=h;exact#[a,vs,e,g _ _ q,Reps.mono g ds vs r]
 |.rol ds,v,h=>by
  unfold Rep at h ⊢;obtain⟨a,vs,e,q,r⟩:=h;exact#[a,vs,e,g.seq q,Reps.mono g ds vs r]
 |.obj C fs,v,h=>by
  unfold Rep at h ⊢;obtain⟨a,C,dx,vs,e,n,q,r⟩:=h;exact#[a,C,dx,vs,e,n,g _ _ q,RepF.mono g fs vs r]
 |.exc C fs,v,h=>by
  unfold Rep at h ⊢;obtain⟨a,C,od,vs,e,n,q,r,d⟩:=h;exact#[a,C,od,vs,e,n,g _ _ q,RepF.mono g fs vs r,d.imp id λ⟨b,h1,h2⟩=>#[b,h1,g _ _ h2]]
 |.own ds,v,h=>by
  unfold Rep at h ⊢;exact h
 |.ptr a,v,h=>by unfold Rep at h ⊢;exact h
 |.dti a8,v,h=>by
  unfold Rep at h ⊢;obtain⟨a,e,q⟩:=h;exact#[a,e,g _ _ q]
def RepF.mono{K:Ex}{H H':Hp}(g:Same H H'):∀(ds:List (E_×D)) (vs:List (E_×V)),RepF K H ds vs->RepF K H' ds vs
 |[],vs,h=>by unfold RepF at h ⊢;exact h
 |(f,d)::ds,vs,h=>by
  unfold RepF at h ⊢;obtain⟨v,r,e,q1,q2⟩:=h;exact#[v,r,e,Rep.mono g d v q1,RepF.mono g ds r q2]
def Reps.mono{K:Ex}{H H':Hp}(g:Same H H'):∀(ds:List D) (vs:List V),Reps K H ds vs->Reps K H' ds vs
 |[],vs,h=>by unfold Reps at h ⊢;exact h
 |d::ds,vs,h=>by
  unfold Reps at h ⊢;obtain⟨v,r,e,q1,q2⟩:=h;exact#[v,r,e,Rep.mono g d v q1,Reps.mono g ds r q2]
end
section
variable {K:Ex}{H:Hp}
variable{v:V}
def rep_non:Rep K H .non v↔v=.non:=by unfold Rep;exact Iff.rfl
def rep_bl{b:Bool}:Rep K H (.bl b) v↔v=.bl b:=by unfold Rep;exact Iff.rfl
def rep_int{i:Int}:Rep K H (.int i) v↔v=.int i:=by unfold Rep;exact Iff.rfl
variable{x:E_}
def rep_str:Rep K H (.str x) v↔v=.str x:=by unfold Rep;exact Iff.rfl
variable{ds:List My.D}
def rep_tupS:Rep K H (.tup ds) v↔∃a vs,v=.ref a/\H a=be (.tup vs)/\Reps K H ds vs:=by
 constructor
 .intro h;unfold Rep at h;exact h
 .intro h;unfold Rep;exact h
def rep_tup_mp(h:Rep K H (.tup ds) v):∃a vs,v=.ref a/\SqT K H a vs/\Reps K H ds vs:=by
 obtain⟨a,vs,e,q,r⟩:=rep_tupS.mp h;exact#[a,vs,e,SqT.of q,r]
def rep_ptr{a:Addr}:Rep K H (.ptr a) v↔v=.ref a:=by unfold Rep;exact Iff.rfl
def rep_dti{a8:List ((Int×Int)×Int)}:Rep K H (.dti a8) v↔∃a,v=.ref a/\H a=be (.dT (dtiV a8)):=by
 constructor
 .intro h;unfold Rep at h;exact h
 .intro h;unfold Rep;exact h
def rep_lst:Rep K H (.lst ds) v↔∃a vs,v=.ref a/\H a=be (.lst vs)/\Reps K H ds vs:=by
 constructor
 .intro h;unfold Rep at h;exact h
 .intro h;unfold Rep;exact h
def rep_rol:Rep K H (.rol ds) v↔∃a vs,v=.ref a/\SqL K H a vs/\Reps K H ds vs:=by
 constructor
 .intro h;unfold Rep at h;exact h
 .intro h;unfold Rep;exact h
variable{fs:List (E_×My.D)}
def rep_obj:Rep K H (.obj x fs) v↔∃a C dx vs,v=.ref a/\nsIn K Os x=be (be (.ref C))/\H a=be (.ins C dx vs)/\RepF K H fs vs:=by
 constructor
 .intro h;unfold Rep at h;exact h
 .intro h;unfold Rep;exact h
def rep_exc:Rep K H (.exc x fs) v↔∃a C od vs,v=.ref a/\nsIn K Os x=be (be (.ref C))/\H a=be (XO a C od)/\RepF K H fs vs/\((od=z8/\vs=[])\/∃b,od=be b/\H b=be (.xd vs)):=by
 constructor
 .intro h;unfold Rep at h;exact h
 .intro h;unfold Rep;exact h
def rep_own:¬Rep K H (.own ds) v:=by intro h;unfold Rep at h;exact h
variable{vs:List (E_×V)}
def repf_nil:RepF K H [] vs↔vs=[]:=by unfold RepF;exact Iff.rfl
def repf_cons{f:E_}{d:D}{ds:List (E_×D)}:RepF K H ((f,d)::ds) vs↔∃v r,vs=(f,v)::r/\Rep K H d v/\RepF K H ds r:=by
 constructor
 .intro h;unfold RepF at h;exact h
 .intro h;unfold RepF;exact h
def RepF.look{f:E_}{d:D}:∀{fs:List (E_×D)} {vs:List (E_×V)},RepF K H fs vs->fs.lookup f=be d->∃v,vs.lookup f=be v/\Rep K H d v
 |[],_,_,e=>by cases e
 |(g,x)::fs,vs,h,e=>by
  obtain⟨v,r,rfl,h1,h2⟩:=repf_cons.mp h;rw[Fq]at e ⊢;split at e
  .cases e;exact#[v,rfl,h1]
  .exact RepF.look h2 e
def RepF.none{f:E_}:∀{fs:List (E_×D)} {vs:List (E_×V)},RepF K H fs vs->fs.lookup f=Option.none->vs.lookup f=Option.none
 |[],vs,h,_=>by rw[repf_nil.mp h];rfl
 |(g,x)::fs,vs,h,e=>by
  obtain⟨v,r,rfl,h1,h2⟩:=repf_cons.mp h;rw[Fq]at e ⊢;split at e
  .cases e
  .exact RepF.none h2 e
def reps_nil{vs:List V}:Reps K H [] vs↔vs=[]:=by unfold Reps;exact Iff.rfl
def reps_cons{d:D}{vs:List V}:Reps K H (d::ds) vs↔∃v r,vs=v::r/\Rep K H d v/\Reps K H ds r:=by
 constructor
 .intro h;unfold Reps at h;exact h
 .intro h;unfold Reps;exact h
def Reps.length:∀{ds:List D} {vs:List V},Reps K H ds vs->vs.length=ds.length
 |[],vs,h=>by rw[reps_nil.mp h];rfl
 |d::ds,vs,h=>by
  obtain⟨v,r,rfl,_,h2⟩:=reps_cons.mp h;rw[Fc,Fc,Reps.length h2]
def Reps.get:∀{ds:List D} {vs:List V} {i:Nat} {d:D},Reps K H ds vs->ds[i]?=be d->∃v,vs[i]?=be v/\Rep K H d v
 |[],_,_,_,_,e=>by simp at e
 |x::ds,vs,0,d,h,e=>by
  obtain⟨v,r,rfl,h1,_⟩:=reps_cons.mp h;simp at e;subst e;exact#[v,rfl,h1]
 |x::ds,vs,i+1,d,h,e=>by
  obtain⟨v,r,rfl,_,h2⟩:=reps_cons.mp h;obtain⟨u,q1,q2⟩:=Reps.get (i:=i) h2 (by simpa using e);exact#[u,by simpa using q1,q2]
def Reps.ints:∀{ns:List Int} {vs:List V},Reps K H (ns.map D.int) vs↔vs=ns.map V.int
 |[],vs=>reps_nil
 |n::ns,vs=>by
  rw[Ft,reps_cons,Ft];constructor
  .rintro⟨v,r,rfl,h1,h2⟩;rw[rep_int.mp h1,Reps.ints.mp h2]
  .rintro rfl;exact#[_,_,rfl,rep_int.mpr rfl,Reps.ints.mpr rfl]
end
abbrev SD:=List (Option D)
def gc:D->Bool|.own _=>true|_=>false
structure RepS(K:Ex)(B F H:Hp)(t:SD)(s:L2.St):Prop where
 len:s.length=t.length
 val:∀(i:Nat) d,t[i]?=be (be d)->gc d=false->∃v,s[i]?=be (be v)/\Rep K F d v
 own:∀(i:Nat) ds,t[i]?=be (be (.own ds))->∃a vs,s[i]?=be (be (.ref a))/\H a=be (.lst vs)/\B a=z8/\F a=z8/\Reps K F ds vs
 apart:∀(i j:Nat) di dj a,t[i]?=be (be (.own di))->t[j]?=be (be (.own dj))->s[i]?=be (be (.ref a))->s[j]?=be (be (.ref a))->i=j
structure Grow(F H F' H':Hp):Prop where
 ff:Same F F'
 fh:Same F' H'
 hh:Same H H'
 out:∀b,F b=z8->H b≠z8->F' b=z8
variable{F H:Hp}
def Grow.refl(h:Same F H):Grow F H F H:=#[Same.refl F,h,Same.refl H,λ_ h _=>h]
def Grow.trans{F1 H1 F2 H2:Hp}(g:Grow F H F1 H1)(k:Grow F1 H1 F2 H2):Grow F H F2 H2:=
 ⟨g.ff.trans k.ff,k.fh,g.hh.trans k.hh,λb h1 h2=>k.out b (g.out b h1 h2) (by
  cases e:H b with
  |none=>exact absurd e h2
  |some o=>rw[g.hh b o e];exact λz=>nomatch z)⟩
def Grow.new{p:Addr}(h:Same F H)(hp:H p=z8)(o:HO):Grow F H (upd F p o) (upd H p o):=by
 have fp:F p=none:=h.free hp;refine#[aR fp o,λb u e=>?_,aR hp o,λb h1 h2=>?_]
 .by_cases hb:b=p
  .subst hb;rw[aw]at e ⊢;exact e
  .rw[aj hb]at e ⊢;exact h b u e
 .by_cases hb:b=p
  .subst hb;exact absurd hp h2
  .rw[aj hb];exact h1
class Jx where
 B:Hp
 F0:Hp
 RX:SD->E_->List (E_×D)->Prop
structure Kept[J:Jx](B F0 F H:Hp):Prop where
 bh:Same B H
 fh:Same F H
 f0:Same F0 F
 out:∀b,F0 b=z8->B b≠z8->F b=z8
 eb:B=J.B
 jf:Same J.F0 F0
 jo:∀b,J.F0 b=z8->B b≠z8->F0 b=z8
variable{B:Hp}
def Kept.kf[J:Jx]{F0:Hp}(k:Kept B F0 F H):Kept B J.F0 F H:=#[k.bh,k.fh,k.jf.trans k.f0,λb h1 h2=>k.out b (k.jo b h1 h2) h2,k.eb,Same.refl _,λ_ h _=>h]
def Kept.grow[Jx]{F0 F' H':Hp}(k:Kept B F0 F H)(g:Grow F H F' H'):Kept B F0 F' H':=
 ⟨k.bh.trans g.hh,g.fh,k.f0.trans g.ff,λb h1 h2=>g.out b (k.out b h1 h2) (by
  cases e:B b with
  |none=>exact absurd e h2
  |some o=>rw[k.bh b o e];exact λz=>nomatch z),k.eb,k.jf,k.jo⟩
section
variable {K:Ex}{B F H F' H':Hp}{t:SD}{s:L2.St}
def RepS.grow(g:Grow F H F' H')(h:RepS K B F H t s):RepS K B F' H' t s where
 len:=h.len
 val:=λi d e no=>let ⟨v,q1,q2⟩:=h.val i d e no;#[v,q1,q2.mono g.ff]
 own:=λi ds e=>by
  obtain⟨a,vs,q1,q2,q3,q4,q5⟩:=h.own i ds e;exact#[a,vs,q1,g.hh a _ q2,q3,g.out a q4 (by rw[q2];exact λz=>nomatch z),q5.mono g.ff]
 apart:=h.apart
variable{i:Nat}
def RepS.set{d:D}{v:V}(h:RepS K B F H t s)(r:Rep K F d v):RepS K B F H (t.set i (be d)) (s.set i (be v)):=by
 have no:gc d=false:=by
  cases d with
  |own ds=>exact absurd r rep_own
  |_=>rfl
 have get:∀{j:Nat} {x:D},(t.set i (be d))[j]?=be (be x)->(j=i/\x=d/\i<t.length)\/(j≠i/\t[j]?=be (be x)):=λ{j x} e=>by
  by_cases hj:i=j
  .subst hj;rw[F7]at e;simp at e;exact .inl #[rfl,e.2.symm,e.1]
  .rw[Fj hj]at e;exact .inr #[λz=>hj z.symm,e]
 refine#[by rw[FV,FV];exact h.len,λj x e nx=>?_,λj ds e=>?_,λj k dj dk a e1 e2 e3 e4=>?_]
 .rcases get e with⟨rfl,rfl,hl⟩|⟨hj,e⟩
  .exact#[v,by rw[FI (by rw[h.len];exact hl)],r]
  .obtain⟨u,q1,q2⟩:=h.val j x e nx;exact#[u,by rw[Fj (λz=>hj z.symm)];exact q1,q2]
 .rcases get e with⟨rfl,rfl,hl⟩|⟨hj,e⟩
  .cases no
  .obtain⟨a,vs,q1,q⟩:=h.own j ds e;exact#[a,vs,by rw[Fj (λz=>hj z.symm)];exact q1,q]
 .rcases get e1 with⟨rfl,rfl,hl⟩|⟨hj,e1⟩
  .cases no
  .rcases get e2 with⟨rfl,rfl,hl⟩|⟨hk,e2⟩
   .cases no
   .rw[Fj (λz=>hj z.symm)]at e3;rw[Fj (λz=>hk z.symm)]at e4;exact h.apart j k dj dk a e1 e2 e3 e4
variable{ds:List My.D}
def RepS.setOwn{a:Addr}{vs:List V}(h:RepS K B F H t s)(hB:B a=z8)(hF:F a=z8)(r:Reps K F ds vs)
  (free:∀(j:Nat) dj,j≠i->t[j]?=be (be (.own dj))->s[j]?≠be (be (.ref a))):RepS K B F (upd H a (.lst vs)) (t.set i (be (.own ds))) (s.set i (be (.ref a))):=by
 have get:∀{j:Nat} {x:D},(t.set i (be (.own ds)))[j]?=be (be x)->(j=i/\x=.own ds/\i<t.length)\/(j≠i/\t[j]?=be (be x)):=λ{j x} e=>by
  by_cases hj:i=j
  .subst hj;rw[F7]at e;simp at e;exact .inl #[rfl,e.2.symm,e.1]
  .rw[Fj hj]at e;exact .inr #[λz=>hj z.symm,e]
 refine#[by rw[FV,FV];exact h.len,λj x e nx=>?_,λj dj e=>?_,λj k dj dk b e1 e2 e3 e4=>?_]
 .rcases get e with⟨rfl,rfl,hl⟩|⟨hj,e⟩
  .cases nx
  .obtain⟨u,q1,q2⟩:=h.val j x e nx;exact#[u,by rw[Fj (λz=>hj z.symm)];exact q1,q2]
 .rcases get e with⟨rfl,e,hl⟩|⟨hj,e⟩
  .cases e;exact#[a,vs,by rw[FI (by rw[h.len];exact hl)],aw,hB,hF,r]
  .obtain⟨b,us,q1,q2,q⟩:=h.own j dj e;have ne:b≠a:=λz=>free j dj hj e (z ▸ q1);exact#[b,us,by rw[Fj (λz=>hj z.symm)];exact q1,by rw[aj ne];exact q2,q]
 .rcases get e1 with⟨hj,c1,hl⟩|⟨hj,f1⟩
  .rcases get e2 with⟨hk,c2,K'⟩|⟨hk,f2⟩
   .rw[hj,hk]
   .rw[hj,FI (by rw[h.len];exact hl)]at e3;rw[Fj (λz=>hk z.symm)]at e4;cases e3;exact absurd e4 (free k dk hk f2)
  .rcases get e2 with⟨hk,c2,K'⟩|⟨hk,f2⟩
   .rw[hk,FI (by rw[h.len];exact K')]at e4;rw[Fj (λz=>hj z.symm)]at e3;cases e4;exact absurd e3 (free j dj hj f1)
   .rw[Fj (λz=>hj z.symm)]at e3;rw[Fj (λz=>hk z.symm)]at e4;exact h.apart j k dj dk b f1 f2 e3 e4
def RepS.freeze[Jx]{F0:Hp}(h:RepS K B F H t s)(k:Kept B F0 F H)(e:t[i]?=be (be (.own ds))):∃F',Kept B F0 F' H/\RepS K B F' H (t.set i (be (.lst ds))) s:=by
 obtain⟨a,vs,q1,q2,q3,q4,q5⟩:=h.own i ds e;have hl:i<t.length:=(Fk.mp e).1;have g:Same F (upd F a (.lst vs)):=aR q4 _;have get:∀{j:Nat} {x:D},(t.set i (be (.lst ds)))[j]?=be (be x)->(j=i/\x=.lst ds)\/(j≠i/\t[j]?=be (be x)):=λ{j x} e=>by
  by_cases hj:i=j
  .subst hj;rw[F7]at e;simp at e;exact .inl #[rfl,e.2.symm]
  .rw[Fj hj]at e;exact .inr #[λz=>hj z.symm,e]
 refine#[upd F a (.lst vs),#[k.bh,λb o z=>?_,k.f0.trans g,λb h1 h2=>?_,k.eb,k.jf,k.jo],#[by rw[FV];exact h.len,λj x e' nx=>?_,λj dj e'=>?_,λj l dj dl b e1 e2 e3 e4=>?_]]
 .by_cases hb:b=a
  .subst hb;rw[aw]at z;cases z;exact q2
  .rw[aj hb]at z;exact k.fh b o z
 .by_cases hb:b=a
  .subst hb;exact absurd q3 h2
  .rw[aj hb];exact k.out b h1 h2
 .rcases get e' with⟨rfl,rfl⟩|⟨hj,e'⟩
  .exact#[.ref a,q1,rep_lst.mpr #[a,vs,rfl,aw,q5.mono g]]
  .obtain⟨u,p1,p2⟩:=h.val j x e' nx;exact#[u,p1,p2.mono g]
 .rcases get e' with⟨rfl,c⟩|⟨hj,e'⟩
  .cases c
  .obtain⟨b,us,p1,p2,p3,p4,p5⟩:=h.own j dj e';have ne:b≠a:=λz=>hj (h.apart j i dj ds a e' e (z ▸ p1) q1);exact#[b,us,p1,p2,p3,by rw[aj ne];exact p4,p5.mono g]
 .rcases get e1 with⟨rfl,c⟩|⟨hj,e1⟩
  .cases c
  .rcases get e2 with⟨rfl,c⟩|⟨hk,e2⟩
   .cases c
   .exact h.apart j l dj dl b e1 e2 e3 e4
end
def startD(N:List E_)(ds:List D):SD:=ds.map be++FD (N.length-ds.length) z8
variable{K:Ex}
def Rep.noown{d:D}{v:V}(r:Rep K F d v):gc d=false:=by
 cases d with
 |own ds=>exact absurd r rep_own
 |_=>rfl
def dg{N:List E_}{ds:List D}{vs:List V}(h:Reps K F ds vs):RepS K B F H (startD N ds) (L2.start N vs):=by
 have hl:=h.length;have get:∀(i:Nat) d,(startD N ds)[i]?=be (be d)->∃v,(L2.start N vs)[i]?=be (be v)/\Rep K F d v:=λi d e=>by
  unfold startD at e;unfold L2.start;by_cases hi:i<ds.length
  .rw[FO (by simpa using hi),Fo]at e;cases q:ds[i]? with
   |none=>rw[q]at e;cases e
   |some x=>
    rw[q]at e;cases e;obtain⟨v,q1,q2⟩:=h.get q;exact#[v,by rw[FO (by simpa[hl]using hi),Fo,q1];rfl,q2]
  .rw[F5 (by simpa using hi),G4]at e;split at e<;>cases e
 refine#[by unfold startD L2.start;simp[hl],λi d e _=>get i d e,λi d e=>?_,λi j di dj a e=>?_]
 .obtain⟨v,_,r⟩:=get i _ e;exact absurd r rep_own
 .obtain⟨v,_,r⟩:=get i _ e;exact absurd r rep_own
abbrev TD:=SD->(D->Prop)->Prop
abbrev TDT:=SD->(Bool->Prop)->Prop
abbrev TDA:=SD->(List D->Prop)->Prop
structure EndsD where
 nx:SD->Prop
 rt:D->Prop
 bk:SD->Prop:=λ_=>False
 ct:SD->Prop:=λ_=>False
abbrev TSD:=EndsD->SD->Prop
def lE(K:Ex)[J:Jx](t:TD):TE:=λs H Q=>∃B F z,Kept B J.F0 F H/\RepS K B F H z s/\∃R:D->Prop,t z R/\∀d v F' H',Grow F H F' H'->R d->Rep K F' d v->Q v H'
def lT(K:Ex)[J:Jx](t:TDT):TT:=λs H Q=>∃B F z,Kept B J.F0 F H/\RepS K B F H z s/\∃R:Bool->Prop,t z R/\∀b F' H',Grow F H F' H'->R b->Q b H'
def lA(K:Ex)[J:Jx](t:TDA):TA:=λs H Q=>∃B F z,Kept B J.F0 F H/\RepS K B F H z s/\∃R:List D->Prop,t z R/\∀ds vs F' H',Grow F H F' H'->R ds->Reps K F' ds vs->Q vs H'
structure EndsOk[Jx](K:Ex)(B F0:Hp)(ED:EndsD)(E:Ends):Prop where
 nx:∀z' s' F' H',Kept B F0 F' H'->ED.nx z'->RepS K B F' H' z' s'->E.nx s' H'
 rt:∀d v F' H',Kept B F0 F' H'->ED.rt d->Rep K F' d v->E.rt v H'
 bk:∀z' s' F' H',Kept B F0 F' H'->ED.bk z'->RepS K B F' H' z' s'->E.bk s' H'
 ct:∀z' s' F' H',Kept B F0 F' H'->ED.ct z'->RepS K B F' H' z' s'->E.ct s' H'
def lS(K:Ex)[Jx](t:TSD):TS:=λE s H=>∃B F0 F z,Kept B F0 F H/\RepS K B F H z s/\∃ED:EndsD,t ED z/\EndsOk K B F0 ED E
abbrev DE(X:Cx)[Jx](e:P3)(t:TD):Prop:=PE X e (lE X.K t)
abbrev DT(X:Cx)[Jx](e:P3)(t:TDT):Prop:=PT X e (lT X.K t)
abbrev DW(X:Cx)[Jx](e:P3)(t:TDT):Prop:=PW X e (lT X.K t)
abbrev DA(X:Cx)[Jx](es:List P3)(t:TDA):Prop:=PA X es (lA X.K t)
abbrev DS(X:Cx)[Jx](st:Q0)(t:TSD):Prop:=PS X st (lS X.K t)
abbrev DSs(X:Cx)[Jx](st:List Q0)(t:TSD):Prop:=PSs X st (lS X.K t)
structure WDE(X:Cx)[Jx](e:P3)(t:TD):Prop where
 out:DE X e t
structure WDT(X:Cx)[Jx](e:P3)(t:TDT):Prop where
 out:DT X e t
structure WDW(X:Cx)[Jx](e:P3)(t:TDT):Prop where
 out:DW X e t
structure WDA(X:Cx)[Jx](es:List P3)(t:TDA):Prop where
 out:DA X es t
structure WDS(X:Cx)[Jx](st:Q0)(t:TSD):Prop where
 out:DS X st t
structure WDSs(X:Cx)[Jx](st:List Q0)(t:TSD):Prop where
 out:DSs X st t
section
variable {X:Cx}
def okR(R:D->Prop):D->Prop|.own _=>False|d=>R d
def dVar(i:Nat):TD:=λz R=>match z[i]? with|some (be d)=>okR R d|_=>False
def dC(d:D):TD:=λ_ R=>R d
variable{x:E_}
def aa[Jx](i:Nat){pos:Q_}(hN:autoParam (X.N[i]?=be x) zA0)(hv:autoParam (Vis X.env.scope x) zA5)(hd:autoParam (zND x) zA1)
  (d_:autoParam (zNC x) zA1):WDE X (.Name x pos) (dVar i):=⟨(cG hN hv hd d_).anti λs H Q h=>by
 obtain⟨B,F,z,kf,r,R,h1,h2⟩:=h;have fh:=kf.fh;unfold dVar at h1;split at h1
 .rename_i d e;have no:gc d=false:=by
   cases d with
   |own ds=>exact False.elim h1
   |_=>rfl
  have Pb:R d:=by
   cases d with
   |own ds=>exact False.elim h1
   |_=>exact h1
  obtain⟨v,q1,q2⟩:=r.val i d e no;exact#[v,q1,h2 d v F H (Grow.refl fh) Pb q2]
 .exact h1.elim⟩
variable{e:P3}
def de_c[Jx]{d:D}{v:V}(h:PE X e (tC v))(r:∀H,Rep X.K H d v):DE X e (dC d):=h.anti λs H Q q=>by
 obtain⟨B,F,z,kf,_,R,h1,h2⟩:=q;have fh:=kf.fh;exact h2 d v F H (Grow.refl fh) h1 (r F)
def ad[Jx]{i j pos}:WDE X (.Constant (.int i) j pos) (dC (.int i)):=#[de_c uz λ_=>rep_int.mpr rfl]
def br[Jx]{b j pos}:WDE X (.Constant (.bool b) j pos) (dC (.bl b)):=#[de_c va λ_=>rep_bl.mpr rfl]
def bU[Jx]{j pos}:WDE X (.Constant .none j pos) (dC .non):=#[de_c vb λ_=>rep_non.mpr rfl]
def aA[Jx]{x j pos}:WDE X (.Constant (.str x) j pos) (dC (.str x)):=#[de_c pf λ_=>rep_str.mpr rfl]
abbrev RD2:=D->D->(D->Prop)->Prop
def dOp(r:RD2)(ta tb:TD):TD:=λz R=>ta z λx=>tb z λy=>r x y R
def bb(K:Ex)(r:R2)(rd:RD2):Prop:=∀x y u v F H R Q,Same F H->rd x y R->Rep K F x u->Rep K F y v->(∀d w F' H',Grow F H F' H'->R d->Rep K F' d w->Q w H')->r u v H Q
variable{r:R2}{rd:RD2}
def jA[Jx]{ta tb:TD}(L:bb X.K r rd)(h:PE X e (tOp r (lE X.K ta) (lE X.K tb))):DE X e (dOp rd ta tb):=h.anti λs H Q q=>by
 obtain⟨B,F,z,kf,rs,R,h1,h2⟩:=q;have fh:=kf.fh;refine#[B,F,z,kf,rs,_,h1,λx u F1 H1 g1 hx rx=>?_];refine#[B,F1,z,kf.grow g1,rs.grow g1,_,hx,λy v F2 H2 g2 hy ry=>?_];exact L x y u v F2 H2 R Q g2.fh hy (rx.mono g2.ff) ry λd w F' H' g3=>h2 d w F' H' (g1.trans (g2.trans g3))
variable {a b c:P3}{ta tb tc:TD}{pos:Q_}
def dh[Jx]{op:Sm}(ho:OpR X (Rl op) r)(L:bb X.K r rd)(ha:DE X a ta)(hb:DE X b tb):DE X (.BinOp a op b pos) (dOp rd ta tb):=jA L (jj ho ha hb)
def qB[Jx]{op:S4}(ho:OpR X (Ri op) r)(L:bb X.K r rd)(ha:DE X a ta)(hb:DE X b tb)(hm:Ro op b=false):DE X (.Compare a [op] [b] pos) (dOp rd ta tb):=jA L (vO ho ha hb hm)
def xh[Jx](hr:IxR X r)(L:bb X.K r rd)(ha:DE X a ta)(hb:DE X b tb)(hs:autoParam (dQ b) zA6):DE X (.Subscript a b pos) (dOp rd ta tb):=jA L (pe_ix hr ha hb hs)
def rdAdd:RD2:=λx y R=>match x,y with
 |.int i,.int j=>R (.int (i+j))
 |.str i,.str j=>i.length+j.length<=1000000/\R (.str (i++j))
 |.lst xs,.lst ys=>xs.length+ys.length<=1000000/\R (.lst (xs++ys))
 |.tup xs,.tup ys=>(xs≠[]/\ys≠[]/\xs.length+ys.length<=1000000)/\R (.tup (xs++ys))
 |_,_=>False
def qC(K:Ex):R2:=λx y H Q=>rI0 (λi j=>.int (i+j)) x y H Q\/((λx y H Q=>∃i j,x=.str i/\y=.str j/\i.length+j.length<=sizeLine/\Q (.str (i++j)) H) x y H Q\/(rCat x y H Q\/qi K x y H Q))
def qD:OpR X (Rl .Add) (qC X.K):=OpR.or vH (OpR.or vS (OpR.or qp wx))
def Reps.append{K:Ex}{F:Hp}:∀{xs ys:List D} {us vs:List V},Reps K F xs us->Reps K F ys vs->Reps K F (xs++ys) (us++vs)
 |[],ys,us,vs,r1,r2=>by rw[reps_nil.mp r1];exact r2
 |x::xs,ys,us,vs,r1,r2=>by
  obtain⟨u,ur,rfl,a1,a2⟩:=reps_cons.mp r1;exact reps_cons.mpr #[u,ur++vs,rfl,a1,Reps.append a2 r2]
variable{K:Ex}
def Reps.ne_nil{F:Hp}{xs:List D}{us:List V}(r:Reps K F xs us)(h:xs≠[]):us≠[]:=by
 cases xs with
 |nil=>exact absurd rfl h
 |cons x xs=>obtain⟨u,ur,rfl,_⟩:=reps_cons.mp r;exact λz=>nomatch z
def qE:bb K (qC K) rdAdd:=by
 intro x y u v F H R Q fh h rx ry q;unfold rdAdd at h;split at h
 .exact .inl #[_,_,rep_int.mp rx,rep_int.mp ry,q _ _ F H (Grow.refl fh) h (rep_int.mpr rfl)]
 .exact .inr (.inl #[_,_,rep_str.mp rx,rep_str.mp ry,Fg h.1 Ji,q _ _ F H (Grow.refl fh) h.2 (rep_str.mpr rfl)])
 .obtain⟨a,us,rfl,hq,rr⟩:=rep_lst.mp rx;obtain⟨b,vs,rfl,m6,m8⟩:=rep_lst.mp ry;refine .inr (.inr (.inl #[a,b,us,vs,rfl,rfl,fh _ _ hq,fh _ _ m6,by rw[rr.length,m8.length];exact Fg h.1 Ji,λp hp=>?_]));exact q _ _ _ _ (Grow.new fh hp _) h.2 (rep_lst.mpr #[p,_,rfl,aw,(rr.append m8).mono (aR (fh.free hp) _)])
 .obtain⟨a,us,rfl,hq,rr⟩:=rep_tup_mp rx;obtain⟨b,vs,rfl,m6,m8⟩:=rep_tup_mp ry;obtain⟨⟨n1,n2,hz⟩,h⟩:=h;refine .inr (.inr (.inr #[a,b,us,vs,rfl,rfl,fh.tup hq,fh.tup m6,rr.ne_nil n1,by rw[rr.length,m8.length];exact Fg hz Ji,λz=>absurd z (m8.ne_nil n2),λ_ p hp=>?_]));exact q _ _ _ _ (Grow.new fh hp _) h (rep_tupS.mpr #[p,_,rfl,aw,(rr.append m8).mono (aR (fh.free hp) _)])
 .exact h.elim
def aD[Jx](ha:WDE X a ta)(hb:WDE X b tb):WDE X (.BinOp a .Add b pos) (dOp rdAdd ta tb):=#[have ha:=ha.out;have hb:=hb.out;dh qD qE ha hb]
def rdSub:RD2:=λx y R=>match x,y with|.int i,.int j=>R (.int (i-j))|_,_=>False
def qF:bb K (rI0 λi j=>.int (i-j)) rdSub:=by
 intro x y u v F H R Q fh h rx ry q;unfold rdSub at h;split at h
 .exact#[_,_,rep_int.mp rx,rep_int.mp ry,q _ _ F H (Grow.refl fh) h (rep_int.mpr rfl)]
 .exact h.elim
def bv[Jx](ha:WDE X a ta)(hb:WDE X b tb):WDE X (.BinOp a .Sub b pos) (dOp rdSub ta tb):=#[have ha:=ha.out;have hb:=hb.out;dh pE qF ha hb]
def rdMul:RD2:=λx y R=>match x,y with|.int i,.int j=>CMul i j/\R (.int (i*j))|_,_=>False
def xi:bb K (rI CMul λi j=>.int (i*j)) rdMul:=by
 intro x y u v F H R Q fh h rx ry q;unfold rdMul at h;split at h
 .exact#[_,_,rep_int.mp rx,rep_int.mp ry,h.1,q _ _ F H (Grow.refl fh) h.2 (rep_int.mpr rfl)]
 .exact h.elim
def aM[Jx](ha:WDE X a ta)(hb:WDE X b tb):WDE X (.BinOp a .Mult b pos) (dOp rdMul ta tb):=#[have ha:=ha.out;have hb:=hb.out;dh vI xi ha hb]
def rdFdiv:RD2:=λx y R=>match x,y with|.int i,.int j=>(0<j/\j<1073741824)/\R (.int (i/j))|_,_=>False
def xj:bb K (rI CDiv λi j=>.int (i/j)) rdFdiv:=by
 intro x y u v F H R Q fh h rx ry q;unfold rdFdiv at h;split at h
 .exact#[_,_,rep_int.mp rx,rep_int.mp ry,h.1,q _ _ F H (Grow.refl fh) h.2 (rep_int.mpr rfl)]
 .exact h.elim
def bL[Jx](ha:WDE X a ta)(hb:WDE X b tb):WDE X (.BinOp a .FloorDiv b pos) (dOp rdFdiv ta tb):=#[have ha:=ha.out;have hb:=hb.out;dh vJ xj ha hb]
def qG(i j:Int):Prop:=j≠0/\j.natAbs<4611686018427387904
def xk:OpR X (Rl .FloorDiv) (rI qG λi j=>.int (i.fdiv j)):=opI λ_ j _ _ _ _ _ hc q=>floordiv_int hc.1 q (.inl (PyProof.noPylong_of_log2 (HD ((HF (λz=>hc.1 (Int.natAbs_eq_zero.mp z))).mpr (show j.natAbs<2^62 from hc.2)) Ji)))
def rdFdivN:RD2:=λx y R=>match x,y with|.int i,.int j=>(j≠0/\j.natAbs<4611686018427387904)/\R (.int (i.fdiv j))|_,_=>False
def xm:bb K (rI qG λi j=>.int (i.fdiv j)) rdFdivN:=by
 intro x y u v F H R Q fh h rx ry q;unfold rdFdivN at h;split at h
 .exact#[_,_,rep_int.mp rx,rep_int.mp ry,h.1,q _ _ F H (Grow.refl fh) h.2 (rep_int.mpr rfl)]
 .exact h.elim
def xn[Jx](ha:WDE X a ta)(hb:WDE X b tb):WDE X (.BinOp a .FloorDiv b pos) (dOp rdFdivN ta tb):=#[have ha:=ha.out;have hb:=hb.out;dh xk xm ha hb]
def rdMod:RD2:=λx y R=>match x,y with|.int i,.int j=>0<j/\R (.int (i%j))|_,_=>False
def xo:bb K (rI (λ_ j=>0<j) λi j=>.int (i%j)) rdMod:=by
 intro x y u v F H R Q fh h rx ry q;unfold rdMod at h;split at h
 .exact#[_,_,rep_int.mp rx,rep_int.mp ry,h.1,q _ _ F H (Grow.refl fh) h.2 (rep_int.mpr rfl)]
 .exact h.elim
def aJ[Jx](ha:WDE X a ta)(hb:WDE X b tb):WDE X (.BinOp a .Mod b pos) (dOp rdMod ta tb):=#[have ha:=ha.out;have hb:=hb.out;dh vK xo ha hb]
def rdModN:RD2:=λx y R=>match x,y with|.int i,.int j=>j≠0/\R (.int (i.fmod j))|_,_=>False
def xp:bb K (rI (λ_ j=>j≠0) λi j=>.int (i.fmod j)) rdModN:=by
 intro x y u v F H R Q fh h rx ry q;unfold rdModN at h;split at h
 .exact#[_,_,rep_int.mp rx,rep_int.mp ry,h.1,q _ _ F H (Grow.refl fh) h.2 (rep_int.mpr rfl)]
 .exact h.elim
def qH[Jx](ha:WDE X a ta)(hb:WDE X b tb):WDE X (.BinOp a .Mod b pos) (dOp rdModN ta tb):=#[have ha:=ha.out;have hb:=hb.out;dh vL xp ha hb]
def rdLt:RD2:=λx y R=>match x,y with|.int i,.int j=>R (.bl (decide (i<j)))|_,_=>False
def qI:bb K (rI0 λi j=>.bl (decide (i<j))) rdLt:=by
 intro x y u v F H R Q fh h rx ry q;unfold rdLt at h;split at h
 .exact#[_,_,rep_int.mp rx,rep_int.mp ry,q _ _ F H (Grow.refl fh) h (rep_bl.mpr rfl)]
 .exact h.elim
def rdGt:RD2:=λx y R=>match x,y with|.int i,.int j=>R (.bl (decide (j<i)))|_,_=>False
def jB:bb K (rI0 λi j=>.bl (decide (j<i))) rdGt:=by
 intro x y u v F H R Q fh h rx ry q;unfold rdGt at h;split at h
 .exact#[_,_,rep_int.mp rx,rep_int.mp ry,q _ _ F H (Grow.refl fh) h (rep_bl.mpr rfl)]
 .exact h.elim
def xq[Jx](ha:WDE X a ta)(hb:WDE X b tb):WDE X (.Compare a [.Gt] [b] pos) (dOp rdGt ta tb):=#[have ha:=ha.out;have hb:=hb.out;qB jl jB ha hb (nomark _)]
def rdEq:RD2:=λx y R=>match x,y with
 |.int i,.int j=>R (.bl (decide (i=j)))
 |.bl i,.bl j=>R (.bl (decide (i=j)))
 |.str i,.str j=>R (.bl (decide (i=j)))
 |.non,.non=>R (.bl true)
 |_,_=>False
def rdNe:RD2:=λx y R=>match x,y with
 |.int i,.int j=>R (.bl (!decide (i=j)))
 |.bl i,.bl j=>R (.bl (!decide (i=j)))
 |.str i,.str j=>R (.bl (!decide (i=j)))
 |.non,.non=>R (.bl false)
 |_,_=>False
def jC:bb K rEq rdEq:=by
 intro x y u v F H R Q fh h rx ry q;unfold rdEq at h;split at h
 .rw[rep_int.mp rx,rep_int.mp ry];refine#[rfl,q _ _ F H (Grow.refl fh) h (rep_bl.mpr ?_)];simp
 .rw[rep_bl.mp rx,rep_bl.mp ry];refine#[rfl,q _ _ F H (Grow.refl fh) h (rep_bl.mpr ?_)];simp
 .rw[rep_str.mp rx,rep_str.mp ry];refine#[rfl,q _ _ F H (Grow.refl fh) h (rep_bl.mpr ?_)];simp
 .rw[rep_non.mp rx,rep_non.mp ry];refine#[rfl,q _ _ F H (Grow.refl fh) h (rep_bl.mpr ?_)];simp
 .exact h.elim
def qJ:bb K rNe rdNe:=by
 intro x y u v F H R Q fh h rx ry q;unfold rdNe at h;split at h
 .rw[rep_int.mp rx,rep_int.mp ry];refine#[rfl,q _ _ F H (Grow.refl fh) h (rep_bl.mpr ?_)];simp
 .rw[rep_bl.mp rx,rep_bl.mp ry];refine#[rfl,q _ _ F H (Grow.refl fh) h (rep_bl.mpr ?_)];simp
 .rw[rep_str.mp rx,rep_str.mp ry];refine#[rfl,q _ _ F H (Grow.refl fh) h (rep_bl.mpr ?_)];simp
 .rw[rep_non.mp rx,rep_non.mp ry];refine#[rfl,q _ _ F H (Grow.refl fh) h (rep_bl.mpr ?_)];simp
 .exact h.elim
def fo[Jx](ha:WDE X a ta)(hb:WDE X b tb):WDE X (.Compare a [.Eq] [b] pos) (dOp rdEq ta tb):=#[have ha:=ha.out;have hb:=hb.out;qB jk jC ha hb (nomark _)]
def jD:D->Bool|.non=>true|_=>false
def rdIs(f:Bool->Bool):RD2:=λx y R=>match y with|.non=>R (.bl (f (jD x)))|_=>False
def qK{H:Hp}{x:D}{u:V}(r:Rep K H x u):decide (u=.non)=jD x:=by
 cases x with
 |non=>rw[rep_non.mp r];rfl
 |bl b=>rw[rep_bl.mp r];rfl
 |int b=>rw[rep_int.mp r];rfl
 |str b=>rw[rep_str.mp r];rfl
 |tup b=>obtain⟨a,vs,rfl,_⟩:=rep_tup_mp r;rfl
 |lst b=>obtain⟨a,vs,rfl,_⟩:=rep_lst.mp r;rfl
 |rol b=>obtain⟨a,vs,rfl,_⟩:=rep_rol.mp r;rfl
 |obj C b=>obtain⟨a,C,dx,vs,rfl,_⟩:=rep_obj.mp r;rfl
 |exc C b=>obtain⟨a,C,od,vs,rfl,_⟩:=rep_exc.mp r;rfl
 |own b=>exact absurd r rep_own
 |ptr b=>rw[rep_ptr.mp r];rfl
 |dti b=>obtain⟨a,rfl,_⟩:=rep_dti.mp r;rfl
def qL:bb K (λx y H Q=>y=.non/\Q (.bl (decide (x=.non))) H) (rdIs id):=by
 intro x y u v F H R Q fh h rx ry q;unfold rdIs at h;split at h
 .exact#[rep_non.mp ry,q _ _ F H (Grow.refl fh) h (rep_bl.mpr (by rw[qK rx];rfl))]
 .exact h.elim
def xr:bb K (λx y H Q=>y=.non/\Q (.bl (!decide (x=.non))) H) (rdIs not):=by
 intro x y u v F H R Q fh h rx ry q;unfold rdIs at h;split at h
 .exact#[rep_non.mp ry,q _ _ F H (Grow.refl fh) h (rep_bl.mpr (by rw[qK rx]))]
 .exact h.elim
def rdIx:RD2:=λx y R=>match x,y with
 |.tup ds,.int i=>∃d,atI ds i=be d/\R d
 |.lst ds,.int i=>∃d,atI ds i=be d/\R d
 |.rol ds,.int i=>∃d,atI ds i=be d/\R d
 |.str x,.int i=>∃c,(x.length<=1000000/\atI x.cps.toList i=be c)/\R (.str #[[c].toArray])
 |_,_=>False
def Reps.at{H:Hp}{ds:List D}{vs:List V}{i:Int}{d:D}(r:Reps K H ds vs)(e:atI ds i=be d):∃v,atI vs i=be v/\Rep K H d v:=by
 unfold atI at e ⊢;rw[r.length];cases q:ixN ds.length i with
 |none=>rw[q]at e;cases e
 |some j=>
  rw[q]at e;exact r.get e
def qM:bb K (rIx K) rdIx:=by
 intro x y u v F H R Q fh h rx ry q;unfold rdIx at h;split at h
 .obtain⟨d,e,h⟩:=h;obtain⟨a,vs,e1,hq,rs⟩:=rep_tup_mp rx;obtain⟨w,e2,g7⟩:=rs.at e;exact .inr (.inl #[a,vs,_,w,e1,rep_int.mp ry,fh.tup hq,e2,q d w F H (Grow.refl fh) h g7])
 .obtain⟨d,e,h⟩:=h;obtain⟨a,vs,e1,hq,rs⟩:=rep_lst.mp rx;obtain⟨w,e2,g7⟩:=rs.at e;exact .inl #[a,vs,_,w,e1,rep_int.mp ry,fh.seq (SqL.of hq),e2,q d w F H (Grow.refl fh) h g7]
 .obtain⟨d,e,h⟩:=h;obtain⟨a,vs,e1,hq,rs⟩:=rep_rol.mp rx;obtain⟨w,e2,g7⟩:=rs.at e;exact .inl #[a,vs,_,w,e1,rep_int.mp ry,fh.seq hq,e2,q d w F H (Grow.refl fh) h g7]
 .obtain⟨c,⟨hz,e⟩,h⟩:=h;exact .inr (.inr #[_,_,c,rep_str.mp rx,rep_int.mp ry,Fg hz Ji,e,q _ _ F H (Grow.refl fh) h (rep_str.mpr rfl)])
 .exact h.elim
def ah[Jx](ha:WDE X a ta)(hb:WDE X b tb)(hs:autoParam (dQ b) zA6):WDE X (.Subscript a b pos) (dOp rdIx ta tb):=#[have ha:=ha.out;have hb:=hb.out;xh qk qM ha hb hs]
def dUn(r:D->(D->Prop)->Prop)(ta:TD):TD:=λz R=>ta z λx=>r x R
def qN:D->(D->Prop)->Prop:=λx R=>match x with|.int i=>R (.int (-i))|_=>False
def cH[Jx](ha:WDE X a ta):WDE X (.UnaryOp .USub a pos) (dUn qN ta):=⟨have ha:=ha.out;(vG vM ha).anti λs H Q h=>by
 obtain⟨B,F,z,kf,rs,R,h1,h2⟩:=h;have fh:=kf.fh;refine#[B,F,z,kf,rs,_,h1,λx u F1 H1 g1 hx rx=>?_];unfold qN at hx;split at hx
 .exact#[_,rep_int.mp rx,h2 _ _ F1 H1 g1 hx (rep_int.mpr rfl)]
 .exact hx.elim⟩
def dNil:TDA:=λ_ R=>R []
def xt(ta:TD)(tr:TDA):TDA:=λz R=>ta z λx=>tr z λxs=>R (x::xs)
def af[Jx]:WDA X [] dNil:=⟨pa_nil.anti λs H Q h=>by
 obtain⟨B,F,z,kf,rs,R,h1,h2⟩:=h;have fh:=kf.fh;exact h2 [] [] F H (Grow.refl fh) h1 (reps_nil.mpr rfl)⟩
variable{es:List P3}{t:TDA}
def ac[Jx]{te:TD}(ha:WDE X e te)(hr:WDA X es t)(hs:autoParam (zSE X e es) zA0):WDA X (e::es) (xt te t):=⟨have ha:=ha.out;have hr:=hr.out;(bo ha hr hs).anti λs H Q h=>by
 obtain⟨B,F,z,kf,rs,R,h1,h2⟩:=h;have fh:=kf.fh;refine#[B,F,z,kf,rs,_,h1,λx u F1 H1 g1 hx rx=>?_];refine#[B,F1,z,kf.grow g1,rs.grow g1,_,hx,λxs us F2 H2 g2 hy ry=>?_];exact h2 _ _ F2 H2 (g1.trans g2) hy (reps_cons.mpr #[_,_,rfl,rx.mono g2.ff,ry])⟩
def dTup(t:TDA):TD:=λz R=>t z λxs=>xs.length<=1000/\R (.tup xs)
def dLst(t:TDA):TD:=λz R=>t z λxs=>xs.length<=1000/\R (.lst xs)
def aN[Jx]{x1}(h:WDA X es t):WDE X (.Tuple es x1 pos) (dTup t):=⟨have h:=h.out;(pU h).anti λs H Q q=>by
 obtain⟨B,F,z,kf,rs,R,h1,h2⟩:=q;have fh:=kf.fh;refine#[B,F,z,kf,rs,_,h1,λds vs F1 H1 g1 hx rx=>?_];have hl:=rx.length;refine#[sz (by rw[hl];exact hx.1),λp hp=>?_];exact h2 _ _ _ _ (g1.trans (Grow.new g1.fh hp _)) hx.2 (rep_tupS.mpr #[p,vs,rfl,aw,rx.mono (aR (g1.fh.free hp) _)])⟩
def bV[Jx](h:WDA X es t):WDE X (.List es pos) (dLst t):=⟨have h:=h.out;(jr h).anti λs H Q q=>by
 obtain⟨B,F,z,kf,rs,R,h1,h2⟩:=q;have fh:=kf.fh;refine#[B,F,z,kf,rs,_,h1,λds vs F1 H1 g1 hx rx=>?_];have hl:=rx.length;refine#[sz (by rw[hl];exact hx.1),λp hp=>?_];exact h2 _ _ _ _ (g1.trans (Grow.new g1.fh hp _)) hx.2 (rep_lst.mpr #[p,vs,rfl,aw,rx.mono (aR (g1.fh.free hp) _)])⟩
abbrev SpD:=List D->(D->Prop)->Prop
def lSp(K:Ex)(S:SpD):Sp:=λvs H Q _=>∃F ds,Same F H/\Reps K F ds vs/\∃R:D->Prop,S ds R/\∀d v F' H',Grow F H F' H'->R d->Rep K F' d v->Q v H'
def xu(S:SpD)(t:TDA):TD:=λz R=>t z λds=>S ds R
abbrev CalD(P:Pi)(w:Q2)(K:Ex)(mg:E_->Option KB)(base:Heap)(n:Nat)(x:E_)(ps:List E_)(S:SpD):Prop:=Cal P w K mg base n x ps (lSp K S)
variable{p:Q_}
def aI[Jx]{n m:Nat}{ps:List E_}{S:SpD}(C:CalD X.prog X.w X.K X.mg X.base n x ps S)(hr:Room m X.A)(ha:WDA X (e::es) t)(hg:autoParam (Gl X x) zA0)(hn:autoParam (n<=m) zA1)(c_:autoParam (zND x) zA1)
  (he:autoParam (zSE X e es) zA0) (c5:autoParam (zPL X pos es) zA0):WDE X (.Call (.Name x p) (e::es) [] pos) (xu S t):=⟨have ha:=ha.out;(xg C hr ha hg hn c_ he c5).anti λs H Q h=>by
 obtain⟨B,F,z,kf,rs,R,h1,h2⟩:=h;have fh:=kf.fh;refine#[B,F,z,kf,rs,_,h1,λds vs F1 H1 g1 hx rx=>?_];exact#[F1,ds,g1.fh,by rw[FE];exact rx,R,hx,λd v F' H' g=>h2 d v F' H' (g1.trans g)]⟩
abbrev RDn:=List D->(D->Prop)->Prop
def cx(K:Ex)(r:List V->Hp->VK->Prop)(rd:RDn):Prop:=∀ds vs F H R Q,Same F H->rd ds R->Reps K F ds vs->(∀d w F' H',Grow F H F' H'->R d->Rep K F' d w->Q w H')->r vs H Q
def dCB(r:RDn)(t:TDA):TD:=λz R=>t z λds=>r ds R
def gd[Jx]{id:String}{r:List V->Hp->VK->Prop}{rd:RDn}(hc:bK X (.builtin id) r)(L:cx X.K r rd)(hm:X.mg x=z8)(hv:Rc x=be (.builtin id))(ha:DA X (e::es) t)(hg:autoParam (Gl X x) zA0)(hn:autoParam (x≠"__name__") zA1)(c_:autoParam (zND x) zA1)
  (he:autoParam (zSE X e es) zA0) (c5:autoParam (zPL X pos es) zA0):DE X (.Call (.Name x p) (e::es) [] pos) (dCB rd t):=(fj hc hg hm hv ha hn c_ he c5).anti λs H Q h=>by
 obtain⟨B,F,z,kf,rs,R,h1,h2⟩:=h;have fh:=kf.fh;refine#[B,F,z,kf,rs,_,h1,λds vs F1 H1 g1 hx rx=>?_];exact L ds vs F1 H1 R Q g1.fh hx rx λd w F' H' g=>h2 d w F' H' (g1.trans g)
def rdLen:RDn:=λds R=>match ds with
 |[.tup xs]=>R (.int xs.length)
 |[.lst xs]=>R (.int xs.length)
 |[.rol xs]=>R (.int xs.length)
 |[.str x]=>x.length<=1000000/\R (.int x.length)
 |_=>False
def qO:cx K (λxs H Q=>∃x n,xs=[x]/\LenV K x H n/\Q (.int n) H) rdLen:=by
 intro ds vs F H R Q fh h rx q;unfold rdLen at h;split at h
 .obtain⟨v,r,rfl,h1,h2⟩:=reps_cons.mp rx;rw[reps_nil.mp h2];obtain⟨a,us,rfl,hq,rs⟩:=rep_tup_mp h1;exact#[.ref a,us.length,rfl,.inr #[us,fh.tup hq,rfl],q _ _ F H (Grow.refl fh) h (rep_int.mpr (by rw[rs.length]))]
 .obtain⟨v,r,rfl,h1,h2⟩:=reps_cons.mp rx;rw[reps_nil.mp h2];obtain⟨a,us,rfl,hq,rs⟩:=rep_lst.mp h1;exact#[.ref a,us.length,rfl,.inl #[us,fh.seq (SqL.of hq),rfl],q _ _ F H (Grow.refl fh) h (rep_int.mpr (by rw[rs.length]))]
 .obtain⟨v,r,rfl,h1,h2⟩:=reps_cons.mp rx;rw[reps_nil.mp h2];obtain⟨a,us,rfl,hq,rs⟩:=rep_rol.mp h1;exact#[.ref a,us.length,rfl,.inl #[us,fh.seq hq,rfl],q _ _ F H (Grow.refl fh) h (rep_int.mpr (by rw[rs.length]))]
 .obtain⟨v,r,rfl,h1,h2⟩:=reps_cons.mp rx;rw[reps_nil.mp h2,rep_str.mp h1];exact#[.str _,_,rfl,#[Fg h.1 Ji,rfl],q _ _ F H (Grow.refl fh) h.2 (rep_int.mpr rfl)]
 .exact h.elim
def ck[Jx](hm:X.mg "len"=z8)(ha:WDA X [e] t)(hg:autoParam (Gl X "len") zA0)(he:autoParam (zSE X e []) zA0):WDE X (.Call (.Name "len" p) [e] [] pos) (dCB rdLen t):=#[have ha:=ha.out;gd jn qO hm PySem.boot_len ha hg Ji Ji he]
def rdAbs:RDn:=λds R=>match ds with
 |[.int i]=>R (.int (if i<0 then -i else i))
 |_=>False
def xx:cx K (λxs H Q=>∃i,xs=[.int i]/\Q (.int (if i<0 then -i else i)) H) rdAbs:=by
 intro ds vs F H R Q fh h rx q;unfold rdAbs at h;split at h
 .obtain⟨v,r,rfl,h1,h2⟩:=reps_cons.mp rx;rw[reps_nil.mp h2,rep_int.mp h1];exact#[_,rfl,q _ _ F H (Grow.refl fh) h (rep_int.mpr rfl)]
 .exact h.elim
def jE[Jx](hm:X.mg "abs"=z8)(ha:WDA X [e] t)(hg:autoParam (Gl X "abs") zA0)(he:autoParam (zSE X e []) zA0):WDE X (.Call (.Name "abs" p) [e] [] pos) (dCB rdAbs t):=#[have ha:=ha.out;gd vT xx hm PyProof.Rows.boot_abs ha hg Ji Ji he]
end
section
variable {X:Cx}{a b c e:P3}{ta tb tc te:TD}{pos:Q_}
def dTst(t:TD):TDT:=λz R=>t z λx=>match x with|.bl k=>R k|_=>False
def dW[Jx]{op:S4}{r:R2}{rd:RD2}(ho:OpR X (Ri op) r)(L:bb X.K r rd)(ha:DE X a ta)(hb:DE X b tb)(hm:Ro op b=false):DT X (.Compare a [op] [b] pos) (dTst (dOp rd ta tb)):=(jm ho ha hb hm).anti λs H Q q=>by
 obtain⟨B,F,z,kf,rs,R,h1,h2⟩:=q;have fh:=kf.fh;refine#[B,F,z,kf,rs,_,h1,λx u F1 H1 g1 hx rx=>?_];refine#[B,F1,z,kf.grow g1,rs.grow g1,_,hx,λy v F2 H2 g2 hy ry=>?_];refine L x y u v F2 H2 _ _ g2.fh hy (rx.mono g2.ff) ry λd w F' H' g3 hd rd=>?_;split at hd
 .exact#[_,rep_bl.mp rd,h2 _ F' H' (g1.trans (g2.trans g3)) hd]
 .exact hd.elim
def fq[Jx](ha:WDE X a ta)(hb:WDE X b tb):WDT X (.Compare a [.Lt] [b] pos) (dTst (dOp rdLt ta tb)):=#[have ha:=ha.out;have hb:=hb.out;dW pK qI ha hb (nomark _)]
def gf[Jx](ha:WDE X a ta)(hb:WDE X b tb):WDT X (.Compare a [.Gt] [b] pos) (dTst (dOp rdGt ta tb)):=#[have ha:=ha.out;have hb:=hb.out;dW jl jB ha hb (nomark _)]
def bA[Jx](ha:WDE X a ta)(hb:WDE X b tb):WDT X (.Compare a [.Eq] [b] pos) (dTst (dOp rdEq ta tb)):=#[have ha:=ha.out;have hb:=hb.out;dW jk jC ha hb (nomark _)]
def cm[Jx](ha:WDE X a ta)(hb:WDE X b tb):WDT X (.Compare a [.NotEq] [b] pos) (dTst (dOp rdNe ta tb)):=#[have ha:=ha.out;have hb:=hb.out;dW pJ qJ ha hb (nomark _)]
def xy[Jx](ha:WDE X a ta)(hb:WDE X b tb):WDT X (.Compare a [.Is] [b] pos) (dTst (dOp (rdIs id) ta tb)):=#[have ha:=ha.out;have hb:=hb.out;dW pL qL ha hb (nomark _)]
def xz[Jx](ha:WDE X a ta)(hb:WDE X b tb):WDT X (.Compare a [.IsNot] [b] pos) (dTst (dOp (rdIs not) ta tb)):=#[have ha:=ha.out;have hb:=hb.out;dW vN xr ha hb (nomark _)]
def dTru(t:TD):TDT:=λz R=>t z λx=>match x with
 |.non=>R false
 |.bl k=>R k
 |.int i=>R (i !=0)
 |.str y=>y.length<=1000/\R ((y.length:Int) !=0)
 |.tup xs=>R (!xs.isEmpty)
 |.lst xs=>R (!xs.isEmpty)
 |.rol xs=>R (!xs.isEmpty)
 |_=>False
variable{K:Ex}
def Reps.isEmpty{H:Hp}{ds:List D}{vs:List V}(r:Reps K H ds vs):vs.isEmpty=ds.isEmpty:=by
 cases ds with
 |nil=>rw[reps_nil.mp r];rfl
 |cons d ds=>obtain⟨v,r',rfl,_⟩:=reps_cons.mp r;rfl
def cy[Jx](ha:WDE X a ta)(he:autoParam (∀d9,isTrue a X.env d9=(do let v <-d9;RK a.pos;Rq [v] (truthy v))) zA3):WDT X a (dTru ta):=⟨have ha:=ha.out;(pM ha he).anti λs H Q q=>by
 obtain⟨B,F,z,kf,rs,R,h1,h2⟩:=q;have fh:=kf.fh;refine#[B,F,z,kf,rs,_,h1,λx u F1 H1 g1 hx rx=>?_];split at hx
 .rw[rep_non.mp rx];exact#[false,rfl,h2 _ F1 H1 g1 hx]
 .rw[rep_bl.mp rx];exact#[_,rfl,h2 _ F1 H1 g1 hx]
 .rw[rep_int.mp rx];exact#[_,rfl,h2 _ F1 H1 g1 hx]
 .rw[rep_str.mp rx];exact#[_,#[sz hx.1,rfl],h2 _ F1 H1 g1 hx.2]
 .obtain⟨p,vs,rfl,hq,rr⟩:=rep_tup_mp rx;exact#[_,.inr (.inl #[vs,g1.fh.tup hq,by rw[rr.isEmpty]]),h2 _ F1 H1 g1 hx]
 .obtain⟨p,vs,rfl,hq,rr⟩:=rep_lst.mp rx;exact#[_,.inl #[vs,g1.fh.seq (SqL.of hq),by rw[rr.isEmpty]],h2 _ F1 H1 g1 hx]
 .obtain⟨p,vs,rfl,hq,rr⟩:=rep_rol.mp rx;exact#[_,.inl #[vs,g1.fh.seq hq,by rw[rr.isEmpty]],h2 _ F1 H1 g1 hx]
 .exact hx.elim⟩
variable {tA C_:TDT}{rest:List P3}
def dAnd(t u:TDT):TDT:=λz R=>t z λc=>if c=true then u z R else R false
def dOr(t u:TDT):TDT:=λz R=>t z λc=>if c=true then R true else u z R
def dNot(t:TDT):TDT:=λz R=>t z λc=>R (!c)
def jF[Jx](ha:WDT X a tA):WDW X (.BoolOp .And [a] pos) tA:=#[have ha:=ha.out;pi ha]
def ft[Jx](ha:WDT X a tA):WDW X (.BoolOp .Or [a] pos) tA:=#[have ha:=ha.out;pj ha]
def jG[Jx](ha:WDT X a tA)(hb:WDW X (.BoolOp .And (b::rest) pos) C_):WDW X (.BoolOp .And (a::b::rest) pos) (dAnd tA C_):=⟨have ha:=ha.out;have hb:=hb.out;(pk ha hb).anti λs H Q q=>by
 obtain⟨B,F,z,kf,rs,R,h1,h2⟩:=q;have fh:=kf.fh;refine#[B,F,z,kf,rs,_,h1,λk F1 H1 g1 hx=>?_];cases k with
 |true=>exact#[B,F1,z,kf.grow g1,rs.grow g1,R,hx,λb F' H' g=>h2 b F' H' (g1.trans g)]
 |false=>exact h2 _ F1 H1 g1 hx⟩
def fu[Jx](ha:WDT X a tA)(hb:WDW X (.BoolOp .Or (b::rest) pos) C_):WDW X (.BoolOp .Or (a::b::rest) pos) (dOr tA C_):=⟨have ha:=ha.out;have hb:=hb.out;(pq ha hb).anti λs H Q q=>by
 obtain⟨B,F,z,kf,rs,R,h1,h2⟩:=q;have fh:=kf.fh;refine#[B,F,z,kf,rs,_,h1,λk F1 H1 g1 hx=>?_];cases k with
 |false=>exact#[B,F1,z,kf.grow g1,rs.grow g1,R,hx,λb F' H' g=>h2 b F' H' (g1.trans g)]
 |true=>exact h2 _ F1 H1 g1 hx⟩
def cO[Jx](h:WDW X a tA):WDT X a tA:=#[have h:=h.out;PW.pt h]
def dX[Jx](ha:WDT X a tA):WDT X (.UnaryOp .Not a pos) (dNot tA):=⟨have ha:=ha.out;(pr ha).anti λs H Q q=>by
 obtain⟨B,F,z,kf,rs,R,h1,h2⟩:=q;have fh:=kf.fh;exact#[B,F,z,kf,rs,_,h1,λk F1 H1 g1 hx=>h2 _ F1 H1 g1 hx]⟩
def xA(ta tb:TD):TD:=λz R=>ta z λx=>match x with|.bl k=>if k=true then tb z R else R (.bl false)|_=>False
def xB(ta:TD):TD:=λz R=>ta z λx=>match x with|.bl k=>R (.bl (!k))|_=>False
def gh[Jx]{op}(h:WDE X a ta):WDE X (.BoolOp op [a] pos) ta:=#[have h:=h.out;vf h]
def gj[Jx](ha:WDE X a ta)(hb:WDE X (.BoolOp .And (b::rest) pos) tb):WDE X (.BoolOp .And (a::b::rest) pos) (xA ta tb):=⟨have ha:=ha.out;have hb:=hb.out;(vg ha hb).anti λs H Q q=>by
 obtain⟨B,F,z,kf,rs,R,h1,h2⟩:=q;have fh:=kf.fh;refine#[B,F,z,kf,rs,_,h1,λx u F1 H1 g1 hx rx=>?_];split at hx
 .rename_i k;refine#[k,rep_bl.mp rx,?_];cases k with
  |true=>exact#[B,F1,z,kf.grow g1,rs.grow g1,R,hx,λd v F' H' g=>h2 d v F' H' (g1.trans g)]
  |false=>exact h2 _ _ F1 H1 g1 hx (rep_bl.mpr rfl)
 .exact hx.elim⟩
def xC[Jx](ha:WDE X a ta):WDE X (.UnaryOp .Not a pos) (xB ta):=⟨have ha:=ha.out;(vh ha).anti λs H Q q=>by
 obtain⟨B,F,z,kf,rs,R,h1,h2⟩:=q;have fh:=kf.fh;refine#[B,F,z,kf,rs,_,h1,λx u F1 H1 g1 hx rx=>?_];split at hx
 .exact#[_,rep_bl.mp rx,h2 _ _ F1 H1 g1 hx (rep_bl.mpr rfl)]
 .exact hx.elim⟩
def tyD:D->String
 |.non=>"NoneType"|.bl _=>"bool"|.int _=>"int"|.str _=>"str"|.tup _=>"tuple"|.lst _=>"list"|.rol _=>"list"|.obj _ _=>"object"|.exc _ _=>"object"|.own _=>"list"|.ptr _=>"object"|.dti _=>"dict"
def cI(t:String)(x:D):Bool:=tyD x==t||(tyD x=="bool" && t=="int")
def TyQ(K:Ex)(H:Hp)(x:V)(t:String):Prop:=TyOf K H x (.type t)\/(t="tuple"/\∃a xs,x=.ref a/\SqT K H a xs)\/(t="list"/\∃a xs,x=.ref a/\SqL K H a xs)
def qP:bK X (.builtin "isinstance") (λxs H Q=>∃x t c k,xs=[x,.ty c]/\TyQ X.K H x t/\kitOne X.K (.type t) (.type c)=be k/\Q (.bl k) H):=by
 intro pins s σ H xs us Q I r h;obtain⟨x,t,c,k,rfl,ty,e,q⟩:=h;obtain⟨u,u',rfl,rx,rc⟩:=fb r;cases(show u'=Value.type c from rc);rcases ty with ty|⟨rfl,a,ys,rfl,hq⟩|⟨rfl,a,ys,rfl,hq⟩
 .exact wg I rx ty e λtk=>#[.bl k,H,I.tok _,rfl,q]
 .cases(show u=Value.ref a from rx);obtain⟨its,_,⟨o,h1,h2,_⟩,_⟩:=I.tuple hq;exact kia_one kitx_tuple I.kIn #[o,h1,h2] e (λz=>nomatch z) λtk=>#[.bl k,H,I.tok _,rfl,q]
 .cases(show u=Value.ref a from rx);obtain⟨its,_,pl,_⟩:=I.list hq;obtain⟨o,n,h1,h2,_⟩:=pl;exact kia_one kitx_list I.kIn #[o,h1,h2] e (λz=>nomatch z) λtk=>#[.bl k,H,I.tok _,rfl,q]
def cJ:D->Bool|.obj _ _=>false|.exc _ _=>false|.ptr _=>false|.dti _=>false|_=>true
def qQ{F H:Hp}{x:D}{u:V}(fh:Same F H)(r:Rep K F x u)(no:cJ x=true):TyQ K H u (tyD x):=by
 cases x with
 |non=>rw[rep_non.mp r];exact .inl .non
 |bl b=>rw[rep_bl.mp r];exact .inl (.bl b)
 |int b=>rw[rep_int.mp r];exact .inl (.int b)
 |str b=>rw[rep_str.mp r];exact .inl (.str b)
 |tup b=>obtain⟨a,vs,rfl,hq,_⟩:=rep_tup_mp r;exact .inr (.inl #[rfl,a,vs,rfl,fh.tup hq])
 |lst b=>obtain⟨a,vs,rfl,hq,_⟩:=rep_lst.mp r;exact .inr (.inr #[rfl,a,vs,rfl,fh.seq (SqL.of hq)])
 |rol b=>obtain⟨a,vs,rfl,hq,_⟩:=rep_rol.mp r;exact .inr (.inr #[rfl,a,vs,rfl,fh.seq hq])
 |obj C b=>cases no
 |exc C b=>cases no
 |ptr b=>cases no
 |dti b=>cases no
 |own b=>exact absurd r rep_own
def jH(t:String):D->(D->Prop)->Prop:=λx R=>match x with|.obj _ _=>False|.exc _ _=>False|.ptr _=>False|.dti _=>False|x=>R (.bl (cI t x))
def dY[Jx]{p p2:Q_}{y:E_}{t:String}(hm:X.mg "isinstance"=z8)(LQ:X.mg y=z8)(ha:WDE X a ta)(hv:Rc y=be (.type t))
  (hk:∀x:D,cJ x=true->kitOne X.K (.type (tyD x)) (.type t)=be (cI t x)) (hg:autoParam (Gl X "isinstance") zA0) (LR:autoParam (Gl X y) zA0) (hn:autoParam (y≠"__name__") zA1) (c_:autoParam (zND y) zA1)
  (k6:autoParam (Q4 [a,.Name y p2] X.env=(false,Q7 a X.env)::Q4 [.Name y p2] X.env) zA0) (k_:autoParam (Q4 [.Name y p2] X.env=(false,Q7 (.Name y p2) X.env)::Q4 [] X.env) zA0) (c5:autoParam ((Rx pos (Q4 [.Name y p2] X.env)).any (·.1)=false) zA0):WDE X (.Call (.Name "isinstance" p) [a,.Name y p2] [] pos) (dUn (jH t) ta):=⟨have ha:=ha.out;(fj qP hg hm PyProof.Rows.boot_isinstance (bo ha (bo (ph (v:=.ty t) LR LQ hv rfl hn c_) pa_nil k_) k6) Ji Ji k6 c5).anti λs H Q q=>by
 obtain⟨B,F,z,kf,rs,R,h1,h2⟩:=q;have fh:=kf.fh;refine#[B,F,z,kf,rs,_,h1,λx u F1 H1 g1 hx rx=>?_];have no:cJ x=true:=by
  cases x with
  |obj C b=>exact False.elim hx
  |exc C b=>exact False.elim hx
  |ptr b=>exact False.elim hx
  |dti b=>exact False.elim hx
  |_=>rfl
 have e_:R (.bl (cI t x)):=by
  cases x with
  |obj C b=>exact False.elim hx
  |exc C b=>exact False.elim hx
  |ptr b=>exact False.elim hx
  |dti b=>exact False.elim hx
  |_=>exact hx
 exact#[u,tyD x,t,_,rfl,qQ g1.fh rx no,hk x no,h2 _ _ F1 H1 g1 e_ (rep_bl.mpr rfl)]⟩
def xD:∀x:D,cJ x=true->kitOne K (.type (tyD x)) (.type "int")=be (cI "int" x):=by intro x no;cases x<;>first|rfl|cases no
def kit_bool:∀x:D,cJ x=true->kitOne K (.type (tyD x)) (.type "bool")=be (cI "bool" x):=by intro x no;cases x<;>first|rfl|cases no
def kit_list:∀x:D,cJ x=true->kitOne K (.type (tyD x)) (.type "list")=be (cI "list" x):=by intro x no;cases x<;>first|rfl|cases no
def kit_str:∀x:D,cJ x=true->kitOne K (.type (tyD x)) (.type "str")=be (cI "str" x):=by intro x no;cases x<;>first|rfl|cases no
def toV:D->Option V
 |.non=>be .non|.bl b=>be (.bl b)|.int i=>be (.int i)|.str x=>be (.str x)|_=>z8
def bg(d:D):Bool:=(toV d).isSome
def eqF:D->D->Bool
 |.non,.non=>true
 |.bl a,.bl b=>a==b
 |.bl a,.int b=>(if a then 1 else 0)==b
 |.int a,.bl b=>a==(if b then 1 else 0)
 |.int a,.int b=>a==b
 |.str a,.str b=>a==b
 |_,_=>false
def eqFs:List D->List D->Bool
 |[],[]=>true
 |x::xs,y::ys=>eqF x y&&eqFs xs ys
 |_,_=>false
end
section
variable {X:Cx}{a b:P3}{ta tb:TD}{pos:Q_}
def eqVs:List V->List V->Bool
 |[],[]=>true
 |x::xs,y::ys=>eqV x y&&eqVs xs ys
 |_,_=>false
def qR:∀(xs ys:List V),((E8 (min xs.length ys.length)).all (λj=>eqV (xs.getD j .non) (ys.getD j .non))&&xs.length==ys.length)=eqVs xs ys
 |[],[]=>rfl
 |[],_::_=>by simp[eqVs]
 |_::_,[]=>by simp[eqVs]
 |x::xs,y::ys=>by
  have ih:=qR xs ys;rw[eqVs,<-ih];have e:min (x::xs).length (y::ys).length=min xs.length ys.length+1:=by simp only[Fc];lia
  rw[e,List.range_succ_eq_map,Gb,List.all_map];have e2:((x::xs).length==(y::ys).length)=(xs.length==ys.length):=J4
  rw[e2,Bool.and_assoc];rfl
variable{xs:List V}
def Vals.getD{us:List KB}{j:Nat}(r:Vals xs us)(h:j<us.length):RelV (xs.getD j .non) us[j]:=by
 have hl:=L2.Vals.length r;obtain⟨u,q1,q2⟩:=L2.Vals.get (i:=j) (x:=xs.getD j .non) r (by rw[Fy Jb];simp[FJ,Fy (show j<xs.length by lia)]);rw[Fy h]at q1;cases q1;exact q2
def flat_getD{j:Nat}(h:xs.all bp=true):bp (xs.getD j .non)=true:=by
 by_cases hj:j<xs.length
 .have q:=FP.mp h xs[j] (FQ hj);simpa[FJ,Fy hj]using q
 .simp[FJ,FR (GN hj),bp]
def jI{K:Ex}{H:Hp}{x y:D}{u v:V}(rx:Rep K H x u)(ry:Rep K H y v)(fx:bg x=true)(fy:bg y=true):eqV u v=eqF x y:=by
 cases x with
 |tup _=>cases fx
 |lst _=>cases fx
 |rol _=>cases fx
 |obj _ _=>cases fx
 |exc _ _=>cases fx
 |ptr _=>cases fx
 |dti _=>cases fx
 |own _=>cases fx
 |non=>rw[rep_non.mp rx];cases y with
  |tup _=>cases fy
  |lst _=>cases fy
  |rol _=>cases fy
  |obj _ _=>cases fy
  |exc _ _=>cases fy
  |ptr _=>cases fy
  |dti _=>cases fy
  |own _=>cases fy
  |non=>rw[rep_non.mp ry];rfl
  |bl _=>rw[rep_bl.mp ry];rfl
  |int _=>rw[rep_int.mp ry];rfl
  |str _=>rw[rep_str.mp ry];rfl
 |bl _=>rw[rep_bl.mp rx];cases y with
  |tup _=>cases fy
  |lst _=>cases fy
  |rol _=>cases fy
  |obj _ _=>cases fy
  |exc _ _=>cases fy
  |ptr _=>cases fy
  |dti _=>cases fy
  |own _=>cases fy
  |non=>rw[rep_non.mp ry];rfl
  |bl _=>rw[rep_bl.mp ry];rfl
  |int _=>rw[rep_int.mp ry];rfl
  |str _=>rw[rep_str.mp ry];rfl
 |int _=>rw[rep_int.mp rx];cases y with
  |tup _=>cases fy
  |lst _=>cases fy
  |rol _=>cases fy
  |obj _ _=>cases fy
  |exc _ _=>cases fy
  |ptr _=>cases fy
  |dti _=>cases fy
  |own _=>cases fy
  |non=>rw[rep_non.mp ry];rfl
  |bl _=>rw[rep_bl.mp ry];rfl
  |int _=>rw[rep_int.mp ry];rfl
  |str _=>rw[rep_str.mp ry];rfl
 |str _=>rw[rep_str.mp rx];cases y with
  |tup _=>cases fy
  |lst _=>cases fy
  |rol _=>cases fy
  |obj _ _=>cases fy
  |exc _ _=>cases fy
  |ptr _=>cases fy
  |dti _=>cases fy
  |own _=>cases fy
  |non=>rw[rep_non.mp ry];rfl
  |bl _=>rw[rep_bl.mp ry];rfl
  |int _=>rw[rep_int.mp ry];rfl
  |str _=>rw[rep_str.mp ry];rfl
def dZ{K:Ex}{H:Hp}{x:D}{u:V}(rx:Rep K H x u)(fx:bg x=true):bp u=true:=by
 cases x with
 |tup _=>cases fx
 |lst _=>cases fx
 |rol _=>cases fx
 |obj _ _=>cases fx
 |exc _ _=>cases fx
 |ptr _=>cases fx
 |dti _=>cases fx
 |own _=>cases fx
 |non=>rw[rep_non.mp rx];rfl
 |bl _=>rw[rep_bl.mp rx];rfl
 |int _=>rw[rep_int.mp rx];rfl
 |str _=>rw[rep_str.mp rx];rfl
def cz{K:Ex}{H:Hp}:∀{xs:List D} {us:List V},Reps K H xs us->xs.all bg=true->us.all bp=true
 |[],us,r,_=>by rw[reps_nil.mp r];rfl
 |x::xs,us,r,f=>by
  obtain⟨v,vr,rfl,r1,r2⟩:=reps_cons.mp r;rw[Gb,Fx]at f ⊢;exact#[dZ r1 f.1,cz r2 f.2]
def gk{K:Ex}{H:Hp}:∀{xs ys:List D} {us vs:List V},Reps K H xs us->Reps K H ys vs->xs.all bg=true->ys.all bg=true->eqVs us vs=eqFs xs ys
 |[],[],us,vs,r1,r2,_,_=>by rw[reps_nil.mp r1,reps_nil.mp r2];rfl
 |[],y::ys,us,vs,r1,r2,_,_=>by
  obtain⟨v,vr,rfl,_,_⟩:=reps_cons.mp r2;rw[reps_nil.mp r1];rfl
 |x::xs,[],us,vs,r1,r2,_,_=>by
  obtain⟨v,vr,rfl,_,_⟩:=reps_cons.mp r1;rw[reps_nil.mp r2];rfl
 |x::xs,y::ys,us,vs,r1,r2,f1,f2=>by
  obtain⟨u,ur,rfl,a1,a2⟩:=reps_cons.mp r1;obtain⟨v,vr,rfl,b1,b2⟩:=reps_cons.mp r2;rw[Gb,Fx]at f1 f2;rw[eqVs,eqFs,jI a1 b1 f1.1 f2.1,gk a2 b2 f1.2 f2.2]
end
section
variable {X:Cx}{a b c e:P3}{ta tb tc te:TD}{pos:Q_}{st:Q0}{rest:List Q0}{t u:TSD}
def xE:TSD:=λE z=>E.nx z
def dSeq(t u:TSD):TSD:=λE z=>t {E with nx:=u E} z
def bx[Jx]:WDSs X [] xE:=⟨pss_nil.anti λE s H q=>by
 obtain⟨B,F0,F,z,k,rs,ED,h,e⟩:=q;exact e.nx z s F H k h rs⟩
def ao[Jx](h1:WDS X st t)(h2:WDSs X rest u):WDSs X (st::rest) (dSeq t u):=⟨have h1:=h1.out;have h2:=h2.out;(dN h1 h2).anti λE s H q=>by
 obtain⟨B,F0,F,z,k,rs,ED,h,e⟩:=q;exact#[B,F0,F,z,k,rs,{ED with nx:=u ED},h,#[λz' s' F' H' k' hz r'=>#[B,F0,F',z',k',r',ED,hz,e],e.rt,e.bk,e.ct]]⟩
def au[Jx](h1:WDS X st t):WDSs X [st] t:=#[have h1:=h1.out;pv h1]
def dFrz(i:Nat)(t:TSD):TSD:=λE z=>match z[i]? with|some (be (.own ds))=>t E (z.set i (be (.lst ds)))|_=>False
def eg[Jx](i:Nat){Kk:List Q0}(h:WDSs X Kk t):WDSs X Kk (dFrz i t):=⟨have h:=h.out;PSs.anti h λE s H q=>by
 obtain⟨B,F0,F,z,k,rs,ED,h,e⟩:=q;unfold dFrz at h;split at h
 .rename_i ds ez;obtain⟨F',k',r'⟩:=rs.freeze k ez;exact#[B,F0,F',_,k',r',ED,h,e]
 .exact h.elim⟩
def dRet(te:TD):TSD:=λE z=>te z E.rt
def aH[Jx](he:WDE X e te):WDS X (.Return (be e) pos) (dRet te):=⟨have he:=he.out;(pw he).anti λE s H q=>by
 obtain⟨B,F0,F,z,k,rs,ED,h,e⟩:=q;exact#[B,F,z,k.kf,rs,_,h,λd v F' H' g hd rd=>e.rt d v F' H' (k.grow g) hd rd]⟩
def xF(te:TD):TSD:=λE z=>te z λ_=>E.nx z
def qS[Jx](he:WDE X e te)(hs:autoParam (Rh e z8 pos.line X.env=pure false) zA0):WDS X (.Expr e pos) (xF te):=⟨have he:=he.out;(jd he hs).anti λE s H q=>by
 obtain⟨B,F0,F,z,k,rs,ED,h,e⟩:=q;exact#[B,F,z,k.kf,rs,_,h,λd v F' H' g hd rd=>e.nx z s F' H' (k.grow g) hd (rs.grow g)]⟩
def dIfS(c:TDT)(t u:TSD):TSD:=λE z=>c z λb=>if b=true then t E z else u E z
variable{l r:List Q0}
def qT[Jx]{c:P3}{tc:TDT}(hc:DT X c tc)(ha:DSs X l t)(hb:DSs X r u):DS X (.If c l r pos) (dIfS tc t u):=(pz hc ha hb).anti λE s H q=>by
 obtain⟨B,F0,F,z,k,rs,ED,h,e⟩:=q;refine#[B,F,z,k.kf,rs,_,h,λb F1 H1 g hk=>?_];cases b with
 |true=>exact#[B,F0,F1,z,k.grow g,rs.grow g,ED,hk,e]
 |false=>exact#[B,F0,F1,z,k.grow g,rs.grow g,ED,hk,e]
def dIfJ(c:TDT)(t u:TSD):TSD:=λE z=>∃J:SD->Prop,(c z λb=>if b=true then t {E with nx:=J} z else u {E with nx:=J} z)/\∀z',J z'->E.nx z'
def qU[Jx]{c:P3}{tc:TDT}(hc:WDT X c tc)(ha:WDSs X l t)(hb:WDSs X r u):WDS X (.If c l r pos) (dIfJ tc t u):=⟨have hc:=hc.out;have ha:=ha.out;have hb:=hb.out;(qT hc ha hb).anti λE s H q=>by
 obtain⟨B,F0,F,z,k,rs,ED,⟨J,h,j⟩,e⟩:=q;exact#[B,F0,F,z,k,rs,{ED with nx:=J},h,#[λz' s' F' H' k' hz r'=>e.nx z' s' F' H' k' (j z' hz) r',e.rt,e.bk,e.ct]]⟩
def dSet(i:Nat)(te:TD):TSD:=λE z=>∃P:D->Prop,te z P/\∀d,P d->E.nx (z.set i (be d))
variable{x:E_}
def aB[Jx](i:Nat){c7:Q_}(hN:X.N.Nodup)(he:WDE X e te)(hi:autoParam (X.N[i]?=be x) zA0)(hx:autoParam (Loc X.env.scope x) zA4)(hs:autoParam (Rh e (be (.Name x c7)) pos.line X.env=pure false) zA0)
  (hf:autoParam (zFN X x) zA2):WDS X (.Assign [.Name x c7] e pos) (dSet i te):=⟨have he:=he.out;(je hN hi hx he hs hf).anti λE s H q=>by
 obtain⟨B,F0,F,z,k,rs,ED,⟨P,h,j⟩,e⟩:=q;exact#[B,F,z,k.kf,rs,P,h,λd v F' H' g hd rd=>e.nx _ _ F' H' (k.grow g) (j d hd) ((rs.grow g).set rd)]⟩
def dNew(i:Nat)(ta:TDA):TSD:=λE z=>ta z λds=>ds.length<=1000/\E.nx (z.set i (be (.own ds)))
variable{es:List P3}
def gl[Jx](i:Nat){c7 p2:Q_}{ta:TDA}(hN:X.N.Nodup)(he:WDA X es ta)(hi:autoParam (X.N[i]?=be x) zA0)(hx:autoParam (Loc X.env.scope x) zA4)(hs:autoParam (Rh (.List es p2) (be (.Name x c7)) pos.line X.env=pure false) zA0)
  (hf:autoParam (zFN X x) zA2):WDS X (.Assign [.Name x c7] (.List es p2) pos) (dNew i ta):=⟨have he:=he.out;(je hN hi hx (jr he) hs hf).anti λE s H q=>by
 obtain⟨B,F0,F,z,k,rs,ED,h,e⟩:=q;refine#[B,F,z,k.kf,rs,_,h,λds vs F1 H1 g hd rd=>?_];have hl:=rd.length;refine#[sz (by rw[hl];exact hd.1),λp hp=>?_];have k1:=k.grow g;have r1:=rs.grow g;have hB:B p=none:=k1.bh.free hp;have hF:F1 p=none:=k1.fh.free hp;refine e.nx _ _ F1 _ #[k1.bh.trans (aR hp _),k1.fh.trans (aR hp _),k1.f0,k1.out,k1.eb,k1.jf,k1.jo] hd.2 (r1.setOwn hB hF rd λj dj hj e1 e2=>?_);obtain⟨a,us,q1,q2,_⟩:=r1.own j dj e1;rw[e2]at q1;cases q1;rw[hp]at q2;cases q2⟩
def dApp(i:Nat)(te:TD):TSD:=λE z=>match z[i]? with|some (be (.own ds))=>(te z λd=>ds.length<=100000/\E.nx (z.set i (be (.own (ds++[d])))))|_=>False
def eo{K:Ex}{F:Hp}{d:D}{v:V}(r:Rep K F d v):Reps K F [d] [v]:=reps_cons.mpr #[v,[],rfl,r,reps_nil.mpr rfl]
def gm[Jx](i:Nat){p1 apos cpos:Q_}(he:WDE X e te)(hN:autoParam (X.N[i]?=be x) zA0)(hv:autoParam (Vis X.env.scope x) zA5)(hd:autoParam (zND x) zA1)
  (d_:autoParam (zNC x) zA1) (k6:autoParam (zSE X e []) zA0)
  (b7:autoParam (Q6 (.Name x p1) "append" X.env (Q7 (.Name x p1) X.env)=Q7 (.Name x p1) X.env) zA0)
  (d4:autoParam (zHF X cpos [e]) zA0)
  (b_:autoParam ((apos.endLine==cpos.line)=true) zA0) (Jh:autoParam (Rh (.Call (.Attribute (.Name x p1) "append" apos) [e] [] cpos) z8 pos.line X.env=pure false) zA0):WDS X (.Expr (.Call (.Attribute (.Name x p1) "append" apos) [e] [] cpos) pos) (dApp i te):=⟨have he:=he.out;(jd (dR PySem.F.plainAttrs_list PySem.F.slot_list_append PySem.F.type_list_append jv (cG hN hv hd d_) (bo he pa_nil k6) b7 d4 b_ k6) Jh).anti λE s H q=>by
 obtain⟨B,F0,F,z,k,rs,ED,h,e⟩:=q;unfold dApp at h;split at h
 .rename_i ds ez;obtain⟨a,vs,q1,q2,q3,q4,q5⟩:=rs.own i ds ez;refine#[.ref a,q1,.inl #[rfl,vs,SqL.of q2],?_];refine#[B,F,z,k.kf,rs,_,h,λd v F1 H1 g hd rd=>?_];have k1:=k.grow g;have r1:=rs.grow g;have a1:H1 a=be (.lst vs):=g.hh a _ q2;have f1:F1 a=none:=g.out a q4 (by rw[q2];exact λz=>nomatch z);have hl:vs.length=ds.length:=q5.length;have hz:vs.length<sizeLine:=by
   have h1:ds.length<=100000:=hd.1;have h2:(100000:Nat)<sizeLine:=Ji
   lia
  refine#[a,vs,v,rfl,rfl,a1,hz,?_];have Sf:∀{G:Hp},G a=z8->Same G H1->Same G (upd H1 a (.lst (vs++[v]))):=λ{G} ga gs b o eb=>by
   have ne:b≠a:=λz=>by rw[z,ga]at eb;cases eb
   rw[aj ne];exact gs b o eb
  have r2:=r1.setOwn (i:=i) (a:=a) (vs:=vs++[v]) (ds:=ds++[d]) q3 f1 ((q5.mono g.ff).append (eo rd)) (λj dj hj e1 e2=>hj (rs.apart j i dj ds a e1 ez e2 q1));have es:s.set i (be (.ref a))=s:=by
   apply Ge;intro n;by_cases hn:i=n
   .subst hn;rw[FI (Fk.mp q1).1,q1]
   .rw[Fj hn]
  rw[es]at r2;exact e.nx _ s F1 _ #[Sf q3 k1.bh,Sf f1 k1.fh,k1.f0,k1.out,k1.eb,k1.jf,k1.jo] hd.2 r2
 .exact h.elim⟩
def bQ:List Nat->List D->SD->SD
 |i::is,d::ds,z=>bQ is ds (z.set i (be d))
 |_,_,z=>z
def DGs(X:Cx)(ts:List P3)(is:List Nat):Prop:=∃u:TGs,PGs X ts u/\∀(ds:List D) (vs:List V) (z:SD) (s:L2.St) (B F H:Hp) (Q:L2.St->Hp->Prop),ds.length=is.length->Reps X.K F ds vs->RepS X.K B F H z s->(∀s',RepS X.K B F H (bQ is ds z) s'->Q s' H)->u vs s H Q
def cP[Jx]:DGs X [] []:=⟨_,vo,λds vs z s B F H Q hl r rs q=>by
 cases ds with
 |nil=>exact#[reps_nil.mp r,q s rs]
 |cons _ _=>cases hl⟩
variable{p:Q_}{is:List Nat}
def dg_cons[Jx](i:Nat)(hN:X.N.Nodup)(h2:DGs X es is)(hi:autoParam (X.N[i]?=be x) zA0)(hx:autoParam (Loc X.env.scope x) zA4)(hf:autoParam (zFN X x) zA2)
  (hs:autoParam ((Q5 (.Name x p::es) X.env).map (·.2)=RA (.Name x p) X.env::(Q5 es X.env).map (·.2)) zA0):DGs X (.Name x p::es) (i::is):=by
 obtain⟨u,hu,k⟩:=h2;refine#[_,vp (dO hN hi hx hf) hu hs,λds vs z s B F H Q hl r rs q=>?_];cases ds with
 |nil=>cases hl
 |cons d ds=>
  obtain⟨v,vr,rfl,r1,r2⟩:=reps_cons.mp r;exact#[v,vr,rfl,k ds vr _ _ B F H Q (Nat.succ.inj hl) r2 (rs.set r1) q]
def xG(is:List Nat)(te:TD):TSD:=λE z=>te z λx=>match x with|.tup ds=>ds.length=is.length/\E.nx (bQ is ds z)|_=>False
def jJ[Jx]{k:Nat}(hc:X.calm=true)(he:WDE X e te)(hg:DGs X es is)(hn:autoParam ((Q5 es X.env).length=is.length) zA0)(j4:autoParam ((Q5 es X.env).findIdx? (·.1)=none) zA0)
  (hs:autoParam (RQ [.Tuple es k p] e pos.line X.env=pure false) zA0) (hw:autoParam (RR [.Tuple es k p] e X.env=pure none) zA0) (h1:autoParam ((Q5 [.Tuple es k p] X.env).map (·.2)=[RA (.Tuple es k p) X.env]) zA0):WDS X (.Assign [.Tuple es k p] e pos) (xG is te):=⟨by
 have he:=he.out;obtain⟨u,hu,kk⟩:=hg;refine(fU he (eZ hc hu hn j4) hs hw h1).anti λE s H q=>?_;obtain⟨B,F0,F,z,k,rs,ED,h,e⟩:=q;refine#[B,F,z,k.kf,rs,_,h,λd v F' H' g hd rd=>?_];split at hd
 .obtain⟨p,vs,rfl,hq,rr⟩:=rep_tup_mp rd;exact#[p,vs,rfl,g.fh.tup hq,by rw[rr.length];exact hd.1,kk _ vs z s B F' H' _ hd.1 rr (rs.grow g) λs' r'=>e.nx _ _ F' H' (k.grow g) hd.2 r']
 .exact hd.elim⟩
def xH(c:TDT)(tb:TSD):TSD:=λE z=>∃W:Nat->SD->Prop,(∃m,W m z)/\∀m z,W m z->
 c z λb=>if b=true then tb {E with nx:=λz'=>∃m',m'<m/\W m' z',ct:=λz'=>∃m',m'<m/\W m' z',bk:=E.nx} z else E.nx z
variable{body:List Q0}
def xI[Jx]{c:P3}{tc:TDT}{tb:TSD}(hp:Rm (QZ X.prog X.w) X.A X.env X.xe)(hc:WDT X c tc)(hb:WDSs X body tb):WDS X (.While c body [] pos) (xH tc tb):=⟨have hc:=hc.out;have hb:=hb.out;(pA hp hc hb).anti λE s H q=>by
 obtain⟨B,F0,F,z,k,rs,ED,⟨W,⟨m0,w0⟩,c3⟩,e⟩:=q;refine#[λm s' H'=>∃F' z',Kept B F0 F' H'/\RepS X.K B F' H' z' s'/\W m z',#[m0,F,z,k,rs,w0],?_];rintro m s1 H1⟨F1,z1,k1,r1,w1⟩;refine#[B,F1,z1,k1.kf,r1,_,c3 m z1 w1,λb F2 H2 g2 hk=>?_];cases b with
 |true=>
  refine#[λs3 H3=>∃F3 z3,Kept B F0 F3 H3/\RepS X.K B F3 H3 z3 s3/\∃m',m'<m/\W m' z3,λs3 H3 ⟨F3,z3,k3,r3,m',l,w3⟩=>#[m',l,F3,z3,k3,r3,w3],?_];exact#[B,F0,F2,z1,k1.grow g2,r1.grow g2,_,hk,#[λz3 s3 F3 H3 k3 h3 r3=>#[F3,z3,k3,r3,h3],e.rt,e.nx,λz3 s3 F3 H3 k3 h3 r3=>#[F3,z3,k3,r3,h3]]]
 |false=>exact e.nx z1 s1 F2 H2 (k1.grow g2) hk (r1.grow g2)⟩
abbrev TDI:=SD->(List D->Prop)->Prop
def dItL(t:TD):TDI:=λz R=>t z λx=>match x with|.lst ds=>R ds|.rol ds=>R ds|_=>False
def dItR(t:TD):TDI:=λz R=>t z λx=>match x with|.int n=>(0<=n/\n<2^62)/\R ((E8 n.toNat).map λk=>D.int ((k:Nat):Int))|_=>False
def dFor(i:Nat)(ti:TDI)(tb:TSD):TSD:=λE z=>ti z λds=>∃W:Nat->SD->Prop,W 0 z/\(∀k x z,ds[k]?=be x->W k z->tb {E with nx:=W (k+1),ct:=W (k+1),bk:=E.nx} (z.set i (be x)))/\∀z,W ds.length z->E.nx z
def Reps.get'{K:Ex}{H:Hp}{ds:List D}{vs:List V}{k:Nat}{v:V}(r:Reps K H ds vs)(e:vs[k]?=be v):∃d,ds[k]?=be d/\Rep K H d v:=by
 have hk:k<ds.length:=by rw[<-r.length];exact(Fk.mp e).1
 obtain⟨u,q1,q2⟩:=r.get (Fy hk);rw[e]at q1;cases q1;exact#[_,Fy hk,q2]
def qV[Jx](i:Nat){tb:TSD}(hp:Rm (QZ X.prog X.w) X.A X.env X.xe)(hc:X.calm=true)(hN:X.N.Nodup)(he:WDE X e te)(hb:WDSs X body tb)(hi:autoParam (X.N[i]?=be x) zA0)(hx:autoParam (Loc X.env.scope x) zA4)
  (hf:autoParam (zFN X x) zA2) (hs:autoParam (∀y,zFS X e y) zA3):WDS X (.For (.Name x p) e body [] pos) (dFor i (dItL te) tb):=⟨have he:=he.out;have hb:=hb.out;(cN hp hc (vC he) (dO hN hi hx hf) hb hs).anti λE s H q=>by
 obtain⟨B,F0,F,z,kp,rs,ED,h,e⟩:=q;refine#[B,F,z,kp.kf,rs,_,h,λd v F1 H1 g1 hd rd=>?_];split at hd
 .obtain⟨p,vs,rfl,hq,rr⟩:=rep_lst.mp rd;obtain⟨W,w0,c3,out⟩:=hd;refine#[p,rfl,#[vs,g1.fh.seq (SqL.of hq)],pD (K:=X.K) (a:=p) (xs:=vs) (λk s' H'=>∃F' z',Kept B F0 F' H'/\Same F1 F'/\RepS X.K B F' H' z' s'/\W k z') #[F1,z,kp.grow g1,Same.refl F1,rs.grow g1,w0] (λk s' H' _ ⟨F',z',k',g',r',w'⟩=>k'.fh.seq (g'.seq (SqL.of hq))) ?_ ?_]
  .rintro k y s' H' hk⟨F',z',k',g',r',w'⟩;obtain⟨d,hd,ry⟩:=rr.get' hk;refine#[B,F',F',_,#[k'.bh,k'.fh,Same.refl F',λb h1 _=>h1,k'.eb,k'.jf.trans k'.f0,λb h1 h2=>k'.out b (k'.jo b h1 h2) h2],r'.set (ry.mono g'),_,c3 k d z' hd w',?_];have up:∀{F2 H2:Hp},Kept B F' F2 H2->Kept B F0 F2 H2:=λk2=>#[k2.bh,k2.fh,k'.f0.trans k2.f0,λb h1 h2=>k2.out b (k'.out b h1 h2) h2,k'.eb,k'.jf,k'.jo];exact#[λz3 s3 F3 H3 k3 h3 r3=>#[F3,z3,up k3,g'.trans k3.f0,r3,h3],λd v F3 H3 k3=>e.rt d v F3 H3 (up k3),λz3 s3 F3 H3 k3=>e.nx z3 s3 F3 H3 (up k3),λz3 s3 F3 H3 k3 h3 r3=>#[F3,z3,up k3,g'.trans k3.f0,r3,h3]]
  .rintro s' H'⟨F',z',k',g',r',w'⟩;exact e.nx z' s' F' H' k' (out z' (by rw[<-rr.length];exact w')) r'
 .obtain⟨p,vs,rfl,hq,rr⟩:=rep_rol.mp rd;obtain⟨W,w0,c3,out⟩:=hd;refine#[p,rfl,#[vs,g1.fh.seq hq],pD (K:=X.K) (a:=p) (xs:=vs) (λk s' H'=>∃F' z',Kept B F0 F' H'/\Same F1 F'/\RepS X.K B F' H' z' s'/\W k z') #[F1,z,kp.grow g1,Same.refl F1,rs.grow g1,w0] (λk s' H' _ ⟨F',z',k',g',r',w'⟩=>k'.fh.seq (g'.seq hq)) ?_ ?_]
  .rintro k y s' H' hk⟨F',z',k',g',r',w'⟩;obtain⟨d,hd,ry⟩:=rr.get' hk;refine#[B,F',F',_,#[k'.bh,k'.fh,Same.refl F',λb h1 _=>h1,k'.eb,k'.jf.trans k'.f0,λb h1 h2=>k'.out b (k'.jo b h1 h2) h2],r'.set (ry.mono g'),_,c3 k d z' hd w',?_];have up:∀{F2 H2:Hp},Kept B F' F2 H2->Kept B F0 F2 H2:=λk2=>#[k2.bh,k2.fh,k'.f0.trans k2.f0,λb h1 h2=>k2.out b (k'.out b h1 h2) h2,k'.eb,k'.jf,k'.jo];exact#[λz3 s3 F3 H3 k3 h3 r3=>#[F3,z3,up k3,g'.trans k3.f0,r3,h3],λd v F3 H3 k3=>e.rt d v F3 H3 (up k3),λz3 s3 F3 H3 k3=>e.nx z3 s3 F3 H3 (up k3),λz3 s3 F3 H3 k3 h3 r3=>#[F3,z3,up k3,g'.trans k3.f0,r3,h3]]
  .rintro s' H'⟨F',z',k',g',r',w'⟩;exact e.nx z' s' F' H' k' (out z' (by rw[<-rr.length];exact w')) r'
 .exact hd.elim⟩
def cn[Jx](i:Nat){p1 p2:Q_}{tb:TSD}(hp:Rm (QZ X.prog X.w) X.A X.env X.xe)(hc:X.calm=true)(hN:X.N.Nodup)(hm:X.mg "range"=z8)(he:WDE X e te)(hb:WDSs X body tb)(hg:autoParam (Gl X "range") zA0)(hi:autoParam (X.N[i]?=be x) zA0)(hx:autoParam (Loc X.env.scope x) zA4)
  (hf:autoParam (zFN X x) zA2) (hs:autoParam (∀y,zFS X (.Call (.Name "range" p1) [e] [] p2) y) zA3) (o_:autoParam (zSE X e []) zA0) (f_:autoParam (Q4 [e] X.env=[(false,Q7 e X.env)]) zA0):WDS X (.For (.Name x p) (.Call (.Name "range" p1) [e] [] p2) body [] pos) (dFor i (dItR te) tb):=⟨have he:=he.out;have hb:=hb.out;(cN hp hc (jh hg hm (bo he pa_nil o_) f_) (dO hN hi hx hf) hb hs).anti λE s H q=>by
 obtain⟨B,F0,F,z,kp,rs,ED,h,e⟩:=q;refine#[B,F,z,kp.kf,rs,_,h,λd v F1 H1 g1 hd rd=>?_];split at hd
 .rename_i n;obtain⟨⟨b1,b2⟩,W,w0,c3,out⟩:=hd;have hl:((E8 n.toNat).map λk=>D.int ((k:Nat):Int)).length=n.toNat:=by simp
  refine#[n,by rw[rep_int.mp rd],Jb,b2,ji (lo:=0) (n:=n.toNat) (λk s' H'=>∃F' z',Kept B F0 F' H'/\RepS X.K B F' H' z' s'/\W k z') #[F1,z,kp.grow g1,rs.grow g1,w0] ?_ ?_]
  .rintro k s' H' hk⟨F',z',k',r',w'⟩;have e1:(0:Int)+(k:Int)=(k:Int):=by lia
   exact#[B,F0,F',_,k',r'.set (d:=.int (k:Int)) (rep_int.mpr (by rw[e1])),_,c3 k (.int (k:Int)) z' (by simp[hk]) w',#[λz3 s3 F3 H3 k3 h3 r3=>#[F3,z3,k3,r3,h3],e.rt,e.nx,λz3 s3 F3 H3 k3 h3 r3=>#[F3,z3,k3,r3,h3]]]
  .rintro s' H'⟨F',z',k',r',w'⟩;exact e.nx z' s' F' H' k' (out z' (by rw[hl];exact w')) r'
 .exact hd.elim⟩
end
section
variable {P:Pi}{w:Q2}{K:Ex}{mg:E_->Option KB}{base:Heap}
variable{N ps:List E_}
def _root_.L2.Fun.okD{x qual:E_}{st:Q0}{f:Addr}{fd:Q8}{k:Nat}{S:SpD}(T:Fun K x qual st f fd)(F:FnScope N ps (ag st))(len:∀ds R,S ds R->ds.length=ps.length)
  (a9:∀(cdv:KB) (A:Q3) (outer:List RI) (s:KF) (H:Hp) (E:XK) (J:Jx),Room k (A.deeper (Ra qual (ag st) s.heap.objs.size f cdv))->
   ∃t,DSs (cxOf (Exc.CX1 P w) P w K mg base N qual (ag st) f cdv A outer s H E).nox (aE st) t/\∀ds R,S ds R->t {nx:=λ_=>R .non,rt:=R} (startD N ds)):FnOk P w K mg base (Exc.CX1 P w) (k+1) f fd ps (lSp K S):=by
 refine Fun.okC T F (λvs H Q E h=>?_) (λcdv A outer s H vs Q E hr h=>?_)
 .obtain⟨F,ds,fh,rs,R,h,_⟩:=h;rw[rs.length];exact len ds R h
 .obtain⟨F,ds,fh,rs,R,h,q⟩:=h
  letI:Jx:=#[H,F,λ_ _ _=>False]
  obtain⟨t,ht,hq⟩:=a9 cdv A outer s H E inferInstance hr;refine#[_,ht.nox,H,F,F,startD N ds,#[Same.refl H,fh,Same.refl F,λ_ h _=>h,rfl,Same.refl F,λ_ h _=>h],dg rs,_,hq ds R h,#[λz' s' F' H' k hn _=>q _ _ F' H' #[k.f0,k.fh,k.bh,k.out] hn (rep_non.mpr rfl),λd v F' H' k hd rd=>q d v F' H' #[k.f0,k.fh,k.bh,k.out] hd rd,λ_ _ _ _ _ h _=>h.elim,λ_ _ _ _ _ h _=>h.elim]]
def Tx.okD{x:E_}{st:Q0}{k:Nat}{S:SpD}(T:Tx K mg x st ps)(F:FnScope N ps (ag st))(len:∀ds R,S ds R->ds.length=ps.length)
  (a9:∀(f:Addr) (cdv:KB) (A:Q3) (outer:List RI) (s:KF) (H:Hp) (E:XK) (J:Jx),Room k (A.deeper (Ra x (ag st) s.heap.objs.size f cdv))->
   ∃t,DSs (cxOf (Exc.CX1 P w) P w K mg base N x (ag st) f cdv A outer s H E).nox (aE st) t/\∀ds R,S ds R->t {nx:=λ_=>R .non,rt:=R} (startD N ds)):CalD P w K mg base (k+1) x ps S:=by
 obtain⟨f,fd,T,hb,hm⟩:=T;exact#[f,fd,T.okD F len λcdv A outer s H E J hr=>a9 f cdv A outer s H E J hr,hb,T.kp,hm]
end
def et:SpD:=λds R=>∃ns:List Int,ds=[.rol (ns.map D.int)]/\ns.length<=63/\R (.bl true)
def xJ{a:Addr}{ns:List Int}(hl:ns.length<=63)(hS:SqL K H a (ns.map V.int)){E:XK}:lSp K et [.ref a] H (λv _=>v=.bl true) E:=
 #[H,[.rol (ns.map D.int)],Same.refl H,reps_cons.mpr #[_,_,rfl,rep_rol.mpr #[a,_,rfl,hS,Reps.ints.mpr rfl],reps_nil.mpr rfl],λd=>d=.bl true,#[ns,rfl,hl,rfl],λd v F' H' _ hd rd=>by subst hd;exact rep_bl.mp rd]
section
variable {X:Cx}{a b c e:P3}{ta tb tc te:TD}{pos:Q_}
variable{p:Q_}{es:List P3}{t:TDA}
def qW[Jx]{x:E_}{T:String}{r:List V->Hp->VK->Prop}{rd:RDn}(hc:bK X (.type T) r)(L:cx X.K r rd)(hm:X.mg x=z8)(hv:Rc x=be (.type T))(ha:DA X (e::es) t)(hg:autoParam (Gl X x) zA0)(hn:autoParam (x≠"__name__") zA1)(c_:autoParam (zND x) zA1)
  (he:autoParam (zSE X e es) zA0) (c5:autoParam (zPL X pos es) zA0):DE X (.Call (.Name x p) (e::es) [] pos) (dCB rd t):=(pZ hc hg hm hv ha hn c_ he c5).anti λs H Q h=>by
 obtain⟨B,F,z,kf,rs,R,h1,h2⟩:=h;have fh:=kf.fh;refine#[B,F,z,kf,rs,_,h1,λds vs F1 H1 g1 hx rx=>?_];exact L ds vs F1 H1 R Q g1.fh hx rx λd w F' H' g=>h2 d w F' H' (g1.trans g)
def rdStr:RDn:=λds R=>match ds with|[.int i]=>i.natAbs<18446744073709551616/\R (.str (toString i))|_=>False
variable{K:Ex}
def xK:cx K (λxs H Q=>∃i,xs=[.int i]/\i.natAbs.log2<1920/\Q (.str (toString i)) H) rdStr:=by
 intro ds vs F H R Q fh h rx q;unfold rdStr at h;split at h
 .obtain⟨v,r,rfl,h1,h2⟩:=reps_cons.mp rx;rw[reps_nil.mp h2,rep_int.mp h1];refine#[_,rfl,?_,q _ _ F H (Grow.refl fh) h.2 (rep_str.mpr rfl)];rename_i i;by_cases h0:i.natAbs=0
  .rw[h0];decide
  .have:=(HF h0).mpr (show i.natAbs<2^64 from h.1);lia
 .exact h.elim
def gp[Jx](hm:X.mg "str"=z8)(ha:WDA X [e] t)(hg:autoParam (Gl X "str") zA0)(he:autoParam (zSE X e []) zA0):WDE X (.Call (.Name "str" p) [e] [] pos) (dCB rdStr t):=#[have ha:=ha.out;qW vX xK hm PyProof.Rows.boot_str ha hg Ji Ji he]
def rdInt:RDn:=λds R=>match ds with
 |[.int i]=>R (.int i)
 |[.bl k]=>R (.int (if k then 1 else 0))
 |[.str x]=>∃n,(PySem.intText? x=be n/\x.length<=640)/\R (.int n)
 |_=>False
def qX:bK X (.type "int") (λxs H Q=>((∃i,xs=[.int i]/\Q (.int i) H)\/∃k,xs=[.bl k]/\Q (.int (if k then 1 else 0)) H)\/∃x n,xs=[.str x]/\PySem.intText? x=be n/\x.length<=640/\Q (.int n) H):=by
 intro pins s σ H xs us Q I r h;rcases h with h|⟨x,n,rfl,h1,h2,q⟩
 .exact vW pins s σ H xs us Q I r h
 .obtain⟨u,rfl,t,rfl⟩:=bT r;exact PySem.W.KIN.call_text h1 h2 #[.int n,H,I.tok _,#[_,rfl],q]
def qY:cx K (λxs H Q=>((∃i,xs=[.int i]/\Q (.int i) H)\/∃k,xs=[.bl k]/\Q (.int (if k then 1 else 0)) H)\/∃x n,xs=[.str x]/\PySem.intText? x=be n/\x.length<=640/\Q (.int n) H) rdInt:=by
 intro ds vs F H R Q fh h rx q;unfold rdInt at h;split at h
 .obtain⟨v,r,rfl,h1,h2⟩:=reps_cons.mp rx;rw[reps_nil.mp h2,rep_int.mp h1];exact .inl (.inl #[_,rfl,q _ _ F H (Grow.refl fh) h (rep_int.mpr rfl)])
 .obtain⟨v,r,rfl,h1,h2⟩:=reps_cons.mp rx;rw[reps_nil.mp h2,rep_bl.mp h1];exact .inl (.inr #[_,rfl,q _ _ F H (Grow.refl fh) h (rep_int.mpr rfl)])
 .obtain⟨v,r,rfl,h1,h2⟩:=reps_cons.mp rx;rw[reps_nil.mp h2,rep_str.mp h1];obtain⟨n,⟨e1,e2⟩,h⟩:=h;exact .inr #[_,n,rfl,e1,e2,q _ _ F H (Grow.refl fh) h (rep_int.mpr rfl)]
 .exact h.elim
def jK[Jx](hm:X.mg "int"=z8)(ha:WDA X [e] t)(hg:autoParam (Gl X "int") zA0)(he:autoParam (zSE X e []) zA0):WDE X (.Call (.Name "int" p) [e] [] pos) (dCB rdInt t):=#[have ha:=ha.out;qW qX qY hm PyProof.Rows.boot_int ha hg Ji Ji he]
def rdMax:RDn:=λds R=>match ds with|[.int i,.int j]=>R (.int (if j>i then j else i))|_=>False
def rdMin:RDn:=λds R=>match ds with|[.int i,.int j]=>R (.int (if j<i then j else i))|_=>False
def xL:cx K (λxs H Q=>∃i j,xs=[.int i,.int j]/\Q (.int (if j>i then j else i)) H) rdMax:=by
 intro ds vs F H R Q fh h rx q;unfold rdMax at h;split at h
 .obtain⟨v,r,rfl,h1,h2⟩:=reps_cons.mp rx;obtain⟨v',r',rfl,h3,h4⟩:=reps_cons.mp h2;rw[reps_nil.mp h4,rep_int.mp h1,rep_int.mp h3];exact#[_,_,rfl,q _ _ F H (Grow.refl fh) h (rep_int.mpr rfl)]
 .exact h.elim
def xM:cx K (λxs H Q=>∃i j,xs=[.int i,.int j]/\Q (.int (if j<i then j else i)) H) rdMin:=by
 intro ds vs F H R Q fh h rx q;unfold rdMin at h;split at h
 .obtain⟨v,r,rfl,h1,h2⟩:=reps_cons.mp rx;obtain⟨v',r',rfl,h3,h4⟩:=reps_cons.mp h2;rw[reps_nil.mp h4,rep_int.mp h1,rep_int.mp h3];exact#[_,_,rfl,q _ _ F H (Grow.refl fh) h (rep_int.mpr rfl)]
 .exact h.elim
def jL[Jx](hc:X.calm=true)(hm:X.mg "max"=z8)(ha:WDA X [e,a] t)(hg:autoParam (Gl X "max") zA0)(he:autoParam (zSE X e [a]) zA0)(c5:autoParam (zPL X pos [a]) zA0):WDE X (.Call (.Name "max" p) [e,a] [] pos) (dCB rdMax t):=#[have ha:=ha.out;gd (vU hc) xL hm PyProof.Rows.boot_max ha hg Ji Ji he c5]
def xN[Jx](hc:X.calm=true)(hm:X.mg "min"=z8)(ha:WDA X [e,a] t)(hg:autoParam (Gl X "min") zA0)(he:autoParam (zSE X e [a]) zA0)(c5:autoParam (zPL X pos [a]) zA0):WDE X (.Call (.Name "min" p) [e,a] [] pos) (dCB rdMin t):=#[have ha:=ha.out;gd (vV hc) xM hm PyProof.Rows.boot_min ha hg Ji Ji he c5]
def cK:List D->Option (List E_)
 |[]=>be []
 |.str x::r=>(cK r).map (x::·)
 |_=>z8
def qZ{K:Ex}{F:Hp}:∀{ds:List D} {xs:List E_} {vs:List V} {us:List KB},cK ds=be xs->Reps K F ds vs->Vals vs us->StrsAre us xs
 |[],xs,vs,us,e,r,q=>by
  cases e;rw[reps_nil.mp r]at q;cases q;exact .nil
 | .str x::ds,xs,vs,us,e,r,q=>by
  obtain⟨v,r',rfl,h1,h2⟩:=reps_cons.mp r;rw[rep_str.mp h1]at q;cases q with
  |cons q1 q2=>
   obtain⟨t,rfl⟩:=q1;cases e2:cK ds with
   |none=>simp[cK,e2]at e
   |some ys=>
    simp[cK,e2]at e;subst e;exact .cons x t (qZ e2 h2 q2)
def xO:V->List V->Hp->VK->Prop:=λx vs H Q=>∃o0 l xs ys,x=.str o0/\vs=[.ref l]/\H l=be (.lst xs)/\(∀us,Vals xs us->StrsAre us ys)/\(ys.map (·.length)).sum+ys.length*o0.length<=16777216/\Q (.str (Txt.join o0 ys)) H
def xP:MtR X "str.join" xO:=by
 intro pins s σ H x vs v us Q I rx rv h;obtain⟨o0,l,xs,ys,rfl,rfl,hl,hs,hz,q⟩:=h;obtain⟨t,rfl⟩:=rx;obtain⟨u,rfl,ru⟩:=bT rv;cases ru;obtain⟨its,r,pl,_⟩:=I.list (SqL.of hl);exact PyProof.Rows.join_list pl.isList (by simpa using hs its r) hz λt' k=>#[.str _,H,I.tok _,#[_,rfl],q]
def xQ(o0:E_)(te:TD):TD:=λz R=>te z λx=>match x with
 |.lst ds=>∃ys,cK ds=be ys/\(ys.map (·.length)).sum+ys.length*o0.length<=1000000/\R (.str (Txt.join o0 ys))
 |_=>False
variable{k:Nat}
def jM[Jx]{o0:E_}{p1 apos cpos:Q_}(he:WDE X e te)(k6:autoParam (zSE X e []) zA0)
  (b7:autoParam (Q6 (.Constant (.str o0) k p1) "join" X.env (Q7 (.Constant (.str o0) k p1) X.env)=Q7 (.Constant (.str o0) k p1) X.env) zA0)
  (d4:autoParam (zHF X cpos [e]) zA0)
  (b_:autoParam ((apos.endLine==cpos.line)=true) zA0):WDE X (.Call (.Attribute (.Constant (.str o0) k p1) "join" apos) [e] [] cpos) (xQ o0 te):=⟨have he:=he.out;(dR PySem.F.plainAttrs_str PySem.F.slot_str_join PySem.F.type_str_join xP pf (bo he pa_nil k6) b7 d4 b_ k6).anti λs H Q q=>by
 obtain⟨B,F,z,kf,rs,R,h1,h2⟩:=q;have fh:=kf.fh;refine#[rfl,?_];refine#[B,F,z,kf,rs,_,h1,λx u F1 H1 g1 hx rx=>?_];split at hx
 .obtain⟨ys,e1,e2,hx⟩:=hx;obtain⟨l,vs,rfl,hq,rr⟩:=rep_lst.mp rx;exact#[o0,l,vs,ys,rfl,rfl,g1.fh _ _ hq,λus q=>qZ e1 rr q,Fg e2 Ji,h2 _ _ F1 H1 g1 hx (rep_str.mpr rfl)]
 .exact hx.elim⟩
def dOix(i:Nat)(tb:TD):TD:=λz R=>match z[i]? with
 |some (be (.own ds))=>tb z λy=>match y with|.int k=>∃d,atI ds k=be d/\R d|_=>False
 |_=>False
def xR[Jx](i:Nat){x:E_}(hb:WDE X b tb)(hN:autoParam (X.N[i]?=be x) zA0)(hv:autoParam (Vis X.env.scope x) zA5)(hd:autoParam (zND x) zA1)
  (d_:autoParam (zNC x) zA1) (hs:autoParam (dQ b) zA6):WDE X (.Subscript (.Name x p) b pos) (dOix i tb):=⟨have hb:=hb.out;(pe_ix ix_list (cG hN hv hd d_) hb hs).anti λs H Q q=>by
 obtain⟨B,F,z,kf,rs,R,h1,h2⟩:=q;have fh:=kf.fh;unfold dOix at h1;split at h1
 .rename_i ds ez;obtain⟨a,vs,q1,q2,q3,q4,q5⟩:=rs.own i ds ez;refine#[.ref a,q1,B,F,z,kf,rs,_,h1,λy v F1 H1 g1 hy ry=>?_];split at hy
  .obtain⟨d,e1,hR⟩:=hy;obtain⟨w,e2,g7⟩:=(q5.mono g1.ff).at e1;exact#[a,vs,_,w,rfl,rep_int.mp ry,SqL.of (g1.hh _ _ q2),e2,h2 d w F1 H1 g1 hR g7]
  .exact hy.elim
 .exact h1.elim⟩
def cutD(xs:List D)(lo hi:Option Int):List D:=(xs.drop (HT.sIx xs.length 0 lo)).take (HT.sIx xs.length xs.length hi-HT.sIx xs.length 0 lo)
def Reps.drop{K:Ex}{F:Hp}:∀(n:Nat) {xs:List D} {us:List V},Reps K F xs us->Reps K F (xs.drop n) (us.drop n)
 |0,_,_,r=>r
 |n+1,[],us,r=>by rw[reps_nil.mp r];exact reps_nil.mpr rfl
 |n+1,x::xs,us,r=>by
  obtain⟨u,ur,rfl,_,a2⟩:=reps_cons.mp r;exact Reps.drop n a2
def Reps.take{K:Ex}{F:Hp}:∀(n:Nat) {xs:List D} {us:List V},Reps K F xs us->Reps K F (xs.take n) (us.take n)
 |0,_,_,_=>reps_nil.mpr rfl
 |n+1,[],us,r=>by rw[reps_nil.mp r];exact reps_nil.mpr rfl
 |n+1,x::xs,us,r=>by
  obtain⟨u,ur,rfl,a1,a2⟩:=reps_cons.mp r;exact reps_cons.mpr #[u,_,rfl,a1,Reps.take n a2]
def Reps.cut{F:Hp}{xs:List D}{us:List V}(r:Reps K F xs us)(lo hi:Option Int):Reps K F (cutD xs lo hi) (cutV us lo hi):=by
 unfold cutD cutV;rw[r.length];exact(r.drop _).take _
def xS{t:TGs}{n:Nat}(hc:X.calm=true)(h:PGs X es t)(hn:autoParam ((Q5 es X.env).length=n) zA0)(j4:autoParam ((Q5 es X.env).findIdx? (·.1)=none) zA0):
  PG X (.Tuple es k pos) (λv σ H Q=>∃a xs,v=.ref a/\SqL X.K H a xs/\xs.length=n/\t xs σ H Q):=by
 intro pins s σ H v u Q I r hw;obtain⟨a,xs,e1,hq,hl,hw⟩:=hw;subst e1;cases r;obtain⟨its,rv,pl,hz⟩:=I.list hq;have e2:(Q5 es X.env).length=its.toArray.size:=by simp[hn,<-hl,rv.length]
 rw[PyProof.Rows.assign_Tuple];refine KM (RB ?_);unfold unpack;rw[e2,j4];refine KM (Rk (kun_itemsOf (I.ok.hd hc) pl.isList λh' hx=>?_));have I1:Inv X pins σ H {s with heap:=h'}:=I.kept (t':=s.toks) λb o e=>hx b o (Fd (Heap.lt_size e)) e;exact h pins _ σ H xs _ Q I1 (by simpa using rv) hw
def xT(is:List Nat)(te:TD):TSD:=λE z=>te z λx=>match x with|.lst ds=>ds.length=is.length/\E.nx (bQ is ds z)|_=>False
def xU[Jx]{is:List Nat}(hc:X.calm=true)(he:WDE X e te)(hg:DGs X es is)(hn:autoParam ((Q5 es X.env).length=is.length) zA0)(j4:autoParam ((Q5 es X.env).findIdx? (·.1)=none) zA0)
  (hs:autoParam (RQ [.Tuple es k p] e pos.line X.env=pure false) zA0) (hw:autoParam (RR [.Tuple es k p] e X.env=pure none) zA0) (h1:autoParam ((Q5 [.Tuple es k p] X.env).map (·.2)=[RA (.Tuple es k p) X.env]) zA0):WDS X (.Assign [.Tuple es k p] e pos) (xT is te):=⟨by
 have he:=he.out;obtain⟨u,hu,kk⟩:=hg;refine(fU he (xS hc hu hn j4) hs hw h1).anti λE s H q=>?_;obtain⟨B,F0,F,z,k,rs,ED,h,e⟩:=q;refine#[B,F,z,k.kf,rs,_,h,λd v F' H' g hd rd=>?_];split at hd
 .obtain⟨p,vs,rfl,hq,rr⟩:=rep_lst.mp rd;exact#[p,vs,rfl,SqL.of (g.fh _ _ hq),by rw[rr.length];exact hd.1,kk _ vs z s B F' H' _ hd.1 rr (rs.grow g) λs' r'=>e.nx _ _ F' H' (k.grow g) hd.2 r']
 .exact hd.elim⟩
end
end My
namespace L2
def jN{env:RI}:∀(names:List (E_×RG)) (t6:List (E_×Addr)),(∀n,(n,NameKind.free)∈names->∃c,env.cells.lookup n=be c)->
  ∃cl,(forIn (m:=SB) names t6 λx r=>match x with
     |(name,kind)=>if(kind==NameKind.free)=true then(do let a <-cellOf env name;pure (ForInStep.yield ((name,a)::r)))else pure (ForInStep.yield r))=(pure cl:SB (List (E_×Addr)))/\
   (∀n c,cl.lookup n=be c->env.cells.lookup n=be c\/t6.lookup n=be c)/\(∀n,(n,NameKind.free)∈names->∃c,cl.lookup n=be c)/\∀n c,t6.lookup n=be c->∃c',cl.lookup n=be c'
 |[],t6,_=>#[t6,rfl,(λ_ _ h=>.inr h),(λ_ h=>by cases h),(λ_ c h=>#[c,h])]
 |(name,kind)::r,t6,h=>by
  by_cases hk:(kind==NameKind.free)=true
  .have ek:kind=.free:=by simpa using hk
   subst ek;obtain⟨c,hc⟩:=h name Fi;obtain⟨cl,e,p1,p2,p3⟩:=jN r ((name,c)::t6) λn q=>h n (Fe _ q);refine#[cl,?_,λn c' q=>?_,λn q=>?_,λn c' q=>?_]
   .rw[G8];have ec:cellOf env name=pure c:=by unfold cellOf;rw[hc]
    simp only[hk,if_true,ec];exact e
   .rcases p1 n c' q with z|z
    .exact .inl z
    .rw[Fq]at z;split at z
     .rename_i q2;have en:n=name:=by simpa using q2
      cases z;exact .inl (en ▸ hc)
     .exact .inr z
   .rcases Fb.mp q with z|z
    .cases z;exact p3 _ c (by rw[Fq];simp)
    .exact p2 n z
   .by_cases hn:n=name
    .subst hn;exact p3 n c (by rw[Fq];simp)
    .exact p3 n c' (by rw[Fq,beq_eq_false_iff_ne.mpr hn];exact q)
  .obtain⟨cl,e,p1,p2,p3⟩:=jN r t6 λn q=>h n (Fe _ q);refine#[cl,?_,p1,λn q=>?_,p3]
   .rw[G8];simp only[hk];exact e
   .rcases Fb.mp q with z|z
    .cases z;exact absurd rfl hk
    .exact p2 n z
def closure_is{env:RI}{scope:Rr}(h:∀n,(n,NameKind.free)∈scope.names->∃c,env.cells.lookup n=be c):
  ∃cl,closureFor scope env=pure cl/\(∀n c,cl.lookup n=be c->env.cells.lookup n=be c)/\∀n,(n,NameKind.free)∈scope.names->∃c,cl.lookup n=be c:=by
 obtain⟨cl,e,p1,p2,_⟩:=jN scope.names [] h;refine#[cl,?_,λn c q=>(p1 n c q).elim id (λz=>nomatch z),p2];unfold closureFor;show(forIn (m:=SB) scope.names [] _>>=λs=>pure s)=pure cl;rw[e];rfl
def gq{env:RI}:∀{names:List (E_×RG)} {n:E_} {k:RG},(∀y∈names,y.2≠.cell)->k=.cell\/k=.free->
  (names.map λ(n,k)=>if(k==NameKind.free&&env.scope.kind== .function&&env.kindOf n==be .cell)then(n,NameKind.cell)else(n,k)).lookup n=be k->(n,NameKind.free)∈names
 |[],_,_,_,_,h=>by simp at h
 |(a,b)::r,n,k,hc,hk,h=>by
  rw[Ft]at h;by_cases hb:(b==NameKind.free&&env.scope.kind== .function&&env.kindOf a==be .cell)=true
  .have eb:b=.free:=by
    have:=(Fx _ _ ▸ ((Fx _ _ ▸ hb).1)).1;simpa using this
   simp only[hb,if_true]at h;rw[Fq]at h;split at h
   .rename_i q;have en:n=a:=by simpa using q
    subst en eb;exact Fi
   .exact Fe _ (gq (λy q=>hc y (Fe _ q)) hk h)
  .simp only[hb]at h;rw[if_neg J4,Fq]at h;split at h
   .rename_i q;have en:n=a:=by simpa using q
    cases h;subst en;rcases hk with z|z
    .exact absurd z (hc _ Fi)
    .rw[z];exact Fi
   .exact Fe _ (gq (λy q=>hc y (Fe _ q)) hk h)
section
variable {prog:Pi}{w:Q2}{A:Q3}{R:Result->KF->Prop}{s:KF}
abbrev ra(i6:List P3)(env:RI):SB Bool:=forIn i6 true λc r=>if r=true then do let ok <-isTrue c env (Q7 c env);pure (ForInStep.yield ok)else pure (ForInStep.yield r)
def xV{g8 f9 iter:P3}{i6:List P3}{scope:Rr}{pos:Q_}{it t6:KB}{env:RI}(I:Nat->KF->Prop)
  (c3:∀n s,I n s->Q1 (QZ prog w) A (pyNext it) (λr s₁=>match r with
   |none=>R (.ok .next) s₁
   |some v=>Q1 (QZ prog w) A (RZ f9 it v) (λ_ s₁'=>Q1 (QZ prog w) A (RA f9 env v) (λ_ s₂=>Q1 (QZ prog w) A (ra i6 env) (λok s₂'=>if ok=true then Q1 (QZ prog w) A (Q7 g8 env) (λx s₃=>
     Q1 (QZ prog w) A (call (.builtin "list.append") [t6,x]) (λ_ s₄=>∃m,m<n/\I m s₄) (λ_ _=>False) s₃)
     (λ_ _=>False) s₂' else ∃m,m<n/\I m s₂') (λ_ _=>False) s₂) (λ_ _=>False) s₁') (λ_ _=>False) s₁) (λ_ _=>False) s)
  (n:Nat) (h:I n s):
  R4 (QZ prog w) A (.compLoop (.ListComp g8 [#[f9,iter,i6,0]] scope pos) 0 it t6 env) R s:=by
 refine codeAny_loop rfl I (λn s hI=>?_) n h;show Q1 _ _ ((compTurn (.ListComp g8 [#[f9,iter,i6,0]] scope pos) 0 it t6 env).onRaise (λx=>do RT x env;theTreesLotGoes x)) _ _ s;refine wpAny_noted ?_;rw[compTurn_list];refine KM (RB (KM (Q9 (c3 n s hI) (λr s₁ h₁=>?_) λ_ _ h'=>h'.elim)));cases r with
 |none=>exact QY h₁
 |some v=>
  refine KM (Q9 h₁ (λ_ s₁' h₁'=>KM (Q9 h₁' (λ_ s₂ h₂=>KM (Q9 h₂ (λok s₃ h₃=>?_) λ_ _ h'=>h'.elim)) λ_ _ h'=>h'.elim)) λ_ _ h'=>h'.elim);cases ok with
  |false=>exact QY #[rfl,h₃]
  |true=>
   exact KM (KM (Q9 h₃ (λx s₄ h₄=>KM (Q9 h₄ (λ_ s₅ h₅=>QY (QY #[rfl,h₅])) λ_ _ h'=>h'.elim)) λ_ _ h'=>h'.elim))
end
def bW(X:Cx)(scope:Rr)(cl:List (E_×Addr))(x:E_)(s₀:KF)(H₀:Hp)(fp:List Addr):Cx where
 prog:=X.prog
 w:=X.w
 K:=X.K
 mg:=X.mg
 base:=X.base
 A:=X.A
 N:=X.N.map (λn=>if n=x then("":E_)else n)++[x]
 s₀:=s₀
 H₀:=H₀
 env:=compEnvC scope cl s₀.heap.objs.size X.env
 outer:=X.stack
 stack:=X.stack
 ex:=fp
 fn:=λ_=>false
 calm:=X.calm
 pn:=[]
 xe:=λ_ _=>False
structure CompScope(X:Cx)(scope:Rr)(x:Str):Prop where
 kind:scope.kind=.function
 nocell:∀y∈scope.names,y.2≠.cell
 names:∀y∈scope.names,y.2=.local->scope.names.lookup y.1=be .local
 own:scope.names.lookup x=be .local
 free:∀n,(n,NameKind.free)∈scope.names->X.env.kindOf n=be .cell
 vis:∀n∈X.N,n≠x->Vis (S1 scope X.env) n->(n,NameKind.free)∈scope.names
 empty:¬Vis (S1 scope X.env) ("":E_)
 cells:∀n,(n,NameKind.free)∈scope.names->(S1 scope X.env).names.lookup n=be .cell
 nd:(X.N.map (λn=>if n=x then("":E_)else n)++[x]).Nodup
section
variable {X:Cx}{pins:List (Addr×Re)}{σ:St}{H:Hp}{s:KF}{scope:Rr}{cl:List (E_×Addr)}{x:E_}{fp:List Addr}
def rb(I:Inv X pins σ H s)(S:CompScope X scope x)(c1:∀n c,cl.lookup n=be c->X.env.cells.lookup n=be c)(c2:∀n,(n,NameKind.free)∈scope.names->∃c,cl.lookup n=be c)
  (hf:∀b∈fp,FpOk X pins H b) (hl:∀b∈fp,b<s.heap.objs.size):(bW X scope cl x s H fp).Ok where
 mod:=I.ok.mod
 kind:=S.kind
 glob:=I.ok.glob
 blt:=I.ok.blt
 above:=E7 _
 inj:=λy z c h1 h2=>I.ok.inj y z c (c1 y c h1) (c1 z c h2)
 has:=λn hn=>by
  rcases hn with hn|hn
  .exact c2 n (gq S.nocell (.inl rfl) hn)
  .exact c2 n (gq S.nocell (.inr rfl) hn)
 cab:=λ_ _ h=>nomatch h
 hd:=I.ok.hd
 frames:=I.ok.frames
 stk:=.inl rfl
 exf:=λb hb=>#[Fd (hl b hb),λy c h=>(hf b hb).2.2.2.2.1 y c (c1 y c h)]
 bs:=I.bs
 bsz:=Fg I.ok.bsz I.sz
 noex:=λb o e hb=>by
  have h1:=I.ok.noex b o e;rcases(hf b hb).2.2.2.1 with z|z
  .exact h1 z
  .exact absurd (Fv (Heap.lt_size e) (Fg I.ok.bsz z)) (FY _)
 exfs:=λb hb hs=>by
  rcases Fb.mp (I.stkSub b hs)with z|z
  .exact(hf b hb).2.1 z
  .exact(hf b hb).2.2.1 z
 funs:=I.stack
 frf:=I.stkFree
def re{h':Heap}{t':Nat}(I:Inv X pins σ H s)(S:CompScope X scope x)(c1:∀n c,cl.lookup n=be c->X.env.cells.lookup n=be c)(c2:∀n,(n,NameKind.free)∈scope.names->∃c,cl.lookup n=be c)
  (hf:∀b∈fp,FpOk X pins H b) (hl:∀b∈fp,b<s.heap.objs.size) {m:E_->Option KB} (hn:h'.Ns s.heap.objs.size m) (k:∀b o,s.heap.get? b=be o->h'.get? b=be o):
  Inv (bW X scope cl x s H fp) [] (σ++[z8]) H {s with heap:=h',toks:=t'}:=by
 refine#[rb I S c1 c2 hf hl,rfl,I.bare,Un.kept k,#[m,hn,λi n v e1 e2 e3=>?_],λn c e=>?_,I.hok.fresh (E7 _),λn c e=>I.freeC n c (c1 n c e),λp hp=>absurd (show p∈([]:List (Addr×Re))from hp) J4,I.hok.kept k,?_]
 .have hi:i<σ.length:=by
   rcases GR i σ.length with q|q
   .exact q
   .rw[F5 q]at e2;cases hz:i-σ.length with
    |zero=>rw[hz]at e2;simp at e2
    |succ z=>rw[hz]at e2;simp at e2
  rw[FO hi]at e2;have Le:i<X.N.length:=by rw[<-I.len];exact hi
  have JG:(X.N.map (λn=>if n=x then("":E_)else n)++[x])[i]?=be n:=e1;rw[FO (by simpa using Le),Fo,Fy Le]at JG;simp only[Option.map_some,Option.some.injEq]at JG;by_cases hx:X.N[i]=x
  .rw[if_pos hx]at JG;subst JG;exact absurd e3 S.empty
  .rw[if_neg hx]at JG;subst JG;have i9:=S.vis _ (FQ Le) hx e3;have k9:=S.free _ i9;obtain⟨c,hc⟩:=c2 _ i9;obtain⟨mX,Qw,Pc⟩:=I.loc;obtain⟨u,ru,lk⟩:=Pc i X.N[i] v (Fy Le) e2 (.inr (.inl k9));refine#[u,ru,.inr #[?_,c,hc,?_]]
   .exact .inl (S.cells _ i9)
   .rcases lk with⟨kl,_⟩|⟨_,c',IJ,gt⟩
    .rw[k9]at kl;cases kl
    .have:c=c':=by
      have:=c1 _ c hc;rw[IJ]at this;exact(Option.some.inj this).symm
     subst this;obtain⟨o,ho,hd⟩:=gt;exact#[o,k _ _ ho,hd]
 .obtain⟨v,o,ho,hd⟩:=I.cell n c (c1 n c e);exact#[v,o,k _ _ ho,hd]
 .show(σ++[z8]).length=(X.N.map _++[x]).length;rw[Fp,Fp,Fs,I.len];rfl
end
def gu(wi:TI)(tt:TT)(gV:TE):TE:=λσ H Q=>wi σ H λJ H1=>∀D,H1 D=z8->∃W:Nat->Nat->Hp->Prop,(∃m,W 0 m (upd H1 D (.lst [])))/\∀i m H,W i m H->
 (J.stop i H/\Q (.ref D) H)\/(J.go i H/\∀x H',J.yld i H x H'->tt (σ++[be x]) H' λb H1=>if b=true then gV (σ++[be x]) H1 λy H''=>∃vs,H'' D=be (.lst vs)/\vs.length<sizeLine/\∃m',m'<m/\W (i+1) m' (upd H'' D (.lst (vs++[y])))else ∃m',m'<m/\W (i+1) m' H1)
def PIf(X:Cx)(i6:List P3)(t:TT):Prop:=
 ∀(pins:List (Addr×Re)) (s:KF) (σ:St) (H:Hp) (Q:Bool->Hp->Prop),Inv X pins σ H s->t σ H Q->Q1 (QZ X.prog X.w) X.A (ra i6 X.env) (TP X pins σ Q) X.xe s
def pif_nil{X:Cx}:PIf X [] (λ_ H Q=>Q true H):=λpins s σ H Q I q=>wpAny_tests_nil #[H,I,q]
def PIf.anti{X:Cx}{e:List P3}{t t':TT}(h:PIf X e t)(a:∀s H Q,t' s H Q->t s H Q):PIf X e t':=λpins s σ H Q I q=>h pins s σ H Q I (a _ _ _ q)
section
variable {X:Cx}
variable{g8 iter:P3}{i6:List P3}{x:E_}{px pos:Q_}{scope:Rr}{tt:TT}{gV:TE}
def rg{pins:List (Addr×Re)}{s2:KF}{σ:St}{H1:Hp}{cl:List (E_×Addr)}{it:Addr}{fp:List Addr}{tn:Nat->Heap->Prop}{J:It}{Qs:Hp->Prop}{R:Result->KF->Prop}{W:Nat->Nat->Hp->Prop}{m0:Nat}{h₁:Heap}(hc:X.calm=true)(S:CompScope X scope x)
  (hq:∀cl s₀ H₀ fp,PIf (bW X scope cl x s₀ H₀ fp) i6 tt) (he:∀cl s₀ H₀ fp,PE (bW X scope cl x s₀ H₀ fp) g8 gV) (c1:∀n c,cl.lookup n=be c->X.env.cells.lookup n=be c) (c2:∀n,(n,NameKind.free)∈scope.names->∃c,cl.lookup n=be c)
  (I1:Inv X pins σ H1 s2) (T:Turn X.prog X.w X.K (.Name x px) J fp it tn) (st:tn 0 s2.heap) (f1:∀b∈fp,FpOk X pins H1 b) (w0:W 0 m0 (upd H1 s2.heap.objs.size (.lst [])))
  (step:∀i m H,W i m H->(J.stop i H/\Qs H)\/(J.go i H/\∀x H',J.yld i H x H'->tt (σ++[be x]) H' λb H1=>if b=true then gV (σ++[be x]) H1 λy H''=>∃vs,H'' s2.heap.objs.size=be (.lst vs)/\vs.length<sizeLine/\∃m',m'<m/\W (i+1) m' (upd H'' s2.heap.objs.size (.lst (vs++[y])))else ∃m',m'<m/\W (i+1) m' H1))
  (I4:Inv (bW X scope cl x {s2 with heap:=s2.heap.push {cls:=.type "list",data:=.seq ([]:List KB).toArray},toks:=s2.toks} (upd H1 s2.heap.objs.size (.lst [])) fp) [] (σ++[z8]) (upd H1 s2.heap.objs.size (.lst [])) {s2 with heap:=h₁,toks:=s2.toks+([]:List (E_×KB)).length}) (t0:tn 0 h₁)
  (LU:∀H' s4 m,Inv X pins σ H' s4->s4.heap.Ns (s2.heap.push {cls:=.type "list",data:=.seq ([]:List KB).toArray}).objs.size m->H' (s2.heap.push {cls:=.type "list",data:=.seq ([]:List KB).toArray}).objs.size=z8->Qs H'->R (.ok .next) s4):
  R4 (QZ X.prog X.w) X.A (.compLoop (.ListComp g8 [#[.Name x px,iter,i6,0]] scope pos) 0 (.ref it) (.ref s2.heap.objs.size) (compEnvC scope cl (s2.heap.push {cls:=.type "list",data:=.seq ([]:List KB).toArray}).objs.size X.env)) R {s2 with heap:=h₁,toks:=s2.toks+([]:List (E_×KB)).length}:=by
 have e8:∀b∈fp,b<s2.heap.objs.size:=λb hb=>by
  obtain⟨o,ho,_⟩:=T.obj _ _ st b hb;exact Heap.lt_size ho
 have I3:Inv X pins σ (upd H1 s2.heap.objs.size (.lst [])) {s2 with heap:=s2.heap.push {cls:=.type "list",data:=.seq ([]:List KB).toArray},toks:=s2.toks}:=I1.lnew (its:=[]) (ys:=[]) .nil (Fz _);have h_:∀b∈fp,b<(s2.heap.push {cls:=.type "list",data:=.seq ([]:List KB).toArray}).objs.size:=λb hb=>by
  rw[Heap.size_push];exact G9 (e8 b hb)
 have z_:∀b∈fp,FpOk X pins (upd H1 s2.heap.objs.size (.lst [])) b:=λb hb=>#[by rw[aj (Fd (e8 b hb))];exact(f1 b hb).1,(f1 b hb).2];have Lf:=rb (x:=x) (fp:=fp) I3 S c1 c2 z_ h_;generalize hY:bW X scope cl x {s2 with heap:=s2.heap.push {cls:=.type "list",data:=.seq ([]:List KB).toArray},toks:=s2.toks} (upd H1 s2.heap.objs.size (.lst [])) fp=Y at I4 Lf;have yP:Y.prog=X.prog:=Qu
 have yW:Y.w=X.w:=Qu
 have yK:Y.K=X.K:=Qu
 have yA:Y.A=X.A:=Qu
 have yN:Y.N=X.N.map (λn=>if n=x then("":E_)else n)++[x]:=Qu
 have yE:Y.env=compEnvC scope cl (s2.heap.push {cls:=.type "list",data:=.seq ([]:List KB).toArray}).objs.size X.env:=Qu
 have yX:Y.xe=λ_ _=>False:=Qu
 have yC:Y.calm=true:=by rw[<-hY];exact hc
 have N_:Y.ex=fp:=Qu
 have Pd:Y.pn=[]:=Qu
 have Pe:Y.fs=frs X.stack:=Qu
 have Pf:Y.H₀=upd H1 s2.heap.objs.size (.lst []):=Qu
 have Oa:Y.s₀={s2 with heap:=s2.heap.push {cls:=.type "list",data:=.seq ([]:List KB).toArray},toks:=s2.toks}:=Qu
 have Pg:PE Y g8 gV:=by rw[<-hY];exact he _ _ _ _
 have Ph:PIf Y i6 tt:=by rw[<-hY];exact hq _ _ _ _
 have m4:∀{H':Hp},(∀b∈fp,H' b=z8)->∀b∈fp,FpOk Y [] H' b:=λ{H'} hn b hb=>by
  have f7:b∈Y.ex:=by rw[N_];exact hb
  exact#[hn b hb,(Lf.exf b f7).1,Lf.exfs b f7,.inl f7,λn c e=>(Lf.exf b f7).2 n c e,by rw[Pd];simp]
 have Km:Y.env.scope.names.lookup x=be .local:=by rw[yE];exact lookup_relabel_local S.own
 have LV:Y.N[X.N.length]?=be x:=by rw[yN];simp
 have Pj:Y.N.Nodup:=by rw[yN];exact S.nd
 have LW:Y.env.locals=(s2.heap.push {cls:=.type "list",data:=.seq ([]:List KB).toArray}).objs.size:=by rw[yE];rfl
 have ge:∀(o:Option V) (H':Hp) (s':KF),Inv Y [] (σ++[o]) H' s'->Inv X pins σ H' s':=λo H' s' I'=>by
  have bs:=I'.base;rw[Pe,N_,Pf,Oa]at bs;refine I3.call' (ch:=fp) ?_ bs ?_ I'.bare ?_
  .have:=I'.os;rw[Oa]at this;exact this
  .have:=I'.hok;rw[yP,yW]at this;exact this
  .exact λb hb=>#[(z_ b hb).2.2.2.1,(z_ b hb).2.1,(z_ b hb).2.2.2.2.1,(z_ b hb).2.2.2.2.2]
 refine xV (λn s'=>∃i o H',Inv Y [] (σ++[o]) H' s'/\tn i s'.heap/\(∀b∈fp,H' b=z8)/\W i n H') ?_ m0 #[0,z8,_,I4,t0,λb hb=>(z_ b hb).1,w0];rintro n s3⟨i,o,H3,I5,t3,f3,w3⟩;rcases step i n H3 w3 with⟨stop,q⟩|⟨go,q⟩
 .have dn:=T.done Y yP yW yK yC i [] s3 _ H3 (λ_ _=>False) I5 (m4 f3) t3 stop;rw[yA]at dn;refine thn dn λr s4 b9=>?_;obtain⟨hr,I6⟩:=b9;subst hr;obtain⟨m,hn,_⟩:=I6.loc;have j_:=I6.free;rw[LW]at hn j_;exact LU H3 s4 m (ge o H3 s4 I6) hn j_ q
 .have Oc:=T.item Y yP yW yK yC i [] s3 _ H3 (λ_ _=>False) I5 (m4 f3) t3 go;rw[yA]at Oc;refine thn Oc λr s4 b9=>?_;obtain⟨u,hr,h4⟩:=b9;subst hr;refine thn h4 λ_ s5 b9=>?_;obtain⟨xv,H5,I6,r5,y5,F_,LD⟩:=b9;have Pk:=I6.pinned (m4 LD) (T.obj _ _ F_);rw[<-yE];refine R8 (fS Pk Pj LV (.inl Km) r5 (λs6 I7=>?_) (.inr Km));have LX:(σ++[o]).set X.N.length (be xv)=σ++[be xv]:=by
   rw[<-I1.len];simp
  rw[LX]at I7;have tv:=Ph _ s6 _ H5 _ I7 (q xv H5 y5);rw[yP,yW,yA,yX]at tv;refine thn tv λb Pl b9=>?_;obtain⟨Pm,Lg,qb⟩:=b9;cases b with
  |false=>
   obtain⟨m',hm,w7⟩:=qb;refine#[m',hm,i+1,be xv,_,Lg.unpinned,T.keep _ _ _ F_ λb hb ob e=>(Lg.pin (b,ob) (Fw _ (Fw _ (dP hb e)))).1,λb hb=>?_,w7];obtain⟨ob,e,d⟩:=T.obj _ _ F_ b hb;exact(Lg.pin (b,ob) (Fw _ (Fw _ (dP hb e)))).2.1
  |true=>
  have ev:=Pg _ Pl _ Pm _ Lg qb;rw[yP,yW,yA,yX]at ev;refine thn ev λyv s7 b9=>?_;obtain⟨y,H6,I8,ry,vs,Pn,b8,m',hm,w7⟩:=b9;have ap:=jv (X:=Y) _ s7 _ H6 (.ref s2.heap.objs.size) [y] (.ref s2.heap.objs.size) [yv] (λ_ H7=>H7=upd H6 s2.heap.objs.size (.lst (vs++[y]))) I8 rfl (.cons ry .nil) #[_,vs,y,rfl,rfl,Pn,b8,rfl];rw[yP,yW,yA,yX]at ap;refine thn ap λ_ s8 b9=>?_;obtain⟨_,H7,I9,_,e7⟩:=b9;subst e7;refine#[m',hm,i+1,be xv,_,I9.unpinned,T.keep _ _ _ F_ λb hb ob e=>(I9.pin (b,ob) (Fw _ (Fw _ (dP hb e)))).1,λb hb=>?_,w7];obtain⟨ob,e,d⟩:=T.obj _ _ F_ b hb;exact(I9.pin (b,ob) (Fw _ (Fw _ (dP hb e)))).2.1
def xW{wi:TI}(hc:X.calm=true)(S:CompScope X scope x)(hi:PI X (.Name x px) iter wi)
  (hq:∀cl s₀ H₀ fp,PIf (bW X scope cl x s₀ H₀ fp) i6 tt) (he:∀cl s₀ H₀ fp,PE (bW X scope cl x s₀ H₀ fp) g8 gV) (hs:autoParam (∀y,zFS X iter y) zA3):
  PE X (.ListComp g8 [#[.Name x px,iter,i6,0]] scope pos) (gu wi tt gV):=by
 intro pins s σ H Q I h;obtain⟨cl,gt,c1,c2⟩:=closure_is (env:=X.env) (scope:=scope) (λn q=>I.ok.has n (.inl (S.free n q)));rw[eval_ListComp];refine Sn (use:=z8) rfl hs gt S.kind S.names (thn (hi pins s σ H _ I h) λv s1 h1=>thn h1 λK8 s2 h2=>?_);obtain⟨it,fp,tn,J,H1,e,I1,T,st,f1,hr⟩:=h2;subst e;have e8:∀b∈fp,b<s2.heap.objs.size:=λb hb=>by
  obtain⟨o,ho,_⟩:=T.obj _ _ st b hb;exact Heap.lt_size ho
 have hD:H1 s2.heap.objs.size=none:=I1.hok.fresh (E7 _);obtain⟨W,⟨m0,w0⟩,step⟩:=hr _ hD;refine Rf (SI S.nocell (by intro y hy;simp at hy) (λh₁ hns₁ hsb₁=>?_) S.kind);have I3:Inv X pins σ (upd H1 s2.heap.objs.size (.lst [])) {s2 with heap:=s2.heap.push {cls:=.type "list",data:=.seq ([]:List KB).toArray},toks:=s2.toks}:=I1.lnew (its:=[]) (ys:=[]) .nil (Fz _);have h_:∀b∈fp,b<(s2.heap.push {cls:=.type "list",data:=.seq ([]:List KB).toArray}).objs.size:=λb hb=>by
  rw[Heap.size_push];exact G9 (e8 b hb)
 have z_:∀b∈fp,FpOk X pins (upd H1 s2.heap.objs.size (.lst [])) b:=λb hb=>#[by rw[aj (Fd (e8 b hb))];exact(f1 b hb).1,(f1 b hb).2];have kp:∀b o,(s2.heap.push {cls:=.type "list",data:=.seq ([]:List KB).toArray}).get? b=be o->h₁.get? b=be o:=λb o e=>
  (hsb₁.2 b (Fd (Heap.lt_size e))).trans (Heap.get?_push_of_some _ e)
 have I4:=re (x:=x) (fp:=fp) (t':=s2.toks+([]:List (E_×KB)).length) I3 S c1 c2 z_ h_ hns₁ kp;have Ir:(s2.heap.push {cls:=.type "list",data:=.seq ([]:List KB).toArray}).objs.size≠X.env.locals:=FU I3.lt;have Iu:∀z c,X.env.cells.lookup z=be c->c≠(s2.heap.push {cls:=.type "list",data:=.seq ([]:List KB).toArray}).objs.size:=λz c e=>by
  obtain⟨vv,oo,ho,_⟩:=I3.cell z c e;exact Fd (Heap.lt_size ho)
 have Jk:∀p∈X.pn++pins,p.1≠(s2.heap.push {cls:=.type "list",data:=.seq ([]:List KB).toArray}).objs.size:=λp hp=>Fd (Heap.lt_size (I3.pin p hp).1);have o8:=rg (pos:=pos) (iter:=iter) (R:=compPost (QZ X.prog X.w) X.A X.xe z8 (EP X pins σ Q) (.ref s2.heap.objs.size) (s2.heap.push {cls:=.type "list",data:=.seq ([]:List KB).toArray}).objs.size) hc S hq he c1 c2 I1 T st f1 w0 step I4 (T.keep _ _ _ st (λb hb ob e=>kp b ob (Heap.get?_push_of_some _ e))) λH' s4 m IX hn j_ q=>
  #[m,hn,λh' hsb=>#[.ref s2.heap.objs.size,H',IX.turned (t':=s4.toks) (it:=(s2.heap.push {cls:=.type "list",data:=.seq ([]:List KB).toArray}).objs.size) (λb ob hb e=>(hsb.2 b hb).trans e) j_ Ir (.inr I3.sz) Iu Jk,rfl,q]]
 exact Sz o8 (T.self _ _ _ _ _ (T.keep _ _ _ st (λb hb ob e=>kp b ob (Heap.get?_push_of_some _ e))) o8)
def xX{y:E_}{py v5:Q_}{wi:TI}{ix:Nat}(hc:X.calm=true)(S:CompScope X scope x)(hi:PI X (.Name x px) iter wi)
  (hq:∀cl s₀ H₀ fp,PIf (bW X scope cl x s₀ H₀ fp) i6 tt) (he:∀cl s₀ H₀ fp,PE (bW X scope cl x s₀ H₀ fp) g8 gV) (hN:X.N.Nodup) (LY:X.N[ix]?=be y) (hy:Loc X.env.scope y) (hf:zFN X y)
  (Jh:Rh (.ListComp g8 [#[.Name x px,iter,i6,0]] scope pos) (be (.Name y py)) v5.line X.env=pure true) (hs:autoParam (∀y,zFS X iter y) zA3):
  PS X (.Assign [.Name y py] (.ListComp g8 [#[.Name x px,iter,i6,0]] scope pos) v5) (tAsg (gu wi tt gV) (fT ix)):=by
 intro pins s σ H DE I h;have h:wi σ H λJ H1=>∀D,H1 D=z8->∃W:Nat->Nat->Hp->Prop,(∃m,W 0 m (upd H1 D (.lst [])))/\∀i m H,W i m H->
  (J.stop i H/\DE.nx (σ.set ix (be (.ref D))) H)\/(J.go i H/\∀x H',J.yld i H x H'->tt (σ++[be x]) H' λb H1=>if b=true then gV (σ++[be x]) H1 λy H''=>∃vs,H'' D=be (.lst vs)/\vs.length<sizeLine/\∃m',m'<m/\W (i+1) m' (upd H'' D (.lst (vs++[y])))else ∃m',m'<m/\W (i+1) m' H1):=h
 obtain⟨cl,gt,c1,c2⟩:=closure_is (env:=X.env) (scope:=scope) (λn q=>I.ok.has n (.inl (S.free n q)));rw[exec_Assign_Name_used _ _ _ _ Jh];refine KM (RB (KM ?_));show Q1 _ X.A (do let _ <-comprehension (.ListComp g8 [#[.Name x px,iter,i6,0]] scope pos) scope X.env _ (newList []) false (Q7 iter X.env) (be (RA (.Name y py) X.env))) _ _ s;refine KM (Q9 (Sn (use:=be (RA (.Name y py) X.env)) (Q:=λ_ s'=>SP X pins DE .next s') rfl hs gt S.kind S.names
  (thn (hi pins s σ H _ I h) λv s1 h1=>thn h1 λK8 s2 h2=>?_)) (λ_ s' hq=>QY (QY hq)) λ_ _ e=>e)
 obtain⟨it,fp,tn,J,H1,e,I1,T,st,f1,hr⟩:=h2;subst e;have e8:∀b∈fp,b<s2.heap.objs.size:=λb hb=>by
  obtain⟨o,ho,_⟩:=T.obj _ _ st b hb;exact Heap.lt_size ho
 have hD:H1 s2.heap.objs.size=none:=I1.hok.fresh (E7 _);obtain⟨W,⟨m0,w0⟩,step⟩:=hr _ hD;refine Rf (SI S.nocell (by intro y hy;simp at hy) (λh₁ hns₁ hsb₁=>?_) S.kind);have I3:Inv X pins σ (upd H1 s2.heap.objs.size (.lst [])) {s2 with heap:=s2.heap.push {cls:=.type "list",data:=.seq ([]:List KB).toArray},toks:=s2.toks}:=I1.lnew (its:=[]) (ys:=[]) .nil (Fz _);have h_:∀b∈fp,b<(s2.heap.push {cls:=.type "list",data:=.seq ([]:List KB).toArray}).objs.size:=λb hb=>by
  rw[Heap.size_push];exact G9 (e8 b hb)
 have z_:∀b∈fp,FpOk X pins (upd H1 s2.heap.objs.size (.lst [])) b:=λb hb=>#[by rw[aj (Fd (e8 b hb))];exact(f1 b hb).1,(f1 b hb).2];have kp:∀b o,(s2.heap.push {cls:=.type "list",data:=.seq ([]:List KB).toArray}).get? b=be o->h₁.get? b=be o:=λb o e=>
  (hsb₁.2 b (Fd (Heap.lt_size e))).trans (Heap.get?_push_of_some _ e)
 have I4:=re (x:=x) (fp:=fp) (t':=s2.toks+([]:List (E_×KB)).length) I3 S c1 c2 z_ h_ hns₁ kp;have Ir:(s2.heap.push {cls:=.type "list",data:=.seq ([]:List KB).toArray}).objs.size≠X.env.locals:=FU I3.lt;have Iu:∀z c,X.env.cells.lookup z=be c->c≠(s2.heap.push {cls:=.type "list",data:=.seq ([]:List KB).toArray}).objs.size:=λz c e=>by
  obtain⟨vv,oo,ho,_⟩:=I3.cell z c e;exact Fd (Heap.lt_size ho)
 have Jk:∀p∈X.pn++pins,p.1≠(s2.heap.push {cls:=.type "list",data:=.seq ([]:List KB).toArray}).objs.size:=λp hp=>Fd (Heap.lt_size (I3.pin p hp).1);have o8:=rg (pos:=pos) (iter:=iter) (R:=compPost (QZ X.prog X.w) X.A X.xe (be (RA (.Name y py) X.env)) (λ_ s'=>SP X pins DE .next s') (.ref s2.heap.objs.size) (s2.heap.push {cls:=.type "list",data:=.seq ([]:List KB).toArray}).objs.size) hc S hq he c1 c2 I1 T st f1 w0 step I4 (T.keep _ _ _ st (λb hb ob e=>kp b ob (Heap.get?_push_of_some _ e))) λH' s4 m IX hn j_ q=>by
  show Q1 _ X.A (RA (.Name y py) X.env (.ref s2.heap.objs.size)) _ _ s4;refine R8 (pe IX hN LY hy (v:=.ref s2.heap.objs.size) rfl (λs5 I7 ⟨a,hsb,ha⟩=>?_) hf);have LZ:(s2.heap.push {cls:=.type "list",data:=.seq ([]:List KB).toArray}).objs.size≠a:=by
   rcases ha with e|e
   .rw[e];exact Ir
   .exact λz=>Iu y a e z.symm
  exact#[m,hn.sameBut hsb LZ,λh' Lh=>#[_,H',I7.turned (t':=s5.toks) (it:=(s2.heap.push {cls:=.type "list",data:=.seq ([]:List KB).toArray}).objs.size) (λb ob hb e=>(Lh.2 b hb).trans e) j_ Ir (.inr I3.sz) Iu Jk,q]]
 exact Sz o8 (T.self _ _ _ _ _ (T.keep _ _ _ st (λb hb ob e=>kp b ob (Heap.get?_push_of_some _ e))) o8)
end
end L2
namespace My
def RepS.snoc{K:Ex}{B F H:Hp}{z:SD}{s:L2.St}{d:D}{v:V}(h:RepS K B F H z s)(r:Rep K F d v):RepS K B F H (z++[be d]) (s++[be v]):=by
 have no:=r.noown;have get:∀{j:Nat} {x:D},(z++[be d])[j]?=be (be x)->(j<z.length/\z[j]?=be (be x))\/(j=z.length/\x=d):=λ{j x} e=>by
  rcases GR j z.length with q|q
  .rw[FO q]at e;exact .inl #[q,e]
  .rw[F5 q]at e;cases hz:j-z.length with
   |zero=>rw[hz]at e;simp at e;exact .inr #[Jb,e.symm]
   |succ n=>rw[hz]at e;simp at e
 have lt:∀{j:Nat},j<z.length->(s++[be v])[j]?=s[j]?:=λ{j} q=>FO (by rw[h.len];exact q);refine#[by rw[Fp,Fp,h.len];rfl,λj x e nx=>?_,λj ds e=>?_,λj k dj dk a e1 e2 e3 e4=>?_]
 .rcases get e with⟨q,e⟩|⟨q,rfl⟩
  .rw[lt q];exact h.val j x e nx
  .exact#[v,by rw[q,F5 (by rw[h.len];exact E7 _),h.len];simp,r]
 .rcases get e with⟨q,e⟩|⟨q,e⟩
  .rw[lt q];exact h.own j ds e
  .rw[<-e]at no;cases no
 .rcases get e1 with⟨q,e1⟩|⟨q,e1⟩
  .rcases get e2 with⟨q2,e2⟩|⟨q2,e2⟩
   .rw[lt q]at e3;rw[lt q2]at e4;exact h.apart j k dj dk a e1 e2 e3 e4
   .rw[<-e2]at no;cases no
  .rw[<-e1]at no;cases no
def okB:Bool->Bool->Prop->Prop->Prop
 |_,true,A,_=>A
 |false,false,_,B=>B
 |true,false,_,_=>False
def cmpG(nf:Bool)(tt:TDT)(te:TD)(z:SD)(R:D->Prop)(items:List D):Prop:=items.length<=100000/\∃W:Nat->List D->Prop,W 0 []/\(∀k x ys,items[k]?=be x->(nf=true->ys.length=k)->W k ys->tt (z++[be x]) λb=>okB nf b (te (z++[be x]) λy=>W (k+1) (ys++[y])) (W (k+1) ys))/\∀ys,(nf=true->ys.length=items.length)->W items.length ys->R (.lst ys)
def cmpF(tt:TDT)(te:TD)(z:SD)(R:D->Prop)(items:List D):Prop:=items.length<=100000/\∃W:Nat->List D->Prop,W 0 []/\(∀k x ys,items[k]?=be x->W k ys->tt (z++[be x]) λb=>okB false b (te (z++[be x]) λy=>W (k+1) (ys++[y])) (W (k+1) ys))/\∀ys,W items.length ys->R (.lst ys)
def cmpP(te:TD)(z:SD)(R:D->Prop)(items:List D):Prop:=items.length<=100000/\∃W:Nat->List D->Prop,W 0 []/\(∀k x ys,items[k]?=be x->ys.length=k->W k ys->te (z++[be x]) λy=>W (k+1) (ys++[y]))/\∀ys,ys.length=items.length->W items.length ys->R (.lst ys)
def xY(ti:TDI)(te:TD):TD:=λz R=>ti z (cmpP te z R)
def dT1:TDT:=λ_ R=>R true
abbrev DIf(X:Cx)[Jx](i6:List P3)(t:TDT):Prop:=PIf X i6 (lT X.K t)
variable{X:Cx}
def rh[Jx]:DIf X [] dT1:=pif_nil.anti λs H Q q=>by
 obtain⟨B,F,z,kf,rs,R,h1,h2⟩:=q;exact h2 true F H (Grow.refl kf.fh) h1
structure ItIs(K:Ex)(J:It)(F1 H1:Hp)(items:List D):Prop where
 go:∀k F' H',Grow F1 H1 F' H'->k<items.length->J.go k H'
 yld:∀k F' H' x H'',Grow F1 H1 F' H'->k<items.length->J.yld k H' x H''->H''=H'/\∃d,items[k]?=be d/\Rep K F' d x
 stop:∀F' H',Grow F1 H1 F' H'->J.stop items.length H'
def ItOk[Jx](K:Ex)(wi:TI)(ti:TDI):Prop:=∀{s:L2.St} {H B F:Hp} {z:SD} {P:List D->Prop} {Q:It->Hp->Prop},Kept B Jx.F0 F H->RepS K B F H z s->ti z P->(∀items J F1 H1,Grow F H F1 H1->P items->ItIs K J F1 H1 items->Q J H1)->wi s H Q
section
variable {X:Cx}
variable{K:Ex}{H:Hp}{z:SD}{R:My.D->Prop}{items:List My.D}
def rj[Jx]{B F F1 H1:Hp}{s:L2.St}{Q:VK}{nf:Bool}{tt:TDT}{te:TD}{J:It}(kf:Kept B Jx.F0 F H)(g1:Grow F H F1 H1)(rs:RepS K B F H z s)(h2:∀D ys us F' H',H D=z8->F' D=z8->Grow F H F' H'->H' D=be (.lst us)->Reps K F' ys us->R (.lst ys)->Q (.ref D) H')
    (it:ItIs K J F1 H1 items) (hd:cmpG nf tt te z R items):
    ∀D,H1 D=z8->∃W:Nat->Nat->Hp->Prop,(∃m,W 0 m (upd H1 D (.lst [])))/\∀i m H,W i m H->
      (J.stop i H/\Q (.ref D) H)\/(J.go i H/\∀x H',J.yld i H x H'->lT K tt (s++[be x]) H' λb H1=>if b=true then lE K te (s++[be x]) H1 λy H''=>∃vs,H'' D=be (.lst vs)/\vs.length<sizeLine/\∃m',m'<m/\W (i+1) m' (upd H'' D (.lst (vs++[y])))else ∃m',m'<m/\W (i+1) m' H1):=by
  intro D hD;obtain⟨hz,W,w0,c3,out⟩:=hd;have Po:F1 D=none:=g1.fh.free hD;have hH:H D=none:=g1.hh.free hD;refine⟨λk m H'=>m=items.length-k/\k<=items.length/\∃F' ys us,Grow F1 H1 F' H'/\H' D=be (.lst us)/\F' D=z8/\Reps K F' ys us/\(ys.length<=k/\(nf=true->ys.length=k))/\W k ys,
    #[items.length,J4,Fz _,F1,[],[],#[Same.refl F1,g1.fh.trans (aR hD _),aR hD _,λb h _=>h],aw,Po,reps_nil.mpr rfl,#[E7 _,λ_=>rfl],w0],?_⟩
  rintro k m H'⟨rfl,hk,F',ys,us,G,hu,hF,ry,hl,w⟩;by_cases e8:k<items.length
  . refine .inr #[it.go k F' H' G e8,λx H'' hy=>?_];obtain⟨e,d,hd,rd⟩:=it.yld k F' H' x H'' G e8 hy;subst e;refine#[B,F',z++[be d],kf.grow (g1.trans G),(rs.grow (g1.trans G)).snoc rd,_,c3 k d ys hd hl.2 w,λb F3 H3 g3 hb=>?_];have L4:H3 D=be (.lst us):=g3.hh D _ hu;have Li:F3 D=none:=g3.out D hF (by rw[hu];exact λq=>nomatch q);cases b with
    |false=>
      cases nf with
      |true=>exact hb.elim
      |false=>exact#[items.length-(k+1),Jb,rfl,Jb,F3,ys,us,G.trans g3,L4,Li,ry.mono g3.ff,#[Jb,λz=>nomatch z],hb]
    |true=>
    refine#[B,F3,z++[be d],(kf.grow (g1.trans G)).grow g3,((rs.grow (g1.trans G)).snoc rd).grow g3,_,(show te _ _ from by cases nf<;>exact hb),λy yv F2 H2 g2 hw rv=>?_];have Pp:H2 D=be (.lst us):=g2.hh D _ L4;have Iv:F2 D=none:=g2.out D Li (by rw[L4];exact λq=>nomatch q);have Qx:us.length<=k:=by rw[ry.length];exact hl.1
    refine⟨us,Pp,by     have:(100000:Nat)<sizeLine:=by decide
                        lia,items.length-(k+1),Jb,rfl,Jb,F2,ys++[y],us++[yv],?_,aw,Iv,((ry.mono g3.ff).mono g2.ff).append (eo rv),#[Qv,λz=>by simp[hl.2 z]],hw⟩
    have GG:=(G.trans g3).trans g2;refine#[GG.ff,λb o e=>?_,λb o e=>?_,GG.out]
    . have ne:b≠D:=λq=>by rw[q,Iv]at e;cases e
      rw[aj ne];exact GG.fh b o e
    . have ne:b≠D:=λq=>by rw[q,hD]at e;cases e
      rw[aj ne];exact GG.hh b o e
  . have ek:k=items.length:=by lia
    subst ek;exact .inl #[it.stop F' H' G,h2 D ys us F' H' hH hF (g1.trans G) hu ry (out ys hl.2 w)]
def xZ{F F' H':Hp}{D:Addr}{us:List V}(GG:Grow F H F' H')(hu:H' D=be (.lst us))(hF:F' D=z8)(hH:H D=z8):Grow F H (upd F' D (.lst us)) H':=by
 refine#[GG.ff.trans (aR hF _),λb o e=>?_,GG.hh,λb h1 h3=>?_]
 .by_cases hb:b=D
  .subst hb;rw[aw]at e;cases e;exact hu
  .rw[aj hb]at e;exact GG.fh b o e
 .have ne:b≠D:=λq=>h3 (q ▸ hH);rw[aj ne];exact GG.out b h1 h3
variable {g8 iter:P3}{i6:List P3}{x:E_}{px pos:Q_}{scope:Rr}{ti te:TD}{tt:TDT}{wi:TI}{Jl:TDI}
def ya[Jx]{nf:Bool}{G:SD->(D->Prop)->List D->Prop}(hG:∀z R items,G z R items->cmpG nf tt te z R items)(hI:ItOk K wi Jl){s:L2.St}{Q:VK}(q:lE K (λz R=>Jl z (G z R)) s H Q):gu wi (lT K tt) (lE K te) s H Q:=by
 obtain⟨B,F,z,kf,rs,R,h1,h2⟩:=q;exact hI kf rs h1 λitems J F1 H1 g1 hg it=>rj kf g1 rs (λD ys us F' H' hH hF GG hu ry hR=>h2 (.lst ys) (.ref D) _ H' (xZ GG hu hF hH) hR (rep_lst.mpr #[D,us,rfl,aw,ry.mono (aR hF _)])) it (hG _ _ _ hg)
def cmpP.g(h:cmpP te z R items):cmpG true dT1 te z R items:=
 let ⟨hz,W,w0,c3,out⟩:=h
 #[hz,W,w0,λk x ys e l w=>c3 k x ys e (l rfl) w,λys l w=>out ys (l rfl) w]
def cmpF.g(h:cmpF tt te z R items):cmpG false tt te z R items:=
 let ⟨hz,W,w0,c3,out⟩:=h
 #[hz,W,w0,λk x ys e _ w=>c3 k x ys e w,λys _ w=>out ys w]
def itR[Jx]:ItOk K (pC (pT (lE K ti) tNil)) (dItR ti):=λ{s H B F z P Q} kf rs h1 h2=>by
 refine#[B,F,z,kf,rs,_,h1,λd v F1 H1 g1 hd rd=>?_];split at hd
 .rename_i n;obtain⟨⟨b1,b2⟩,hd⟩:=hd;have hl:((E8 n.toNat).map λk=>D.int ((k:Nat):Int)).length=n.toNat:=by simp
  refine#[n,by rw[rep_int.mp rd],Jb,b2,h2 _ _ F1 H1 g1 hd #[λk F' H' G hk=>by rw[hl]at hk;exact hk,λk F' H' x H'' G hk hy=>?_,λF' H' G=>by show n.toNat<=_;rw[hl];exact E7 _]];rw[hl]at hk;obtain⟨e,rfl⟩:=hy;exact#[e,.int (k:Int),by simp[hk],rep_int.mpr (by congr 1;lia)]
 .exact hd.elim
def gv[Jx]{p1 p2:Q_}(hc:X.calm=true)(S:CompScope X scope x)(hm:X.mg "range"=z8)(hi:WDE X iter ti)(he:∀cl s₀ H₀ fp,WDE (bW X scope cl x s₀ H₀ fp) g8 te)(hg:autoParam (Gl X "range") zA0)
  (hs:autoParam (∀y,zFS X (.Call (.Name "range" p1) [iter] [] p2) y) zA3) (o_:autoParam (zSE X iter []) zA0) (f_:autoParam (Q4 [iter] X.env=[(false,Q7 iter X.env)]) zA0):WDE X (.ListComp g8 [#[.Name x px,.Call (.Name "range" p1) [iter] [] p2,[],0]] scope pos) (xY (dItR ti) te):=#[have hi:=hi.out;have he:=λcl s₀ H₀ fp=>(he cl s₀ H₀ fp).out;(xW hc S (jh hg hm (bo hi pa_nil o_) f_) (λ_ _ _ _=>rh) he hs).anti λs H Q q=>ya (λ_ _ _=>cmpP.g) itR q]
end
def eA(scope fsc:Rr):List (E_×RG):=scope.names.map λ(n,k)=>if(k==NameKind.free&&fsc.kind== .function&&fsc.names.lookup n==be .cell)then(n,NameKind.cell)else(n,k)
def visB(l:List (E_×RG))(n:E_):Bool:=l.lookup n==be .local||l.lookup n==be .cell||l.lookup n==be .free
def dm(scope fsc:Rr)(N:List E_)(x:E_):Bool:=
 scope.kind== .function&&scope.names.all (λy=>!(y.2== .cell))&&scope.names.all (λy=>!(y.2== .local)||scope.names.lookup y.1==be .local)&&scope.names.lookup x==be .local &&
 scope.names.all (λy=>!(y.2== .free)||fsc.names.lookup y.1==be .cell)&&N.all (λn=>decide (n=x)||!visB (eA scope fsc) n||scope.names.any (λy=>decide (y=(n,NameKind.free))))&&!visB (eA scope fsc) "" &&
 scope.names.all (λy=>!(y.2== .free)||(eA scope fsc).lookup y.1==be .cell)&&decide (N.map (λn=>if n=x then("":E_)else n)++[x]).Nodup
def rk{l:List (E_×RG)}{n:E_}(h:l.lookup n=be .local\/l.lookup n=be .cell\/l.lookup n=be .free):visB l n=true:=by
 unfold visB;rcases h with h|h|h<;>rw[h]<;>rfl
def compScope{scope:Rr}{x:E_}(h:dm scope X.env.scope X.N x=true):CompScope X scope x:=by
 unfold dm at h;simp only[Fx]at h;obtain⟨⟨⟨⟨⟨⟨⟨⟨h1,h2⟩,h3⟩,h4⟩,h5⟩,h6⟩,h7⟩,h8⟩,h9⟩:=h;have er:(S1 scope X.env).names=eA scope X.env.scope:=rfl;refine#[by simpa using h1,λy hy=>?_,λy hy e=>?_,by simpa using h4,λn hn=>?_,λn hn ne v=>?_,λv=>?_,λn hn=>?_,of_decide_eq_true h9]
 .have:=FP.mp h2 y hy;simpa using this
 .have:=FP.mp h3 y hy;rw[e]at this;simpa using this
 .have:=FP.mp h5 _ hn;show X.env.scope.names.lookup n=be .cell;simpa using this
 .have:=FP.mp h6 n hn;have v':visB (eA scope X.env.scope) n=true:=rk v;rw[v']at this;simp[ne]at this;exact this
 .have v':visB (eA scope X.env.scope) ""=true:=rk v;rw[v']at h7;cases h7
 .have:=FP.mp h8 _ hn;rw[er];simpa using this
def putD(f:E_)(v:D):List (E_×D)->List (E_×D)
 |[]=>[(f,v)]
 |(g,x)::r=>if g=f then(g,v)::r else(g,x)::putD f v r
def RepF.put{K:Ex}{F:Hp}{f:E_}{d:D}{v:V}(r:Rep K F d v):∀{fs:List (E_×D)} {ws:List (E_×V)},RepF K F fs ws->RepF K F (putD f d fs) (putF f v ws)
 |[],ws,h=>by
  rw[repf_nil.mp h];exact repf_cons.mpr #[v,[],rfl,r,repf_nil.mpr rfl]
 |(g,x)::fs,ws,h=>by
  obtain⟨w,Jn,rfl,h1,h2⟩:=repf_cons.mp h;unfold putD putF;by_cases e:g=f
  .rw[if_pos e,if_pos e];exact repf_cons.mpr #[v,Jn,rfl,r,h2]
  .rw[if_neg e,if_neg e];exact repf_cons.mpr #[w,_,rfl,h1,RepF.put r h2]
def RepF.length{K:Ex}{F:Hp}:∀{fs:List (E_×D)} {ws:List (E_×V)},RepF K F fs ws->ws.length=fs.length
 |[],ws,h=>by rw[repf_nil.mp h];rfl
 |(g,x)::fs,ws,h=>by
  obtain⟨w,Jn,rfl,h1,h2⟩:=repf_cons.mp h;rw[Fc,Fc,RepF.length h2]
def ClsA(K:Ex)(x f:E_):Prop:=∃C,nsIn K Os x=be (be (.ref C))/\Cls K C/\NoAttr K C f
section
variable {X:Cx}{a b c e:P3}{ta tb tc te:TD}{pos:Q_}
def dFld(x f:E_)(te:TD):TD:=λz R=>te z λd=>match d with|.obj y fs=>y=x/\∃d,fs.lookup f=be d/\R d|_=>False
variable{x:E_}
def eB[Jx]{f:E_}(h:ClsA X.K x f)(he:WDE X e te)(hb:autoParam (Q6 e f X.env (Q7 e X.env)=Q7 e X.env) zA0):WDE X (.Attribute e f pos) (dFld x f te):=⟨have he:=he.out;(pR he hb).anti λs H Q q=>by
 obtain⟨C,hn,hc,hf⟩:=h;obtain⟨B,F,z,kf,rs,R,h1,h2⟩:=q;have fh:=kf.fh;refine#[B,F,z,kf,rs,_,h1,λd u F1 H1 g1 hx rx=>?_];split at hx
 .obtain⟨rfl,d,hl,hR⟩:=hx;obtain⟨a,C',dx,vs,rfl,f8,q,r⟩:=rep_obj.mp rx;rw[hn]at f8;cases f8;obtain⟨v,l,rv⟩:=r.look hl;exact#[a,C,dx,vs,v,rfl,g1.fh _ _ q,hc,hf,l,h2 d v F1 H1 g1 hR rv]
 .exact hx.elim⟩
def rl[Jx]{d:D}{v:V}{u:KB}(hm:X.mg x=be u)(r:RelV v u)(rd:∀H,Rep X.K H d v)(hg:autoParam (Gl X x) zA0)(hd:autoParam (zND x) zA1):DE X (.Name x pos) (dC d):=de_c (vc hg hm r hd) rd
def cQ[Jx]{i:Int}(h:∃t,X.mg x=be (.int i t))(hg:autoParam (Gl X x) zA0)(hd:autoParam (zND x) zA1):WDE X (.Name x pos) (dC (.int i)):=⟨by
 obtain⟨t,h⟩:=h;exact rl (v:=.int i) h #[t,rfl] (λ_=>rep_int.mpr rfl) hg hd⟩
def eD[Jx]{y:E_}(h:∃t,X.mg x=be (.str y t))(hg:autoParam (Gl X x) zA0)(hd:autoParam (zND x) zA1):WDE X (.Name x pos) (dC (.str y)):=⟨by
 obtain⟨t,h⟩:=h;exact rl (v:=.str y) h #[t,rfl] (λ_=>rep_str.mpr rfl) hg hd⟩
structure ClsI(K:Ex)(mg:Str->Option KB)(x:Str)(C:Addr):Prop where
 ns:nsIn K Os x=be (be (.ref C))
 mg:mg x=be (.ref C)
 cl:Cls K C
 ha:E9 K (.ref C) "__class__"=be (be (.builtin "object.__class__"))
 hn:specialIn K (.builtin "object.__class__") "__get__"=be (be (.builtin "getset_descriptor.__get__"))
 htk:takesIn K (.builtin "object.__class__")=be true
 hm:FM K C (.type "object")=be true
 self:kitOne K (.ref C) (.ref C)=be true
end
abbrev SiD:=List D->(List (E_×D)->Prop)->Prop
def lSi(K:Ex)(C:Addr)(S:SiD):Sp:=λvs H Q _=>∃a dx us H1 F ds,vs=.ref a::us/\H=upd (upd H1 dx (.own a)) a (.ins C dx [])/\H1 a=z8/\H1 dx=z8/\dx≠a/\Same F H1/\Reps K F ds us/\
 ∃R:List (E_×D)->Prop,S ds R/\∀fs ws Iw F' H',Grow F H1 F' H'->R fs->H' a=be (.ins C Iw ws)->F' a=z8->RepF K F' fs ws->Q .non H'
def CalM(P:Pi)(w:Q2)(K:Ex)(mg:E_->Option KB)(base:Heap)(n:Nat)(x:E_)(ps:List E_)(S:SiD):Prop:=
 ∃C f fd,nsIn K Os x=be (be (.ref C))/\mg x=be (.ref C)/\Mk K C f/\FnOk P w K mg base (Exc.CX1 P w) n f fd ps (lSi K C S)/\Binds K fd ps []
def yb(x:E_)(S:SiD)(t:TDA):TD:=λz R=>t z λds=>S ds λfs=>R (.obj x fs)
def jO[Jx]{pos:Q_}{n m:Nat}{ps:List E_}{S:SiD}{x:E_}{p:Q_}{e:P3}{es:List P3}{t:TDA}(M:CalM X.prog X.w X.K X.mg X.base n x ps S)(hr:Room m X.A)(ha:WDA X (e::es) t)(hg:autoParam (Gl X x) zA0)(hn:autoParam (n+1<=m) zA1)(c_:autoParam (zND x) zA1)
  (he:autoParam (zSE X e es) zA0) (c5:autoParam (zPL X pos es) zA0):WDE X (.Call (.Name x p) (e::es) [] pos) (yb x S t):=⟨by
 have ha:=ha.out;obtain⟨C,f,fd,hns,i8,mk,F,hb⟩:=M;refine(fX mk F (hr.mono hn) hg i8 hb .nil dU ha c_ he c5).anti λs H Q q=>?_;obtain⟨B,F,z,kf,rs,R,h1,h2⟩:=q;have fh:=kf.fh;refine#[B,F,z,kf,rs,_,h1,λds vs F1 H1 g1 hx rx=>?_];intro a dx ha m9 j3;refine#[a,dx,vs,H1,F1,ds,by rw[FE],rfl,ha,m9,j3,g1.fh,rx,_,hx,λfs ws Iw F' H' g hR d7 g5 rf=>#[rfl,?_]];have s1:Same F' (upd F' a (.ins C Iw ws)):=aR g5 _;refine h2 (.obj x fs) (.ref a) (upd F' a (.ins C Iw ws)) H' #[(g1.ff.trans g.ff).trans s1,λb o q=>?_,g1.hh.trans g.hh,λb q1 q2=>?_] hR (rep_obj.mpr #[a,C,Iw,ws,rfl,hns,aw,RepF.mono s1 fs ws rf])
 .by_cases hb:b=a
  .subst hb;rw[aw]at q;cases q;exact d7
  .rw[aj hb]at q;exact g.fh b o q
 .by_cases hb:b=a
  .subst hb;exact absurd (g1.hh.free ha) q2
  .rw[aj hb];exact(g1.trans g).out b q1 q2⟩
abbrev TID:=SD->List (E_×D)->(List (E_×D)->Prop)->Prop
def lI(K:Ex)[J:Jx](x:E_)(t:TID):TS:=λE σ H=>∃C a dx ws F z fs,nsIn K Os x=be (be (.ref C))/\σ[0]?=be (be (.ref a))/\H a=be (.ins C dx ws)/\J.B a=z8/\F a=z8/\Kept J.B J.F0 F H/\RepS K J.B F H z σ/\RepF K F fs ws/\
 ∃R:List (E_×D)->Prop,t z fs R/\∀j9 Jn F' H',Kept J.B J.F0 F' H'->R j9->H' a=be (.ins C dx Jn)->F' a=z8->RepF K F' j9 Jn->E.nx σ H'
abbrev DI(X:Cx)[Jx](x:E_)(st:List Q0)(t:TID):Prop:=PSs X st (lI X.K x t)
structure WDI(X:Cx)[Jx](x:Str)(st:List Q0)(t:TID):Prop where
 out:DI X x st t
section
variable {X:Cx}{x f:E_}{e:P3}{te:TD}{pos c7 p:Q_}{rest:List Q0}{tr:TID}
def rn:TID:=λ_ fs R=>R fs
def yc(f:E_)(te:TD)(tr:TID):TID:=λz fs R=>te z λd=>fs.length<1000/\tr z (putD f d fs) R
def dq[Jx]:WDI X x [] rn:=⟨pss_nil.anti λE s H q=>by
 obtain⟨C,a,dx,ws,F,z,fs,hn,h0,d7,l5,g5,g,rs,rf,R,hR,k⟩:=q;exact k fs ws F H g hR d7 g5 rf⟩
def RepS.other{K:Ex}{B F H:Hp}{z:SD}{σ:L2.St}{a:Addr}{o o':HO}(rs:RepS K B F H z σ)(h:H a=be o)(hl:∀vs,o≠.lst vs):RepS K B F (upd H a o') z σ:=
 ⟨rs.len,rs.val,λi ds e=>by
  obtain⟨b,vs,q1,q2,q⟩:=rs.own i ds e;have ne:b≠a:=by
   rintro rfl;rw[h]at q2;cases q2;exact hl vs rfl
  exact#[b,vs,q1,by rw[aj ne];exact q2,q],rs.apart⟩
def bB[J:Jx]{ps:Q_}{sx:E_}(hA:ClsA X.K x f)(he:WDE X e te)(hr:WDI X x rest tr)(hN:autoParam (X.N[0]?=be sx) zA0)(hv:autoParam (Vis X.env.scope sx) zA5)(hd:autoParam (zND sx) zA1)
  (d_:autoParam (zNC sx) zA1) (hs:autoParam (Rh e (be (.Attribute (.Name sx ps) f c7)) pos.line X.env=pure false) zA0):WDI X x (.Assign [.Attribute (.Name sx ps) f c7] e pos::rest) (yc f te tr):=⟨have he:=he.out;have hr:=hr.out;(dN (pS (cG (i:=0) hN hv hd d_) he hs) hr).anti λE s H q=>by
 obtain⟨C,a,dx,ws,F,z,fs,hn,h0,d7,l5,g5,g,rs,rf,R,hR,k⟩:=q;obtain⟨C',f8,hc,hf⟩:=hA;rw[hn]at f8;cases f8;refine#[_,F,z,g,rs,_,hR,λd v F2 H2 g2 hx rv=>?_];have k2:=g.grow g2;have Od:=g2.hh a _ d7;have Iv:F2 a=none:=g2.out a g5 (by rw[d7];exact λz=>nomatch z);refine#[.ref a,h0,a,C,dx,ws,rfl,Od,hc,hf,by rw[rf.length];exact hx.1,?_];have Pq:Same F2 (upd H2 a (.ins C dx (putF f v ws))):=λb o q=>by
  have ne:b≠a:=by rintro rfl;rw[Iv]at q;cases q
  rw[aj ne];exact g2.fh b o q
 have IP:Same J.B (upd H2 a (.ins C dx (putF f v ws))):=λb o q=>by
  have ne:b≠a:=by rintro rfl;rw[l5]at q;cases q
  rw[aj ne];exact k2.bh b o q
 exact#[C,a,dx,putF f v ws,F2,z,putD f d fs,hn,h0,aw,l5,Iv,#[IP,Pq,k2.f0,k2.out,k2.eb,k2.jf,k2.jo],(rs.grow g2).other Od (λ_ z=>nomatch z),RepF.put rv (RepF.mono g2.ff fs ws rf),R,hx.2,k]⟩
end
section
variable {P:Pi}{w:Q2}{K:Ex}{mg:E_->Option KB}{base:Heap}
def rq{K:Ex}{B F H:Hp}{z:SD}{σ:L2.St}{v:V}(rs:RepS K B F H z σ):RepS K B F H (z8::z) (be v::σ):=
  ⟨by rw[Fc,Fc,rs.len],λi d e no=>by
    cases i with
    |zero=>cases e
    |succ i=>exact rs.val i d e no,λi ds e=>by
    cases i with
    |zero=>cases e
    |succ i=>exact rs.own i ds e,λi j di dj a e1 e2 e3 e4=>by
    cases i with
    |zero=>cases e1
    |succ i=>
      cases j with
      |zero=>cases e2
      |succ j=>rw[rs.apart i j di dj a e1 e2 e3 e4]⟩
def Cls.okI{x qual:E_}{st:Q0}{f C:Addr}{fd:Q8}{N:List E_}{p0:E_}{ps:List E_}{k:Nat}{S:SiD}(T:Fun K "__init__" qual st f fd)(hb:Binds K fd (p0::ps) [])(F:FnScope (p0::N) (p0::ps) (ag st))(len:∀ds R,S ds R->ds.length=ps.length)
  (hns:nsIn K Os x=be (be (.ref C))) (i8:mg x=be (.ref C)) (mk:Mk K C f)
  (a9:∀(cdv:KB) (A:Q3) (outer:List RI) (s:KF) (H:Hp) (E:XK) (J:Jx),Room k (A.deeper (Ra qual (ag st) s.heap.objs.size f cdv))->
   ∃t,DI (cxOf (Exc.CX1 P w) P w K mg base (p0::N) qual (ag st) f cdv A outer s H E).nox x (aE st) t/\∀ds R,S ds R->t (z8::startD N ds) [] R):CalM P w K mg base (k+1) x (p0::ps) S:=by
 refine#[C,f,fd,hns,i8,mk,Fun.okC T F (λvs H Q E h=>?_) (λcdv A outer s H vs Q E hr h=>?_),hb]
 .obtain⟨a,dx,us,H1,F,ds,rfl,_,_,_,_,_,rs,R,h,_⟩:=h;rw[Fc,Fc,rs.length,len ds R h]
 .obtain⟨a,dx,us,H1,F1,ds,rfl,rfl,ha,m9,j3,fh,rs,R,h,q⟩:=h
  letI:Jx:=#[H1,F1,λ_ _ _=>False]
  obtain⟨t,ht,hq⟩:=a9 cdv A outer s _ E inferInstance hr;have Fa:F1 a=none:=fh.free ha;have hl:L2.start (p0::N) (.ref a::us)=be (.ref a)::L2.start N us:=by
   unfold L2.start;rw[Ft,Fc,Fc,HG];rfl
  have s1:Same H1 (upd (upd H1 dx (.own a)) a (.ins C dx [])):=(aR m9 _).trans (aR (by rw[aj (Ne.symm j3)];exact ha) _);refine#[_,ht.nox,C,a,dx,[],F1,z8::startD N ds,[],hns,by rw[hl];rfl,aw,ha,Fa,#[s1,fh.trans s1,Same.refl F1,λ_ h _=>h,rfl,Same.refl F1,λ_ h _=>h],?_,repf_nil.mpr rfl,R,hq ds R h,λj9 Jn F' H' g hR d7 g5 rf=>q j9 Jn dx F' H' #[g.f0,g.fh,g.bh,g.out] hR d7 g5 rf];rw[hl];exact rq (dg rs)
end
section
variable {X:Cx}{a b c e:P3}{ta tb tc te:TD}{pos:Q_}
def yd(t u:TD):TDI:=λz R=>t z λx=>u z λy=>match x,y with|.int i,.int j=>(-(2^62)<=i/\i<2^62/\-(2^62)<=j/\j<2^62)/\R ((E8 (j-i).toNat).map λk=>D.int (i+((k:Nat):Int)))|_,_=>False
def ye[Jx](i:Nat){x:E_}{p p1 p2:Q_}{body:List Q0}{Oe:TSD}(hp:Rm (QZ X.prog X.w) X.A X.env X.xe)(hc:X.calm=true)(hN:X.N.Nodup)(hm:X.mg "range"=z8)(ha:WDE X a ta)(f7:WDE X b tb)(hb:WDSs X body Oe)(hg:autoParam (Gl X "range") zA0)(hi:autoParam (X.N[i]?=be x) zA0)(hx:autoParam (Loc X.env.scope x) zA4)
  (hf:autoParam (zFN X x) zA2) (hs:autoParam (∀y,zFS X (.Call (.Name "range" p1) [a,b] [] p2) y) zA3) (o_:autoParam (zSE X a [b]) zA0) (L5:autoParam (zSE X b []) zA0) (f_:autoParam (Q4 [a,b] X.env=[(false,Q7 a X.env),(false,Q7 b X.env)]) zA0) (L6:autoParam (Q4 [b] X.env=[(false,Q7 b X.env)]) zA0):WDS X (.For (.Name x p) (.Call (.Name "range" p1) [a,b] [] p2) body [] pos) (dFor i (yd ta tb) Oe):=⟨have ha:=ha.out;have f7:=f7.out;have hb:=hb.out;(cN hp hc (vE hg hm (bo ha (bo f7 pa_nil L5) o_) f_ L6) (dO hN hi hx hf) hb hs).anti λE s H q=>by
 obtain⟨B,F0,F,z,kp,rs,ED,h,e⟩:=q;refine#[B,F,z,kp.kf,rs,_,h,λd1 v1 F1 H1 g1 h1 r1=>?_];refine#[B,F1,z,kp.kf.grow g1,rs.grow g1,_,h1,λd2 v2 F2 H2 g2 h2 r2=>?_];split at h2
 .rename_i lo l_;obtain⟨bd,W,w0,c3,out⟩:=h2;have hl:((E8 (l_-lo).toNat).map λk=>D.int (lo+((k:Nat):Int))).length=(l_-lo).toNat:=by simp
  refine#[lo,l_,by rw[rep_int.mp r1,rep_int.mp r2],bd,ji (lo:=lo) (n:=(l_-lo).toNat) (λk s' H'=>∃F' z',Kept B F0 F' H'/\RepS X.K B F' H' z' s'/\W k z') #[F2,z,(kp.grow g1).grow g2,(rs.grow g1).grow g2,w0] ?_ ?_]
  .rintro k s' H' hk⟨F',z',k',r',w'⟩;exact#[B,F0,F',_,k',r'.set (d:=.int (lo+(k:Int))) (rep_int.mpr rfl),_,c3 k (.int (lo+(k:Int))) z' (by simp[hk]) w',#[λz3 s3 F3 H3 k3 h3 r3=>#[F3,z3,k3,r3,h3],e.rt,e.nx,λz3 s3 F3 H3 k3 h3 r3=>#[F3,z3,k3,r3,h3]]]
  .rintro s' H'⟨F',z',k',r',w'⟩;exact e.nx z' s' F' H' k' (out z' (by rw[hl];exact w')) r'
 .exact h2.elim⟩
def RepS.change[Jx]{K:Ex}{B F0 F H:Hp}{z:SD}{s:L2.St}{i:Nat}{ds L7:List D}{a:Addr}{l6:List V}(rs:RepS K B F H z s)(k:Kept B F0 F H)(ez:z[i]?=be (be (.own ds)))(q1:s[i]?=be (be (.ref a)))(hB:B a=z8)(hF:F a=z8)(r:Reps K F L7 l6):
  Kept B F0 F (upd H a (.lst l6))/\RepS K B F (upd H a (.lst l6)) (z.set i (be (.own L7))) s:=by
 have Sf:∀{G:Hp},G a=z8->Same G H->Same G (upd H a (.lst l6)):=λ{G} ga gs b o eb=>by
  have ne:b≠a:=λz=>by rw[z,ga]at eb;cases eb
  rw[aj ne];exact gs b o eb
 have r2:=rs.setOwn (i:=i) (a:=a) (vs:=l6) (ds:=L7) hB hF r (λj dj hj e1 e2=>hj (rs.apart j i dj ds a e1 ez e2 q1));have es:s.set i (be (.ref a))=s:=by
  apply Ge;intro n;by_cases hn:i=n
  .subst hn;rw[FI (Fk.mp q1).1,q1]
  .rw[Fj hn]
 rw[es]at r2;exact#[#[Sf hB k.bh,Sf hF k.fh,k.f0,k.out,k.eb,k.jf,k.jo],r2]
def Reps.put{K:Ex}{F:Hp}{d:D}{v:V}(r:Rep K F d v):∀{ds:List D} {vs:List V} (j:Nat),Reps K F ds vs->Reps K F (ds.set j d) (vs.set j v)
 |[],vs,j,h=>by rw[reps_nil.mp h];exact reps_nil.mpr rfl
 |x::ds,vs,0,h=>by
  obtain⟨u,us,rfl,h1,h2⟩:=reps_cons.mp h;exact reps_cons.mpr #[v,us,rfl,r,h2]
 |x::ds,vs,j+1,h=>by
  obtain⟨u,us,rfl,h1,h2⟩:=reps_cons.mp h;exact reps_cons.mpr #[u,_,rfl,h1,Reps.put r j h2]
def rA(i:Nat)(te ti:TD):TSD:=λE z=>match z[i]? with
 |some (be (.own ds))=>te z λd=>ti z λy=>match y with|.int k=>∃j,ixN ds.length k=be j/\E.nx (z.set i (be (.own (ds.set j d))))|_=>False
 |_=>False
def yf[Jx](i:Nat){x:E_}{p1 p2:Q_}(he:WDE X e te)(hb:WDE X b tb)(hN:autoParam (X.N[i]?=be x) zA0)(hv:autoParam (Vis X.env.scope x) zA5)(hd:autoParam (zND x) zA1)
  (d_:autoParam (zNC x) zA1)
  (ha:∀v,RA (.Subscript (.Name x p1) b p2) X.env v=(do
   let ov <-Rq [v] (Q7 (.Name x p1) X.env)
   let iv <-Rq [v,ov] (Q7 b X.env)
   RK p2
   Rq [v,ov,iv] (Sv ov iv v)
   SZ [v,ov,iv] []):=by intro _;rfl)
  (hs:autoParam (RQ [.Subscript (.Name x p1) b p2] e pos.line X.env=pure false) zA0) (hw:autoParam (RR [.Subscript (.Name x p1) b p2] e X.env=pure none) zA0)
  (h1:autoParam ((Q5 [.Subscript (.Name x p1) b p2] X.env).map (·.2)=[RA (.Subscript (.Name x p1) b p2) X.env]) zA0):WDS X (.Assign [.Subscript (.Name x p1) b p2] e pos) (rA i te tb):=⟨have he:=he.out;have hb:=hb.out;(fU he (vq (cG hN hv hd d_) hb ql ha) hs hw h1).anti λE s H q=>by
 obtain⟨B,F0,F,z,k,rs,ED,h,e⟩:=q;unfold rA at h;split at h
 .rename_i ds ez;refine#[B,F,z,k.kf,rs,_,h,λd v F1 H1 g1 hx rv=>?_];obtain⟨a,vs,q1,q2,q3,q4,q5⟩:=(rs.grow g1).own i ds ez;refine#[.ref a,q1,B,F1,z,k.kf.grow g1,rs.grow g1,_,hx,λy w F2 H2 g2 hy ry=>?_];split at hy
  .obtain⟨j,ej,hn⟩:=hy;have r2:=(rs.grow g1).grow g2;have k2:=(k.grow g1).grow g2;have Iv:F2 a=none:=g2.out a q4 (by rw[q2];exact λz=>nomatch z);refine#[a,vs,_,j,rfl,rep_int.mp ry,g2.hh _ _ q2,by rw[q5.length];exact ej,?_];obtain⟨k3,r3⟩:=r2.change k2 ez q1 q3 Iv (Reps.put (rv.mono g2.ff) j (q5.mono g2.ff));exact e.nx _ s F2 _ k3 hn r3
  .exact hy.elim
 .exact h.elim⟩
end
end My
namespace My
open Exc
abbrev XD:=E_->List (E_×D)->Prop
def ErrD(K:Ex)(F:Hp)(x:E_)(fs:List (E_×D))(C:Addr)(od:Option Addr):Prop:=
 nsIn K Os x=be (be (.ref C))/\∃vs,RepF K F fs vs/\((od=z8/\vs=[])\/∃b,od=be b/\F b=be (.xd vs))
abbrev SpX:=List D->(D->Prop)->XD->Prop
def lSpX(K:Ex)(S:SpX):Sp:=λvs H Q E=>∃F ds,Same F H/\Reps K F ds vs/\∃(R:D->Prop) (RX:XD),S ds R RX/\(∀d v F' H',Grow F H F' H'->R d->Rep K F' d v->Q v H')/\
 ∀x fs C od F' H',Grow F H F' H'->RX x fs->ErrD K F' x fs C od->E (.ref C) od H'
def Exd(X:Cx)(H:Hp)(s:KF)(e C:Addr)(od:Option Addr):Prop:=
  H e=z8/\X.s₀.heap.get? e=z8/\(∀p∈X.pn,p.1≠e)/\
  ((∃sl vs,s.heap.get? e=be #[.ref C,od,.fields vs,sl]/\vs[1]?=be .none)\/
    ∃T,ExAt s.heap e C od T .none/\X.s₀.heap.get? T=z8/\H T=z8/\∀p∈X.pn,p.1≠T)
def XOk(X:Cx)[J:Jx]:Prop:=∀(σ:L2.St) (z:SD) (F H:Hp) (s:KF) (e C:Addr) (od:Option Addr) (x:E_) (fs:List (E_×D)),Inv X [] σ H s->Kept J.B J.F0 F H->RepS X.K J.B F H z σ->J.RX z x fs->ErrD X.K F x fs C od->Exd X H s e C od->X.xe (.ref e) s
variable{X:Cx}{pins:List (Addr×Re)}{σ:L2.St}{H:Hp}{s:KF}
def Inv.nopins(I:Inv X pins σ H s):Inv X [] σ H s:=I.pins_of λp hp=>by cases hp
section
variable {X:Cx}{k:Nat}{f:Addr}{fd:Q8}{ps:List E_}{sp:Sp}{E:XK}
def gw{pins:List (Addr×Re)}{σ:L2.St}{H:Hp}{s:KF}{Q:VK}{us:List KB}{vs:List V}(F:FnOk X.prog X.w X.K X.mg X.base (CX1 X.prog X.w) k f fd ps sp)(hr:Room k X.A)(hb:Binds X.K fd ps [])
  (hx:∀e s',CX1 X.prog X.w X.stack H s E e s'->X.xe e s') (I:Inv X pins σ H s) (r:Vals vs us) (h:sp vs H Q E):Q1 (QZ X.prog X.w) X.A (call (.ref f) us) (EP X pins σ Q) X.xe s:=by
 have hl:us.length=ps.length:=by rw[<-L2.Vals.length r];exact F.len _ _ _ _ h
 have f7:=hb s us I.kIn (by rw[FE];exact hl);rw[FE]at f7;refine Rz (Rw (F.run X.A X.stack s H #[us,[]] us vs Q E hr I.env0 f7 r h) λr s' hq=>?_);cases r with
 |error e=>exact hx e s' hq
 |ok fl=>
  cases fl with
  |ret u=>exact I.after hq
  |next=>exact False.elim hq
  |brk=>exact False.elim hq
  |cont=>exact False.elim hq
end
variable{b:Addr}
def cA(I:Inv X pins σ H s)(d6:X.ex=[])(q:s.heap.get? b=z8):X.s₀.heap.get? b=none:=by
 cases z:X.s₀.heap.get? b with
 |none=>rfl
 |some o=>
  obtain⟨o',z'⟩:=I.base.there b o z (by rw[d6];simp);rw[q]at z';cases z'
def pn_free(I:Inv X pins σ H s)(q:s.heap.get? b=z8):∀p∈X.pn,p.1≠b:=λp hp z=>by
 have:=(I.pin p (Ga _ hp)).1;rw[z,q]at this;cases this
def XOk.out[J:Jx](hx:XOk X)(d6:X.ex=[]){z:SD}{s':KF}{ev:KB}(I:Inv X pins σ H s)
  (h:CX1 X.prog X.w X.stack H s (λCv od H'=>∃x fs C F',Cv=.ref C/\Kept J.B J.F0 F' H'/\RepS X.K J.B F' H' z σ/\J.RX z x fs/\ErrD X.K F' x fs C od) ev s'):X.xe ev s':=by
 obtain⟨e,C,od,T,H',rfl,G_,hb,un,hok,L8,ne,nT,He,HT,x,fs,C',F',hC,kk,rr,hR,er⟩:=h;cases hC;have I':Inv X pins σ H' s':=I.call' G_ un hok hb (λb z=>absurd z J4);exact hx σ z F' H' s' e C od x fs (Inv.nopins I') kk rr hR er #[He,cA I d6 ne,pn_free I ne,.inr #[T,L8,cA I d6 nT,HT,pn_free I nT]]
abbrev CalX(P:Pi)(w:Q2)(K:Ex)(mg:E_->Option KB)(base:Heap)(n:Nat)(x:E_)(ps:List E_)(S:SpX):Prop:=Cal P w K mg base n x ps (lSpX K S)
def yg[J:Jx](S:SpX)(t:TDA):TD:=λz R=>t z λds=>S ds R (J.RX z)
variable{ps:List E_}{x:E_}
def rB[J:Jx]{pos:Q_}{n m:Nat}{S:SpX}{p:Q_}{e:P3}{es:List P3}{t:TDA}(C:CalX X.prog X.w X.K X.mg X.base n x ps S)(hx:XOk X)(hr:Room m X.A)(ha:WDA X (e::es) t)(d6:autoParam (X.ex=[]) zA0)(hg:autoParam (Gl X x) zA0)(hn:autoParam (n<=m) zA1)(c_:autoParam (zND x) zA1)
  (he:autoParam (zSE X e es) zA0) (c5:autoParam (zPL X pos es) zA0):WDE X (.Call (.Name x p) (e::es) [] pos) (yg S t):=⟨by
 have ha:=ha.out;obtain⟨f,fd,F,hb,hk,hm⟩:=C;intro pins s σ H Q I h;obtain⟨B,Fr,z,kf,rs,R,h1,h2⟩:=h;obtain rfl:B=J.B:=kf.eb;refine Rb (cj I hg hm ?_ c_);refine callWith_K (h₀:=X.base) I.ok.mod.kin hk (thn (ha pos pins s σ H (λvs H1=>lSpX X.K S vs H1 Q (λCv od H'=>∃x fs C F',Cv=.ref C/\Kept J.B J.F0 F' H'/\RepS X.K J.B F' H' z σ/\J.RX z x fs/\ErrD X.K F' x fs C od)) I #[_,Fr,z,kf,rs,_,h1,λds vs F1 H1 g1 hx rx=>?_]) λus s1 ⟨vs,H1,I1,r,q⟩=>#[I1.kIn,?_]) he c5
 .exact#[F1,ds,g1.fh,rx,R,J.RX z,hx,λd v F' H' g=>h2 d v F' H' (g1.trans g),λx fs C od F' H' g hR er=>#[x,fs,C,F',rfl,(kf.grow g1).grow g,(rs.grow g1).grow g,hR,er]]
 .exact gw F (hr.mono hn) hb (λe s' hq=>hx.out d6 I1 hq) I1 r q⟩
section
variable {P:Pi}{w:Q2}{K:Ex}{mg:E_->Option KB}{base:Heap}
variable{N:List E_}
def rC{qual:E_}{scope:Rr}{f:Addr}{cd:KB}{A:Q3}{outer:List RI}{s:KF}{H:Hp}{E':XK}{pins:List (Addr×Re)}{σ:L2.St}{H':Hp}{s':KF}{e C T:Addr}{od:Option Addr}
  (I':Inv (cxOf (CX1 P w) P w K mg base N qual scope f cd A outer s H E') pins σ H' s') (hx:ExAt s'.heap e C od T .none) (ne:s.heap.get? e=z8) (nT:s.heap.get? T=z8) (He:H' e=z8) (HT:H' T=z8) (hE:E' (.ref C) od H'):
  (cxOf (CX1 P w) P w K mg base N qual scope f cd A outer s H E').xe (.ref e) s':=by
 show Q1 _ _ (Sx _ _) _ _ _;unfold Sx;refine KM (qy I'.ok.frames I'.stack rfl hx λh2 T2 l9 v4 o7=>flight_none (s:={s' with heap:=h2}) l9 λh3 Kj z9=>?_);have Iq:s'.heap.get? T2=none:=Heap.get?_none_of_le v4;have f1:∀b,s'.heap.get? b=z8->s.heap.get? b=none:=λb q=>cA I' rfl q;have hok:HOk P w H' s'.heap:=I'.hok;have IN:H' T2=none:=hok.fresh v4;have Pr:∀b∈[T,e],s.heap.get? b=none:=λb hb=>by
  rcases Fb.mp hb with z|z
  .rw[z];exact nT
  .rw[E6.mp z];exact ne
 have u2:Un (frs outer) [] H H' s.heap h2:=fZ (show Un (frs outer) [] H H' s.heap s'.heap from I'.base) o7 Pr λb hb=>qz hb;have u3:Un (frs outer) [] H H' s.heap h3:=fZ u2 z9 (λb hb=>by rw[E6.mp hb];exact f1 T2 Iq) λb hb=>by cases hb
 have k2:=fm hok o7 (λb hb=>I'.stkFree b hb) (λb hb=>by
  rcases Fb.mp hb with z|z
  .rw[z];exact HT
  .rw[E6.mp z];exact He)
 have k3:=fm k2 z9 (λb hb=>by cases hb) (λb hb=>by rw[E6.mp hb];exact IN);exact#[e,C,od,T2,H',rfl,I'.os,I'.bare,u3,k3,Kj,ne,f1 T2 Iq,He,IN,hE]
variable{ps:List E_}
def _root_.L2.Fun.okX{x:E_}{st:Q0}{f:Addr}{fd:Q8}{k:Nat}{S:SpX}(T:Fun K x x st f fd)(F:FnScope N ps (ag st))(len:∀ds R RX,S ds R RX->ds.length=ps.length)
  (a9:∀(cdv:KB) (A:Q3) (outer:List RI) (s:KF) (H:Hp) (E:XK) (J:Jx),Room k (A.deeper (Ra x (ag st) s.heap.objs.size f cdv))->XOk (cxOf (CX1 P w) P w K mg base N x (ag st) f cdv A outer s H E)->
   ∃t,DSs (cxOf (CX1 P w) P w K mg base N x (ag st) f cdv A outer s H E) (aE st) t/\∀ds R RX,(∀z,J.RX z=RX)->S ds R RX->t {nx:=λ_=>R .non,rt:=R} (startD N ds)):FnOk P w K mg base (CX1 P w) (k+1) f fd ps (lSpX K S):=by
 refine Fun.okC T F (λvs H Q E h=>?_) (λcdv A outer s H vs Q E hr h=>?_)
 .obtain⟨F,ds,fh,rs,R,RX,h,_⟩:=h;rw[rs.length];exact len ds R RX h
 .obtain⟨F,ds,fh,rs,R,RX,h,q,qx⟩:=h
  letI:Jx:=#[H,F,λ_=>RX]
  have hx:XOk (cxOf (CX1 P w) P w K mg base N x (ag st) f cdv A outer s H E):=by
   intro σ z F' H' s' e C od y fs I kk rr hR er ⟨He,ne,_,hx⟩;have hE:E (.ref C) od H':=qx y fs C od F' H' #[kk.f0,kk.fh,kk.bh,kk.out] hR er;rcases hx with⟨sl,vs,h1,h2⟩|⟨T,h1,h2,h3,_⟩
   .exact qA I h1 h2 He ne hE
   .exact rC I h1 ne h2 He h3 hE
  obtain⟨t,ht,hq⟩:=a9 cdv A outer s H E inferInstance hr hx;refine#[_,ht,H,F,F,startD N ds,#[Same.refl H,fh,Same.refl F,λ_ h _=>h,rfl,Same.refl F,λ_ h _=>h],dg rs,_,hq ds R RX (λ_=>rfl) h,#[λz' s' F' H' k hn _=>q _ _ F' H' #[k.f0,k.fh,k.bh,k.out] hn (rep_non.mpr rfl),λd v F' H' k hd rd=>q d v F' H' #[k.f0,k.fh,k.bh,k.out] hd rd,λ_ _ _ _ _ h _=>h.elim,λ_ _ _ _ _ h _=>h.elim]]
def Tx.okX{x:E_}{st:Q0}{k:Nat}{S:SpX}(T:Tx K mg x st ps)(F:FnScope N ps (ag st))(len:∀ds R RX,S ds R RX->ds.length=ps.length)
  (a9:∀(f:Addr) (cdv:KB) (A:Q3) (outer:List RI) (s:KF) (H:Hp) (E:XK) (J:Jx),Room k (A.deeper (Ra x (ag st) s.heap.objs.size f cdv))->XOk (cxOf (CX1 P w) P w K mg base N x (ag st) f cdv A outer s H E)->
   ∃t,DSs (cxOf (CX1 P w) P w K mg base N x (ag st) f cdv A outer s H E) (aE st) t/\∀ds R RX,(∀z,J.RX z=RX)->S ds R RX->t {nx:=λ_=>R .non,rt:=R} (startD N ds)):CalX P w K mg base (k+1) x ps S:=by
 obtain⟨f,fd,T,hb,hm⟩:=T;exact#[f,fd,T.okX F len λcdv A outer s H E J hr hx=>a9 f cdv A outer s H E J hr hx,hb,T.kp,hm]
end
variable{P:Pi}{w:Q2}{h:Heap}
def ObjOk.there{a:Addr}{o:HO}(x:ObjOk P w H h a o):∃u,h.get? a=be u:=by
 cases o with
 |lst xs=>obtain⟨_,_,_,_,e⟩:=x;exact#[_,e]
 |tup xs=>obtain⟨_,_,_,o,e,_⟩:=x;exact#[_,e]
 |dK a8=>obtain⟨_,_,_,_,o,_,_,e,_⟩:=x;exact#[_,e]
 |dT a8=>obtain⟨_,_,_,_,o,_,_,e,_⟩:=x;exact#[_,e]
 |set S n=>obtain⟨o,_,_,_,e,_⟩:=x;exact#[_,e]
 |ins C dx fs=>obtain⟨_,_,_,e,_⟩:=x;exact#[_,e]
 |own y=>exact x
 |xd fs=>obtain⟨_,⟨_,_,_,e,_⟩,_⟩:=x;exact#[_,e]
 |rng lo hi=>obtain⟨_,_,_,e⟩:=x;exact#[_,e]
 |frz ob u=>obtain⟨e,_⟩:=x;exact#[_,e]
 |tbl ps=>exact#[_,(show h.get? a=be _ from x)]
 |met f y=>exact#[_,(show h.get? a=be _ from x)]
 |ext φ=>obtain⟨_,e,_⟩:=x;exact e
def fv{a:Addr}(x:HOk P w H h)(e:h.get? a=z8):H a=none:=by
 cases q:H a with
 |none=>rfl
 |some o=>
  obtain⟨u,hu⟩:=ObjOk.there (x a o q);rw[e]at hu;cases hu
def del(H:Hp)(a:Addr):Hp:=λb=>if b=a then z8 else H b
def fw{a:Addr}:del H a a=none:=by unfold del;rw[if_pos rfl]
def bX{a:Addr}(h:b≠a):del H a b=H b:=by unfold del;rw[if_neg h]
section
variable {X:Cx}{pins:List (Addr×Re)}{σ:L2.St}{H:Hp}{s:KF}{e:Addr}
variable{φ:Heap->Prop}
def Inv.drop(I:Inv X pins σ H s)(h:H e=be (.ext φ))(ne:X.s₀.heap.get? e=z8):Inv X pins σ (del H e) s:=by
 have nx:∀b o,H b=be o->(∀φ,o≠.ext φ)->b≠e:=λb o q n z=>by rw[z,h]at q;cases q;exact n φ rfl
 refine#[I.ok,I.os,I.bare,#[I.base.keep,I.base.slot,λb o q n hx=>?_,I.base.there,λb xs q=>?_,λb o u q=>?_,λb ps q=>?_],I.loc,I.cell,?_,λx c q=>?_,λp hp=>?_,λa o q=>?_,I.len]
 .have:b≠e:=λz=>by rw[z,ne]at q;cases q
  rw[bX this];exact I.base.free b o q n hx
 .have:=I.base.tups b xs q;rw[bX (nx b _ this λφ z=>nomatch z)];exact this
 .have:=I.base.frzs b o u q;rw[bX (nx b _ this λφ z=>nomatch z)];exact this
 .obtain⟨m,this⟩:=I.base.tbls b ps q;exact#[m,by rw[bX (nx b _ this λφ z=>nomatch z)];exact this]
 .by_cases z:X.env.locals=e
  .rw[z];exact fw
  .rw[bX z];exact I.free
 .by_cases z:c=e
  .rw[z];exact fw
  .rw[bX z];exact I.freeC x c q
 .obtain⟨h1,h2,h3⟩:=I.pin p hp;refine#[h1,?_,h3];by_cases z:p.1=e
  .rw[z];exact fw
  .rw[bX z];exact h2
 .by_cases z:a=e
  .rw[z,fw]at q;cases q
  .rw[bX z]at q;exact(I.hok a o q).stay (λb u _ r=>r) (λb r=>by rw[bX (nx b _ r λφ z=>nomatch z)];exact r) λb xs r=>by rw[bX (nx b _ r λφ z=>nomatch z)];exact r
def Inv.adopt(I:Inv X pins σ H s)(He:H e=z8)(ok:ObjOk X.prog X.w H s.heap e (.ext φ))(ne:X.s₀.heap.get? e=z8)(hl:e≠X.env.locals)(hc:∀x c,X.env.cells.lookup x=be c->c≠e)(hp:∀p∈X.pn++pins,p.1≠e):Inv X pins σ (upd H e (.ext φ)) s:=by
 refine#[I.ok,I.os,I.bare,#[I.base.keep,I.base.slot,λb o q n hx=>?_,I.base.there,λb xs q=>?_,λb o u q=>?_,λb ps q=>?_],I.loc,I.cell,?_,λx c q=>?_,λp JH=>?_,λa o q=>?_,I.len]
 .have:b≠e:=λz=>by rw[z,ne]at q;cases q
  rw[aj this];exact I.base.free b o q n hx
 .have:=I.base.tups b xs q;rw[aj (bw this He)];exact this
 .have:=I.base.frzs b o u q;rw[aj (bw this He)];exact this
 .obtain⟨m,this⟩:=I.base.tbls b ps q;exact#[m,by rw[aj (bw this He)];exact this]
 .rw[aj (Ne.symm hl)];exact I.free
 .rw[aj (hc x c q)];exact I.freeC x c q
 .obtain⟨h1,h2,h3⟩:=I.pin p JH;refine#[h1,?_,h3];rw[aj (hp p JH)];exact h2
 .by_cases z:a=e
  .rw[z,aw]at q;cases q;rw[z];exact ok
  .rw[aj z]at q;exact(I.hok a o q).stay (λb u _ r=>r) (λb r=>by rw[aj (bw r He)];exact r) λb xs r=>by rw[aj (bw r He)];exact r
end
structure ErrK(K:Ex)(mg:Str->Option KB)(x:Str)(C N:Addr)(bm:List KB):Prop where
 ns:nsIn K Os x=be (be (.ref C))
 mg:mg x=be (.ref C)
 kp:keepIn K (.ref C)=true
 obj:∃nm q bs sn sub ab col dd k0 k1 k2 k3 k5,K.lookup C=be (Rj nm q C N bs bm true sn sub ab col dd k0 k1 k2 k3 k5 "ValueError.__new__")
 tail:tailIn K veLine bm=true
structure ErrN(K:Ex)(N:Addr):Prop where
 ok:nsOkIn K N=true
 no:nsIn K N "__init__"=be z8
def jP{K:Ex}:∀{l:List KB},tailIn K veLine l=true->aK l=true
 |[],e=>by simp[tailIn,veLine]at e
 |v::r,e=>by
  unfold tailIn at e;rcases Bool.or_eq_true_iff.mp e with q|q
  .rw[beq_iff_eq.mp q];decide+kernel
  .split at q
   .split at q
    .simp only[Fx,beq_iff_eq]at q;unfold aK;exact jP q.2
    .cases q
   .cases q
variable{K:Ex}{mg:E_->Option KB}{C N:Addr}{bm:List KB}
def ErrK.base(k:ErrK K mg x C N bm):bm.contains (.type "BaseException")=true:=dS Je (jP k.tail)
section
variable {X:Cx}[J:Jx]{x:E_}{C N:Addr}{bm:List KB}{e:P3}{es:List P3}{t:TDA}{p cpos pos:Q_}
def yi(x:E_)(t:TDA):TSD:=λ_ z=>t z λds=>ds.length<=1000/\J.RX z x []
def yj(h:∃C N bm,ErrK X.K X.mg x C N bm/\ErrN X.K N)(hx:XOk X)(hc:X.calm=true)(ha:WDA X (e::es) t)(d6:autoParam (X.ex=[]) zA0)(hg:autoParam (Gl X x) zA0)(c_:autoParam (zND x) zA1)
  (he:autoParam (zSE X e es) zA0) (c5:autoParam (zPL X cpos es) zA0):WDS X (.Raise (be (.Call (.Name x p) (e::es) [] cpos)) z8 pos) (yi x t):=⟨by
 have ha:=ha.out;obtain⟨C,N,bm,k,kn⟩:=h;intro pins s σ H D I h;obtain⟨B,F0,F,z,kf,rs,ED,h,ee⟩:=h;obtain rfl:B=J.B:=kf.eb;obtain⟨nm,q,bs,sn,sub,ab,col,dd,k0,k1,k2,k3,k5,lk⟩:=k.obj;refine jz (nm:=nm) (q:=q) (C:=C) (N:=N) (bs:=bs) (bm:=bm) (hdct:=true) (sn:=sn) (sub:=sub) (ab:=ab) (col:=col) (dd:=dd) (k0:=k0) (k1:=k1) (k2:=k2) (k3:=k3) (k5:=k5) (newId:="ValueError.__new__") k.base (I.ok.hd hc) ?_;refine Rb (cj I hg k.mg ?_ c_);refine callWith_K (h₀:=X.base) I.ok.mod.kin k.kp (thn (ha cpos pins s σ H (λvs H1=>∃F1,vs.length<=1000/\Grow F H F1 H1/\J.RX z x []) I #[_,F,z,kf.kf,rs,_,h,λds vs F1 H1 g1 hx rx=>#[F1,by rw[rx.length];exact hx.1,g1,hx.2]]) λus s1 hh=>#[hh.elim λ_ h=>h.elim λ_ h=>h.1.kIn,?_]) he c5;obtain⟨vs,H1,I1,r,F1,hl,g1,hR⟩:=hh;have hC:=I1.kIn _ _ lk;obtain⟨hp,gg,dr,tk,os⟩:=s1;refine SO PySem.F.excBase_ValueError (tail_of_in I1.kIn k.tail) hC (.of_isNs (isNs_of_in I1.kIn kn.ok)) (nsMap_none_of_in I1.kIn kn.ok kn.no) (λh' ea hm=>?_) (by show us.length<=_;rw[<-L2.Vals.length r];exact sz hl);obtain⟨ta,h1,h2,h3⟩:=hm.there;have I2:Inv X pins σ H1 #[h',gg,dr,tk,os]:=I1.kept (t':=tk) hm.keeps;refine#[ea,ta,z8,[].toArray,rfl,hm.keeps _ _ hC,h1,?_];exact hx σ z F1 H1 _ ea C z8 x [] (Inv.nopins I2) (kf.kf.grow g1) (rs.grow g1) hR #[k.ns,[],repf_nil.mpr rfl,.inl #[rfl,rfl]] #[fv I1.hok hm.new,cA I1 d6 hm.new,pn_free I1 hm.new,.inl #[[].toArray,_,h1,rfl]]⟩
end
def XN(e C:Addr)(od:Option Addr):HO:=.ext λh=>∃t sl,h.get? e=be #[.ref C,od,.fields [.ref t,.none,.none,.none,.bool false,.none].toArray,sl]
variable{e:Addr}{od:Option Addr}{sl:Array (Option KB)}
def XN.ok{t:Addr}(q:h.get? e=be #[.ref C,od,.fields [.ref t,.none,.none,.none,.bool false,.none].toArray,sl]):ObjOk P w H h e (XN e C od):=
 #[#[t,sl,q],#[_,q],λh1 h2 ⟨t,sl,q⟩ k=>#[t,sl,k _ q]]
def XN.get(x:HOk P w H h)(q:H e=be (XN e C od)):∃t sl,h.get? e=be #[.ref C,od,.fields [.ref t,.none,.none,.none,.bool false,.none].toArray,sl]:=(x e _ q).1
def ErrF(K:Ex)(F:Hp)(fs:List (E_×D))(od:Option Addr):Prop:=∃vs,RepF K F fs vs/\((od=z8/\vs=[])\/∃b,od=be b/\F b=be (.xd vs))
def lEi(K:Ex)(C:Addr)(S:SiD):Sp:=λvs H Q _=>∃e us H1 F ds,vs=.ref e::us/\H=upd H1 e (XN e C z8)/\H1 e=z8/\Same F H1/\Reps K F ds us/\
 ∃R:List (E_×D)->Prop,S ds R/\∀fs od F' H',Grow F H1 F' H'->R fs->H' e=be (XN e C od)->F' e=z8->ErrF K F' fs od->Q .non H'
def CalE(P:Pi)(w:Q2)(K:Ex)(mg:E_->Option KB)(base:Heap)(n:Nat)(x:E_)(ps:List E_)(S:SiD):Prop:=
 ∃C N bm f fd,ErrK K mg x C N bm/\E9 K (.ref C) "__init__"=be (be (.ref f))/\isFn K (.ref f)=true/\FnOk P w K mg base (CX1 P w) n f fd ps (lEi K C S)/\Binds K fd ps []
section
variable {X:Cx}{pins:List (Addr×Re)}{σ:L2.St}{H:Hp}{s:KF}{e:Addr}
def Inv.newx{C:Addr}{h':Heap}{us:List KB}(I:Inv X pins σ H s)(d6:X.ex=[])(hm:Heap.MadeExcOf s.heap h' e (.ref C) us):Inv X pins σ (upd H e (XN e C z8)) {s with heap:=h'}:=by
 obtain⟨ta,h1,h2,h3⟩:=hm.there;have I2:Inv X pins σ H {s with heap:=h'}:=I.kept (t':=s.toks) hm.keeps;refine Inv.adopt I2 (fv I.hok hm.new) (XN.ok h1) (cA I d6 hm.new) (λz=>?_) (λx c q z=>?_) λp hp z=>?_
 .obtain⟨m,⟨o,_,_,ho,_⟩,_⟩:=I.loc;rw[<-z,hm.new]at ho;cases ho
 .obtain⟨v,o,ho,_⟩:=I.cell x c q;rw[z,hm.new]at ho;cases ho
 .have:=(I.pin p hp).1;rw[z,hm.new]at this;cases this
end
structure BaseK(K:Ex)(mg:Str->Option KB)(y:Str)(M:Addr):Prop where
 mg:mg y=be (.ref M)
 rd:readsIn K M (.type "type")=true
 fc:findCls K (.ref M) (.type "type") "__init__"=be (.val (.builtin "ValueError.__init__"))
 sp:specialIn K (.ref M) "__getattribute__"=be (be (.builtin "type.__getattribute__"))
structure ErrA(K:Ex)(x:Str)(C:Addr)(cd:Sr):Prop where
 ns:nsIn K Os x=be (be (.ref C))
 cl:Ha K C=be cd
 mro:aK cd.mro=true
 hd:cd.hasDict=true
 sa:E9 K (.ref C) "__setattr__"=be (be (.builtin "object.__setattr__"))
def ErrK.a(k:ErrK K mg x C N bm)(sa:E9 K (.ref C) "__setattr__"=be (be (.builtin "object.__setattr__"))):∃cd,ErrA K x C cd:=by
 obtain⟨nm,q,bs,sn,sub,ab,col,dd,k0,k1,k2,k3,k5,lk⟩:=k.obj;exact⟨_,k.ns,by unfold Ha;rw[lk],by
  show aK (.ref C::bm)=true;unfold aK;exact jP k.tail,rfl,sa⟩
def lX(K:Ex)[J:Jx](x:E_)(t:TID):TS:=λE σ H=>∃C e od ws F z fs,nsIn K Os x=be (be (.ref C))/\σ[0]?=be (be (.ref e))/\H e=be (XN e C od)/\J.B e=z8/\F e=z8/\Kept J.B J.F0 F H/\RepS K J.B F H z σ/\RepF K F fs ws/\
 ((od=z8/\ws=[])\/∃b,od=be b/\H b=be (.xd ws)/\J.B b=z8/\F b=z8/\b≠e/\ws≠[])/\
 ∃R:List (E_×D)->Prop,t z fs R/\∀j9 Lj F' H',Kept J.B J.F0 F' H'->R j9->H' e=be (XN e C Lj)->F' e=z8->ErrF K F' j9 Lj->E.nx σ H'
abbrev DX(X:Cx)[Jx](x:E_)(st:List Q0)(t:TID):Prop:=PSs X st (lX X.K x t)
structure WDX(X:Cx)[Jx](x:Str)(st:List Q0)(t:TID):Prop where
 out:DX X x st t
def rD{a:Addr}{o:HO}(h:H a=be o):upd H a o=H:=by
 funext b;unfold upd;by_cases q:b=a
 .rw[if_pos q,q,h]
 .rw[if_neg q]
section
variable {X:Cx}[J:Jx]{x f:E_}{e:P3}{te:TD}{ta:TDA}{pos c7 p:Q_}{rest:List Q0}{tr:TID}
def yk:WDX X x [] rn:=⟨pss_nil.anti λE s H q=>by
 obtain⟨C,a,od,ws,F,z,fs,hn,h0,d7,hB,g5,k,rs,rf,hd,R,hR,kk⟩:=q;rcases hd with⟨rfl,rfl⟩|⟨b,rfl,hb,Lk,Jo,ne,_⟩
 .exact kk fs z8 F H k hR d7 g5 #[[],rf,.inl #[rfl,rfl]]
 .have s1:Same F (upd F b (.xd ws)):=aR Jo _;refine kk fs (be b) (upd F b (.xd ws)) H #[k.bh,λc o q=>?_,k.f0.trans s1,λc h1 h2=>?_,k.eb,k.jf,k.jo] hR d7 (by rw[aj (Ne.symm ne)];exact g5) #[ws,RepF.mono s1 fs ws rf,.inr #[b,rfl,aw]]
  .by_cases hc:c=b
   .subst hc;rw[aw]at q;cases q;exact hb
   .rw[aj hc]at q;exact k.fh c o q
  .have:c≠b:=λz=>h2 (z ▸ Lk);rw[aj this];exact k.out c h1 h2⟩
def yl(ta:TDA)(tr:TID):TID:=λz fs R=>ta z λds=>ds.length<=1000/\tr z fs R
def ym{y sx:E_}{ps py apos cpos:Q_}{es:List P3}{pl:SB Bool}(hb:∃M,BaseK X.K X.mg y M)(hA:∃C cd,ErrA X.K x C cd)(ha:WDA X es ta)(hr:WDX X x rest tr)(hg:autoParam (Gl X y) zA0)(hN:autoParam (X.N[0]?=be sx) zA0)(hv:autoParam (Vis X.env.scope sx) zA5)(hd:autoParam (zND sx) zA1)
  (d_:autoParam (zNC sx) zA1) (Ps:autoParam (zND y) zA1)
  (he:autoParam (Q4 (.Name sx ps::es) X.env=(false,Q7 (.Name sx ps) X.env)::Q4 es X.env) zA0) (c5:autoParam (zPL X cpos es) zA0)
  (ht:Q7 (.Call (.Attribute (.Name y py) "__init__" apos) (.Name sx ps::es) [] cpos) X.env=(do
   let ov <-Q7 (.Name y py) X.env
   RK apos.atName
   let (f,first) <-Rq [ov] (R3 ov "__init__" pl)
   SK cpos f first (Rx cpos (Q4 (.Name sx ps::es) X.env)) (RU cpos (Rv [] X.env))):=by rfl)
  (hs:autoParam (Rh (.Call (.Attribute (.Name y py) "__init__" apos) (.Name sx ps::es) [] cpos) z8 pos.line X.env=pure false) zA0):WDX X x (.Expr (.Call (.Attribute (.Name y py) "__init__" apos) (.Name sx ps::es) [] cpos) pos::rest) (yl ta tr):=⟨by
 have ha:=ha.out;have hr:=hr.out;obtain⟨M,bk⟩:=hb;obtain⟨C,cd,er⟩:=hA;have step:PS X (.Expr (.Call (.Attribute (.Name y py) "__init__" apos) (.Name sx ps::es) [] cpos) pos) (λE σ H=>∃C' e od,nsIn X.K Os x=be (be (.ref C'))/\σ[0]?=be (be (.ref e))/\
   lA X.K ta σ H (λvs H1=>H1 e=be (XN e C' od)/\vs.length<=1000/\E.nx σ H1)):=by
  intro pins s σ H D I h;obtain⟨C',ea,od,hn,h0,h⟩:=h;rw[er.ns]at hn;cases hn;refine wpAny_Expr_any (methodCall_KW (pl:=pl) (cj I hg bk.mg ?_ Ps) ht) I.quiet hs;refine method_cls I.kIn bk.sp (cls_value I.kIn bk.rd bk.fc Je ?_);have I0:Inv X pins σ H {s with toks:=s.toks+1}:=I.tok _;obtain⟨B,F,z,kf,rs,R,h1,h2⟩:=h;refine PyProof.Rows.callWith_builtin1 (thn (bo (cG (i:=0) hN hv hd d_) ha he cpos pins _ σ H (λvs H1=>∃us,vs=.ref ea::us/\H1 ea=be (XN ea C od)/\us.length<=1000/\D.nx σ H1) I0 #[.ref ea,h0,#[B,F,z,kf,rs,R,h1,λds vs F' H' g hx rx=>#[vs,rfl,h2 ds vs F' H' g hx rx]]]) λus s1 hh=>?_) he c5;obtain⟨vs,H1,I1,r,Qy,ev,p6,hl,Jp⟩:=hh;subst ev;cases r with
  |cons r1 r2=>
   rename_i u0 Qz;obtain rfl:u0=Value.ref ea:=r1;obtain⟨t0,sl,g9⟩:=XN.get I1.hok p6;refine wZ (K:=X.K) (C:=C) (cd:=cd) I1.kIn g9 rfl rfl er.cl er.mro (by rw[<-L2.Vals.length r2];exact sz hl) λh' g1 g2=>?_;refine#[σ,H1,?_,Jp];have w:=I1.write (x:=ea) (e:=ea) (o:=XN ea C od) (h':=h') (t':=s1.toks) (by rw[p6];exact True.intro) (.inl rfl) (λb u hb q=>g2 b u hb q) #[_,g1] (XN.ok g1);rw[rD p6]at w;exact w
 refine(dN step hr).anti λE s H q=>?_;obtain⟨C',a,od,ws,F,z,fs,hn,h0,d7,hB,g5,k,rs,rf,d8,R,hR,kk⟩:=q;refine#[C',a,od,hn,h0,_,F,z,k,rs,_,hR,λds vs F1 H1 g hx rx=>#[g.hh a _ d7,by rw[rx.length];exact hx.1,?_]];refine#[C',a,od,ws,F1,z,fs,hn,h0,g.hh a _ d7,hB,g.out a g5 (by rw[d7];exact λz=>nomatch z),k.grow g,rs.grow g,RepF.mono g.ff fs ws rf,?_,R,hx.2,kk];rcases d8 with d8|⟨b,h1,h2,h3,h4,h5⟩
 .exact .inl d8
 .exact .inr #[b,h1,g.hh b _ h2,h3,g.out b h4 (by rw[h2];exact λz=>nomatch z),h5]⟩
def yn(f:E_)(te:TD)(tr:TID):TID:=λz fs R=>fs=[]/\te z λd=>tr z [(f,d)] R
def yo{sx:E_}{ps:Q_}(hA:∃C cd,ErrA X.K x C cd)(hf:∀C,nsIn X.K Os x=be (be (.ref C))->E9 X.K (.ref C) f=be z8)(he:WDE X e te)(hr:WDX X x rest tr)(hN:autoParam (X.N[0]?=be sx) zA0)(hv:autoParam (Vis X.env.scope sx) zA5)(hd:autoParam (zND sx) zA1)
  (d_:autoParam (zNC sx) zA1) (hs:autoParam (Rh e (be (.Attribute (.Name sx ps) f c7)) pos.line X.env=pure false) zA0):WDX X x (.Assign [.Attribute (.Name sx ps) f c7] e pos::rest) (yn f te tr):=⟨by
 have he:=he.out;have hr:=hr.out;obtain⟨C,cd,er⟩:=hA;have Jq:=hf C er.ns;have step:PS X (.Assign [.Attribute (.Name sx ps) f c7] e pos) (λE σ H=>∃e,σ[0]?=be (be (.ref e))/\
   lE X.K te σ H (λv H1=>H1 e=be (XN e C z8)/\∀b,H1 b=z8->b≠e->E.nx σ (upd (upd H1 b (.xd [(f,v)])) e (XN e C (be b))))):=by
  intro pins s σ H D I h;obtain⟨ea,h0,h⟩:=h;refine Ry (thn (he pins s σ H _ I h) λu s1 ⟨y,H1,I1,ry,p6,Jp⟩=>thn (cG (i:=0) hN hv hd d_ pins s1 σ H1 (λv H'=>v=.ref ea/\H'=H1) I1 #[.ref ea,h0,rfl,rfl]) λov s2 hh=>?_) hs;obtain⟨v0,H2,I2,r0,e1,e2⟩:=hh;subst e1 e2;obtain rfl:ov=Value.ref ea:=r0;obtain⟨t0,sl,g9⟩:=XN.get I2.hok p6;refine wX (K:=X.K) (C:=C) (cd:=cd) I2.kIn g9 rfl rfl rfl er.cl er.mro er.hd er.sa Jq λh' g1 g2 g3 tk=>?_;have j_:H2 s2.heap.objs.size=none:=I2.hok.fresh (E7 _);have j3:s2.heap.objs.size≠ea:=FU (Heap.lt_size g9);have L9:∀b o,s2.heap.get? b=be o->b≠s2.heap.objs.size:=λb o q=>Fd (Heap.lt_size q);have L_:∀b,H2 b=z8->b≠ea:=λb q z=>by rw[z,p6]at q;cases q
  refine#[σ,_,?_,Jp _ j_ j3];have v7:∀b o,H2 b=be o->(∀φ,o≠.ext φ)->upd (upd H2 s2.heap.objs.size (.xd [(f,y)])) ea (XN ea C (be s2.heap.objs.size)) b=be o:=λb o q n=>by
   have n1:b≠ea:=λz=>by rw[z,p6]at q;cases q;exact n _ rfl
   rw[aj n1,aj (bw q j_)];exact q
  refine I2.un (h':=h') (t':=tk) #[λb o q n _ _=>g3 b o (L_ b n) q,λb o q n _ _=>#[o.slots,g3 b o (L_ b n) q],λb o q n _=>?_,λb o q _=>?_,λb xs q=>v7 b _ q (λφ z=>nomatch z),λb o u q=>v7 b _ q (λφ z=>nomatch z),λb ps q=>#[[].toArray,by rw[v7 b _ q (λφ z=>nomatch z)];simp]] λa o q=>?_
  .rw[aj (L_ b n),aj (L9 b o q)];exact n
  .by_cases hb:b=ea
   .rw[hb];exact#[_,g1]
   .exact#[o,g3 b o hb q]
  .by_cases ha:a=ea
   .subst ha;rw[aw]at q;cases q;exact XN.ok g1
   .rw[aj ha]at q;by_cases hb:a=s2.heap.objs.size
    .subst hb;rw[aw]at q;cases q;refine#[_,g2,λg=>?_];rw[Fq];by_cases hg:g=f
     .subst hg;simp;exact ry
     .have:(g==f)=false:=by simpa using hg
      rw[this,if_neg hg];exact True.intro
    .rw[aj hb]at q;refine(I2.hok a o q).stay (λb u f7 r=>?_) (λb r=>v7 b _ r (λφ z=>nomatch z)) λb xs r=>v7 b _ r (λφ z=>nomatch z);refine g3 b u (λz=>?_) r;rcases f7 with e1|e1
     .exact ha (e1 ▸ z)
     .rw[z,p6]at e1;cases e1
 refine(dN step hr).anti λE s H q=>?_;obtain⟨C',a,od,ws,F,z,fs,hn,h0,d7,hB,g5,k,rs,rf,d8,R,⟨rfl,hR⟩,kk⟩:=q;rw[er.ns]at hn;cases hn;have Pt:ws=[]:=repf_nil.mp rf;subst Pt;refine#[a,h0,_,F,z,k,rs,_,hR,λd v F1 H1 g hx rv=>?_];have Ix:F1 a=none:=g.out a g5 (by rw[d7];exact λz=>nomatch z);have k1:=k.grow g;rcases d8 with⟨rfl,_⟩|⟨b,rfl,h1,h2,h3,h4⟩
 .refine#[g.hh a _ d7,λb hb j3=>?_];have Lk:J.B b=none:=k1.bh.free hb;have Jo:F1 b=none:=k1.fh.free hb;have Sf:∀{G:Hp},G a=z8->G b=z8->Same G H1->Same G (upd (upd H1 b (.xd [(f,v)])) a (XN a C (be b))):=λ{G} ga gb gs c o q=>by
   have n1:c≠a:=λz=>by rw[z,ga]at q;cases q
   have n2:c≠b:=λz=>by rw[z,gb]at q;cases q
   rw[aj n1,aj n2];exact gs c o q
  have l7:=rs.grow g;refine#[C,a,be b,[(f,v)],F1,z,[(f,d)],er.ns,h0,aw,hB,Ix,#[Sf hB Lk k1.bh,Sf Ix Jo k1.fh,k1.f0,k1.out,k1.eb,k1.jf,k1.jo],?_,repf_cons.mpr #[v,[],rfl,rv,repf_nil.mpr rfl],.inr #[b,rfl,by rw[aj j3];exact aw,Lk,Jo,j3,λz=>nomatch z],R,hx,kk];refine#[l7.len,l7.val,λi ds e'=>?_,l7.apart];obtain⟨c,vs,q1,q2,q⟩:=l7.own i ds e';have n1:c≠a:=λz=>by rw[z,g.hh a _ d7]at q2;cases q2
  have n2:c≠b:=λz=>by rw[z,hb]at q2;cases q2
  exact#[c,vs,q1,by rw[aj n1,aj n2];exact q2,q]
 .exact absurd rfl h4.2⟩
end
section
variable {P:Pi}{w:Q2}{K:Ex}{mg:E_->Option KB}{base:Heap}
def Cls.okE{x qual:E_}{st:Q0}{f C N0:Addr}{bm:List KB}{fd:Q8}{N:List E_}{p0:E_}{ps:List E_}{k:Nat}{S:SiD}(T:Fun K "__init__" qual st f fd)(hb:Binds K fd (p0::ps) [])(F:FnScope (p0::N) (p0::ps) (ag st))(len:∀ds R,S ds R->ds.length=ps.length)
  (ek:ErrK K mg x C N0 bm) (hi:E9 K (.ref C) "__init__"=be (be (.ref f))) (hf:isFn K (.ref f)=true)
  (a9:∀(cdv:KB) (A:Q3) (outer:List RI) (s:KF) (H:Hp) (E:XK) (J:Jx),Room k (A.deeper (Ra qual (ag st) s.heap.objs.size f cdv))->
   ∃t,DX (cxOf (CX1 P w) P w K mg base (p0::N) qual (ag st) f cdv A outer s H E).nox x (aE st) t/\∀ds R,S ds R->t (z8::startD N ds) [] R):CalE P w K mg base (k+1) x (p0::ps) S:=by
 refine#[C,N0,bm,f,fd,ek,hi,hf,Fun.okC T F (λvs H Q E h=>?_) (λcdv A outer s H vs Q E hr h=>?_),hb]
 .obtain⟨a,us,H1,F,ds,rfl,_,_,_,rs,R,h,_⟩:=h;rw[Fc,Fc,rs.length,len ds R h]
 .obtain⟨a,us,H1,F1,ds,rfl,rfl,ha,fh,rs,R,h,q⟩:=h
  letI:Jx:=#[H1,F1,λ_ _ _=>False]
  obtain⟨t,ht,hq⟩:=a9 cdv A outer s _ E inferInstance hr;have Fa:F1 a=none:=fh.free ha;have hl:L2.start (p0::N) (.ref a::us)=be (.ref a)::L2.start N us:=by
   unfold L2.start;rw[Ft,Fc,Fc,HG];rfl
  have s1:Same H1 (upd H1 a (XN a C z8)):=aR ha _;refine#[_,ht.nox,C,a,z8,[],F1,z8::startD N ds,[],ek.ns,by rw[hl];rfl,aw,ha,Fa,#[s1,fh.trans s1,Same.refl F1,λ_ h _=>h,rfl,Same.refl F1,λ_ h _=>h],?_,repf_nil.mpr rfl,.inl #[rfl,rfl],R,hq ds R h,λj9 Lj F' H' g hR d7 g5 er=>q j9 Lj F' H' #[g.f0,g.fh,g.bh,g.out] hR d7 g5 er];rw[hl];exact rq (dg rs)
end
section
variable {M:SL}{A:Q3}{E:KB->KF->Prop}{h:Heap}{g:Array SM}{d:Drawn}{t:Nat}{os:OsState}
variable {nm q:E_}{C N:Addr}{bs bm:List KB}{hdct:Bool}{sn:List E_}{sub:List KB}{ab:Bool}{col:Option Bool}{dd:Option Addr}{k0 k1 k2 k3 k5:Option KB}{newId:String}
variable {Ma q':E_}{C' N':Addr}{Mb Kn:List KB}{Ko:Bool}{Mc:List E_}{Jr:List KB}{Md:Bool}{Js:Option Bool}{Kp:Option Addr}{Me Mf Mg Mh Mi:Option KB}{Jt:String}
def rE{e:Addr}{oe:Re}{b:Bool}{Q:Bool->KF->Prop}(hC:h.get? C=be (Rj nm q C N bs bm hdct sn sub ab col dd k0 k1 k2 k3 k5 newId))(hD:h.get? C'=be (Rj Ma q' C' N' Mb Kn Ko Mc Jr Md Js Kp Me Mf Mg Mh Mi Jt))
  (he:h.get? e=be oe) (u8:oe.cls=.ref C) (b7:Kn.contains (.type "BaseException")=true) (hb:(Value.ref C::bm).contains (.ref C')=b) (hq:Q b #[h,g,d,t,os]):Q1 M A (excMatches (.ref e) (.ref C')) Q E #[h,g,d,t,os]:=by
 have LO:(Value.ref C'::Kn).contains (.type "BaseException")=true:=by rw[G7,b7,GO]
 have f:=tc_notTuple;unfold excMatches
 repeat(first|(with_reducible refine Rg he ?_;rw[u8])|with_reducible refine Rg hD ?_|(with_reducible refine RJ hD ?_;rw[LO])|(with_reducible refine RJ hC ?_;rw[hb])|wp_step)
 cases b with
 |true=>wp_walk;exact hq
 |false=>wp_walk;exact hq
end
abbrev _root_.L2.Cx.held(X:Cx)(e:Addr):Cx:={X with A:=X.A.mark (be (.ref e)),calm:=false,xe:=λ_ _=>False}
section
variable {X:Cx}{pins:List (Addr×Re)}{σ:L2.St}{H:Hp}{s:KF}{e:Addr}
def Cx.Ok.held(ok:X.Ok):(X.held e).Ok:=
 #[ok.mod,ok.kind,ok.glob,ok.blt,ok.above,ok.inj,ok.has,ok.cab,(λz=>nomatch z),ok.frames,ok.stk,ok.exf,ok.bs,ok.bsz,ok.noex,ok.exfs,ok.funs,ok.frf]
def Inv.held(I:Inv X pins σ H s):Inv (X.held e) pins σ H s:=#[Cx.Ok.held I.ok,I.os,I.bare,I.base,I.loc,I.cell,I.free,I.freeC,I.pin,I.hok,I.len]
def Inv.unheld(ok:X.Ok)(I:Inv (X.held e) pins σ H s):Inv X pins σ H s:=#[ok,I.os,I.bare,I.base,I.loc,I.cell,I.free,I.freeC,I.pin,I.hok,I.len]
def SP.unheld{D:Ends}{f:Flow}{s':KF}(ok:X.Ok)(h:SP (X.held e) pins D f s'):SP X pins D f s':=by
 cases f with
 |next=>obtain⟨σ',H',I,q⟩:=h;exact#[σ',H',Inv.unheld ok I,q]
 |brk=>obtain⟨σ',H',I,q⟩:=h;exact#[σ',H',Inv.unheld ok I,q]
 |cont=>obtain⟨σ',H',I,q⟩:=h;exact#[σ',H',Inv.unheld ok I,q]
 |ret u=>obtain⟨v,σ',H',I,r,q⟩:=h;exact#[v,σ',H',Inv.unheld ok I,r,q]
def gx{M:SL}{A:Q3}{E:KB->KF->Prop}{i:Nat}{x:E_}{pos:Q_}{Q:Unit->KF->Prop}(I:Inv X pins σ H s)(hN:X.N.Nodup)(hi:X.N[i]?=be x)(hk:X.env.scope.names.lookup x=be .local)
  (h:∀s',Inv X pins (σ.set i z8) H s'->Q () s'):Q1 M A (do bindName X.env x .none;unbindBehindTheSuite X.env x pos) Q E s:=by
 obtain⟨m,hn,hl⟩:=id I.loc;have u8:(X.env.scope.kind== .class||(X.env.scope.kind== .module&&X.env.locals !=X.env.globals))=false:=by rw[I.ok.kind];rfl
 have hiσ:i<σ.length:=by rw[I.len];exact(Fk.mp hi).1
 have cne:=I.cne;refine wpAny_nameGoes_keeps hk hn u8 λh' v f8 hs=>?_;obtain⟨oL,_,_,NR,_⟩:=id hn;have f6:HOk X.prog X.w H h':=λb ob e=>by
  refine(I.hok b ob e).stay (λc w' hc q=>(hs.2 c ?_).trans q) (λ_ q=>q) λ_ _ q=>q;rintro rfl;rcases hc with rfl|hc
  .rw[I.free]at e;cases e
  .rw[I.free]at hc;cases hc
 refine h _ #[I.ok,I.os,I.bare,#[λb o e n hb hx=>?_,λb o e n hb hx=>?_,I.base.free,λb o e hx=>?_,I.base.tups,I.base.frzs,I.base.tbls],#[_,f8,λj y v' e1 e2 e3=>?_],λy c e=>?_,I.free,I.freeC,λp hp=>?_,f6,by simpa using I.len]
 .exact(hs.2 b (Fd (Fv (Heap.lt_size e) I.ok.above))).trans (I.base.keep b o e n hb hx)
 .obtain⟨sl,e1⟩:=I.base.slot b o e n hb hx;exact#[sl,(hs.2 b (Fd (Fv (Heap.lt_size e) I.ok.above))).trans e1]
 .obtain⟨o',e1⟩:=I.base.there b o e hx;exact#[o',(hs.2 b (Fd (Fv (Heap.lt_size e) I.ok.above))).trans e1]
 .by_cases hj:j=i
  .subst hj;rw[FI hiσ]at e2;cases e2
  .rw[Fj (Ne.symm hj)]at e2;obtain⟨u',r',q⟩:=hl j y v' e1 e2 e3;refine#[u',r',?_];rcases q with⟨k,e⟩|⟨k,c,e,z⟩
   .refine .inl #[k,?_];have:y≠x:=λe=>hj (jc hN e1 (e ▸ hi));simp[this,e]
   .exact .inr #[k,c,e,z.sameBut hs (cne y c e)]
 .obtain⟨w',z⟩:=I.cell y c e;exact#[w',z.sameBut hs (cne y c e)]
 .obtain⟨e,n,ne,nf,d⟩:=I.pin p hp;exact#[(hs.2 p.1 ne).trans e,n,ne,nf,d]
def Inv.stay{h':Heap}{j9 ex:List Addr}(I:Inv X pins σ H s)(st:Stay j9 ex s.heap h')(Ld:∀b∈j9,b∈frs X.stack)(hH:∀b∈ex,H b=z8)(h0:∀b∈ex,X.s₀.heap.get? b=z8)(hL:∀b∈ex,b≠X.env.locals)(hc:∀b∈ex,∀x c,X.env.cells.lookup x=be c->c≠b)
  (hp:∀b∈ex,∀p∈X.pn++pins,p.1≠b):Inv X pins σ H {s with heap:=h'}:=by
 have hok:HOk X.prog X.w H h':=fm I.hok st (λb hb=>I.stkFree b (Ld b hb)) hH;have sub:∀b∈j9,b=X.env.locals\/b∈X.fs:=λb hb=>Fb.mp (I.stkSub b (Ld b hb));have nL:∀b o,X.s₀.heap.get? b=be o->b≠X.env.locals:=λb o q=>Fd (Fv (Heap.lt_size q) I.ok.above);have Of:∀b o,X.s₀.heap.get? b=be o->b∉ex:=λb o q z=>by rw[h0 b z]at q;cases q
 have k8:∀x c v,X.env.cells.lookup x=be c->s.heap.IsCell c v->h'.IsCell c v:=λx c v e ⟨o,ho,hd⟩=>by
  obtain⟨sl,z⟩:=st.slot c o ho (λz=>hc c z x c e rfl);exact#[_,z,hd]
 refine#[I.ok,I.os,I.bare,#[λb o e n hb hx=>?_,λb o e n hb hx=>?_,I.base.free,λb o e hx=>?_,I.base.tups,I.base.frzs,I.base.tbls],?_,λy c e=>?_,I.free,I.freeC,λp JH=>?_,hok,I.len]
 .exact st.keep b o (I.base.keep b o e n hb hx) (Of b o e) (λz=>(sub b z).elim (nL b o e) hb)
 .obtain⟨sl,e1⟩:=I.base.slot b o e n hb hx;obtain⟨q9,e2⟩:=st.slot b _ e1 (Of b o e);exact#[q9,e2]
 .obtain⟨o',e1⟩:=I.base.there b o e hx;exact st.there b o' e1
 .obtain⟨m,⟨o,es,ep,ho,r⟩,hl⟩:=I.loc;obtain⟨sl,z⟩:=st.slot _ o ho (λz=>hL _ z rfl);refine#[m,#[_,es,ep,z,r],λj y v' e1 e2 e3=>?_];obtain⟨u',r',q⟩:=hl j y v' e1 e2 e3;refine#[u',r',?_];rcases q with q|⟨k,c,e,z⟩
  .exact .inl q
  .exact .inr #[k,c,e,k8 y c _ e z]
 .obtain⟨w',z⟩:=I.cell y c e;exact#[w',k8 y c _ e z]
 .obtain⟨e,n,ne,nf,d⟩:=I.pin p JH;exact#[st.keep _ _ e (λz=>hp _ z p JH rfl) (λz=>(sub _ z).elim ne nf),n,ne,nf,d]
end
def subE(x c:E_):Bool:=x==c||c=="MotifError"
structure ErrsK(K:Ex)(mg:Str->Option KB)(es:List Str):Prop where
 cls:∀x∈es,∃C N bm,ErrK K mg x C N bm
 sub:∀x∈es,∀y∈es,∀C C',nsIn K Os x=be (be (.ref C))->nsIn K Os y=be (be (.ref C'))->FM K C (.ref C')=be (subE x y)
def ErrsK.has{es:List E_}(k:ErrsK K mg es){y:E_}{C' N':Addr}{Kn:List KB}(hx:x∈es)(hy:y∈es)(a:ErrK K mg x C N bm)(b:ErrK K mg y C' N' Kn):(Value.ref C::bm).contains (.ref C')=subE x y:=by
 have h:=k.sub x hx y hy C C' a.ns b.ns;obtain⟨nm,q,bs,sn,sub,ab,col,dd,k0,k1,k2,k3,k5,lk⟩:=a.obj;unfold FM Ha at h;rw[lk]at h;simp only[Gq,List.isEmpty_cons,Bool.false_eq_true,if_false,Option.some.injEq]at h;exact h
structure Held(X:Cx)(pins:List (Addr×Re))(H:Hp)(s:KF)(e C:Addr)(od:Option Addr)(T:Addr):Prop where
 ex:ExAt s.heap e C od T .none
 He:H e=z8
 HT:H T=z8
 e0:X.s₀.heap.get? e=z8
 T0:X.s₀.heap.get? T=z8
 eP:∀p∈X.pn++pins,p.1≠e
 TP:∀p∈X.pn++pins,p.1≠T
section
variable {X:Cx}{pins:List (Addr×Re)}{σ:L2.St}{H:Hp}{s:KF}
variable{vs:Array KB}
def gy{b:Addr}{o:Re}(I:Inv X pins σ H s)(h:s.heap.get? b=be o)(hd:o.data=.fields vs):b≠X.env.locals:=λz=>by
 obtain⟨m,⟨o',es,ep,ho,d8,_⟩,_⟩:=I.loc;rw[<-z,h]at ho;cases ho;rw[hd]at d8;cases d8
def fld_cell{b:Addr}{o:Re}(I:Inv X pins σ H s)(h:s.heap.get? b=be o)(hd:o.data=.fields vs):∀x c,X.env.cells.lookup x=be c->c≠b:=λx c q z=>by
 obtain⟨v,o',ho,d8⟩:=I.cell x c q;rw[z,h]at ho;cases ho;rw[hd]at d8;cases d8
variable{od:Option Addr}
def Held.flight{e C T:Addr}{h':Heap}(I:Inv X pins σ H s)(k:Held X pins H s e C od T)(hx:ExAt h' e C od T .none)(st:Stay [] [T] s.heap h'):Inv X pins σ H {s with heap:=h'}/\Held X pins H {s with heap:=h'} e C od T:=by
 obtain⟨sl,vs,oT,ts,he,h1,s_,hT,j6,h3⟩:=k.ex;refine#[Inv.stay I st (λb hb=>by cases hb) (λb hb=>?_) (λb hb=>?_) (λb hb=>?_) (λb hb=>?_) (λb hb=>?_),#[hx,k.He,k.HT,k.e0,k.T0,k.eP,k.TP]]<;>rw[E6.mp hb]
 .exact k.HT
 .exact k.T0
 .exact gy I hT j6
 .exact fld_cell I hT j6
 .exact k.TP
def XO.ok{P:Pi}{w:Q2}{h:Heap}{e C:Addr}{sl:Array (Option KB)}(q:h.get? e=be #[.ref C,od,.fields vs,sl]):ObjOk P w H h e (XO e C od):=
 #[#[vs,sl,q],#[_,q],λh1 h2 ⟨vs,sl,q⟩ k=>#[vs,sl,k _ q]]
end
def RepS.unset{B F:Hp}{z:SD}{s:L2.St}{i:Nat}(h:RepS K B F H z s):RepS K B F H (z.set i z8) (s.set i z8):=by
 have get:∀{j:Nat} {x:D},(z.set i z8)[j]?=be (be x)->j≠i/\z[j]?=be (be x):=λ{j x} e=>by
  by_cases hj:i=j
  .subst hj;rw[F7]at e;simp at e
  .rw[Fj hj]at e;exact#[λz=>hj z.symm,e]
 refine#[by rw[FV,FV];exact h.len,λj x e nx=>?_,λj ds e=>?_,λj k dj dk a e1 e2 e3 e4=>?_]
 .obtain⟨hj,e⟩:=get e;rw[Fj (λz=>hj z.symm)];exact h.val j x e nx
 .obtain⟨hj,e⟩:=get e;rw[Fj (λz=>hj z.symm)];exact h.own j ds e
 .obtain⟨hj,e1⟩:=get e1;obtain⟨hk,e2⟩:=get e2;rw[Fj (λz=>hj z.symm)]at e3;rw[Fj (λz=>hk z.symm)]at e4;exact h.apart j k dj dk a e1 e2 e3 e4
abbrev TH:=E_->List (E_×D)->TSD
def DH(X:Cx)[J:Jx](hs:List Rt)(th:TH):Prop:=
 ∀(pins:List (Addr×Re)) (s:KF) (σ:L2.St) (H:Hp) (D:Ends) (e C:Addr) (od:Option Addr) (T:Addr) (x:E_) (fs:List (E_×My.D)) (B F0 F:Hp) (z:SD) (ED:EndsD),Inv X pins σ H s->Held X pins H s e C od T->Kept B F0 F H->RepS X.K B F H z σ->ErrD X.K F x fs C od->
  th x fs ED z->EndsOk X.K B F0 ED D->Q1 (QZ X.prog X.w) X.A (Sk (.ref e) X.env hs) (SP X pins D) X.xe s
structure WDH(X:Cx)[Jx](hs:List Rt)(th:TH):Prop where
 out:DH X hs th
section
variable {X:Cx}[J:Jx]{es:List E_}{c:E_}{b₀:Q0}{o6:List Q0}{pos pc:Q_}{rest:List Rt}{t:TSD}{r:TH}
def yp:TH:=λ_ _ _ _=>False
def yq(es:List E_)(c:E_)(t:TSD)(r:TH):TH:=λx fs E z=>(x∈es/\c∈es)/\if subE x c=true then t E z else r x fs E z
def dHas(es:List E_)(c:E_)(i:Nat)(t:TSD)(r:TH):TH:=λx fs E z=>(x∈es/\c∈es)/\if subE x c=true then t {nx:=λz'=>E.nx (z'.set i z8),rt:=E.rt,bk:=λz'=>E.bk (z'.set i z8),ct:=λz'=>E.ct (z'.set i z8)} (z.set i (be (.exc x fs)))else r x fs E z
def jQ:WDH X [] yp:=#[λ_ _ _ _ _ _ _ _ _ _ _ _ _ _ _ _ _ _ _ _ _ h _=>h.elim]
def rF(hE:ErrsK X.K X.mg es)(hs:∀e,WDSs (X.held e) (b₀::o6) t)(hr:WDH X rest r)(hg:autoParam (Gl X c) zA0)(c_:autoParam (zND c) zA1):WDH X (.ExceptHandler (be (.Name c pc)) z8 (b₀::o6) pos::rest) (yq es c t r):=⟨by
 have hs:=λe=>(hs e).out;have hr:=hr.out;intro pins s σ H D e C od T x fs B F0 F z ED I hd k rs er ht ee;obtain⟨⟨Kq,Kr⟩,ht⟩:=ht;obtain⟨Cc,Nc,Pu,kc⟩:=hE.cls c Kr;obtain⟨Iy,Nx,Pw,kx⟩:=hE.cls x Kq;obtain rfl:Iy=C:=by have h1:=kx.ns;rw[er.1]at h1;cases h1;rfl
 have hb:=hE.has Kq Kr kx kc;obtain⟨nm,q,bs,sn,sub,ab,col,dd,k0,k1,k2,k3,k5,lk⟩:=kx.obj;obtain⟨Ma,q',Mb,Mc,Jr,Md,Js,Kp,Me,Mf,Mg,Mh,Mi,Mj⟩:=kc.obj;refine SN (SG (cj (X:=X.held e) (Inv.held I) hg kc.mg ?_ c_)) (by intro q;cases q);obtain⟨sl,vs,oT,ts,he,h1,s_,hT,j6,h3⟩:=id hd.ex;refine rE (g:=s.gens) (d:=s.drawn) (t:=s.toks) (os:=s.os) (I.kIn _ _ lk) (I.kIn _ _ Mj) he rfl kc.base hb ?_;cases v8:subE x c with
 |true=>
  rw[v8,if_pos rfl]at ht;refine codeAny_handlers_suite (flight_none hd.ex λh' e_ q_=>?_);obtain⟨I',_⟩:=Held.flight I hd e_ q_;exact Q9 (hs e pins _ σ H D (Inv.held I') #[B,F0,F,z,k,rs,ED,ht,ee]) (λf s1 q=>SP.unheld I.ok q) λ_ _ z=>False.elim z
 |false=>
  rw[v8,if_neg Fh]at ht;exact hr pins s σ H D e Iy od T x fs B F0 F z ED I hd k rs er ht ee⟩
def yr(i:Nat){n:E_}(hE:ErrsK X.K X.mg es)(hN:X.N.Nodup)(hs:∀e,WDSs (X.held e) (b₀::o6) t)(hr:WDH X rest r)(hg:autoParam (Gl X c) zA0)(hi:autoParam (X.N[i]?=be n) zA0)(hk:autoParam (X.env.scope.names.lookup n=be .local) zA0)(c_:autoParam (zND c) zA1):WDH X (.ExceptHandler (be (.Name c pc)) (be n) (b₀::o6) pos::rest) (dHas es c i t r):=⟨by
 have hs:=λe=>(hs e).out;have hr:=hr.out;intro pins s σ H D e C od T x fs B F0 F z ED I hd k rs er ht ee;obtain⟨⟨Kq,Kr⟩,ht⟩:=ht;obtain⟨Cc,Nc,Pu,kc⟩:=hE.cls c Kr;obtain⟨Iy,Nx,Pw,kx⟩:=hE.cls x Kq;obtain rfl:Iy=C:=by have h1:=kx.ns;rw[er.1]at h1;cases h1;rfl
 have hb:=hE.has Kq Kr kx kc;obtain⟨nm,q,bs,sn,sub,ab,col,dd,k0,k1,k2,k3,k5,lk⟩:=kx.obj;obtain⟨Ma,q',Mb,Mc,Jr,Md,Js,Kp,Me,Mf,Mg,Mh,Mi,Mj⟩:=kc.obj;refine SN (SG (cj (X:=X.held e) (Inv.held I) hg kc.mg ?_ c_)) (by intro q;cases q);obtain⟨sl,vs,oT,ts,he,h1,s_,hT,j6,h3⟩:=id hd.ex;refine rE (g:=s.gens) (d:=s.drawn) (t:=s.toks) (os:=s.os) (I.kIn _ _ lk) (I.kIn _ _ Mj) he rfl kc.base hb ?_;cases v8:subE x c with
 |true=>
  rw[v8,if_pos rfl]at ht;refine codeAny_handlers_suite_as (flight_none hd.ex λh' e_ q_=>?_);obtain⟨I',d8⟩:=Held.flight I hd e_ q_;obtain⟨q9,l6,_,_,Ks,_⟩:=id e_;have I2:Inv X pins σ (upd H e (XO e Iy od)) {s with heap:=h'}:=Inv.adopt I' hd.He (XO.ok Ks) hd.e0 (gy I' Ks rfl) (fld_cell I' Ks rfl) hd.eP;refine fS (X:=X.held e) (v:=.ref e) (Inv.held I2) hN hi (.inl hk) rfl (λs2 I3=>?_) (.inr hk);have g:=Grow.new k.fh hd.He (XO e Iy od);obtain⟨ns,ws,rf,Ml⟩:=er;have rep:Rep X.K (upd F e (XO e Iy od)) (.exc x fs) (.ref e):=rep_exc.mpr #[e,Iy,od,ws,rfl,ns,aw,RepF.mono g.ff fs ws rf,Ml.imp id λ⟨b,q1,q2⟩=>#[b,q1,g.ff _ _ q2]];have Px:EndsOk X.K B F0 {nx:=λz'=>ED.nx (z'.set i z8),rt:=ED.rt,bk:=λz'=>ED.bk (z'.set i z8),ct:=λz'=>ED.ct (z'.set i z8)} {nx:=λσ' H'=>D.nx (σ'.set i z8) H',rt:=D.rt,bk:=λσ' H'=>D.bk (σ'.set i z8) H',ct:=λσ' H'=>D.ct (σ'.set i z8) H'}:=
   #[λz' s' F' H' k hz r=>ee.nx _ _ F' H' k hz (RepS.unset r),ee.rt,λz' s' F' H' k hz r=>ee.bk _ _ F' H' k hz (RepS.unset r),λz' s' F' H' k hz r=>ee.ct _ _ F' H' k hz (RepS.unset r)]
  refine Q9 (hs e pins s2 _ _ _ I3 #[B,F0,_,_,k.grow g,(rs.grow g).set rep,_,ht,Px]) (λf s3 q=>?_) λ_ _ z=>False.elim z;have q':=SP.unheld I.ok q;cases f with
  |next=>obtain⟨σ',H',I4,q4⟩:=q';exact gx I4 hN hi hk λs5 I5=>#[_,H',I5,q4]
  |brk=>obtain⟨σ',H',I4,q4⟩:=q';exact gx I4 hN hi hk λs5 I5=>#[_,H',I5,q4]
  |cont=>obtain⟨σ',H',I4,q4⟩:=q';exact gx I4 hN hi hk λs5 I5=>#[_,H',I5,q4]
  |ret u=>obtain⟨v,σ',H',I4,rv,q4⟩:=q';exact gx I4 hN hi hk λs5 I5=>#[v,_,H',I5,rv,q4]
 |false=>
  rw[v8,if_neg Fh]at ht;exact hr pins s σ H D e Iy od T x fs B F0 F z ED I hd k rs er ht ee⟩
end
abbrev _root_.L2.Cx.tried(X:Cx)(pn:List (Addr×Re))(xe:KB->KF->Prop):Cx:={X with pn:=pn,xe:=xe}
section
variable {X:Cx}{pn pins:List (Addr×Re)}{xe:KB->KF->Prop}{σ:L2.St}{H:Hp}{s:KF}
def Cx.Ok.tried(ok:X.Ok):(X.tried pn xe).Ok:=#[ok.mod,ok.kind,ok.glob,ok.blt,ok.above,ok.inj,ok.has,ok.cab,ok.hd,ok.frames,ok.stk,ok.exf,ok.bs,ok.bsz,ok.noex,ok.exfs,ok.funs,ok.frf]
def Inv.tried(I:Inv X pins σ H s):Inv (X.tried (X.pn++pins) xe) [] σ H s:=#[Cx.Ok.tried I.ok,I.os,I.bare,I.base,I.loc,I.cell,I.free,I.freeC,λp hp=>I.pin p (by simpa using hp),I.hok,I.len]
def Inv.untried(ok:X.Ok)(I:Inv (X.tried (X.pn++pins) xe) [] σ H s):Inv X pins σ H s:=#[ok,I.os,I.bare,I.base,I.loc,I.cell,I.free,I.freeC,λp hp=>I.pin p (by simpa using hp),I.hok,I.len]
def SP.untried{D:Ends}{f:Flow}{s':KF}(ok:X.Ok)(h:SP (X.tried (X.pn++pins) xe) [] D f s'):SP X pins D f s':=by
 cases f with
 |next=>obtain⟨σ',H',I,q⟩:=h;exact#[σ',H',Inv.untried ok I,q]
 |brk=>obtain⟨σ',H',I,q⟩:=h;exact#[σ',H',Inv.untried ok I,q]
 |cont=>obtain⟨σ',H',I,q⟩:=h;exact#[σ',H',Inv.untried ok I,q]
 |ret u=>obtain⟨v,σ',H',I,r,q⟩:=h;exact#[v,σ',H',Inv.untried ok I,r,q]
end
def Kept.un{J:Jx}{B F0 F F' H':Hp}{RX:SD->XD}(k:@Kept J B F0 F H)(k':@Kept #[B,F0,RX] B F0 F' H'):@Kept J B F0 F' H':=by
 obtain⟨a,b,c,d,_,_,_⟩:=k';exact @Kept.mk J B F0 F' H' a b c d k.eb k.jf k.jo
def yt{h₀:Rt}{hs:List Rt}{σ':L2.St}{H':Hp}{s':KF}{D:Ends}{xe:KB->KF->Prop}(I2:Inv X pins σ' H' s')
  (hd:Exd (X.tried (X.pn++pins) xe) H' s' e C od) (d6:X.ex=[]) (v9:X.stack=X.env::X.outer) (j_:X.env.frame=be X.env.locals)
  (hh:∀s4 T2,Inv X pins σ' H' s4->Held X pins H' s4 e C od T2->Q1 (QZ X.prog X.w) X.A (Sk (.ref e) X.env (h₀::hs)) (SP X pins D) X.xe s4):
  Q1 (QZ X.prog X.w) X.A (RT (.ref e) X.env) (λ_ s₂=>Q1 (QZ X.prog X.w) X.A (Sa (.ref e) z8) (λ_ s₃=>Q1 (QZ X.prog X.w) X.A (Sk (.ref e) X.env (h₀::hs)) (SP X pins D) X.xe s₃) X.xe s₂) X.xe s':=by
 obtain⟨He,e0,eP,hd⟩:=hd;have stk:s'.heap.FunFrames X.base (X.env::X.outer):=by rw[<-v9];exact I2.stack
 have Og:X.A.frames=be (X.env::X.outer):=by rw[<-v9];exact I2.ok.frames
 have ge:∀(p7:Heap) (T2:Addr) (ex:List Addr),(∀b∈ex,H' b=z8/\X.s₀.heap.get? b=z8/\(∃o vs,s'.heap.get? b=be o/\o.data=.fields vs)/\∀p∈X.pn++pins,p.1≠b)->ExAt p7 e C od T2 (RV X.env.locals)->s'.heap.objs.size<=T2->Stay (frs (X.env::X.outer)) ex s'.heap p7->
   Q1 (QZ X.prog X.w) X.A (Sa (.ref e) z8) (λ_ s₃=>Q1 (QZ X.prog X.w) X.A (Sk (.ref e) X.env (h₀::hs)) (SP X pins D) X.xe s₃) X.xe {s' with heap:=p7}:=by
  intro p7 T2 ex v_ l9 v4 o7;have Iq:s'.heap.get? T2=none:=Heap.get?_none_of_le v4;have I3:Inv X pins σ' H' {s' with heap:=p7}:=Inv.stay I2 o7 (λb hb=>by rw[v9];exact hb) (λb hb=>(v_ b hb).1) (λb hb=>(v_ b hb).2.1) (λb hb=>let ⟨_,_,q1,q2⟩:=(v_ b hb).2.2.1;gy I2 q1 q2) (λb hb=>let ⟨_,_,q1,q2⟩:=(v_ b hb).2.2.1;fld_cell I2 q1 q2) (λb hb=>(v_ b hb).2.2.2);obtain⟨sl,vs,oT,ts,he,g1,s_,hT,j6,g3⟩:=id l9;have IN:H' T2=none:=fv I2.hok Iq;have T0:X.s₀.heap.get? T2=none:=cA I2 d6 Iq;have TP:∀p∈X.pn++pins,p.1≠T2:=λp hp z=>by
   have:=(I2.pin p hp).1;rw[z,Iq]at this;cases this
  refine flight_none (s:={s' with heap:=p7}) l9 λh3 Kj z9=>?_;have I4:Inv X pins σ' H' {s' with heap:=h3}:=Inv.stay (s:={s' with heap:=p7}) I3 z9 (λb hb=>by cases hb) (λb hb=>by rw[E6.mp hb];exact IN) (λb hb=>by rw[E6.mp hb];exact T0) (λb hb=>by rw[E6.mp hb];exact gy I3 hT j6) (λb hb=>by rw[E6.mp hb];exact fld_cell I3 hT j6) (λb hb=>by rw[E6.mp hb];exact TP);exact hh _ T2 I4 #[Kj,He,IN,e0,T0,eP,TP]
 rcases hd with⟨sl,vs,he,hv⟩|⟨T,IM,T0,HT,TP⟩
 .refine qw Og stk j_ he hv λp7 T2 l9 v4 o7=>ge p7 T2 [e] (λb hb=>?_) l9 v4 o7;rw[E6.mp hb];exact#[He,e0,#[_,_,he,rfl],eP]
 .obtain⟨sl,vs,oT,ts,he,g1,s_,hT,j6,g3⟩:=id IM;refine qy Og stk j_ IM λp7 T2 l9 v4 o7=>ge p7 T2 [T,e] (λb hb=>?_) l9 v4 o7;rcases Fb.mp hb with z|z
  .rw[z];exact#[HT,T0,#[_,_,hT,j6],TP]
  .rw[E6.mp z];exact#[He,e0,#[_,_,he,rfl],eP]
def ErrG(K:Ex)(f y:E_):Prop:=∃C cd,ErrA K y C cd/\E9 K (.ref C) "__getattribute__"=be (be (.builtin "BaseException.__getattribute__"))/\E9 K (.ref C) "__getattr__"=be z8/\E9 K (.ref C) f=be z8
def yu(ys:List E_)(f:E_)(te:TD):TD:=λz R=>te z λd=>match d with|.exc y fs=>y∈ys/\∃d,fs.lookup f=be d/\R d|_=>False
def rG[J:Jx]{e:P3}{te:TD}{pos:Q_}{ys:List E_}{f:E_}(hG:∀y∈ys,ErrG X.K f y)(he:WDE X e te)(hb:autoParam (Q6 e f X.env (Q7 e X.env)=Q7 e X.env) zA0):WDE X (.Attribute e f pos) (yu ys f te):=⟨by
 have he:=he.out;intro pins s σ H Q I h;obtain⟨B,F,z,kf,rs,R,h1,h2⟩:=h;refine attr_of hb (thn (he pins s σ H (λv H1=>∃F1 x fs,Grow F H F1 H1/\Rep X.K F1 (.exc x fs) v/\x∈ys/\∃d,fs.lookup f=be d/\R d) I #[B,F,z,kf,rs,_,h1,λd v F1 H1 g1 hx rx=>?_]) λu s1 ⟨v,H1,I1,rv,F1,x,fs,g1,rx,hy,d,hl,hR⟩=>?_)
 .split at hx
  .obtain⟨hy,d,hl,hR⟩:=hx;exact#[F1,_,_,g1,rx,hy,d,hl,hR]
  .exact hx.elim
 .obtain⟨a,C,od,vs,rfl,hn,Py,rf,Ml⟩:=rep_exc.mp rx;obtain rfl:u=Value.ref a:=rv;obtain⟨C',cd,ea,ga,gb,hf⟩:=hG x hy;have f8:=ea.ns;rw[hn]at f8;cases f8;obtain⟨l6,sl,g9⟩:=(I1.hok a _ (g1.fh _ _ Py)).1;obtain⟨w',hw,g7⟩:=rf.look hl;rcases Ml with⟨_,e2⟩|⟨b,rfl,f7⟩
  .rw[e2]at hw;cases hw
  .obtain⟨mA,hns,s9⟩:=(show ObjOk X.prog X.w H1 s1.heap b (.xd vs)from I1.hok b _ (g1.fh _ _ f7));obtain⟨uv,hu,ru⟩:=RelO.some_of (v:=w') (o:=mA f) (by rw[<-hw];exact s9 f);obtain⟨Pz,ho,look⟩:=pN hns;have Mm:hasDictIn X.K C=true:=by unfold hasDictIn;rw[ea.cl];exact ea.hd
   exact wY (K:=X.K) (ox:=#[.ref C,be b,.fields l6,sl]) (od:=Pz) I1.kIn #[g9,rfl,rfl,ho] ea.cl ea.mro ga gb (findObj_own Mm hf rfl (by rw[look,hu])) (pQ ru) λtk=>#[w',H1,I1.tok tk,ru,h2 d w' F1 H1 g1 hR g7]⟩
def rH:tailIn K veLine veLine=true:=by
 unfold tailIn;rfl
def rJ{c:KB}{d:Option Addr}{es:Array DictEntry}{ep:Nat}(l:K.lookup N=be #[c,d,.dict es ep,sl])(h:es.toList.all (λe=>match e.key with|.str _ _=>true|_=>false)=true):nsOkIn K N=true:=by
 unfold nsOkIn;rw[l];dsimp only;rw[<-Hb];exact h
def yw{M:Addr}{c0:KB}{dd:Option Addr}{cd:Sr}(l:K.lookup M=be #[c0,dd,.cls cd,sl])(hn:cd.ns=N)(h1:nsOkIn K N=true)(h2:nsIn K N "__init__"=be z8):tailIn K veLine (.ref M::veLine)=true:=by
 unfold tailIn;subst hn;dsimp only;rw[l];dsimp only;rw[h1,h2,rH];simp
def yx:kitOne K (.ref C) (.ref C)=be true:=by
 unfold kitOne;rw[if_pos (beq_self_eq_true _)]
def yy(S:SpX):SpD:=λds R=>S ds R λ_ _=>False
def CalX.no{base:Heap}{n:Nat}{S:SpX}(C:CalX P w K mg base n x ps S):CalD P w K mg base n x ps (yy S):=by
 obtain⟨f,fd,F,hb,hk,hm⟩:=C;refine#[f,fd,F.imp λvs H Q E h=>?_,hb,hk,hm];obtain⟨F,ds,fh,rs,R,h,q⟩:=h;exact#[F,ds,fh,rs,R,_,h,q,λ_ _ _ _ _ _ _ z=>z.elim]
end My
namespace My
def repS(x:E_)(n:Nat):Str:=#[(FD n x.cps.toList).flatten.toArray]
def rK{α:Type}(l:List α):∀m:Nat,(E8 m).filterMap (λk=>l[k]?)=l.take m
 |0=>by simp
 |m+1=>by
  rw[Gr,List.filterMap_append,rK l m,List.take_succ];cases h:l[m]?<;>simp[h]
def yz(lo hi:Option Int)(n:Nat):Builtin.Str.strSliceIndices lo hi 1 n=(E8 (HT.sIx n n hi-HT.sIx n 0 lo)).map λk=>HT.sIx n 0 lo+k:=by
 have Iz:∀(i:Int) (d:Nat),max 0 (min (if i<0 then i+(n:Int)else i) (n:Int))=((HT.sIx n d (be i):Nat):Int):=by
  intro i d;show max 0 (min (if i<0 then i+(n:Int)else i) (n:Int))=(((if i<0 then(i+(n:Int)).toNat else min i.toNat n):Nat):Int);by_cases h:i<0
  .rw[if_pos h,if_pos h];lia
  .rw[if_neg h,if_neg h];lia
 have h1:Builtin.Str.strSliceIndices lo hi 1 n=sliceRange ((HT.sIx n 0 lo:Nat):Int) ((HT.sIx n n hi:Nat):Int) 1:=by
  unfold Builtin.Str.strSliceIndices;simp only[show(1:Int)>0 by decide,if_true];cases lo with
  |none=>cases hi with
   |none=>rfl
   |some j=>rw[<-Iz j n];rfl
  |some i=>cases hi with
   |none=>rw[<-Iz i 0];rfl
   |some j=>rw[<-Iz i 0,<-Iz j n]
 rw[h1];unfold sliceRange;simp only[show(1:Int)>0 by decide,if_true];have e3:(if((HT.sIx n 0 lo:Nat):Int)<((HT.sIx n n hi:Nat):Int)then(((HT.sIx n n hi:Nat):Int)-((HT.sIx n 0 lo:Nat):Int)+1-1)/1 else 0).toNat=HT.sIx n n hi-HT.sIx n 0 lo:=by
  split<;>lia
 rw[e3];apply Gs;intro k _;lia
def slice_cps(y:E_)(lo hi:Option Int):Txt.slice y lo hi=#[((y.cps.toList.drop (HT.sIx y.length 0 lo)).take (HT.sIx y.length y.length hi-HT.sIx y.length 0 lo)).toArray]:=by
 have la:HT.sIx y.length 0 lo<=y.length:=HT.sIx_le _ _ (Fz _) lo;have lb:HT.sIx y.length y.length hi<=y.length:=HT.sIx_le _ _ (E7 _) hi;unfold Txt.slice;rw[yz];split
 .rename_i h;have hl:HT.sIx y.length y.length hi-HT.sIx y.length 0 lo=y.length:=by simpa using h
  have ha:HT.sIx y.length 0 lo=0\/y.length=0:=Jb
  rw[hl];obtain⟨cp⟩:=y;have e:(Gu (HT.sIx (Str.mk cp).length 0 lo) cp.toList)=cp.toList:=by
   rcases ha with ha|ha
   .rw[ha];rfl
   .have:cp=[].toArray:=Array.eq_empty_of_size_eq_zero ha;subst this;simp
  show(#[cp]:E_)=#[((Gu (HT.sIx (Str.mk cp).length 0 lo) cp.toList).take cp.size).toArray];rw[e,Gf J4]
 .congr 2;rw[Hx];have:=rK (y.cps.toList.drop (HT.sIx y.length 0 lo)) (HT.sIx y.length y.length hi-HT.sIx y.length 0 lo);rw[<-this];congr 1;funext k;simp
section
variable {X:Cx}[J:Jx]{a b c e:P3}{ta tb tc te:TD}{pos:Q_}
def E1:RD2:=λx y R=>match x,y with
 |.int i,.int j=>CMul i j/\R (.int (i*j))
 |.str i,.int n=>(-(2^62)<=n/\n<=1000000/\i.length*n.toNat<=1000000)/\R (.str (repS i n.toNat))
 |.lst xs,.int n=>(-(2^62)<=n/\n<=1000000/\xs.length*n.toNat<=1000000)/\R (.lst (FD n.toNat xs).flatten)
 |_,_=>False
def Reps.rep{K:Ex}{F:Hp}{xs:List D}{us:List V}(r:Reps K F xs us):∀n:Nat,Reps K F (FD n xs).flatten (FD n us).flatten
 |0=>reps_nil.mpr rfl
 |n+1=>by
  rw[GK,GL,GK,GL];exact r.append (Reps.rep r n)
def rL:SlR X (λx lo hi H Q=>∃y,x=.str y/\y.length<=sizeLine/\Q (.str (Txt.slice y lo hi)) H):=by
 intro pins s σ H x v vl vu lo hi sl Q I rx hs pl pu h;obtain⟨y,rfl,hz,q⟩:=h;obtain⟨t,rfl⟩:=rx;have ge:∀t' k,EP X pins σ Q (.str (Txt.slice y lo hi) t') {s with toks:=k}:=λt' k=>#[.str _,H,I.tok k,#[_,rfl],q];have le:=Fg (Txt.slice_le y lo hi) hz;refine#["str",_,PySem.F.slot_str_getitem.lookup,SS _ _ _,?_];cases pl with
 |none=>cases pu with
  |none=>exact Ru (l:=z8) (u:=z8) (st:=z8) hs rfl (RY #[le,ge])
  |int j tj=>exact Ru (l:=z8) (u:=be (j,tj)) (st:=z8) hs rfl (RY #[le,ge])
 |int i ti=>cases pu with
  |none=>exact Ru (l:=be (i,ti)) (u:=z8) (st:=z8) hs rfl (RY #[le,ge])
  |int j tj=>exact Ru (l:=be (i,ti)) (u:=be (j,tj)) (st:=z8) hs rfl (RY #[le,ge])
abbrev TDO:=SD->(Option Int->Prop)->Prop
def yB:TDO:=λ_ R=>R z8
def yD(te:TD):TDO:=λz R=>te z λx=>match x with|.int i=>R (be i)|_=>False
def lO(K:Ex)[J:Jx](t:TDO):TO:=λs H Q=>∃B F z,Kept B J.F0 F H/\RepS K B F H z s/\∃R:Option Int->Prop,t z R/\∀o F' H',Grow F H F' H'->R o->Q o H'
abbrev DPO(X:Cx)[Jx](e:Option P3)(t:TDO):Prop:=PO X e (lO X.K t)
structure WDPO(X:Cx)[Jx](e:Option P3)(t:TDO):Prop where
 out:DPO X e t
def PO.anti{X:Cx}{e:Option P3}{t t':TO}(h:PO X e t)(a:∀s H Q,t' s H Q->t s H Q):PO X e t':=λpins s σ H Q I q=>h pins s σ H Q I (a _ _ _ q)
def du:WDPO X z8 yB:=⟨PO.anti qe λs H Q q=>by
 obtain⟨B,F,z,kf,rs,R,h1,h2⟩:=q;exact h2 z8 F H (Grow.refl kf.fh) h1⟩
def dv(he:WDE X e te):WDPO X (be e) (yD te):=⟨have he:=he.out;PO.anti (qf he) λs H Q q=>by
 obtain⟨B,F,z,kf,rs,R,h1,h2⟩:=q;refine#[B,F,z,kf,rs,_,h1,λx u F1 H1 g1 hx rx=>?_];split at hx
 .exact#[_,rep_int.mp rx,h2 _ F1 H1 g1 hx]
 .exact hx.elim⟩
def rdSl:D->Option Int->Option Int->(D->Prop)->Prop:=λx lo hi R=>match x with
 |.str y=>y.length<=1000000/\R (.str (Txt.slice y lo hi))
 |.lst xs=>R (.lst (cutD xs lo hi))
 |.rol xs=>R (.lst (cutD xs lo hi))
 |.tup xs=>¬(HT.sIx xs.length 0 lo=0/\HT.sIx xs.length xs.length hi=xs.length)/\R (.tup (cutD xs lo hi))
 |_=>False
def dSl(ta:TD)(tl th:TDO):TD:=λz R=>ta z λx=>tl z λlo=>th z λhi=>rdSl x lo hi R
def dw{lo hi:Option P3}{tl th:TDO}{p2:Q_}(ha:WDE X a ta)(hl:WDPO X lo tl)(hu:WDPO X hi th):WDE X (.Subscript a (.Slice lo hi z8 p2) pos) (dSl ta tl th):=⟨have ha:=ha.out;have hl:=hl.out;have hu:=hu.out;(js (SlR.or rL (SlR.or jt qh)) ha hl hu).anti λs H Q q=>by
 obtain⟨B,F,z,kf,rs,R,h1,h2⟩:=q;refine#[B,F,z,kf,rs,_,h1,λx u F1 H1 g1 hx rx=>?_];refine#[B,F1,z,kf.grow g1,rs.grow g1,_,hx,λlo F2 H2 g2 hy=>?_];refine#[B,F2,z,(kf.grow g1).grow g2,(rs.grow g1).grow g2,_,hy,λhi F3 H3 g3 hw=>?_];have g:=g1.trans (g2.trans g3);have IA:=(rx.mono g2.ff).mono g3.ff;unfold rdSl at hw;split at hw
 .exact .inl #[_,rep_str.mp IA,Fg hw.1 Ji,h2 _ _ F3 H3 g hw.2 (rep_str.mpr rfl)]
 .obtain⟨l,vs,rfl,hq,rr⟩:=rep_lst.mp IA;refine .inr (.inl #[l,vs,rfl,SqL.of (g3.fh _ _ hq),λp hp=>?_]);exact h2 _ _ _ _ (g.trans (Grow.new g3.fh hp _)) hw (rep_lst.mpr #[p,_,rfl,aw,(rr.cut _ _).mono (aR (g3.fh.free hp) _)])
 .obtain⟨l,vs,rfl,hq,rr⟩:=rep_rol.mp IA;refine .inr (.inl #[l,vs,rfl,g3.fh.seq hq,λp hp=>?_]);exact h2 _ _ _ _ (g.trans (Grow.new g3.fh hp _)) hw (rep_lst.mpr #[p,_,rfl,aw,(rr.cut _ _).mono (aR (g3.fh.free hp) _)])
 .obtain⟨l,vs,rfl,hq,rr⟩:=rep_tup_mp IA;refine .inr (.inr #[l,vs,rfl,g3.fh.tup hq,by rw[rr.length];exact hw.1,λp hp=>?_]);exact h2 _ _ _ _ (g.trans (Grow.new g3.fh hp _)) hw.2 (rep_tupS.mpr #[p,_,rfl,aw,(rr.cut _ _).mono (aR (g3.fh.free hp) _)])
 .exact hw.elim⟩
def rdIn(neg:Bool):RD2:=λx y R=>match x,y with
 |.str i,.str j=>R (.bl (if neg then !(!(Builtin.Str.occurrences j i 0 j.length 1).isEmpty)else !(Builtin.Str.occurrences j i 0 j.length 1).isEmpty))
 |x,.lst ys=>(bg x=true/\ys.all bg=true)/\R (.bl (if neg then !(ys.any λy=>eqF y x)else ys.any λy=>eqF y x))
 |x,.rol ys=>(bg x=true/\ys.all bg=true)/\R (.bl (if neg then !(ys.any λy=>eqF y x)else ys.any λy=>eqF y x))
 |x,.tup ys=>(bg x=true/\ys.all bg=true)/\R (.bl (if neg then !(ys.any λy=>eqF y x)else ys.any λy=>eqF y x))
 |_,_=>False
def gz{K:Ex}{H:Hp}{x:D}{u:V}(rx:Rep K H x u)(fx:bg x=true):∀{ys:List D} {vs:List V},Reps K H ys vs->ys.all bg=true->inV u vs=ys.any λy=>eqF y x
 |[],vs,r,_=>by rw[reps_nil.mp r];rfl
 |y::ys,vs,r,f=>by
  obtain⟨v,vr,rfl,r1,r2⟩:=reps_cons.mp r;rw[Gb,Fx]at f;have ih:=gz rx fx r2 f.2;unfold inV at ih ⊢;rw[Gc,Gc,ih,jI r1 rx f.1 fx]
def rInV(K:Ex)(neg:Bool):R2:=λx y H Q=>(∃i j,x=.str i/\y=.str j/\Q (.bl (if neg then !(!(Builtin.Str.occurrences j i 0 j.length 1).isEmpty)else !(Builtin.Str.occurrences j i 0 j.length 1).isEmpty)) H)\/rIn K neg x y H Q
def yF{K:Ex}{neg:Bool}:bb K (rInV K neg) (rdIn neg):=by
 intro x y u v F H R Q fh h rx ry q;unfold rdIn at h;split at h
 .exact .inl #[_,_,rep_str.mp rx,rep_str.mp ry,q _ _ F H (Grow.refl fh) h (rep_bl.mpr rfl)]
 .obtain⟨⟨f1,f2⟩,h⟩:=h;obtain⟨l,vs,rfl,hq,rr⟩:=rep_lst.mp ry;exact .inr #[l,vs,rfl,.inl (fh.seq (SqL.of hq)),dZ rx f1,cz rr f2,q _ _ F H (Grow.refl fh) h (rep_bl.mpr (by rw[gz rx f1 rr f2]))]
 .obtain⟨⟨f1,f2⟩,h⟩:=h;obtain⟨l,vs,rfl,hq,rr⟩:=rep_rol.mp ry;exact .inr #[l,vs,rfl,.inl (fh.seq hq),dZ rx f1,cz rr f2,q _ _ F H (Grow.refl fh) h (rep_bl.mpr (by rw[gz rx f1 rr f2]))]
 .obtain⟨⟨f1,f2⟩,h⟩:=h;obtain⟨l,vs,rfl,hq,rr⟩:=rep_tup_mp ry;exact .inr #[l,vs,rfl,.inr (fh.tup hq),dZ rx f1,cz rr f2,q _ _ F H (Grow.refl fh) h (rep_bl.mpr (by rw[gz rx f1 rr f2]))]
 .exact h.elim
def yG:OpR X (Ri .NotIn) (rInV X.K true):=OpR.or wE wD
end
end My
namespace L2
def Its(x:E_):It:=#[λi _=>i<x.length,λi H v H'=>H'=H/\∃c,x.cps[i]?=be c/\v=.str #[[c].toArray],λi _=>x.length<=i]
def yH{P:Pi}{w:Q2}{K:Ex}{tg:P3}(x:E_)(t:S3)(it:Addr):Turn P w K tg (Its x) [it] it (λi h=>h.IsStrIter it "str_ascii_iterator" x t i) where
 mem:=J4
 obj:=λi h st b hb=>by
  have e:b=it:=by simpa using hb
  subst e;obtain⟨o,e,c,d⟩:=st;exact#[o,e,λv z=>by rw[d]at z;cases z]
 keep:=λi h h' st k=>by
  obtain⟨o,e,r⟩:=st;exact#[o,k it J4 o e,r]
 item:=by
  intro X hP hw hK hc i pins s σ H E I hf st hg;subst hP hw hK;have hi:i<x.cps.size:=hg;obtain⟨f0,f1,f2,f3,f4,f5⟩:=hf it J4;refine wpAny_pyNext_ascii_item st (c:=x.cps[i]) (HH hi) λh' q_ sb=>?_;have I1:Inv X pins σ H {s with heap:=h',toks:=s.toks+1}:=I.turned (t':=s.toks+1) (λb o hb e=>(sb.2 b hb).trans e) f0 f1 f3 f4 f5;obtain⟨o,e,c,d⟩:=id q_;exact#[_,rfl,jg (s:={s with heap:=h',toks:=s.toks+1}) e c d Ji #[.str #[[x.cps[i]].toArray],H,I1,#[_,rfl],#[rfl,_,HH hi,rfl],q_,λb hb=>(hf b hb).1]]
 done:=by
  intro X hP hw hK hc i pins s σ H E I hf st hg;subst hP hw hK;have hi:x.cps.size<=i:=hg;obtain⟨f0,f1,f2,f3,f4,f5⟩:=hf it J4;exact wpAny_pyNext_ascii_end (I.ok.hd hc) st (Array.getElem?_eq_none hi) λh' eb=>#[rfl,I.turned (t':=s.toks) (λb o hb e=>eb b o hb e) f0 f1 f3 f4 f5]
 self:=λA i s Q E st hQ=>wpAny_pyIter_striter_ascii st hQ
def iStr(tl:TE):TI:=λσ H R=>tl σ H λv H1=>∃x,v=.str x/\x.cps.all (·<128)=true/\R (Its x) H1
def rM{X:Cx}{tg l:P3}{tl:TE}(hl:PE X l tl):PI X tg l (iStr tl):=by
 intro pins s σ H R I h;refine thn (hl pins s σ H _ I h) λv s1 b9=>?_;obtain⟨v1,H1,I1,r1,q1⟩:=b9;obtain⟨x,rfl,ha,q⟩:=q1;obtain⟨t,rfl⟩:=r1;refine wpAny_pyIter_ascii ha ?_;refine#[s1.heap.objs.size,[s1.heap.objs.size],_,_,H1,rfl,I1.kept (t':=s1.toks) λb o e=>Heap.get?_push_of_some _ e,yH x t _,#[_,Heap.get?_push_size _ rfl,rfl,rfl],λb hb=>?_,q];have e:b=s1.heap.objs.size:=by simpa using hb
 subst e;exact I1.fpOk (E7 _) (I1.hok.fresh (E7 _))
def yI{x:E_}{g:TG}{tb:TS}{D:Ends}{σ:St}{H:Hp}(Pv:Nat->St->Hp->Prop)(h0:Pv 0 σ H)
  (hs:∀i c σ H,x.cps[i]?=be c->Pv i σ H->g (.str #[[c].toArray]) σ H λσ2 H2=>tb {D with nx:=Pv (i+1),ct:=Pv (i+1),bk:=D.nx} σ2 H2) (hd:∀σ H,Pv x.length σ H->D.nx σ H):
  ∃W:Nat->Nat->St->Hp->Prop,(∃m,W 0 m σ H)/\∀i m σ H,W i m σ H->
   ((Its x).stop i H/\D.nx σ H)\/((Its x).go i H/\∃N:St->Hp->Prop,(∀σ' H',N σ' H'->∃m',m'<m/\W (i+1) m' σ' H')/\∀v H',(Its x).yld i H v H'->g v σ H' λσ2 H2=>tb {D with nx:=N,ct:=N,bk:=D.nx} σ2 H2):=by
 refine#[λi m σ H=>m=x.length-i/\i<=x.length/\Pv i σ H,#[x.length,J4,Fz _,h0],?_];rintro i m σ H ⟨rfl,hi,p⟩;by_cases e8:i<x.length
 .refine .inr #[e8,Pv (i+1),λσ' H' p'=>#[x.length-(i+1),Jb,rfl,e8,p'],λv H' y=>?_];obtain⟨e,c,hc,rfl⟩:=y;subst e;exact hs i c σ _ hc p
 .have e:i=x.length:=by lia
  subst e;exact .inl #[E7 _,hd σ H p]
end L2
namespace My
section
variable {X:Cx}[J:Jx]{a b c e:P3}{ta tb tc te:TD}{pos:Q_}
def bC(x:E_):List D:=x.cps.toList.map λc=>D.str #[[c].toArray]
def dItS(t:TD):TDI:=λz R=>t z λy=>match y with|.str x=>x.cps.all (·<128)=true/\R (bC x)|_=>False
def gA{x:E_}{k c:Nat}(h:x.cps[k]?=be c):(bC x)[k]?=be (.str #[[c].toArray]):=by
 unfold bC;rw[Fo,HA,h];rfl
def eE(x:E_):(bC x).length=x.length:=by unfold bC;rw[Fs];simp[Str.length]
def yJ(i:Nat){x:E_}{p:Q_}{body:List Q0}{tb:TSD}(hp:Rm (QZ X.prog X.w) X.A X.env X.xe)(hc:X.calm=true)(hN:X.N.Nodup)(he:WDE X e te)(hb:WDSs X body tb)(hi:autoParam (X.N[i]?=be x) zA0)(hx:autoParam (Loc X.env.scope x) zA4)
  (hf:autoParam (zFN X x) zA2) (hs:autoParam (∀y,zFS X e y) zA3):WDS X (.For (.Name x p) e body [] pos) (dFor i (dItS te) tb):=⟨have he:=he.out;have hb:=hb.out;(cN hp hc (rM he) (dO hN hi hx hf) hb hs).anti λE s H q=>by
 obtain⟨B,F0,F,z,kp,rs,ED,h,e⟩:=q;refine#[B,F,z,kp.kf,rs,_,h,λd v F1 H1 g1 hd rd=>?_];split at hd
 .rename_i y;obtain⟨ha,W,w0,c3,out⟩:=hd;refine#[y,rep_str.mp rd,ha,yI (λk s' H'=>∃F' z',Kept B F0 F' H'/\RepS X.K B F' H' z' s'/\W k z') #[F1,z,kp.grow g1,rs.grow g1,w0] ?_ ?_]
  .rintro k c s' H' hk⟨F',z',k',r',w'⟩;exact#[B,F0,F',_,k',r'.set (d:=.str #[[c].toArray]) (rep_str.mpr rfl),_,c3 k (.str #[[c].toArray]) z' (gA hk) w',#[λz3 s3 F3 H3 k3 h3 r3=>#[F3,z3,k3,r3,h3],e.rt,e.nx,λz3 s3 F3 H3 k3 h3 r3=>#[F3,z3,k3,r3,h3]]]
  .rintro s' H'⟨F',z',k',r',w'⟩;exact e.nx z' s' F' H' k' (out z' (by rw[eE];exact w')) r'
 .exact hd.elim⟩
variable {g8 iter:P3}{x:E_}{px:Q_}{scope:Rr}{ti:TD}
def itS{K:Ex}:ItOk K (iStr (lE K ti)) (dItS ti):=λ{s H B F z P Q} kf rs h1 h2=>by
 refine#[B,F,z,kf,rs,_,h1,λd v F1 H1 g1 hd rd=>?_];split at hd
 .rename_i y;obtain⟨ha,hd⟩:=hd;have hl:=eE y;refine#[y,rep_str.mp rd,ha,h2 _ _ F1 H1 g1 hd #[λk F' H' G hk=>by rw[hl]at hk;exact hk,λk F' H' v H'' G hk hy=>?_,λF' H' G=>by show y.length<=_;rw[hl];exact E7 _]];obtain⟨e,c,hc,rfl⟩:=hy;exact#[e,.str #[[c].toArray],gA hc,rep_str.mpr rfl]
 .exact hd.elim
end
section
variable {X:Cx}[J:Jx]{a b c e o:P3}{es:List P3}{ta tb tc te to:TD}{t:TDA}{pos:Q_}
abbrev RTx:=E_->List D->(D->Prop)->Prop
def dTx(r:RTx)(to:TD)(t:TDA):TD:=λz R=>to z λx=>match x with|.str y=>t z λds=>r y ds R|_=>False
def MtS(X:Cx)(id:String)(r:RTx):Prop:=∃rv:V->List V->Hp->VK->Prop,MtR X id rv/\∀(y:E_) (ds:List D) (vs:List V) (F H:Hp) (R:D->Prop) (Q:VK),Reps X.K F ds vs->r y ds R->(∀d v,(∀G,Rep X.K G d v)->R d->Q v H)->rv (.str y) vs H Q
variable{apos cpos:Q_}
def jR{name:E_}{id:String}{r:RTx}(slot:Slot "str" name id)(J_:typeOf (.builtin id)=pure (.type "method_descriptor"))(hm:MtS X id r)(ho:DE X o to)(ha:DA X (e::es) t)
  (b7:autoParam (Q6 o name X.env (Q7 o X.env)=Q7 o X.env) zA0)
  (d4:autoParam (zHF X cpos (e::es)) zA0)
  (b_:autoParam ((apos.endLine==cpos.line)=true) zA0) (hs:autoParam (zSE X e es) zA0) (m7:autoParam (zPL X cpos es) zA0):
  DE X (.Call (.Attribute o name apos) (e::es) [] cpos) (dTx r to t):=by
 obtain⟨rv,hm,L⟩:=hm;refine(dR PySem.F.plainAttrs_str slot J_ hm ho ha b7 d4 b_ hs m7).anti λs H Q q=>?_;obtain⟨B,F,z,kf,rs,R,h1,h2⟩:=q;refine#[B,F,z,kf,rs,_,h1,λx u F1 H1 g1 hx rx=>?_];split at hx
 .rename_i y;rw[rep_str.mp rx];refine#[rfl,B,F1,z,kf.grow g1,rs.grow g1,_,hx,λds vs F2 H2 g2 hy ry=>?_];exact L y ds vs F2 H2 R Q ry hy λd v rd hR=>h2 d v F2 H2 (g1.trans g2) hR (rd F2)
 .exact hx.elim
def E2:RTx:=λy ds R=>match ds with|[.str p]=>R (.bl (Txt.startswith y p))|_=>False
def rEnds:RTx:=λy ds R=>match ds with|[.str p]=>R (.bl (Txt.endswith y p))|_=>False
def ms_ends:MtS X "str.endswith" rEnds:=by
 refine#[λx vs H Q=>∃y p,x=.str y/\vs=[.str p]/\Q (.bl (Txt.endswith y p)) H,?_,?_]
 .intro pins s σ H x vs v us Q I rx rv h;obtain⟨y,p,rfl,rfl,q⟩:=h;obtain⟨t,rfl⟩:=rx;obtain⟨u,rfl,t',rfl⟩:=bT rv;exact SC.endswith #[.bl _,H,I,rfl,q]
 .intro y ds vs F H R Q r h q;unfold rEnds at h;split at h
  .obtain⟨v,vr,rfl,h1,h2⟩:=reps_cons.mp r;rw[reps_nil.mp h2,rep_str.mp h1];exact#[_,_,rfl,rfl,q _ _ (λ_=>rep_bl.mpr rfl) h]
  .exact h.elim
def yL(ho:WDE X o to)(ha:WDA X [e] t)(b7:autoParam (Q6 o "endswith" X.env (Q7 o X.env)=Q7 o X.env) zA0)
  (d4:autoParam (zHF X cpos [e]) zA0)
  (b_:autoParam ((apos.endLine==cpos.line)=true) zA0) (hs:autoParam (zSE X e []) zA0):WDE X (.Call (.Attribute o "endswith" apos) [e] [] cpos) (dTx rEnds to t):=#[have ho:=ho.out;have ha:=ha.out;jR PySem.F.slot_str_endswith PySem.F.type_str_endswith ms_ends ho ha b7 d4 b_ hs]
def rSIndex:RTx:=λy ds R=>match ds with|[.str p]=>∃i rest,Builtin.Str.occurrences y p 0 y.length 1=i::rest/\R (.int (i:Nat))|_=>False
def yM:MtS X "str.index" rSIndex:=by
 refine#[λx vs H Q=>∃y p i rest,x=.str y/\vs=[.str p]/\Builtin.Str.occurrences y p 0 y.length 1=i::rest/\Q (.int (i:Nat)) H,?_,?_]
 .intro pins s σ H x vs v us Q I rx rv h;obtain⟨y,p,i,rest,rfl,rfl,ho,q⟩:=h;obtain⟨t,rfl⟩:=rx;obtain⟨u,rfl,t',rfl⟩:=bT rv;exact SC.index ho #[.int _,H,I.tok _,#[_,rfl],q]
 .intro y ds vs F H R Q r h q;unfold rSIndex at h;split at h
  .obtain⟨i,rest,ho,h⟩:=h;obtain⟨v,vr,rfl,h1,h2⟩:=reps_cons.mp r;rw[reps_nil.mp h2,rep_str.mp h1];exact#[_,_,i,rest,rfl,rfl,ho,q _ _ (λ_=>rep_int.mpr rfl) h]
  .exact h.elim
def rN(ho:WDE X o to)(ha:WDA X [e] t)(b7:autoParam (Q6 o "index" X.env (Q7 o X.env)=Q7 o X.env) zA0)
  (d4:autoParam (zHF X cpos [e]) zA0)
  (b_:autoParam ((apos.endLine==cpos.line)=true) zA0) (hs:autoParam (zSE X e []) zA0):WDE X (.Call (.Attribute o "index" apos) [e] [] cpos) (dTx rSIndex to t):=#[have ho:=ho.out;have ha:=ha.out;jR PySem.F.slot_str_index PySem.F.type_str_index yM ho ha b7 d4 b_ hs]
def Reps.init{K:Ex}{F:Hp}:∀{ds:List D} {vs:List V},Reps K F ds vs->Reps K F ds.dropLast vs.dropLast
 |[],vs,r=>by rw[reps_nil.mp r];exact reps_nil.mpr rfl
 |[d],vs,r=>by
  obtain⟨v,vr,rfl,_,h2⟩:=reps_cons.mp r;rw[reps_nil.mp h2];exact reps_nil.mpr rfl
 |d::d2::ds,vs,r=>by
  obtain⟨v,vr,rfl,h1,h2⟩:=reps_cons.mp r;obtain⟨v2,QA,rfl,h3,h4⟩:=reps_cons.mp h2;rw[HI,HI];exact reps_cons.mpr #[v,_,rfl,h1,Reps.init h2]
end
end My
namespace My
open Exc
section
variable {X:Cx}{a b c e:P3}{ta tb tc te:TD}{pos:Q_}{st:Q0}{rest:List Q0}{t u:TSD}
def bM[Jx]{c:P3}{l r:List Q0}{tc:TDT}(hc:WDT X c tc)(ha:WDSs X l t)(hb:WDSs X r u):WDS X (.If c l r pos) (dIfS tc t u):=#[qT (c:=c) (l:=l) (r:=r) (tc:=tc) (hc:=hc.out) (ha:=ha.out) (hb:=hb.out)]
end
section
variable {P:Pi}{w:Q2}{K:Ex}{mg:E_->Option KB}{base:Heap}
variable{x qual:E_}{st:Q0}{f:Addr}{fd:Q8}{N ps:List E_}{k:Nat}
def _root_.L2.Fun.okDW{S:SpD}(T:Fun K x qual st f fd)(F:FnScope N ps (ag st))(len:∀ds R,S ds R->ds.length=ps.length)
  (a9:∀(cdv:KB) (A:Q3) (outer:List RI) (s:KF) (H:Hp) (E:XK) (J:Jx),Room k (A.deeper (Ra qual (ag st) s.heap.objs.size f cdv))->
   ∃t,WDSs (cxOf (Exc.CX1 P w) P w K mg base N qual (ag st) f cdv A outer s H E).nox (aE st) t/\∀ds R,S ds R->t {nx:=λ_=>R .non,rt:=R} (startD N ds)):FnOk P w K mg base (Exc.CX1 P w) (k+1) f fd ps (lSp K S):=
 T.okD F len λcdv A outer s H E J hr=>let ⟨t,h,q⟩:=a9 cdv A outer s H E J hr;#[t,h.out,q]
def Tx.okDW{S:SpD}(T:Tx K mg x st ps)(F:FnScope N ps (ag st))(len:∀ds R,S ds R->ds.length=ps.length)
  (a9:∀(f:Addr) (cdv:KB) (A:Q3) (outer:List RI) (s:KF) (H:Hp) (E:XK) (J:Jx),Room k (A.deeper (Ra x (ag st) s.heap.objs.size f cdv))->
   ∃t,WDSs (cxOf (Exc.CX1 P w) P w K mg base N x (ag st) f cdv A outer s H E).nox (aE st) t/\∀ds R,S ds R->t {nx:=λ_=>R .non,rt:=R} (startD N ds)):CalD P w K mg base (k+1) x ps S:=
 Tx.okD T F len λf cdv A outer s H E J hr=>let ⟨t,h,q⟩:=a9 f cdv A outer s H E J hr;#[t,h.out,q]
def Tx.okXW{S:SpX}(T:Tx K mg x st ps)(F:FnScope N ps (ag st))(len:∀ds R RX,S ds R RX->ds.length=ps.length)
  (a9:∀(f:Addr) (cdv:KB) (A:Q3) (outer:List RI) (s:KF) (H:Hp) (E:XK) (J:Jx),Room k (A.deeper (Ra x (ag st) s.heap.objs.size f cdv))->XOk (cxOf (CX1 P w) P w K mg base N x (ag st) f cdv A outer s H E)->
   ∃t,WDSs (cxOf (CX1 P w) P w K mg base N x (ag st) f cdv A outer s H E) (aE st) t/\∀ds R RX,(∀z,J.RX z=RX)->S ds R RX->t {nx:=λ_=>R .non,rt:=R} (startD N ds)):CalX P w K mg base (k+1) x ps S:=
 Tx.okX T F len λf cdv A outer s H E J hr hx=>let ⟨t,h,q⟩:=a9 f cdv A outer s H E J hr hx;#[t,h.out,q]
def Cls.okIW{C:Addr}{p0:E_}{S:SiD}(T:Fun K "__init__" qual st f fd)(hb:Binds K fd (p0::ps) [])(F:FnScope (p0::N) (p0::ps) (ag st))(len:∀ds R,S ds R->ds.length=ps.length)
  (hns:nsIn K Os x=be (be (.ref C))) (i8:mg x=be (.ref C)) (mk:Mk K C f)
  (a9:∀(cdv:KB) (A:Q3) (outer:List RI) (s:KF) (H:Hp) (E:XK) (J:Jx),Room k (A.deeper (Ra qual (ag st) s.heap.objs.size f cdv))->
   ∃t,WDI (cxOf (Exc.CX1 P w) P w K mg base (p0::N) qual (ag st) f cdv A outer s H E).nox x (aE st) t/\∀ds R,S ds R->t (z8::startD N ds) [] R):CalM P w K mg base (k+1) x (p0::ps) S:=
 Cls.okI T hb F len hns i8 mk λcdv A outer s H E J hr=>let ⟨t,h,q⟩:=a9 cdv A outer s H E J hr;#[t,h.out,q]
def Cls.okEW{C N0:Addr}{bm:List KB}{p0:E_}{S:SiD}(T:Fun K "__init__" qual st f fd)(hb:Binds K fd (p0::ps) [])(F:FnScope (p0::N) (p0::ps) (ag st))(len:∀ds R,S ds R->ds.length=ps.length)
  (ek:ErrK K mg x C N0 bm) (hi:E9 K (.ref C) "__init__"=be (be (.ref f))) (hf:isFn K (.ref f)=true)
  (a9:∀(cdv:KB) (A:Q3) (outer:List RI) (s:KF) (H:Hp) (E:XK) (J:Jx),Room k (A.deeper (Ra qual (ag st) s.heap.objs.size f cdv))->
   ∃t,WDX (cxOf (CX1 P w) P w K mg base (p0::N) qual (ag st) f cdv A outer s H E).nox x (aE st) t/\∀ds R,S ds R->t (z8::startD N ds) [] R):CalE P w K mg base (k+1) x (p0::ps) S:=
 Cls.okE T hb F len ek hi hf λcdv A outer s H E J hr=>let ⟨t,h,q⟩:=a9 cdv A outer s H E J hr;#[t,h.out,q]
end
inductive MO where
 |ins (x:Str) (fs:List (Str×D))|lst (ds:List D)|dti (a8:List ((Int×Int)×Int))
abbrev MS:=List (Addr×MO)
def MRep(K:Ex)(F H:Hp)(a:Addr):MO->Prop
 |.ins x fs=>∃C dx ws,nsIn K Os x=be (be (.ref C))/\H a=be (.ins C dx ws)/\RepF K F fs ws
 |.lst ds=>∃vs,H a=be (.lst vs)/\Reps K F ds vs
 |.dti a8=>H a=be (.dT (dtiV a8))
def aq(M:MS):List Addr:=M.map (·.1)
def mget:MS->Addr->Option MO
 |[],_=>z8
 |(b,o)::r,a=>if b=a then be o else mget r a
def mput:MS->Addr->MO->MS
 |[],_,_=>[]
 |(b,p)::r,a,o=>if b=a then(b,o)::r else(b,p)::mput r a o
def mdel:MS->Addr->MS
 |[],_=>[]
 |(b,p)::r,a=>if b=a then r else(b,p)::mdel r a
def bn:∀{M:MS} {a:Addr} {o:MO},mget M a=be o->(a,o)∈M
 |[],_,_,h=>by cases h
 |(b,p)::r,a,o,h=>by
  unfold mget at h;split at h
  .rename_i e;subst e;cases h;exact Fi
  .exact Fe _ (bn h)
variable{M:MS}{a:Addr}{o:MO}
def bD(h:(a,o)∈M):a∈aq M:=FF.mpr #[_,h,rfl]
def gB:∀(M:MS) (a:Addr) (o:MO),aq (mput M a o)=aq M
 |[],_,_=>rfl
 |(b,p)::r,a,o=>by
  unfold mput;split
  .rfl
  .show b::aq (mput r a o)=b::aq r;rw[gB r a o]
def mem_put:∀{M:MS} {a b:Addr} {o q:MO},(aq M).Nodup->(b,q)∈mput M a o->(b=a/\q=o/\a∈aq M)\/(b≠a/\(b,q)∈M)
 |[],_,_,_,_,_,h=>by cases h
 |(c,p)::r,a,b,o,q,nd,h=>by
  have Kt:c∉aq r/\(aq r).Nodup:=FN.mp nd;unfold mput at h;split at h
  .rename_i e;subst e;rcases Fb.mp h with z|z
   .cases z;exact .inl #[rfl,rfl,Fi]
   .have:b∈aq r:=bD z;exact .inr #[λe=>Kt.1 (e ▸ this),Fe _ z]
  .rename_i ne;rcases Fb.mp h with z|z
   .cases z;exact .inr #[ne,Fi]
   .rcases mem_put Kt.2 z with⟨e1,e2,e3⟩|⟨e1,e2⟩
    .exact .inl #[e1,e2,Fe _ e3]
    .exact .inr #[e1,Fe _ e2]
def jS:∀{M:MS} {a b:Addr} {q:MO},(aq M).Nodup->(b,q)∈mdel M a->b≠a/\(b,q)∈M
 |[],_,_,_,_,h=>by cases h
 |(c,p)::r,a,b,q,nd,h=>by
  have Kt:c∉aq r/\(aq r).Nodup:=FN.mp nd;unfold mdel at h;split at h
  .rename_i e;subst e;exact#[λe=>Kt.1 (e ▸ bD h),Fe _ h]
  .rename_i ne;rcases Fb.mp h with z|z
   .cases z;exact#[ne,Fi]
   .obtain⟨e1,e2⟩:=jS Kt.2 z;exact#[e1,Fe _ e2]
def del_sub:∀{M:MS} {a:Addr},(aq (mdel M a)).Sublist (aq M)
 |[],_=>.slnil
 |(c,p)::r,a=>by
  unfold mdel;split
  .exact List.sublist_cons_self _ _
  .exact List.Sublist.cons_cons _ del_sub
variable{K:Ex}{F H F' H':Hp}
def MRep.mono(ff:Same F F')(hh:∀o,H a=be o->H' a=be o):∀{o:MO},MRep K F H a o->MRep K F' H' a o
 |.ins x fs,⟨C,dx,ws,n,h,r⟩=>#[C,dx,ws,n,hh _ h,RepF.mono ff fs ws r]
 |.lst ds,⟨vs,h,r⟩=>#[vs,hh _ h,Reps.mono ff ds vs r]
 |.dti a8,h=>hh _ h
def MRep.there:∀{o:MO},MRep K F H a o->H a≠z8
 |.ins x fs,⟨C,dx,ws,n,h,r⟩=>by rw[h];exact λz=>nomatch z
 |.lst ds,⟨vs,h,r⟩=>by rw[h];exact λz=>nomatch z
 |.dti a8,h=>by rw[show H a=_ from h];exact λz=>nomatch z
structure RepM(K:Ex)(F H:Hp)(M:MS):Prop where
 nd:(aq M).Nodup
 ok:∀a o,(a,o)∈M->MRep K F H a o
 fr:∀a,a∈aq M->F a=z8
def RepM.nil:RepM K F H []:=#[HE,(λ_ _ h=>nomatch h),(λ_ h=>nomatch h)]
def RepM.here(r:RepM K F H M)(h:a∈aq M):H a≠none:=by
 obtain⟨⟨b,o⟩,h1,rfl⟩:=FF.mp h;exact(r.ok _ _ h1).there
structure GrowM(M M':MS)(F H F' H':Hp):Prop where
 ff:Same F F'
 fh:Same F' H'
 hh:∀b o,b∉aq M->H b=be o->H' b=be o
 out:∀b,b∉aq M->F b=z8->H b≠z8->F' b=z8
 ks:∀b,b∈aq M'->b∈aq M\/H b=z8
def Grow.toM(g:Grow F H F' H'):GrowM M M F H F' H':=#[g.ff,g.fh,λb o _ h=>g.hh b o h,λb _ h1 h2=>g.out b h1 h2,λb h=>.inl h]
def GrowM.refl(h:Same F H):GrowM M M F H F H:=(Grow.refl h).toM
def GrowM.trans{M1 M2:MS}{F1 H1 F2 H2:Hp}(g:GrowM M M1 F H F1 H1)(k:GrowM M1 M2 F1 H1 F2 H2):GrowM M M2 F H F2 H2 where
  ff:=g.ff.trans k.ff
  fh:=k.fh
  hh:=λb o nb h=>k.hh b o (λz=>by rcases g.ks b z with q|q;exact nb q;rw[q]at h;cases h) (g.hh b o nb h)
  out:=λb nb h1 h2=>k.out b (λz=>by rcases g.ks b z with q|q;exact nb q;exact h2 q) (g.out b nb h1 h2) (by
    cases e:H b with
    |none=>exact absurd e h2
    |some o=>rw[g.hh b o nb e];exact λz=>nomatch z)
  ks :=λb h=>by
    rcases k.ks b h with q|q
    . exact g.ks b q
    . by_cases nb:b∈aq M
      . exact .inl nb
      . right;cases e:H b with
        |none=>rfl
        |some o=>rw[g.hh b o nb e]at q;cases q
def RepM.grow(r:RepM K F H M)(g:Grow F H F' H'):RepM K F' H' M:=
 #[r.nd,λa o h=>(r.ok a o h).mono g.ff λo e=>g.hh a o e,λa h=>g.out a (r.fr a h) (r.here h)]
variable{ho:HO}
def RepM.put{o':MO}(r:RepM K F H M)(e:mget M a=be o)(h:MRep K F (upd H a ho) a o'):RepM K F (upd H a ho) (mput M a o'):=
 ⟨by rw[gB];exact r.nd,λb q hb=>by
  rcases mem_put r.nd hb with⟨rfl,rfl,_⟩|⟨ne,hb⟩
  .exact h
  .exact(r.ok b q hb).mono (Same.refl F) λu z=>by rw[aj ne];exact z,λb hb=>r.fr b (by rw[gB]at hb;exact hb)⟩
def GrowM.put{o':MO}(fh:Same F H)(fa:F a=z8)(e:mget M a=be o):GrowM M (mput M a o') F H F (upd H a ho) where
 ff:=Same.refl F
 fh:=λb u z=>by
  have ne:b≠a:=by rintro rfl;rw[fa]at z;cases z
  rw[aj ne];exact fh b u z
 hh:=λb u nb z=>by
  have ne:b≠a:=by rintro rfl;exact nb (bD (bn e))
  rw[aj ne];exact z
 out:=λb _ h _=>h
 ks:=λb h=>.inl (by rw[gB]at h;exact h)
def RepM.new{p:Addr}(r:RepM K F H M)(fh:Same F H)(hp:H p=z8)(h:MRep K F (upd H p ho) p o):RepM K F (upd H p ho) ((p,o)::M):=by
 have np:p∉aq M:=λz=>r.here z hp;refine#[FN.mpr #[np,r.nd],λb q hb=>?_,λb hb=>?_]
 .rcases Fb.mp hb with z|z
  .cases z;exact h
  .exact(r.ok b q z).mono (Same.refl F) λu z'=>by rw[aj (λe:b=p=>np (e ▸ bD z))];exact z'
 .rcases Fb.mp hb with z|z
  .rw[z];exact fh.free hp
  .exact r.fr b z
def GrowM.new{p:Addr}(fh:Same F H)(hp:H p=z8):GrowM M ((p,o)::M) F H F (upd H p ho) where
 ff:=Same.refl F
 fh:=fh.trans (aR hp _)
 hh:=λb u _ z=>aR hp _ b u z
 out:=λb _ h _=>h
 ks:=λb h=>by
  rcases Fb.mp h with z|z
  .exact .inr (by rw[z];exact hp)
  .exact .inl z
structure RepZ(K:Ex)(B F H:Hp)(z:SD)(s:L2.St)(M:MS):Prop where
 rs:RepS K B F H z s
 no:∀(i:Nat) ds,z[i]?≠be (be (.own ds))
 rm:RepM K F H M
 mb:∀a,a∈aq M->B a=z8
variable{B:Hp}{M':MS}
def Kept.growM[Jx]{F0:Hp}(k:Kept B F0 F H)(mb:∀a,a∈aq M->B a=z8)(g:GrowM M M' F H F' H'):Kept B F0 F' H' where
 bh:=λb o e=>g.hh b o (λz=>by rw[mb b z]at e;cases e) (k.bh b o e)
 fh:=g.fh
 f0:=k.f0.trans g.ff
 out:=λb h1 h2=>g.out b (λz=>h2 (mb b z)) (k.out b h1 h2) (by
  cases e:B b with
  |none=>exact absurd e h2
  |some o=>rw[k.bh b o e];exact λz=>nomatch z)
 eb:=k.eb
 jf:=k.jf
 jo:=k.jo
variable{z:SD}{s:L2.St}
def RepS.growM(r:RepS K B F H z s)(no:∀(i:Nat) ds,z[i]?≠be (be (.own ds)))(g:GrowM M M' F H F' H'):RepS K B F' H' z s where
 len:=r.len
 val:=λi d e n=>let ⟨v,q1,q2⟩:=r.val i d e n;#[v,q1,q2.mono g.ff]
 own:=λi ds e=>absurd e (no i ds)
 apart:=r.apart
def RepZ.growM(r:RepZ K B F H z s M)(bh:Same B H)(g:GrowM M M' F H F' H')(rm:RepM K F' H' M'):RepZ K B F' H' z s M':=
 ⟨r.rs.growM r.no g,r.no,rm,λa h=>by
  rcases g.ks a h with q|q
  .exact r.mb a q
  .exact bh.free q⟩
def RepZ.set{i:Nat}{d:D}{v:V}(r:RepZ K B F H z s M)(rd:Rep K F d v):RepZ K B F H (z.set i (be d)) (s.set i (be v)) M:=
 ⟨r.rs.set rd,λj ds e=>by
  by_cases hj:i=j
  .subst hj;rw[F7]at e;simp at e;have:=rd.noown;rw[e.2]at this;cases this
  .rw[Fj hj]at e;exact r.no j ds e,r.rm,r.mb⟩
class Jm extends Jx where
 RM:SD->MS->XD
abbrev TME:=SD->MS->(D->MS->Prop)->Prop
abbrev TMT:=SD->MS->(Bool->MS->Prop)->Prop
abbrev TMA:=SD->MS->(List D->MS->Prop)->Prop
structure EndsM where
 nx:SD->MS->Prop
 rt:D->MS->Prop
 bk:SD->MS->Prop:=λ_ _=>False
 ct:SD->MS->Prop:=λ_ _=>False
abbrev TMS:=EndsM->SD->MS->Prop
def mE(K:Ex)[J:Jm](t:TME):TE:=λs H Q=>∃F z M,Kept J.B J.F0 F H/\RepZ K J.B F H z s M/\∃R:D->MS->Prop,t z M R/\∀d v M' F' H',GrowM M M' F H F' H'->R d M'->Rep K F' d v->RepM K F' H' M'->Q v H'
def mT(K:Ex)[J:Jm](t:TMT):TT:=λs H Q=>∃F z M,Kept J.B J.F0 F H/\RepZ K J.B F H z s M/\∃R:Bool->MS->Prop,t z M R/\∀b M' F' H',GrowM M M' F H F' H'->R b M'->RepM K F' H' M'->Q b H'
def mA(K:Ex)[J:Jm](t:TMA):TA:=λs H Q=>∃F z M,Kept J.B J.F0 F H/\RepZ K J.B F H z s M/\∃R:List D->MS->Prop,t z M R/\∀ds vs M' F' H',GrowM M M' F H F' H'->R ds M'->Reps K F' ds vs->RepM K F' H' M'->Q vs H'
structure EndsOkM[J:Jm](K:Ex)(F0:Hp)(ED:EndsM)(E:Ends):Prop where
 nx:∀z' s' M' F' H',Kept J.B F0 F' H'->ED.nx z' M'->RepZ K J.B F' H' z' s' M'->E.nx s' H'
 rt:∀d v M' F' H',Kept J.B F0 F' H'->ED.rt d M'->Rep K F' d v->RepM K F' H' M'->(∀a,a∈aq M'->J.B a=z8)->E.rt v H'
 bk:∀z' s' M' F' H',Kept J.B F0 F' H'->ED.bk z' M'->RepZ K J.B F' H' z' s' M'->E.bk s' H'
 ct:∀z' s' M' F' H',Kept J.B F0 F' H'->ED.ct z' M'->RepZ K J.B F' H' z' s' M'->E.ct s' H'
def mS(K:Ex)[J:Jm](t:TMS):TS:=λE s H=>∃F0 F z M,Kept J.B F0 F H/\RepZ K J.B F H z s M/\∃ED:EndsM,t ED z M/\EndsOkM K F0 ED E
structure ME(X:Cx)[Jm](e:P3)(t:TME):Prop where
 out:PE X e (mE X.K t)
structure MT(X:Cx)[Jm](e:P3)(t:TMT):Prop where
 out:PT X e (mT X.K t)
structure MW(X:Cx)[Jm](e:P3)(t:TMT):Prop where
 out:PW X e (mT X.K t)
structure MA(X:Cx)[Jm](es:List P3)(t:TMA):Prop where
 out:PA X es (mA X.K t)
structure MSt(X:Cx)[Jm](st:Q0)(t:TMS):Prop where
 out:PS X st (mS X.K t)
structure MSs(X:Cx)[Jm](st:List Q0)(t:TMS):Prop where
 out:PSs X st (mS X.K t)
section
variable {X:Cx}{a b c e:P3}{ta tb:TME}{pos:Q_}
def mP(t:TD):TME:=λz M R=>t z λd=>R d M
def mPT(t:TDT):TMT:=λz M R=>t z λd=>R d M
def mPA(t:TDA):TMA:=λz M R=>t z λd=>R d M
def ae[J:Jm]{t:TD}(h:WDE X e t):ME X e (mP t):=⟨PE.anti h.out λs H Q q=>by
 obtain⟨F,z,M,k,r,R,h1,h2⟩:=q;exact#[J.B,F,z,k,r.rs,_,h1,λd v F' H' g hd rd=>h2 d v M F' H' g.toM hd rd (r.rm.grow g)]⟩
def bj[J:Jm]{t:TDT}(h:WDT X e t):MT X e (mPT t):=⟨PT.anti h.out λs H Q q=>by
 obtain⟨F,z,M,k,r,R,h1,h2⟩:=q;exact#[J.B,F,z,k,r.rs,_,h1,λd F' H' g hd=>h2 d M F' H' g.toM hd (r.rm.grow g)]⟩
variable{es:List P3}
def ar[J:Jm]{t:TDA}(h:WDA X es t):MA X es (mPA t):=⟨PA.anti h.out λs H Q q=>by
 obtain⟨F,z,M,k,r,R,h1,h2⟩:=q;exact#[J.B,F,z,k,r.rs,_,h1,λd v F' H' g hd rd=>h2 d v M F' H' g.toM hd rd (r.rm.grow g)]⟩
def mOp(r:RD2)(ta tb:TME):TME:=λz M R=>ta z M λx M1=>tb z M1 λy M2=>r x y λd=>R d M2
variable{r:R2}{rd:RD2}
def rO[J:Jm]{e:P3}{ta tb:TME}(L:bb X.K r rd)(h:PE X e (tOp r (mE X.K ta) (mE X.K tb))):ME X e (mOp rd ta tb):=⟨h.anti λs H Q q=>by
 obtain⟨F,z,M,k,rs,R,h1,h2⟩:=q;refine#[F,z,M,k,rs,_,h1,λx u M1 F1 H1 g1 hx rx m1=>?_];refine#[F1,z,M1,k.growM rs.mb g1,rs.growM k.bh g1 m1,_,hx,λy v M2 F2 H2 g2 hy ry m2=>?_];exact L x y u v F2 H2 _ Q g2.fh hy (rx.mono g2.ff) ry λd w F3 H3 g3 hd rd=>h2 d w M2 F3 H3 ((g1.trans g2).trans g3.toM) hd rd (m2.grow g3)⟩
def rP[J:Jm]{op:Sm}(ho:OpR X (Rl op) r)(L:bb X.K r rd)(ha:ME X a ta)(hb:ME X b tb):ME X (.BinOp a op b pos) (mOp rd ta tb):=rO L (jj ho ha.out hb.out)
def jT[J:Jm](ha:ME X a ta)(hb:ME X b tb)(hs:autoParam (dQ b) zA6):ME X (.Subscript a b pos) (mOp rdIx ta tb):=rO qM (pe_ix qk ha.out hb.out hs)
def gC[Jm](ha:ME X a ta)(hb:ME X b tb):ME X (.BinOp a .Add b pos) (mOp rdAdd ta tb):=rP qD qE ha hb
def cR[Jm](ha:ME X a ta)(hb:ME X b tb):ME X (.BinOp a .Sub b pos) (mOp rdSub ta tb):=rP pE qF ha hb
def mTst(t:TME):TMT:=λz M R=>t z M λx M1=>match x with|.bl k=>R k M1|_=>False
def dz[J:Jm]{op:S4}(ho:OpR X (Ri op) r)(L:bb X.K r rd)(ha:ME X a ta)(hb:ME X b tb)(hm:Ro op b=false):MT X (.Compare a [op] [b] pos) (mTst (mOp rd ta tb)):=⟨(jm ho ha.out hb.out hm).anti λs H Q q=>by
 obtain⟨F,z,M,k,rs,R,h1,h2⟩:=q;refine#[F,z,M,k,rs,_,h1,λx u M1 F1 H1 g1 hx rx m1=>?_];refine#[F1,z,M1,k.growM rs.mb g1,rs.growM k.bh g1 m1,_,hx,λy v M2 F2 H2 g2 hy ry m2=>?_];refine L x y u v F2 H2 _ _ g2.fh hy (rx.mono g2.ff) ry λd w F3 H3 g3 hd rd=>?_;dsimp only at hd;split at hd
 .exact#[_,rep_bl.mp rd,h2 _ M2 F3 H3 ((g1.trans g2).trans g3.toM) hd (m2.grow g3)]
 .exact hd.elim⟩
def rQ[Jm](ha:ME X a ta)(hb:ME X b tb):MT X (.Compare a [.Lt] [b] pos) (mTst (mOp rdLt ta tb)):=dz pK qI ha hb (nomark _)
def yO[Jm](ha:ME X a ta)(hb:ME X b tb):MT X (.Compare a [.Gt] [b] pos) (mTst (mOp rdGt ta tb)):=dz jl jB ha hb (nomark _)
def fz[Jm](ha:ME X a ta)(hb:ME X b tb):MT X (.Compare a [.Eq] [b] pos) (mTst (mOp rdEq ta tb)):=dz jk jC ha hb (nomark _)
def jU[Jm](ha:ME X a ta)(hb:ME X b tb):MT X (.Compare a [.NotEq] [b] pos) (mTst (mOp rdNe ta tb)):=dz pJ qJ ha hb (nomark _)
def jV[Jm](ha:ME X a ta)(hb:ME X b tb):MT X (.Compare a [.Is] [b] pos) (mTst (mOp (rdIs id) ta tb)):=dz pL qL ha hb (nomark _)
def yQ[Jm](ha:ME X a ta)(hb:ME X b tb)(hm:autoParam (Ro .NotIn b=false) zA0):MT X (.Compare a [.NotIn] [b] pos) (mTst (mOp (rdIn true) ta tb)):=dz yG yF ha hb hm
variable {tA tB:TMT}{rest:List P3}
def mt_w[Jm](h:MW X a tA):MT X a tA:=#[PW.pt h.out]
def yR[Jm](ha:MT X a tA):MW X (.BoolOp .And [a] pos) tA:=#[pi ha.out]
def eF[Jm](ha:MT X a tA):MW X (.BoolOp .Or [a] pos) tA:=#[pj ha.out]
def mAnd(tA tB:TMT):TMT:=λz M R=>tA z M λk M1=>if k=true then tB z M1 R else R false M1
def mOr(tA tB:TMT):TMT:=λz M R=>tA z M λk M1=>if k=true then R true M1 else tB z M1 R
def yS[J:Jm](ha:MT X a tA)(hb:MW X (.BoolOp .And (b::rest) pos) tB):MW X (.BoolOp .And (a::b::rest) pos) (mAnd tA tB):=⟨(pk ha.out hb.out).anti λs H Q q=>by
 obtain⟨F,z,M,k,rs,R,h1,h2⟩:=q;refine#[F,z,M,k,rs,_,h1,λx M1 F1 H1 g1 hx m1=>?_];cases x with
 |true=>exact#[F1,z,M1,k.growM rs.mb g1,rs.growM k.bh g1 m1,R,hx,λy M2 F2 H2 g2 hy m2=>h2 y M2 F2 H2 (g1.trans g2) hy m2]
 |false=>exact h2 _ M1 F1 H1 g1 hx m1⟩
def dA[J:Jm](ha:MT X a tA)(hb:MW X (.BoolOp .Or (b::rest) pos) tB):MW X (.BoolOp .Or (a::b::rest) pos) (mOr tA tB):=⟨(pq ha.out hb.out).anti λs H Q q=>by
 obtain⟨F,z,M,k,rs,R,h1,h2⟩:=q;refine#[F,z,M,k,rs,_,h1,λx M1 F1 H1 g1 hx m1=>?_];cases x with
 |false=>exact#[F1,z,M1,k.growM rs.mb g1,rs.growM k.bh g1 m1,R,hx,λy M2 F2 H2 g2 hy m2=>h2 y M2 F2 H2 (g1.trans g2) hy m2]
 |true=>exact h2 _ M1 F1 H1 g1 hx m1⟩
def mIf(tc:TMT)(ta tb:TME):TME:=λz M R=>tc z M λk M1=>if k=true then ta z M1 R else tb z M1 R
def fA[J:Jm]{tc:TMT}(hc:MT X c tc)(ha:ME X a ta)(hb:ME X b tb):ME X (.IfExp c a b pos) (mIf tc ta tb):=⟨(vi hc.out ha.out hb.out).anti λs H Q q=>by
 obtain⟨F,z,M,k,rs,R,h1,h2⟩:=q;refine#[F,z,M,k,rs,_,h1,λx M1 F1 H1 g1 hx m1=>?_];cases x with
 |true=>exact#[F1,z,M1,k.growM rs.mb g1,rs.growM k.bh g1 m1,R,hx,λd v M2 F2 H2 g2 hy rd m2=>h2 d v M2 F2 H2 (g1.trans g2) hy rd m2]
 |false=>exact#[F1,z,M1,k.growM rs.mb g1,rs.growM k.bh g1 m1,R,hx,λd v M2 F2 H2 g2 hy rd m2=>h2 d v M2 F2 H2 (g1.trans g2) hy rd m2]⟩
def mNil:TMA:=λ_ M R=>R [] M
def yT(ta:TME)(tr:TMA):TMA:=λz M R=>ta z M λx M1=>tr z M1 λxs M2=>R (x::xs) M2
def aT[J:Jm]:MA X [] mNil:=⟨pa_nil.anti λs H Q q=>by
 obtain⟨F,z,M,k,rs,R,h1,h2⟩:=q;exact h2 [] [] M F H (GrowM.refl k.fh) h1 (reps_nil.mpr rfl) rs.rm⟩
variable{t:TMA}
def av[J:Jm]{e:P3}{te:TME}(ha:ME X e te)(hr:MA X es t)(hs:autoParam (zSE X e es) zA0):MA X (e::es) (yT te t):=⟨(bo ha.out hr.out hs).anti λs H Q q=>by
 obtain⟨F,z,M,k,rs,R,h1,h2⟩:=q;refine#[F,z,M,k,rs,_,h1,λx u M1 F1 H1 g1 hx rx m1=>?_];refine#[F1,z,M1,k.growM rs.mb g1,rs.growM k.bh g1 m1,_,hx,λxs us M2 F2 H2 g2 hy ry m2=>?_];exact h2 _ _ M2 F2 H2 (g1.trans g2) hy (reps_cons.mpr #[_,_,rfl,rx.mono g2.ff,ry]) m2⟩
def mTup(t:TMA):TME:=λz M R=>t z M λxs M1=>xs.length<=1000/\R (.tup xs) M1
def rR[J:Jm]{x1}(h:MA X es t):ME X (.Tuple es x1 pos) (mTup t):=⟨(pU h.out).anti λs H Q q=>by
 obtain⟨F,z,M,k,rs,R,h1,h2⟩:=q;refine#[F,z,M,k,rs,_,h1,λds vs M1 F1 H1 g1 hx rx m1=>?_];have hl:=rx.length;refine#[sz (by rw[hl];exact hx.1),λp hp=>?_];have gn:=Grow.new g1.fh hp (.tup vs);exact h2 _ _ M1 _ _ (g1.trans gn.toM) hx.2 (rep_tupS.mpr #[p,vs,rfl,aw,rx.mono (aR (g1.fh.free hp) _)]) (m1.grow gn)⟩
def mLst(t:TMA):TME:=λz M R=>t z M λxs M1=>xs.length<=1000/\∀p,p∉aq M1->R (.ptr p) ((p,.lst xs)::M1)
def eG[J:Jm](h:MA X es t):ME X (.List es pos) (mLst t):=⟨(jr h.out).anti λs H Q q=>by
 obtain⟨F,z,M,k,rs,R,h1,h2⟩:=q;refine#[F,z,M,k,rs,_,h1,λds vs M1 F1 H1 g1 hx rx m1=>?_];have hl:=rx.length;refine#[sz (by rw[hl];exact hx.1),λp hp=>?_];exact h2 _ _ _ F1 _ (g1.trans (GrowM.new g1.fh hp)) (hx.2 p λz=>m1.here z hp) (rep_ptr.mpr rfl) (m1.new g1.fh hp #[vs,aw,rx])⟩
def mCB(r:RDn)(t:TMA):TME:=λz M R=>t z M λds M1=>r ds λd=>R d M1
variable{x:E_}{p:Q_}
def yU[J:Jm]{e:P3}{id:String}{r:List V->Hp->VK->Prop}{rd:RDn}(hc:bK X (.builtin id) r)(L:cx X.K r rd)(hm:X.mg x=z8)(hv:Rc x=be (.builtin id))(ha:MA X (e::es) t)(hg:autoParam (Gl X x) zA0)(hn:autoParam (x≠"__name__") zA1)(c_:autoParam (zND x) zA1)
  (he:autoParam (zSE X e es) zA0) (c5:autoParam (zPL X pos es) zA0):ME X (.Call (.Name x p) (e::es) [] pos) (mCB rd t):=⟨(fj hc hg hm hv ha.out hn c_ he c5).anti λs H Q h=>by
 obtain⟨F,z,M,k,rs,R,h1,h2⟩:=h;refine#[F,z,M,k,rs,_,h1,λds vs M1 F1 H1 g1 hx rx m1=>?_];exact L ds vs F1 H1 _ Q g1.fh hx rx λd w F' H' g hd rd=>h2 d w M1 F' H' (g1.trans g.toM) hd rd (m1.grow g)⟩
def rS[Jm]{e:P3}(hm:X.mg "len"=z8)(ha:MA X [e] t)(hg:autoParam (Gl X "len") zA0)(he:autoParam (zSE X e []) zA0):ME X (.Call (.Name "len" p) [e] [] pos) (mCB rdLen t):=yU jn qO hm PySem.boot_len ha hg Ji Ji he
def yV[J:Jm]{e:P3}{T:String}{r:List V->Hp->VK->Prop}{rd:RDn}(hc:bK X (.type T) r)(L:cx X.K r rd)(hm:X.mg x=z8)(hv:Rc x=be (.type T))(ha:MA X (e::es) t)(hg:autoParam (Gl X x) zA0)(hn:autoParam (x≠"__name__") zA1)(c_:autoParam (zND x) zA1)
  (he:autoParam (zSE X e es) zA0) (c5:autoParam (zPL X pos es) zA0):ME X (.Call (.Name x p) (e::es) [] pos) (mCB rd t):=⟨(pZ hc hg hm hv ha.out hn c_ he c5).anti λs H Q h=>by
 obtain⟨F,z,M,k,rs,R,h1,h2⟩:=h;refine#[F,z,M,k,rs,_,h1,λds vs M1 F1 H1 g1 hx rx m1=>?_];exact L ds vs F1 H1 _ Q g1.fh hx rx λd w F' H' g hd rd=>h2 d w M1 F' H' (g1.trans g.toM) hd rd (m1.grow g)⟩
def rT[Jm](hm:X.mg "int"=z8)(ha:MA X [e] t)(hg:autoParam (Gl X "int") zA0)(he:autoParam (zSE X e []) zA0):ME X (.Call (.Name "int" p) [e] [] pos) (mCB rdInt t):=yV qX qY hm PyProof.Rows.boot_int ha hg Ji Ji he
def cS(M:MS)(d:D)(x:E_)(fs:List (E_×D)):Prop:=match d with|.ptr a=>mget M a=be (.ins x fs)|.obj y gs=>y=x/\gs=fs|_=>False
def mFld(x f:E_)(te:TME):TME:=λz M R=>te z M λd M1=>∃fs,cS M1 d x fs/\∃d',fs.lookup f=be d'/\R d' M1
def gD{K:Ex}{F H:Hp}{M:MS}{d:D}{v:V}{fs:List (E_×D)}(fh:Same F H)(rm:RepM K F H M)(rd:Rep K F d v)(h:cS M d x fs):∃a C dx ws,v=.ref a/\nsIn K Os x=be (be (.ref C))/\H a=be (.ins C dx ws)/\RepF K F fs ws:=by
 unfold cS at h;split at h
 .rename_i a;obtain⟨C,dx,ws,n,h1,h2⟩:=rm.ok _ _ (bn h);exact#[a,C,dx,ws,rep_ptr.mp rd,n,h1,h2]
 .obtain⟨rfl,rfl⟩:=h;obtain⟨a,C,dx,ws,e,n,h1,h2⟩:=rep_obj.mp rd;exact#[a,C,dx,ws,e,n,fh _ _ h1,h2]
 .exact h.elim
def ax[J:Jm]{f:E_}(hA:ClsA X.K x f)(he:ME X e ta)(hb:autoParam (Q6 e f X.env (Q7 e X.env)=Q7 e X.env) zA0):ME X (.Attribute e f pos) (mFld x f ta):=⟨(pR he.out hb).anti λs H Q q=>by
 obtain⟨C,hn,hc,hf⟩:=hA;obtain⟨F,z,M,k,rs,R,h1,h2⟩:=q;refine#[F,z,M,k,rs,_,h1,λd u M1 F1 H1 g1 hx rx m1=>?_];obtain⟨fs,hi,d',hl,hR⟩:=hx;obtain⟨a,C',dx,ws,rfl,f8,hH,rf⟩:=gD g1.fh m1 rx hi;rw[hn]at f8;cases f8;obtain⟨v,l,rv⟩:=rf.look hl;exact#[a,C,dx,ws,v,rfl,hH,hc,hf,l,h2 d' v M1 F1 H1 g1 hR rv m1]⟩
end
abbrev XDM:=E_->List (E_×D)->MS->Prop
abbrev SpM:=List D->MS->(D->MS->Prop)->XDM->Prop
def lSpM(K:Ex)(S:SpM):Sp:=λvs H Q E=>∃F ds M,Same F H/\Reps K F ds vs/\RepM K F H M/\∃(R:D->MS->Prop) (RX:XDM),S ds M R RX/\(∀d v M' F' H',GrowM M M' F H F' H'->R d M'->Rep K F' d v->RepM K F' H' M'->Q v H')/\
 ∀x fs C od M' F' H',GrowM M M' F H F' H'->RX x fs M'->ErrD K F' x fs C od->RepM K F' H' M'->E (.ref C) od H'
abbrev CalMM(P:Pi)(w:Q2)(K:Ex)(mg:E_->Option KB)(base:Heap)(n:Nat)(x:E_)(ps:List E_)(S:SpM):Prop:=Cal P w K mg base n x ps (lSpM K S)
def ofX(S:SpX):SpM:=λds M R RX=>S ds (λd=>R d M) λx fs=>RX x fs M
def ofD(S:SpD):SpM:=λds M R _=>S ds λd=>R d M
variable{vs:List V}
def yY{S:SpX}{Q:VK}{E:XK}(h:lSpM K (ofX S) vs H Q E):lSpX K S vs H Q E:=by
 obtain⟨F,ds,M,fh,rs,rm,R,RX,hS,q,qx⟩:=h;exact#[F,ds,fh,rs,_,_,hS,λd v F' H' g hd rd=>q d v M F' H' g.toM hd rd (rm.grow g),λx fs C od F' H' g hR er=>qx x fs C od M F' H' g.toM hR er (rm.grow g)]
def yZ{S:SpD}{Q:VK}{E:XK}(h:lSpM K (ofD S) vs H Q E):lSp K S vs H Q E:=by
 obtain⟨F,ds,M,fh,rs,rm,R,RX,hS,q,qx⟩:=h;exact#[F,ds,fh,rs,_,hS,λd v F' H' g hd rd=>q d v M F' H' g.toM hd rd (rm.grow g)]
section
variable {P:Pi}{w:Q2}{K:Ex}{mg:E_->Option KB}{base:Heap}{n:Nat}{x:E_}{ps:List E_}
def CalX.toM{S:SpX}(C:CalX P w K mg base n x ps S):CalMM P w K mg base n x ps (ofX S):=by
 obtain⟨f,fd,F,hb,hk,hm⟩:=C;exact#[f,fd,F.imp λvs H Q E h=>yY h,hb,hk,hm]
def CalD.toM{S:SpD}(C:CalD P w K mg base n x ps S):CalMM P w K mg base n x ps (ofD S):=by
 obtain⟨f,fd,F,hb,hk,hm⟩:=C;exact#[f,fd,F.imp λvs H Q E h=>yZ h,hb,hk,hm]
def CalMth(P:Pi)(w:Q2)(K:Ex)(mg:E_->Option KB)(base:Heap)(n:Nat)(x m:E_)(ps:List E_)(sp:Sp):Prop:=
 ∃C f fd,nsIn K Os x=be (be (.ref C))/\Cls K C/\Meth K C m f/\FnOk P w K mg base (CX1 P w) n f fd ps sp/\Binds K fd ps []
variable{sp:Sp}
def Cal.mono{n':Nat}(h:Cal P w K mg base n x ps sp)(hn:n<=n'):Cal P w K mg base n' x ps sp:=by
 obtain⟨f,fd,F,h⟩:=h;exact#[f,fd,F.mono hn,h]
def Cal.imp{IK:Sp}(h:Cal P w K mg base n x ps sp)(i:∀vs H Q E,IK vs H Q E->sp vs H Q E):Cal P w K mg base n x ps IK:=by
 obtain⟨f,fd,F,h⟩:=h;exact#[f,fd,F.imp i,h]
def CalMth.imp{m:E_}{IK:Sp}(h:CalMth P w K mg base n x m ps sp)(i:∀vs H Q E,IK vs H Q E->sp vs H Q E):CalMth P w K mg base n x m ps IK:=by
 obtain⟨C,f,fd,h1,h2,h3,h4,h5⟩:=h;exact#[C,f,fd,h1,h2,h3,h4.imp i,h5]
end
def XOkM(X:Cx)[J:Jm]:Prop:=∀(σ:L2.St) (z:SD) (M:MS) (F H:Hp) (s:KF) (e C:Addr) (od:Option Addr) (x:E_) (fs:List (E_×D)),Inv X [] σ H s->Kept J.B J.F0 F H->RepZ X.K J.B F H z σ M->J.RM z M x fs->ErrD X.K F x fs C od->Exd X H s e C od->X.xe (.ref e) s
def EX(X:Cx)[J:Jm](z:SD)(σ:L2.St):XK:=λCv od H'=>∃x fs C M' F',Cv=.ref C/\Kept J.B J.F0 F' H'/\RepZ X.K J.B F' H' z σ M'/\J.RM z M' x fs/\ErrD X.K F' x fs C od
def XOkM.out{X:Cx}[J:Jm](hx:XOkM X)(d6:X.ex=[]){pins:List (Addr×Re)}{σ:L2.St}{s s':KF}{ev:KB}(I:Inv X pins σ H s)
  (h:CX1 X.prog X.w X.stack H s (EX X z σ) ev s'):X.xe ev s':=by
 obtain⟨e,C,od,T,H',rfl,G_,hb,un,hok,L8,ne,nT,He,HT,x,fs,C',M',F',hC,kk,rr,hR,er⟩:=h;cases hC;have I':Inv X pins σ H' s':=I.call' G_ un hok hb (λb z=>absurd z J4);exact hx σ z M' F' H' s' e C od x fs (Inv.nopins I') kk rr hR er #[He,cA I d6 ne,pn_free I ne,.inr #[T,L8,cA I d6 nT,HT,pn_free I nT]]
section
variable {X:Cx}[J:Jm]{a b c e o:P3}{ta tb te:TME}{pos p apos cpos:Q_}{n m:Nat}{ps:List E_}{S:SpM}{x:E_}{es:List P3}{t:TMA}
def za(S:SpM)(t:TMA):TME:=λz M R=>t z M λds M1=>S ds M1 R λx fs M'=>J.RM z M' x fs
variable{ds:List My.D}{vs:List V}
def gE{σ:L2.St}{z:SD}{M M1:MS}{F H F1 H1:Hp}{Q:VK}{R:D->MS->Prop}(k:Kept J.B J.F0 F H)(rs:RepZ X.K J.B F H z σ M)(g1:GrowM M M1 F H F1 H1)(m1:RepM X.K F1 H1 M1)(rx:Reps X.K F1 ds vs)
  (hS:S ds M1 R λx fs M'=>J.RM z M' x fs) (h2:∀d v M' F' H',GrowM M M' F H F' H'->R d M'->Rep X.K F' d v->RepM X.K F' H' M'->Q v H'):lSpM X.K S vs H1 Q (EX X z σ):=
 #[F1,ds,M1,g1.fh,rx,m1,R,_,hS,λd v M' F' H' g hd rd m'=>h2 d v M' F' H' (g1.trans g) hd rd m',λy fs C od M' F' H' g hR er m'=>#[y,fs,C,M',F',rfl,(k.growM rs.mb g1).growM (rs.growM k.bh g1 m1).mb g,(rs.growM k.bh g1 m1).growM (k.growM rs.mb g1).bh g m',hR,er]]
def aF(C:CalMM X.prog X.w X.K X.mg X.base n x ps S)(hx:XOkM X)(hr:Room m X.A)(ha:MA X (e::es) t)(d6:autoParam (X.ex=[]) zA0)(hg:autoParam (Gl X x) zA0)(hn:autoParam (n<=m) zA1)(c_:autoParam (zND x) zA1)
  (he:autoParam (zSE X e es) zA0) (c5:autoParam (zPL X pos es) zA0):
  ME X (.Call (.Name x p) (e::es) [] pos) (za S t):=by
 obtain⟨f,fd,F,hb,hk,hm⟩:=C;refine#[λpins s σ H Q I h=>?_];obtain⟨Fr,z,M,k,rs,R,h1,h2⟩:=h;refine Rb (cj I hg hm ?_ c_);refine callWith_K (h₀:=X.base) I.ok.mod.kin hk (thn (ha.out pos pins s σ H (λvs H1=>lSpM X.K S vs H1 Q (EX X z σ)) I #[Fr,z,M,k,rs,_,h1,λds vs M1 F1 H1 g1 hx rx m1=>gE k rs g1 m1 rx hx h2]) λus s1 hh=>#[hh.elim λ_ h=>h.elim λ_ h=>h.1.kIn,?_]) he c5;obtain⟨vs,H1,I1,r,q⟩:=hh;exact gw F (hr.mono hn) hb (λe s' hq=>hx.out d6 I1 hq) I1 r q
def rV(cs:List E_)(m:E_)(S:E_->SpM)(to:TME)(t:TMA):TME:=λz M R=>to z M λd M1=>∃x,x∈cs/\∃fs,cS M1 d x fs/\fs.lookup m=z8/\t z M1 λds M2=>S x (d::ds) M2 R λx fs M'=>J.RM z M' x fs
variable{cs:List E_}{pl:SB Bool}
def aP{nm:E_}{S:E_->SpM}(C:∀x,x∈cs->CalMth X.prog X.w X.K X.mg X.base n x nm ps (lSpM X.K (S x)))(hx:XOkM X)(hr:Room m X.A)(ho:ME X o te)(ha:MA X (e::es) t)(d6:autoParam (X.ex=[]) zA0)(hn:autoParam (n<=m) zA1)
  (j4:autoParam (zSE X e es) zA0) (c5:autoParam (zPL X pos es) zA0)
  (ht:Q7 (.Call (.Attribute o nm apos) (e::es) [] pos) X.env=(do
   let ov <-Q7 o X.env
   RK apos.atName
   let (f,first) <-Rq [ov] (R3 ov nm pl)
   SK pos f first (Rx pos (Q4 (e::es) X.env)) (RU pos (Rv [] X.env))):=by rfl):
  ME X (.Call (.Attribute o nm apos) (e::es) [] pos) (rV cs nm S te t):=by
 refine#[λpins s σ H Q I h=>?_];obtain⟨Fr,z,M,k,rs,R,h1,h2⟩:=h;refine methodCall_KW (pl:=pl) (thn (ho.out pins s σ H (λv H1=>∃d M1 F1,GrowM M M1 Fr H F1 H1/\Rep X.K F1 d v/\RepM X.K F1 H1 M1/\∃x,x∈cs/\∃fs,cS M1 d x fs/\fs.lookup nm=z8/\t z M1 λds M2=>S x (d::ds) M2 R λx fs M'=>J.RM z M' x fs) I #[Fr,z,M,k,rs,_,h1,λd v M1 F1 H1 g1 hd rd m1=>#[d,M1,F1,g1,rd,m1,hd]]) λu s1 hh=>?_) ht;obtain⟨v,H1,I1,rv,d,M1,F1,g1,rd,m1,x,Mn,fs,hi,hl,hq⟩:=hh;obtain⟨C',f,fd,hns,gt,IQ,F,hb⟩:=C x Mn;obtain⟨a,C2,dx,ws,rfl,l8,hH,rf⟩:=gD g1.fh m1 rd hi;rw[hns]at l8;cases l8;obtain rfl:u=Value.ref a:=rv;refine jq I1 hH gt IQ (rf.none hl) ?_;refine callWith_K (first:=[.ref a]) (h₀:=X.base) I.ok.mod.kin IQ.kp (thn (ha.out pos pins s1 σ H1 (λvs H2=>lSpM X.K (S x) (.ref a::vs) H2 Q (EX X z σ)) I1 #[F1,z,M1,k.growM rs.mb g1,rs.growM k.bh g1 m1,_,hq,λds vs M2 F2 H2 g2 hx rx m2=>gE k rs (g1.trans g2) m2 (reps_cons.mpr #[_,_,rfl,rd.mono g2.ff,rx]) hx h2]) λus s2 hh=>#[hh.elim λ_ h=>h.elim λ_ h=>h.1.kIn,?_]) j4 c5;obtain⟨vs,H2,I2,r,q2⟩:=hh;exact gw (us:=.ref a::us) (vs:=.ref a::vs) F (hr.mono hn) hb (λe s' hq=>hx.out d6 I2 hq) I2 (.cons rfl r) q2
def bR{nm:E_}{S:E_->SpM}(C:∀x,x∈cs->CalMth X.prog X.w X.K X.mg X.base n x nm ps (lSpM X.K (S x)))(hx:XOkM X)(hr:Room m X.A)(ho:ME X o te)(d6:autoParam (X.ex=[]) zA0)(hn:autoParam (n<=m) zA1)
  (ht:Q7 (.Call (.Attribute o nm apos) [] [] pos) X.env=(do
   let ov <-Q7 o X.env
   RK apos.atName
   let (f,first) <-Rq [ov] (R3 ov nm pl)
   SK pos f first (Rx pos (Q4 [] X.env)) (RU pos (Rv [] X.env))):=by rfl):
  ME X (.Call (.Attribute o nm apos) [] [] pos) (rV cs nm S te mNil):=by
 refine#[λpins s σ H Q I h=>?_];obtain⟨Fr,z,M,k,rs,R,h1,h2⟩:=h;refine methodCall_KW (pl:=pl) (thn (ho.out pins s σ H (λv H1=>∃d M1 F1,GrowM M M1 Fr H F1 H1/\Rep X.K F1 d v/\RepM X.K F1 H1 M1/\∃x,x∈cs/\∃fs,cS M1 d x fs/\fs.lookup nm=z8/\S x [d] M1 R λx fs M'=>J.RM z M' x fs) I #[Fr,z,M,k,rs,_,h1,λd v M1 F1 H1 g1 hd rd m1=>#[d,M1,F1,g1,rd,m1,hd]]) λu s1 hh=>?_) ht;obtain⟨v,H1,I1,rv,d,M1,F1,g1,rd,m1,x,Mn,fs,hi,hl,hq⟩:=hh;obtain⟨C',f,fd,hns,gt,IQ,F,hb⟩:=C x Mn;obtain⟨a,C2,dx,ws,rfl,l8,hH,rf⟩:=gD g1.fh m1 rd hi;rw[hns]at l8;cases l8;obtain rfl:u=Value.ref a:=rv;refine jq I1 hH gt IQ (rf.none hl) ?_;refine callWith_K0 (first:=[.ref a]) I1.kIn IQ.kp (gw (E:=EX X z σ) (us:=[.ref a]) (vs:=[.ref a]) F (hr.mono hn) hb (λe s' hq=>hx.out d6 I1 hq) I1 (.cons rfl .nil) ?_);exact gE k rs g1 m1 (eo rd) hq h2
def make_of{C:Addr}{S:SiD}{x:E_}{σ:L2.St}{z:SD}{M M1:MS}{F H F1 H1:Hp}{a dx:Addr}{Q:VK}{E:XK}{T:List (E_×D)->Prop}(g1:GrowM M M1 F H F1 H1)(m1:RepM X.K F1 H1 M1)(rx:Reps X.K F1 ds vs)(hS:S ds T)
  (ha:H1 a=z8) (m9:H1 dx=z8) (j3:dx≠a) (q:∀fs ws dx F' H',Grow F1 H1 F' H'->T fs->H' a=be (.ins C dx ws)->F' a=z8->RepF X.K F' fs ws->Q (.ref a) H'):
  lSi X.K C S (.ref a::(vs++[])) (upd (upd H1 dx (.own a)) a (.ins C dx [])) (λv H2=>v=.non/\Q (.ref a) H2) E:=
 #[a,dx,vs,H1,F1,ds,by rw[FE],rfl,ha,m9,j3,g1.fh,rx,_,hS,λfs ws Iw F' H' g hR d7 g5 rf=>#[rfl,q fs ws Iw F' H' g hR d7 g5 rf]]
def zb(x:E_)(S:SiD)(t:TMA):TME:=λz M R=>t z M λds M1=>S ds λfs=>R (.obj x fs) M1
def gG{S:SiD}(M:CalM X.prog X.w X.K X.mg X.base n x ps S)(hr:Room m X.A)(ha:MA X (e::es) t)(hg:autoParam (Gl X x) zA0)(hn:autoParam (n+1<=m) zA1)(c_:autoParam (zND x) zA1)
  (he:autoParam (zSE X e es) zA0) (c5:autoParam (zPL X pos es) zA0):
  ME X (.Call (.Name x p) (e::es) [] pos) (zb x S t):=by
 obtain⟨C,f,fd,hns,i8,mk,F,hb⟩:=M;refine#[(fX mk F (hr.mono hn) hg i8 hb .nil dU ha.out c_ he c5).anti λs H Q q=>?_];obtain⟨F,z,M,k,rs,R,h1,h2⟩:=q;refine#[F,z,M,k,rs,_,h1,λds vs M1 F1 H1 g1 hx rx m1=>?_];intro a dx ha m9 j3;refine make_of (σ:=s) (z:=z) (x:=x) g1 m1 rx hx ha m9 j3 λfs ws dx F' H' g hR d7 g5 rf=>?_;have s1:Same F' (upd F' a (.ins C dx ws)):=aR g5 _;have g2:Grow F1 H1 (upd F' a (.ins C dx ws)) H':=⟨g.ff.trans s1,λb o q=>by
  by_cases hb:b=a
  .subst hb;rw[aw]at q;cases q;exact d7
  .rw[aj hb]at q;exact g.fh b o q,g.hh,λb q1 q2=>by
  by_cases hb:b=a
  .subst hb;exact absurd ha q2
  .rw[aj hb];exact g.out b q1 q2⟩
 exact h2 (.obj x fs) (.ref a) M1 (upd F' a (.ins C dx ws)) H' (g1.trans g2.toM) hR (rep_obj.mpr #[a,C,dx,ws,rfl,hns,aw,RepF.mono s1 fs ws rf]) (m1.grow g2)
def zc(x:E_)(S:SiD)(t:TMA):TME:=λz M R=>t z M λds M1=>S ds λfs=>∀a,a∉aq M1->R (.ptr a) ((a,.ins x fs)::M1)
def zd{S:SiD}(M:CalM X.prog X.w X.K X.mg X.base n x ps S)(hr:Room m X.A)(ha:MA X (e::es) t)(hg:autoParam (Gl X x) zA0)(hn:autoParam (n+1<=m) zA1)(c_:autoParam (zND x) zA1)
  (he:autoParam (zSE X e es) zA0) (c5:autoParam (zPL X pos es) zA0):
  ME X (.Call (.Name x p) (e::es) [] pos) (zc x S t):=by
 obtain⟨C,f,fd,hns,i8,mk,F,hb⟩:=M;refine#[(fX mk F (hr.mono hn) hg i8 hb .nil dU ha.out c_ he c5).anti λs H Q q=>?_];obtain⟨F,z,M,k,rs,R,h1,h2⟩:=q;refine#[F,z,M,k,rs,_,h1,λds vs M1 F1 H1 g1 hx rx m1=>?_];intro a dx ha m9 j3;refine make_of (σ:=s) (z:=z) (x:=x) g1 m1 rx hx ha m9 j3 λfs ws dx F' H' g hR d7 g5 rf=>?_;have na:a∉aq M1:=λz=>m1.here z ha;have m2:=m1.grow g;refine h2 (.ptr a) (.ref a) _ F' H' (g1.trans #[g.ff,g.fh,λb o _ q=>g.hh b o q,λb _ q1 q2=>g.out b q1 q2,λb q=>?_]) (hR a na) (rep_ptr.mpr rfl) #[FN.mpr #[na,m2.nd],λb o q=>?_,λb q=>?_]
 .rcases Fb.mp q with q|q
  .exact .inr (by rw[q];exact ha)
  .exact .inl q
 .rcases Fb.mp q with q|q
  .cases q;exact#[C,dx,ws,hns,d7,rf]
  .exact m2.ok b o q
 .rcases Fb.mp q with q|q
  .rw[q];exact g5
  .exact m2.fr b q
end
section
variable {X:Cx}{x:E_}{e:P3}{es:List P3}{t:TA}{p cpos pos:Q_}{n m:Nat}{ps:List E_}{S:SiD}
def gH(X:Cx)(σ:L2.St)(F1 H1:Hp)(x:E_)(fs:List (E_×D)):Prop:=∀F' H' s' e C od,Inv X [] σ H' s'->Grow F1 H1 F' H'->ErrD X.K F' x fs C od->Exd X H' s' e C od->X.xe (.ref e) s'
def ze(M:CalE X.prog X.w X.K X.mg X.base n x ps S)(hr:Room m X.A)(hc:X.calm=true)(ha:PA X (e::es) t)(d6:autoParam (X.ex=[]) zA0)(hg:autoParam (Gl X x) zA0)(hn:autoParam (n+1<=m) zA1)(c_:autoParam (zND x) zA1)
  (he:autoParam (zSE X e es) zA0) (c5:autoParam (zPL X cpos es) zA0):
  PS X (.Raise (be (.Call (.Name x p) (e::es) [] cpos)) z8 pos) (λ_ σ H=>t σ H λvs H1=>vs.length<=1000/\∃F1 ds,Same F1 H1/\Reps X.K F1 ds vs/\∃T:List (E_×D)->Prop,S ds T/\∀fs,T fs->gH X σ F1 H1 x fs):=by
 obtain⟨C,N,bm,f,fd,k,hi,J2,Fn,hb⟩:=M;intro pins s σ H D I h;obtain⟨nm,q,bs,sn,sub,ab,col,dd,k0,k1,k2,k3,k5,lk⟩:=k.obj;refine jz (nm:=nm) (q:=q) (C:=C) (N:=N) (bs:=bs) (bm:=bm) (hdct:=true) (sn:=sn) (sub:=sub) (ab:=ab) (col:=col) (dd:=dd) (k0:=k0) (k1:=k1) (k2:=k2) (k3:=k3) (k5:=k5) (newId:="ValueError.__new__") k.base (I.ok.hd hc) ?_;refine Rb (cj I hg k.mg ?_ c_);refine callWith_K (h₀:=X.base) I.ok.mod.kin k.kp (thn (ha cpos pins s σ H _ I h) λus s1 hh=>#[hh.elim λ_ h=>h.elim λ_ h=>h.1.kIn,?_]) he c5;obtain⟨vs,H1,I1,r,hl,F1,ds,Mo,rx,T,hS,hT⟩:=hh;have hC:=I1.kIn _ _ lk;have PB:us.length<=sizeLine:=by rw[<-L2.Vals.length r];exact sz hl
 refine xb (g:=s1.gens) (d:=s1.drawn) (t:=s1.toks) (os:=s1.os) (rest:=us) I1.kIn (tail_of_in I1.kIn k.tail) hC hi (beq_iff_eq.mp J2) (λh' ea hm=>?_) PB;have I2:=Inv.newx I1 d6 hm;have r2:Vals (V.ref ea::vs) (Value.ref ea::us):=.cons rfl r;have He:H1 ea=none:=fv I1.hok hm.new;have o9:lEi X.K C S (V.ref ea::vs) (upd H1 ea (XN ea C z8)) (λv H'=>v=.non/\∃fs od F',Grow F1 H1 F' H'/\gH X σ F1 H1 x fs/\H' ea=be (XN ea C od)/\F' ea=z8/\ErrF X.K F' fs od) (λ_ _ _=>False):=
  #[ea,vs,H1,F1,ds,rfl,rfl,He,Mo,rx,_,hS,λfs od F' H' g hR h1 h2 h3=>#[rfl,fs,od,F',g,hT fs hR,h1,h2,h3]]
 have b8:(Value.ref ea::us).length=ps.length:=by rw[<-L2.Vals.length r2];exact Fn.len _ _ _ _ o9
 have f7:=hb {s1 with heap:=h'} (Value.ref ea::us) I2.kIn (by rw[FE];exact b8);rw[FE]at f7;refine Rz (Rw (Fn.run _ X.stack _ _ #[Value.ref ea::us,[]] (Value.ref ea::us) _ _ _ ((hr.mono hn).make C us []) (I2.env0.make C us []) f7 r2 o9) λrr s' hq=>?_);cases rr with
 |error e'=>exact(dU (X:=X) pins σ _ _ e' s' I2 hq:X.xe e' s')
 |ok fl=>
  cases fl with
  |next=>exact False.elim hq
  |brk=>exact False.elim hq
  |cont=>exact False.elim hq
  |ret u=>
   obtain⟨v,H',I3,rv,rfl,fs,od,F',g,hR,p6,PC,er⟩:=I2.after hq;obtain rfl:u=Value.none:=rv;refine#[rfl,?_];have e0:X.s₀.heap.get? ea=none:=cA I1 d6 hm.new;have I4:=Inv.drop I3 p6 e0;obtain⟨ta,sl,g9⟩:=XN.get I3.hok p6;have g4:Grow F1 H1 F' (del H' ea):=⟨g.ff,λb o q=>by
    have:b≠ea:=λz=>by rw[z,PC]at q;cases q
    rw[bX this];exact g.fh b o q,λb o q=>by
    have:b≠ea:=λz=>by rw[z,He]at q;cases q
    rw[bX this];exact g.hh b o q,g.out⟩
   refine#[ea,ta,od,sl,rfl,I3.kIn _ _ lk,g9,?_];exact hR F' (del H' ea) s' ea C od (Inv.nopins I4) g4 #[k.ns,er] #[fw,e0,pn_free I1 hm.new,.inl #[sl,_,g9,rfl]]
def zf(h:∃C N bm,ErrK X.K X.mg x C N bm/\ErrN X.K N)(hc:X.calm=true)(ha:PA X (e::es) t)(d6:autoParam (X.ex=[]) zA0)(hg:autoParam (Gl X x) zA0)(c_:autoParam (zND x) zA1)
  (he:autoParam (zSE X e es) zA0) (c5:autoParam (zPL X cpos es) zA0):
  PS X (.Raise (be (.Call (.Name x p) (e::es) [] cpos)) z8 pos) (λ_ σ H=>t σ H λvs H1=>vs.length<=1000/\∃F1,Same F1 H1/\gH X σ F1 H1 x []):=by
 obtain⟨C,N,bm,k,kn⟩:=h;intro pins s σ H D I h;obtain⟨nm,q,bs,sn,sub,ab,col,dd,k0,k1,k2,k3,k5,lk⟩:=k.obj;refine jz (nm:=nm) (q:=q) (C:=C) (N:=N) (bs:=bs) (bm:=bm) (hdct:=true) (sn:=sn) (sub:=sub) (ab:=ab) (col:=col) (dd:=dd) (k0:=k0) (k1:=k1) (k2:=k2) (k3:=k3) (k5:=k5) (newId:="ValueError.__new__") k.base (I.ok.hd hc) ?_;refine Rb (cj I hg k.mg ?_ c_);refine callWith_K (h₀:=X.base) I.ok.mod.kin k.kp (thn (ha cpos pins s σ H _ I h) λus s1 hh=>#[hh.elim λ_ h=>h.elim λ_ h=>h.1.kIn,?_]) he c5;obtain⟨vs,H1,I1,r,hl,F1,Mo,hR⟩:=hh;have hC:=I1.kIn _ _ lk;obtain⟨hp,gg,dr,tk,os⟩:=s1;refine SO PySem.F.excBase_ValueError (tail_of_in I1.kIn k.tail) hC (.of_isNs (isNs_of_in I1.kIn kn.ok)) (nsMap_none_of_in I1.kIn kn.ok kn.no) (λh' ea hm=>?_) (by show us.length<=_;rw[<-L2.Vals.length r];exact sz hl);obtain⟨ta,h1,h2,h3⟩:=hm.there;have I2:Inv X pins σ H1 #[h',gg,dr,tk,os]:=I1.kept (t':=tk) hm.keeps;refine#[ea,ta,z8,[].toArray,rfl,hm.keeps _ _ hC,h1,?_];exact hR F1 H1 _ ea C z8 (Inv.nopins I2) (Grow.refl Mo) #[k.ns,[],repf_nil.mpr rfl,.inl #[rfl,rfl]] #[fv I1.hok hm.new,cA I1 d6 hm.new,pn_free I1 hm.new,.inl #[[].toArray,_,h1,rfl]]
end
section
variable {X:Cx}[J:Jm]{x:E_}{e:P3}{es:List P3}{t:TMA}{p cpos pos:Q_}{n m:Nat}{ps:List E_}{S:SiD}
def zg(x:E_)(S:SiD)(t:TMA):TMS:=λ_ z M=>t z M λds M1=>ds.length<=1000/\S ds λfs=>J.RM z M1 x fs
def rW{σ:L2.St}{z:SD}{M M1:MS}{F H F1 H1:Hp}{fs:List (E_×D)}(hx:XOkM X)(k:Kept J.B J.F0 F H)(rs:RepZ X.K J.B F H z σ M)(g1:GrowM M M1 F H F1 H1)(m1:RepM X.K F1 H1 M1)(hR:J.RM z M1 x fs):gH X σ F1 H1 x fs:=λF' H' s' e C od I g er ex=>
 hx σ z M1 F' H' s' e C od x fs I ((k.growM rs.mb g1).grow g) ((rs.growM k.bh g1 m1).growM (k.growM rs.mb g1).bh g.toM (m1.grow g)) hR er ex
def zh(M:CalE X.prog X.w X.K X.mg X.base n x ps S)(hr:Room m X.A)(hx:XOkM X)(hc:X.calm=true)(ha:MA X (e::es) t)(d6:autoParam (X.ex=[]) zA0)(hg:autoParam (Gl X x) zA0)(hn:autoParam (n+1<=m) zA1)(c_:autoParam (zND x) zA1)
  (he:autoParam (zSE X e es) zA0) (c5:autoParam (zPL X cpos es) zA0):
  MSt X (.Raise (be (.Call (.Name x p) (e::es) [] cpos)) z8 pos) (zg x S t):=⟨(ze M hr hc ha.out d6 hg hn c_ he c5).anti λE s H q=>by
 obtain⟨F0,F,z,M,k,rs,ED,h,ee⟩:=q;exact#[F,z,M,k.kf,rs,_,h,λds vs M1 F1 H1 g1 e_ rx m1=>#[by rw[rx.length];exact e_.1,F1,ds,g1.fh,rx,_,e_.2,λfs hR=>rW hx k.kf rs g1 m1 hR]]⟩
def zi(x:E_)(t:TMA):TMS:=λ_ z M=>t z M λds M1=>ds.length<=1000/\J.RM z M1 x []
def rX(h:∃C N bm,ErrK X.K X.mg x C N bm/\ErrN X.K N)(hx:XOkM X)(hc:X.calm=true)(ha:MA X (e::es) t)(d6:autoParam (X.ex=[]) zA0)(hg:autoParam (Gl X x) zA0)(c_:autoParam (zND x) zA1)
  (he:autoParam (zSE X e es) zA0) (c5:autoParam (zPL X cpos es) zA0):
  MSt X (.Raise (be (.Call (.Name x p) (e::es) [] cpos)) z8 pos) (zi x t):=⟨(zf h hc ha.out d6 hg c_ he c5).anti λE s H q=>by
 obtain⟨F0,F,z,M,k,rs,ED,h,ee⟩:=q;exact#[F,z,M,k.kf,rs,_,h,λds vs M1 F1 H1 g1 e_ rx m1=>#[by rw[rx.length];exact e_.1,F1,g1.fh,rW hx k.kf rs g1 m1 e_.2]]⟩
end
section
variable {X:Cx}[J:Jm]{a b c e:P3}{ta tb tc te:TME}{pos:Q_}{st:Q0}{rest:List Q0}{t u:TMS}
def zj:TMS:=λE z M=>E.nx z M
def mSeq(t u:TMS):TMS:=λE z M=>t {E with nx:=u E} z M
def aQ:MSs X [] zj:=⟨pss_nil.anti λE s H q=>by
 obtain⟨F0,F,z,M,k,rs,ED,h,e⟩:=q;exact e.nx z s M F H k h rs⟩
def ai(h1:MSt X st t)(h2:MSs X rest u):MSs X (st::rest) (mSeq t u):=⟨(dN h1.out h2.out).anti λE s H q=>by
 obtain⟨F0,F,z,M,k,rs,ED,h,e⟩:=q;exact#[F0,F,z,M,k,rs,{ED with nx:=u ED},h,#[λz' s' M' F' H' k' hz r'=>#[F0,F',z',M',k',r',ED,hz,e],e.rt,e.bk,e.ct]]⟩
def am(h1:MSt X st t):MSs X [st] t:=#[pv h1.out]
def mRet(te:TME):TMS:=λE z M=>te z M E.rt
def az(he:ME X e te):MSt X (.Return (be e) pos) (mRet te):=⟨(pw he.out).anti λE s H q=>by
 obtain⟨F0,F,z,M,k,rs,ED,h,e⟩:=q;exact#[F,z,M,k.kf,rs,_,h,λd v M' F' H' g hd rd m'=>e.rt d v M' F' H' (k.growM rs.mb g) hd rd m' (rs.growM k.bh g m').mb]⟩
def zk(te:TME):TMS:=λE z M=>te z M λ_ M1=>E.nx z M1
def bE(he:ME X e te)(hs:autoParam (Rh e z8 pos.line X.env=pure false) zA0):MSt X (.Expr e pos) (zk te):=⟨(jd he.out hs).anti λE s H q=>by
 obtain⟨F0,F,z,M,k,rs,ED,h,e⟩:=q;exact#[F,z,M,k.kf,rs,_,h,λd v M' F' H' g hd rd m'=>e.nx z s M' F' H' (k.growM rs.mb g) hd (rs.growM k.bh g m')]⟩
def mIfS(c:TMT)(t u:TMS):TMS:=λE z M=>c z M λb M1=>if b=true then t E z M1 else u E z M1
variable{l r:List Q0}
def aW{c:P3}{tc:TMT}(hc:MT X c tc)(ha:MSs X l t)(hb:MSs X r u):MSt X (.If c l r pos) (mIfS tc t u):=⟨(pz hc.out ha.out hb.out).anti λE s H q=>by
 obtain⟨F0,F,z,M,k,rs,ED,h,e⟩:=q;refine#[F,z,M,k.kf,rs,_,h,λb M1 F1 H1 g hk m1=>?_];cases b with
 |true=>exact#[F0,F1,z,M1,k.growM rs.mb g,rs.growM k.bh g m1,ED,hk,e]
 |false=>exact#[F0,F1,z,M1,k.growM rs.mb g,rs.growM k.bh g m1,ED,hk,e]⟩
def mIfJ(c:TMT)(t u:TMS):TMS:=λE z M=>∃J:SD->MS->Prop,(c z M λb M1=>if b=true then t {E with nx:=J} z M1 else u {E with nx:=J} z M1)/\∀z' M',J z' M'->E.nx z' M'
def eH{c:P3}{tc:TMT}(hc:MT X c tc)(ha:MSs X l t)(hb:MSs X r u):MSt X (.If c l r pos) (mIfJ tc t u):=⟨(aW hc ha hb).out.anti λE s H q=>by
 obtain⟨F0,F,z,M,k,rs,ED,⟨J,h,j⟩,e⟩:=q;exact#[F0,F,z,M,k,rs,{ED with nx:=J},h,#[λz' s' M' F' H' k' hz r'=>e.nx z' s' M' F' H' k' (j z' M' hz) r',e.rt,e.bk,e.ct]]⟩
def mSet(i:Nat)(te:TME):TMS:=λE z M=>∃P:D->MS->Prop,te z M P/\∀d M',P d M'->E.nx (z.set i (be d)) M'
def aC(i:Nat){x:E_}{c7:Q_}(hN:X.N.Nodup)(he:ME X e te)(hi:autoParam (X.N[i]?=be x) zA0)(hx:autoParam (Loc X.env.scope x) zA4)(hs:autoParam (Rh e (be (.Name x c7)) pos.line X.env=pure false) zA0)
  (hf:autoParam (zFN X x) zA2):MSt X (.Assign [.Name x c7] e pos) (mSet i te):=⟨(je hN hi hx he.out hs hf).anti λE s H q=>by
 obtain⟨F0,F,z,M,k,rs,ED,⟨P,h,j⟩,e⟩:=q;exact#[F,z,M,k.kf,rs,P,h,λd v M' F' H' g hd rd m'=>e.nx _ _ M' F' H' (k.growM rs.mb g) (j d M' hd) ((rs.growM k.bh g m').set rd)]⟩
def zl(x f:E_)(to te:TME):TMS:=λE z M=>te z M λd M1=>to z M1 λo M2=>match o with|.ptr a=>∃fs,mget M2 a=be (.ins x fs)/\fs.length<1000/\E.nx z (mput M2 a (.ins x (putD f d fs)))|_=>False
def bF{x f:E_}{o:P3}{to:TME}{c7:Q_}(hA:ClsA X.K x f)(ho:ME X o to)(he:ME X e te)(hs:autoParam (Rh e (be (.Attribute o f c7)) pos.line X.env=pure false) zA0):
  MSt X (.Assign [.Attribute o f c7] e pos) (zl x f to te):=⟨(pS ho.out he.out hs).anti λE s H q=>by
 obtain⟨C,hn,hc,hf⟩:=hA;obtain⟨F0,F,z,M,k,rs,ED,h,ee⟩:=q;refine#[F,z,M,k.kf,rs,_,h,λd v M1 F1 H1 g1 hx rd m1=>?_];have k1:=k.growM rs.mb g1;have l7:=rs.growM k.bh g1 m1;refine#[F1,z,M1,k1.kf,l7,_,hx,λo' v' M2 F2 H2 g2 hy ro m2=>?_];have k2:=k1.growM l7.mb g2;have JI:=l7.growM k1.bh g2 m2;split at hy
 .rename_i a;obtain⟨fs,hm,hl,Jp⟩:=hy;obtain⟨C',dx,ws,f8,hH,rf⟩:=m2.ok _ _ (bn hm);rw[hn]at f8;cases f8;have fa:=m2.fr a (bD (bn hm));refine#[a,C,dx,ws,rep_ptr.mp ro,hH,hc,hf,by rw[rf.length];exact hl,?_];have m3:RepM X.K F2 (upd H2 a (.ins C dx (putF f v ws))) (mput M2 a (.ins x (putD f d fs))):=m2.put hm #[C,dx,_,hn,aw,RepF.put (rd.mono g2.ff) rf];have g3:GrowM M2 (mput M2 a (.ins x (putD f d fs))) F2 H2 F2 (upd H2 a (.ins C dx (putF f v ws))):=GrowM.put k2.fh fa hm;exact ee.nx z s _ F2 _ (k2.growM JI.mb g3) Jp (JI.growM k2.bh g3 m3)
 .exact hy.elim⟩
def zm(c:TMT)(tb:TMS):TMS:=λE z M=>∃W:Nat->SD->MS->Prop,(∃m,W m z M)/\∀m z M,W m z M->
 c z M λb M1=>if b=true then tb {E with nx:=λz' M'=>∃m',m'<m/\W m' z' M',ct:=λz' M'=>∃m',m'<m/\W m' z' M',bk:=E.nx} z M1 else E.nx z M1
def rY{c:P3}{body:List Q0}{tc:TMT}{tb:TMS}(hp:Rm (QZ X.prog X.w) X.A X.env X.xe)(hc:MT X c tc)(hb:MSs X body tb):MSt X (.While c body [] pos) (zm tc tb):=⟨(pA hp hc.out hb.out).anti λE s H q=>by
 obtain⟨F0,F,z,M,k,rs,ED,⟨W,⟨m0,w0⟩,c3⟩,e⟩:=q;refine#[λm s' H'=>∃F' z' M',Kept J.B F0 F' H'/\RepZ X.K J.B F' H' z' s' M'/\W m z' M',#[m0,F,z,M,k,rs,w0],?_];rintro m s1 H1⟨F1,z1,M1,k1,r1,w1⟩;refine#[F1,z1,M1,k1.kf,r1,_,c3 m z1 M1 w1,λb M2 F2 H2 g2 hk m2=>?_];cases b with
 |true=>
  refine#[λs3 H3=>∃F3 z3 M3,Kept J.B F0 F3 H3/\RepZ X.K J.B F3 H3 z3 s3 M3/\∃m',m'<m/\W m' z3 M3,λs3 H3 ⟨F3,z3,M3,k3,r3,m',l,w3⟩=>#[m',l,F3,z3,M3,k3,r3,w3],?_];exact#[F0,F2,z1,M2,k1.growM r1.mb g2,r1.growM k1.bh g2 m2,_,hk,#[λz3 s3 M3 F3 H3 k3 h3 r3=>#[F3,z3,M3,k3,r3,h3],e.rt,e.nx,λz3 s3 M3 F3 H3 k3 h3 r3=>#[F3,z3,M3,k3,r3,h3]]]
 |false=>exact e.nx z1 s1 M2 F2 H2 (k1.growM r1.mb g2) hk (r1.growM k1.bh g2 m2)⟩
end
section
variable {X:Cx}[J:Jm]{a b c e o:P3}{ta tb tc te to:TME}{pos:Q_}{st:Q0}{rest:List Q0}{t u:TMS}
abbrev TMI:=SD->MS->(List D->MS->Prop)->Prop
def mItR(t:TME):TMI:=λz M R=>t z M λx M1=>match x with|.int n=>(0<=n/\n<2^62)/\R ((E8 n.toNat).map λk=>D.int ((k:Nat):Int)) M1|_=>False
def mFor(i:Nat)(ti:TMI)(tb:TMS):TMS:=λE z M=>ti z M λds M1=>∃W:Nat->SD->MS->Prop,W 0 z M1/\(∀k x z M,ds[k]?=be x->W k z M->tb {E with nx:=W (k+1),ct:=W (k+1),bk:=E.nx} (z.set i (be x)) M)/\∀z M,W ds.length z M->E.nx z M
def zn(i:Nat){x:E_}{p p1 p2:Q_}{body:List Q0}{tb:TMS}(hp:Rm (QZ X.prog X.w) X.A X.env X.xe)(hc:X.calm=true)(hN:X.N.Nodup)(hm:X.mg "range"=z8)(he:ME X e te)(hb:MSs X body tb)(hg:autoParam (Gl X "range") zA0)(hi:autoParam (X.N[i]?=be x) zA0)(hx:autoParam (Loc X.env.scope x) zA4)
  (hf:autoParam (zFN X x) zA2) (hs:autoParam (∀y,zFS X (.Call (.Name "range" p1) [e] [] p2) y) zA3) (o_:autoParam (zSE X e []) zA0) (f_:autoParam (Q4 [e] X.env=[(false,Q7 e X.env)]) zA0):
  MSt X (.For (.Name x p) (.Call (.Name "range" p1) [e] [] p2) body [] pos) (mFor i (mItR te) tb):=⟨(cN hp hc (jh hg hm (bo he.out pa_nil o_) f_) (dO hN hi hx hf) hb.out hs).anti λE s H q=>by
 obtain⟨F0,F,z,M,kp,rs,ED,h,e⟩:=q;refine#[F,z,M,kp.kf,rs,_,h,λd v M1 F1 H1 g1 hd rd m1=>?_];split at hd
 .rename_i n;obtain⟨⟨b1,b2⟩,W,w0,c3,out⟩:=hd;have hl:((E8 n.toNat).map λk=>D.int ((k:Nat):Int)).length=n.toNat:=by simp
  refine#[n,by rw[rep_int.mp rd],Jb,b2,ji (lo:=0) (n:=n.toNat) (λk s' H'=>∃F' z' M',Kept J.B F0 F' H'/\RepZ X.K J.B F' H' z' s' M'/\W k z' M') #[F1,z,M1,kp.growM rs.mb g1,rs.growM kp.bh g1 m1,w0] ?_ ?_]
  .rintro k s' H' hk⟨F',z',M',k',r',w'⟩;have e1:(0:Int)+(k:Int)=(k:Int):=by lia
   exact#[F0,F',_,M',k',r'.set (d:=.int (k:Int)) (rep_int.mpr (by rw[e1])),_,c3 k (.int (k:Int)) z' M' (by simp[hk]) w',#[λz3 s3 M3 F3 H3 k3 h3 r3=>#[F3,z3,M3,k3,r3,h3],e.rt,e.nx,λz3 s3 M3 F3 H3 k3 h3 r3=>#[F3,z3,M3,k3,r3,h3]]]
  .rintro s' H'⟨F',z',M',k',r',w'⟩;exact e.nx z' s' M' F' H' k' (out z' M' (by rw[hl];exact w')) r'
 .exact hd.elim⟩
def zo(te:TME):TME:=λz M R=>te z M λd M1=>match d with|.ptr a=>∃ds,mget M1 a=be (.lst ds)/\R (.int ds.length) M1|_=>False
def gI{p:Q_}(hm:X.mg "len"=z8)(ha:ME X e te)(hg:autoParam (Gl X "len") zA0)(he:autoParam (zSE X e []) zA0):ME X (.Call (.Name "len" p) [e] [] pos) (zo te):=⟨(fj jn hg hm PySem.boot_len (bo ha.out pa_nil he) Ji Ji he).anti λs H Q h=>by
 obtain⟨F,z,M,k,rs,R,h1,h2⟩:=h;refine#[F,z,M,k,rs,_,h1,λd v M1 F1 H1 g1 hx rx m1=>?_];split at hx
 .rename_i a;obtain⟨ds,hm,hR⟩:=hx;obtain⟨vs,hH,rr⟩:=m1.ok _ _ (bn hm);exact#[.ref a,vs.length,by rw[rep_ptr.mp rx],.inl #[vs,SqL.of hH,rfl],h2 _ _ M1 F1 H1 g1 hR (rep_int.mpr (by rw[rr.length])) m1]
 .exact hx.elim⟩
def mIxP(ta tb:TME):TME:=λz M R=>ta z M λx M1=>tb z M1 λy M2=>match x,y with|.ptr a,.int i=>∃ds,mget M2 a=be (.lst ds)/\∃d,atI ds i=be d/\R d M2|_,_=>False
def zp(ha:ME X a ta)(hb:ME X b tb)(hs:autoParam (dQ b) zA6):ME X (.Subscript a b pos) (mIxP ta tb):=⟨(pe_ix ix_list ha.out hb.out hs).anti λs H Q h=>by
 obtain⟨F,z,M,k,rs,R,h1,h2⟩:=h;refine#[F,z,M,k,rs,_,h1,λx u M1 F1 H1 g1 hx rx m1=>?_];refine#[F1,z,M1,k.growM rs.mb g1,rs.growM k.bh g1 m1,_,hx,λy v M2 F2 H2 g2 hy ry m2=>?_];split at hy
 .rename_i p i;obtain⟨ds,hm,d,hd,hR⟩:=hy;obtain⟨vs,hH,rr⟩:=m2.ok _ _ (bn hm);obtain⟨w,e2,g7⟩:=rr.at hd;exact#[p,vs,_,w,rep_ptr.mp rx,rep_int.mp ry,SqL.of hH,e2,h2 d w M2 F2 H2 (g1.trans g2) hR g7 m2]
 .exact hy.elim⟩
def zq(to te:TME):TME:=λz M R=>to z M λo M1=>match o with|.ptr a=>(∃ds,mget M1 a=be (.lst ds))/\te z M1 λd M2=>∃ds,mget M2 a=be (.lst ds)/\ds.length<=100000/\R .non (mput M2 a (.lst (ds++[d])))|_=>False
def zr{apos cpos:Q_}(ho:ME X o to)(he:ME X e te)(k6:autoParam (zSE X e []) zA0)
  (b7:autoParam (Q6 o "append" X.env (Q7 o X.env)=Q7 o X.env) zA0)
  (d4:autoParam (zHF X cpos [e]) zA0)
  (b_:autoParam ((apos.endLine==cpos.line)=true) zA0):
  ME X (.Call (.Attribute o "append" apos) [e] [] cpos) (zq to te):=⟨(dR PySem.F.plainAttrs_list PySem.F.slot_list_append PySem.F.type_list_append jv ho.out (bo he.out pa_nil k6) b7 d4 b_ k6).anti λs H Q h=>by
 obtain⟨F,z,M,k,rs,R,h1,h2⟩:=h;refine#[F,z,M,k,rs,_,h1,λx u M1 F1 H1 g1 hx rx m1=>?_];split at hx
 .rename_i a;obtain⟨⟨QB,Mp⟩,hx⟩:=hx;obtain⟨PD,PF,QC⟩:=m1.ok _ _ (bn Mp);rw[rep_ptr.mp rx];refine#[.inl #[rfl,PD,SqL.of PF],?_];refine#[F1,z,M1,k.growM rs.mb g1,rs.growM k.bh g1 m1,_,hx,λd v M2 F2 H2 g2 hd rd m2=>?_];obtain⟨ds,hm,hl,hR⟩:=hd;obtain⟨vs,hH,rr⟩:=m2.ok _ _ (bn hm);have hz:vs.length<sizeLine:=by
   rw[rr.length];have h2:(100000:Nat)<sizeLine:=Ji
   lia
  refine#[a,vs,v,rfl,rfl,hH,hz,?_];exact h2 _ _ _ F2 _ (g1.trans (g2.trans (GrowM.put g2.fh (m2.fr a (bD (bn hm))) hm))) hR (rep_non.mpr rfl) (m2.put hm #[_,aw,rr.append (eo rd)])
 .exact hx.elim⟩
def frzD:MO->D|.ins x fs=>.obj x fs|.lst ds=>.lst ds|.dti a8=>.dti a8
def mFrz(i:Nat)(t:TMS):TMS:=λE z M=>match z[i]? with|some (be (.ptr a))=>∃o,mget M a=be o/\t E (z.set i (be (frzD o))) (mdel M a)|_=>False
def rZ(i:Nat){Kk:List Q0}(h:MSs X Kk t):MSs X Kk (mFrz i t):=⟨PSs.anti h.out λE s H q=>by
 obtain⟨F0,F,z,M,k,rs,ED,h,e⟩:=q;unfold mFrz at h;split at h
 .rename_i a ez;obtain⟨o,hm,h⟩:=h;have mem:=bn hm;have fa:=rs.rm.fr a (bD mem);have ba:=rs.mb a (bD mem);obtain⟨v,hv,rv⟩:=rs.rs.val i _ ez rfl;have PH:=rep_ptr.mp rv;subst PH;have hok:=rs.rm.ok a o mem;obtain⟨ho,d7,Mq⟩:∃ho,H a=be ho/\∀F',Same F F'->F' a=be ho->Rep X.K F' (frzD o) (.ref a):=by
   cases o with
   |ins x fs=>obtain⟨C,dx,ws,n,h1,h2⟩:=hok;exact#[_,h1,λF' s' hF=>rep_obj.mpr #[a,C,dx,ws,rfl,n,hF,RepF.mono s' fs ws h2]]
   |lst ds=>obtain⟨vs,h1,h2⟩:=hok;exact#[_,h1,λF' s' hF=>rep_lst.mpr #[a,vs,rfl,hF,h2.mono s']]
   |dti a8=>exact#[_,hok,λF' s' hF=>rep_dti.mpr #[a,rfl,hF]]
  have s1:Same F (upd F a ho):=aR fa _;have hs:s.set i (be (.ref a))=s:=by
   apply Ge;intro n;by_cases hn:i=n
   .subst hn;rw[FI (Fk.mp hv).1,hv]
   .rw[Fj hn]
  have k1:Kept J.B F0 (upd F a ho) H:=⟨k.bh,λb u q=>by
   by_cases hb:b=a
   .subst hb;rw[aw]at q;cases q;exact d7
   .rw[aj hb]at q;exact k.fh b u q,k.f0.trans s1,λb h1 h2=>by
   by_cases hb:b=a
   .subst hb;exact absurd ba h2
   .rw[aj hb];exact k.out b h1 h2,k.eb,k.jf,k.jo⟩
  have r0:RepS X.K J.B (upd F a ho) H z s:=#[rs.rs.len,λi d e n=>let ⟨v,q1,q2⟩:=rs.rs.val i d e n;#[v,q1,q2.mono s1],λi ds e=>absurd e (rs.no i ds),rs.rs.apart];have PJ:RepM X.K (upd F a ho) H (mdel M a):=⟨rs.rm.nd.sublist del_sub,λb q hb=>by
   obtain⟨ne,hb⟩:=jS rs.rm.nd hb;exact(rs.rm.ok b q hb).mono s1 λ_ z=>z,λb hb=>by
   obtain⟨⟨b',q⟩,f7,rfl⟩:=FF.mp hb;obtain⟨ne,Oh⟩:=jS rs.rm.nd f7;rw[aj ne];exact rs.rm.fr _ (bD Oh)⟩
  have z0:RepZ X.K J.B (upd F a ho) H z s (mdel M a):=#[r0,rs.no,PJ,λb hb=>rs.mb b (del_sub.subset hb)];have z1:=z0.set (i:=i) (Mq _ s1 aw);rw[hs]at z1;exact#[F0,_,_,_,k1,z1,ED,h,e]
 .exact h.elim⟩
end
def jW{N:List E_}{ds:List D}(rs:Reps K F ds vs):∀(i:Nat) d,(startD N ds)[i]?≠be (be (.own d)):=by
 intro i d e;unfold startD at e;by_cases hi:i<ds.length
 .rw[FO (by simpa using hi),Fo]at e;cases q:ds[i]? with
  |none=>rw[q]at e;cases e
  |some x=>
   rw[q]at e;cases e;obtain⟨v,_,q2⟩:=rs.get q;exact rep_own q2
 .rw[F5 (by simpa using hi),G4]at e;split at e
  .cases e
  .cases e
def growM_nil(g:GrowM [] M' F H F' H'):Grow F H F' H':=#[g.ff,g.fh,λb o h=>g.hh b o (λz=>nomatch z) h,λb h1 h2=>g.out b (λz=>nomatch z) h1 h2]
section
variable {P:Pi}{w:Q2}{K:Ex}{mg:E_->Option KB}{base:Heap}
variable{x:E_}{ps:List E_}{S:SpM}
def CalMM.toX{n:Nat}{S0:SpX}(C:CalMM P w K mg base n x ps S)(h:∀ds R RX,S0 ds R RX->S ds [] (λd _=>R d) λx fs _=>RX x fs):CalX P w K mg base n x ps S0:=by
 obtain⟨f,fd,F,hb,hk,hm⟩:=C;refine#[f,fd,F.imp λvs H Q E q=>?_,hb,hk,hm];obtain⟨F,ds,fh,rs,R,RX,hS,q1,q2⟩:=q;exact#[F,ds,[],fh,rs,RepM.nil,_,_,h ds R RX hS,λd v M' F' H' g hd rd _=>q1 d v F' H' (growM_nil g) hd rd,λy fs C od M' F' H' g hR er _=>q2 y fs C od F' H' (growM_nil g) hR er]
open Classical in
def Fun.okM{x qual:E_}{st:Q0}{f:Addr}{fd:Q8}{N ps:List E_}{k:Nat}{S:SpM}{dV:KB}(T:FunG K dV x qual st f fd)(F:FnScope N ps (ag st))(len:∀ds M R RX,S ds M R RX->ds.length=ps.length)
  (a9:∀(cdv:KB) (A:Q3) (outer:List RI) (s:KF) (H:Hp) (E:XK) (J:Jm),Room k (A.deeper (Ra qual (ag st) s.heap.objs.size f cdv))->XOkM (cxOf (CX1 P w) P w K mg base N qual (ag st) f cdv A outer s H E)->
   ∃t,MSs (cxOf (CX1 P w) P w K mg base N qual (ag st) f cdv A outer s H E) (aE st) t/\∀ds M R RX,(∀z,J.RM z=λM' x fs=>RX x fs M')->S ds M R RX->t {nx:=λ_ M'=>R .non M',rt:=R} (startD N ds) M):FnOk P w K mg base (CX1 P w) (k+1) f fd ps (lSpM K S):=by
 refine Fun.okC T F (λvs H Q E h=>?_) (λcdv A outer s H vs Q E hr h=>?_)
 .obtain⟨F,ds,M,fh,rs,rm,R,RX,h,_⟩:=h;rw[rs.length];exact len ds M R RX h
 .obtain⟨F,ds,M,fh,rs,rm,R,RX,h,q,qx⟩:=h
  let B:Hp:=λb=>if b∈aq M then z8 else H b
  have Oi:∀{b:Addr},b∈aq M->B b=none:=λ{b} h=>if_pos h;have Ll:∀{b:Addr},b∉aq M->B b=H b:=λ{b} h=>if_neg h
  letI:Jm:={B:=B,F0:=F,RX:=λ_ _ _=>False,RM:=λ_ M' x fs=>RX x fs M'}
  have gr:∀{M':MS} {F' H':Hp},Kept B F F' H'->(∀a,a∈aq M'->B a=z8)->GrowM M M' F H F' H':=λ{M' F' H'} k mb=>⟨k.f0,k.fh,λb o nb e=>k.bh b o (by rw[Ll nb];exact e),λb nb h1 h2=>k.out b h1 (by rw[Ll nb];exact h2),λb hb=>by
   by_cases nb:b∈aq M
   .exact .inl nb
   .right;rw[<-Ll nb];exact mb b hb⟩
  have hx:XOkM (cxOf (CX1 P w) P w K mg base N qual (ag st) f cdv A outer s H E):=by
   intro σ z M' F' H' s' e C od y fs I kk rr hR er ⟨He,ne,_,hx⟩;have hE:E (.ref C) od H':=qx y fs C od M' F' H' (gr kk rr.mb) hR er rr.rm;rcases hx with⟨sl,vs,h1,h2⟩|⟨T,h1,h2,h3,_⟩
   .exact qA I h1 h2 He ne hE
   .exact rC I h1 ne h2 He h3 hE
  obtain⟨t,ht,hq⟩:=a9 cdv A outer s H E inferInstance hr hx;have k0:Kept B F F H:=⟨λb o e=>by
   by_cases nb:b∈aq M
   .rw[Oi nb]at e;cases e
   .rw[Ll nb]at e;exact e,fh,Same.refl F,λ_ h _=>h,rfl,Same.refl F,λ_ h _=>h⟩
  have r0:RepZ K B F H (startD N ds) (L2.start N vs) M:=#[dg rs,jW rs,rm,λa h=>Oi h];exact#[_,ht.out,F,F,startD N ds,M,k0,r0,_,hq ds M R RX (λ_=>rfl) h,#[λz' s' M' F' H' k hn r=>q _ _ M' F' H' (gr k r.mb) hn (rep_non.mpr rfl) r.rm,λd v M' F' H' k hd rd Mr mb=>q d v M' F' H' (gr k mb) hd rd Mr,λ_ _ _ _ _ _ h _=>h.elim,λ_ _ _ _ _ _ h _=>h.elim]]
variable{N:List E_}
def Tx.okM{st:Q0}{k:Nat}(T:Tx K mg x st ps)(F:FnScope N ps (ag st))(len:∀ds M R RX,S ds M R RX->ds.length=ps.length)
  (a9:∀(f:Addr) (cdv:KB) (A:Q3) (outer:List RI) (s:KF) (H:Hp) (E:XK) (J:Jm),Room k (A.deeper (Ra x (ag st) s.heap.objs.size f cdv))->XOkM (cxOf (CX1 P w) P w K mg base N x (ag st) f cdv A outer s H E)->
   ∃t,MSs (cxOf (CX1 P w) P w K mg base N x (ag st) f cdv A outer s H E) (aE st) t/\∀ds M R RX,(∀z,J.RM z=λM' x fs=>RX x fs M')->S ds M R RX->t {nx:=λ_ M'=>R .non M',rt:=R} (startD N ds) M):CalMM P w K mg base (k+1) x ps S:=by
 obtain⟨f,fd,T,hb,hm⟩:=T;exact#[f,fd,Fun.okM T F len λcdv A outer s H E J hr hx=>a9 f cdv A outer s H E J hr hx,hb,T.kp,hm]
def Txm(K:Ex)(x m:E_)(qual:E_)(st:Q0)(ps:List E_):Prop:=
 ∃C f fd,nsIn K Os x=be (be (.ref C))/\Cls K C/\Meth K C m f/\Fun K m qual st f fd/\Binds K fd ps []
def Txm.okM{m qual:E_}{st:Q0}{k:Nat}(T:Txm K x m qual st ps)(F:FnScope N ps (ag st))(len:∀ds M R RX,S ds M R RX->ds.length=ps.length)
  (a9:∀(f:Addr) (cdv:KB) (A:Q3) (outer:List RI) (s:KF) (H:Hp) (E:XK) (J:Jm),Room k (A.deeper (Ra qual (ag st) s.heap.objs.size f cdv))->XOkM (cxOf (CX1 P w) P w K mg base N qual (ag st) f cdv A outer s H E)->
   ∃t,MSs (cxOf (CX1 P w) P w K mg base N qual (ag st) f cdv A outer s H E) (aE st) t/\∀ds M R RX,(∀z,J.RM z=λM' x fs=>RX x fs M')->S ds M R RX->t {nx:=λ_ M'=>R .non M',rt:=R} (startD N ds) M):CalMth P w K mg base (k+1) x m ps (lSpM K S):=by
 obtain⟨C,f,fd,h1,h2,h3,T,hb⟩:=T;exact#[C,f,fd,h1,h2,h3,Fun.okM T F len λcdv A outer s H E J hr hx=>a9 f cdv A outer s H E J hr hx,hb]
end
end My
namespace L2
section
variable {X:Cx}{pins:List (Addr×Re)}{σ:St}{H:Hp}{s:KF}{h':Heap}
def Inv.turned2{t':Nat}{e it:Addr}(I:Inv X pins σ H s)(k:∀b o,b≠e->b≠it->s.heap.get? b=be o->h'.get? b=be o)(he:FpOk X pins H e)(hi:FpOk X pins H it):Inv X pins σ H {s with heap:=h',toks:=t'}:=by
 obtain⟨e0,e1,e2,e3,e4,e5⟩:=he;obtain⟨i0,i1,i2,i3,i4,i5⟩:=hi;have Ja:∀b u,H b=be u->b≠e/\b≠it:=λb u q=>#[(λz=>by rw[z,e0]at q;cases q),(λz=>by rw[z,i0]at q;cases q)];have nc:∀{b:Addr},b∉[e,it]->b≠e/\b≠it:=λ{b} h=>#[λz=>h (by simp[z]),λz=>h (by simp[z])];refine I.step (g':=s.gens) (d':=s.drawn) (ch:=[e,it]) (λb hb=>?_) (λb o _ _ hc q _=>k b o (nc hc).1 (nc hc).2 q) (λb o _ _ hc q _=>#[o.slots,k b o (nc hc).1 (nc hc).2 q]) (λ_ _ _ _ n=>n)
  (λb o hc q=>#[o,k b o (nc hc).1 (nc hc).2 q]) (λ_ _ q=>q) (λ_ _ _ q=>q) (λb ps q=>#[[].toArray,by rw[q];simp]) (λm hm=>?_) (λb u q=>?_) I.bare
 .rcases Fb.mp hb with z|z
  .rw[z];exact#[e3,e1,e4,e5]
  .rw[E6.mp z];exact#[i3,i1,i4,i5]
 .obtain⟨o,es,ep,ho,r⟩:=hm;exact#[o,es,ep,k _ o (Ne.symm e1) (Ne.symm i1) ho,r]
 .refine(I.hok b u q).stay (λc v hc q'=>k c v ?_ ?_ q') (λ_ q=>q) λ_ _ q=>q
  .rcases hc with z|z
   .rw[z];exact(Ja b u q).1
   .exact(Ja c _ z).1
  .rcases hc with z|z
   .rw[z];exact(Ja b u q).2
   .exact(Ja c _ z).2
end
def Itel(K:Ex)(a:Addr):It:=
 #[λi H=>∃xs x,SqL K H a xs/\xs[i]?=be x,λi H x H'=>∃T v,H T=z8/\x=.ref T/\H'=upd H T (.tup [.int i,v])/\∀xs,SqL K H a xs->xs[i]?=be v,λi H=>∃xs,SqL K H a xs/\xs.length<=i]
def Ites(x:E_):It:=#[λi _=>i<x.length,λi H v H'=>∃T c,H T=z8/\v=.ref T/\H'=upd H T (.tup [.int i,.str #[[c].toArray]])/\x.cps[i]?=be c,λi _=>i=x.length]
variable{P:Pi}{w:Q2}
def zt{H:Hp}{h:Heap}{T:Addr}{i:Int}{t:S3}{v:V}{u:KB}(r:RelV v u)(q:h.get? T=be {cls:=.type "tuple",data:=.seq [.int i t,u].toArray}):ObjOk P w H h T (.tup [.int i,v]):=
 #[by show 2<=sizeLine;decide,[.int i t,u],.cons #[t,rfl] (.cons r .nil),#[_,q,rfl,_,rfl]]
def si{X:Cx}{pins:List (Addr×Re)}{σ:St}{H:Hp}{s:KF}{h':Heap}{t':Nat}{e it:Addr}{i:Int}{t:S3}{v:V}{u:KB}(I:Inv X pins σ H s)(he:FpOk X pins H e)(hi:FpOk X pins H it)(le:e<s.heap.objs.size)(li:it<s.heap.objs.size)(r:RelV v u)
  (hT:h'.get? s.heap.objs.size=be {cls:=.type "tuple",data:=.seq [.int i t,u].toArray}) (hk:∀b o,b≠e->b≠it->s.heap.get? b=be o->h'.get? b=be o):Inv X pins σ (upd H s.heap.objs.size (.tup [.int i,v])) {s with heap:=h',toks:=t'}:=by
 have I1:Inv X pins σ (upd H s.heap.objs.size (.tup [.int i,v])) {s with heap:=s.heap.push {cls:=.type "tuple",data:=.seq [.int i t,u].toArray},toks:=t'}:=
  I.laid (λb o q=>Heap.get?_push_of_some _ q) (E7 _) (zt r (Heap.get?_push_size _ rfl))
 have fp:∀{b:Addr},FpOk X pins H b->b<s.heap.objs.size->FpOk X pins (upd H s.heap.objs.size (.tup [.int i,v])) b:=λ{b} h l=>#[by rw[aj (Fd l)];exact h.1,h.2];refine I1.turned2 (h':=h') (t':=t') (λb o h1 h2 q=>?_) (fp he le) (fp hi li);rcases Heap.get?_push_cases (show(s.heap.push {cls:=.type "tuple",data:=.seq [.int i t,u].toArray}).get? b=be o from q)with⟨rfl,rfl⟩|q2
 .exact hT
 .exact hk b o h1 h2 q2
variable{p8:List P3}
def zu{K:Ex}{x1:Nat}{tp:Q_}(a e it:Addr)(JJ:e≠it):Turn P w K (.Tuple p8 x1 tp) (Itel K a) [e,it] e (λi h=>(∃j5,IsEnum h e it i j5)/\h.IsListIter it a i) where
 mem:=J4
 obj:=λi h st b hb=>by
  obtain⟨⟨j5,he⟩,hit⟩:=st;rcases Fb.mp hb with z|z
  .rw[z];exact#[_,he,λv z=>by cases z]
  .rw[E6.mp z];obtain⟨o,ho,c,d⟩:=hit;exact#[o,ho,λv z=>by rw[d]at z;cases z]
 keep:=λi h h' st k=>#[let ⟨j5,he⟩:=st.1;#[j5,k e J4 _ he],st.2.at λo q=>k it J4 o q]
 item:=by
  intro X hP hw hK hc i pins s σ H E I hf st hg;subst hP hw hK;obtain⟨xs,x,hq,hx⟩:=hg;obtain⟨its,rv,p,hz⟩:=I.list hq;obtain⟨u,hu,ru⟩:=rv.get hx;obtain⟨⟨j5,he⟩,hit⟩:=st;have fe:=hf e J4;have fi:=hf it J4;have le:e<s.heap.objs.size:=Heap.lt_size he;have li:it<s.heap.objs.size:=by obtain⟨o,ho,_⟩:=hit;exact Heap.lt_size ho
  refine wpAny_pyNext_enum_item he hit p.isList (x:=u) (by simpa using hu) JJ λh' z6 Ju hT h_ hk=>?_;refine#[_,rfl,Sj z6 λh2 Ms k_=>?_];have m_:Heap.SameBut e h' h2:=k_;have nT:s.heap.objs.size≠e:=FU le;have I1:Inv X pins σ (upd H s.heap.objs.size (.tup [.int i,x])) {s with heap:=h2,toks:=s.toks+1}:=si I fe fi le li ru ((m_.2 _ nT).trans hT) λb o h1 h3 q=>(m_.2 b h1).trans (hk b o h1 h3 q);refine#[.ref s.heap.objs.size,_,I1,rfl,#[_,x,I.hok.fresh (E7 _),rfl,rfl,λys hy=>by rw[I.list_inj hy hq];exact hx],#[#[u,by simpa using Ms],Ju.at λo q=>(m_.2 it (Ne.symm JJ)).trans q],λb hb=>?_];rcases Fb.mp hb with z|z
  .rw[z,aj (Fd le)];exact fe.1
  .rw[E6.mp z,aj (Fd li)];exact fi.1
 done:=by
  intro X hP hw hK hc i pins s σ H E I hf st hg;subst hP hw hK;obtain⟨xs,hq,hx⟩:=hg;obtain⟨its,rv,p,hz⟩:=I.list hq;obtain⟨⟨j5,he⟩,hit⟩:=st;have hl:=rv.length;obtain⟨f0,f1,f2,f3,f4,f5⟩:=hf it J4;exact wpAny_pyNext_enum_end (I.ok.hd hc) he hit p.isList Qv λh' eb=>#[rfl,I.turned (t':=s.toks) (λb o hb q=>eb b o hb q) f0 f1 f3 f4 f5]
 self:=λ_ _ _ _ _ st h=>let ⟨⟨j5,he⟩,_⟩:=st;RN he h
def zv{K:Ex}{x1:Nat}{tp:Q_}(x:E_)(t:S3)(e it:Addr)(JJ:e≠it):Turn P w K (.Tuple p8 x1 tp) (Ites x) [e,it] e (λi h=>(∃j5,IsEnum h e it i j5)/\h.IsStrIter it "str_ascii_iterator" x t i) where
 mem:=J4
 obj:=λi h st b hb=>by
  obtain⟨⟨j5,he⟩,hit⟩:=st;rcases Fb.mp hb with z|z
  .rw[z];exact#[_,he,λv z=>by cases z]
  .rw[E6.mp z];obtain⟨o,ho,c,d⟩:=hit;exact#[o,ho,λv z=>by rw[d]at z;cases z]
 keep:=λi h h' st k=>#[let ⟨j5,he⟩:=st.1;#[j5,k e J4 _ he],let ⟨o,ho,r⟩:=st.2;#[o,k it J4 o ho,r]]
 item:=by
  intro X hP hw hK hc i pins s σ H E I hf st hg;subst hP hw hK;have hi:i<x.cps.size:=hg;obtain⟨⟨j5,he⟩,hit⟩:=st;have fe:=hf e J4;have fi:=hf it J4;have le:e<s.heap.objs.size:=Heap.lt_size he;have li:it<s.heap.objs.size:=by obtain⟨o,ho,_⟩:=hit;exact Heap.lt_size ho
  refine wpAny_pyNext_enum_itemD (Draws.strAscii (A:=X.A.in1) (by exact I.ok.hd hc) it x t) he hit hi JJ (by simp[JJ]) λu h' tk hP z6 Ju hT h_ hk=>?_;obtain⟨c,tu,IJ,rfl⟩:=hP;refine#[_,rfl,Sj z6 λh2 Ms k_=>?_];have m_:Heap.SameBut e h' h2:=k_;have nT:s.heap.objs.size≠e:=FU le;have I1:Inv X pins σ (upd H s.heap.objs.size (.tup [.int i,.str #[[c].toArray]])) {s with heap:=h2,toks:=tk+1}:=si I fe fi le li #[tu,rfl] ((m_.2 _ nT).trans hT) λb o h1 h3 q=>(m_.2 b h1).trans (hk b o h1 h3 q);refine#[.ref s.heap.objs.size,_,I1,rfl,#[_,c,I.hok.fresh (E7 _),rfl,rfl,IJ],#[#[_,by simpa using Ms],let ⟨o,ho,r⟩:=Ju;#[o,(m_.2 it (Ne.symm JJ)).trans ho,r]],λb hb=>?_];rcases Fb.mp hb with z|z
  .rw[z,aj (Fd le)];exact fe.1
  .rw[E6.mp z,aj (Fd li)];exact fi.1
 done:=by
  intro X hP hw hK hc i pins s σ H E I hf st hg;subst hP hw hK;have hi:i=x.cps.size:=hg;subst hi;obtain⟨⟨j5,he⟩,hit⟩:=st;obtain⟨f0,f1,f2,f3,f4,f5⟩:=hf it J4;exact wpAny_pyNext_enum_endD (Draws.strAscii (A:=X.A.in1) (by exact I.ok.hd hc) it x t) he hit λh' eb=>#[rfl,I.turned (t':=s.toks) (λb o hb q=>eb b o hb q) f0 f1 f3 f4 f5]
 self:=λ_ _ _ _ _ st h=>let ⟨⟨j5,he⟩,_⟩:=st;RN he h
def iEnL(K:Ex)(ta:TA):TI:=λσ H R=>ta σ H λvs H1=>∃a,vs=[.ref a]/\(∃xs,SqL K H1 a xs)/\R (Itel K a) H1
def iEnS(ta:TA):TI:=λσ H R=>ta σ H λvs H1=>∃x,vs=[.str x]/\x.cps.all (·<128)=true/\R (Ites x) H1
section
variable {X:Cx}{p8:List P3}{x1:Nat}{tp p pos:Q_}{l:P3}{ta:TA}
def zw(hg:Gl X "enumerate")(hm:X.mg "enumerate"=z8)(ha:PA X [l] ta)(hs:autoParam (Q4 [l] X.env=[(false,Q7 l X.env)]) zA0):PI X (.Tuple p8 x1 tp) (.Call (.Name "enumerate" p) [l] [] pos) (iEnL X.K ta):=by
 intro pins s σ H R I h;refine Call_ (df I hg hm PyProof.Rows.boot_enumerate (PyProof.Rows.callWith_type1 (thn (ha pos pins s σ H _ I h) λus s1 ⟨vs,H1,I1,r1,q1⟩=>?_) hs rfl));obtain⟨a,rfl,⟨xs,hq⟩,q⟩:=q1;obtain⟨u,rfl,ru⟩:=bT r1;cases ru;obtain⟨its,rv,pl,hz⟩:=I1.list hq;refine call_enumerate_list pl.isList λh' he hit h_ hk=>?_;have I2:Inv X pins σ H1 {s1 with heap:=h'}:=I1.kept (t':=s1.toks) hk;refine RN he ?_;have ne:s1.heap.objs.size+1≠s1.heap.objs.size:=HJ _;refine#[s1.heap.objs.size+1,[s1.heap.objs.size+1,s1.heap.objs.size],_,_,H1,rfl,I2,zu a _ _ ne,#[#[_,he],hit],λb hb=>?_,q];rcases Fb.mp hb with z|z
 .rw[z];exact I1.fpOk (F4 _) (I1.hok.fresh (F4 _))
 .rw[E6.mp z];exact I1.fpOk (E7 _) (I1.hok.fresh (E7 _))
def sj(hg:Gl X "enumerate")(hm:X.mg "enumerate"=z8)(ha:PA X [l] ta)(hs:autoParam (Q4 [l] X.env=[(false,Q7 l X.env)]) zA0):PI X (.Tuple p8 x1 tp) (.Call (.Name "enumerate" p) [l] [] pos) (iEnS ta):=by
 intro pins s σ H R I h;refine Call_ (df I hg hm PyProof.Rows.boot_enumerate (PyProof.Rows.callWith_type1 (thn (ha pos pins s σ H _ I h) λus s1 ⟨vs,H1,I1,r1,q1⟩=>?_) hs rfl));obtain⟨x,rfl,Mt,q⟩:=q1;obtain⟨u,rfl,t,rfl⟩:=bT r1;refine call_enumerate_str λh' he hit h_ hk=>?_;have I2:Inv X pins σ H1 {s1 with heap:=h'}:=I1.kept (t':=s1.toks) hk;refine RN he ?_;have ne:s1.heap.objs.size+1≠s1.heap.objs.size:=HJ _;have PK:strIterType x="str_ascii_iterator":=by unfold strIterType;rw[Mt];rfl
 rw[PK]at hit;refine#[s1.heap.objs.size+1,[s1.heap.objs.size+1,s1.heap.objs.size],_,_,H1,rfl,I2,zv x t _ _ ne,#[#[_,he],hit],λb hb=>?_,q];rcases Fb.mp hb with z|z
 .rw[z];exact I1.fpOk (F4 _) (I1.hok.fresh (F4 _))
 .rw[E6.mp z];exact I1.fpOk (E7 _) (I1.hok.fresh (E7 _))
end
end L2
namespace My
open Exc
section
variable {X:Cx}[J:Jm]{a b c e o:P3}{ta tb tc te to:TME}{pos:Q_}{st:Q0}{rest:List Q0}{t u:TMS}
def jX{K:Ex}{F:Hp}:∀(is:List Nat) (ds:List D) (vs:List V) (z:SD),Reps K F ds vs->(∀(i:Nat) d,z[i]?≠be (be (.own d)))->∀(i:Nat) d,(bQ is ds z)[i]?≠be (be (.own d))
 |[],_,_,z,_,h=>h
 |_::_,[],_,z,_,h=>h
 |i::is,d::ds,vs,z,r,h=>by
  obtain⟨v,vr,rfl,r1,r2⟩:=reps_cons.mp r;refine jX is ds vr _ r2 λj q e=>?_;by_cases hj:i=j
  .subst hj;rw[F7]at e;simp at e;have:=r1.noown;rw[e.2]at this;cases this
  .rw[Fj hj]at e;exact h j q e
def mItE(t:TME):TMI:=λz M R=>t z M λx M1=>match x with|.lst ds=>R ds M1|_=>False
def zx(t:TME):TMI:=λz M R=>t z M λx M1=>match x with|.str x=>x.cps.all (·<128)=true/\R (bC x) M1|_=>False
def sk(is:List Nat)(ti:TMI)(tb:TMS):TMS:=λE z M=>ti z M λds M1=>∃W:Nat->SD->MS->Prop,W 0 z M1/\(∀(k:Nat) x z M,ds[k]?=be x->W k z M->tb {E with nx:=W (k+1),ct:=W (k+1),bk:=E.nx} (bQ is [.int k,x] z) M)/\∀z M,W ds.length z M->E.nx z M
variable{is:List Nat}
def so{K:Ex}{F0 F1 H1:Hp}{z:SD}{s:L2.St}{M1:MS}{E:Ends}{ED:EndsM}{It':It}{g:TG}{tb:TMS}{Ku:TS}{ds:List D}(hK:K=X.K)(k1:Kept J.B F0 F1 H1)(l7:RepZ K J.B F1 H1 z s M1)(e:EndsOkM K F0 ED E)(b8:is.length=2)
  (go:∀k F' H',Same F1 F'->Same F' H'->k<ds.length->It'.go k H') (stop:∀F' H',Same F1 F'->Same F' H'->It'.stop ds.length H')
  (yld:∀k F' H' x H'',Same F1 F'->Same F' H'->k<ds.length->It'.yld k H' x H''->∃T d v,H' T=z8/\x=.ref T/\H''=upd H' T (.tup [.int k,v])/\ds[k]?=be d/\Rep K F' d v)
  (hg:∀(dd:List D) (vs:List V) (T:Addr) (z:SD) (s:L2.St) (F H:Hp) (Q:L2.St->Hp->Prop),dd.length=2->H T=be (.tup vs)->Reps K F dd vs->RepS K J.B F H z s->(∀s',RepS K J.B F H (bQ is dd z) s'->Q s' H)->g (.ref T) s H Q)
  (Mu:∀E s H,mS K tb E s H->Ku E s H)
  (hd:∃W:Nat->SD->MS->Prop,W 0 z M1/\(∀(k:Nat) x z M,ds[k]?=be x->W k z M->tb {ED with nx:=W (k+1),ct:=W (k+1),bk:=ED.nx} (bQ is [.int k,x] z) M)/\∀z M,W ds.length z M->ED.nx z M):
  ∃W:Nat->Nat->L2.St->Hp->Prop,(∃m,W 0 m s H1)/\∀i m σ H,W i m σ H->
   (It'.stop i H/\E.nx σ H)\/(It'.go i H/\∃N:L2.St->Hp->Prop,(∀σ' H',N σ' H'->∃m',m'<m/\W (i+1) m' σ' H')/\∀x H',It'.yld i H x H'->g x σ H' λσ2 H2=>Ku {E with nx:=N,ct:=N,bk:=E.nx} σ2 H2):=by
 obtain⟨W,w0,c3,out⟩:=hd;refine#[λk m s' H'=>m=ds.length-k/\k<=ds.length/\∃F' z' M',Kept J.B F0 F' H'/\Same F1 F'/\RepZ K J.B F' H' z' s' M'/\W k z' M',#[ds.length,J4,Fz _,F1,z,M1,k1,Same.refl F1,l7,w0],?_];rintro k m s' H'⟨rfl,hk,F',z',M',k',g',r',w'⟩;by_cases e8:k<ds.length
 .refine .inr #[go k F' H' g' k'.fh e8,λs3 H3=>∃F3 z3 M3,Kept J.B F0 F3 H3/\Same F1 F3/\RepZ K J.B F3 H3 z3 s3 M3/\W (k+1) z3 M3,λs3 H3 h3=>#[ds.length-(k+1),Jb,rfl,e8,h3],λx H'' hy=>?_];obtain⟨T,d,v,hT,rfl,rfl,hd,rd⟩:=yld k F' H' x H'' g' k'.fh e8 hy;have gn:=Grow.new k'.fh hT (.tup [.int k,v]);have k2:=k'.grow gn;have r2:=r'.growM k'.bh gn.toM (r'.rm.grow gn);have rp:Reps K (upd F' T (.tup [.int k,v])) [.int k,d] [.int k,v]:=reps_cons.mpr #[_,_,rfl,rep_int.mpr rfl,eo (rd.mono gn.ff)];refine hg [.int k,d] _ T z' s' _ _ _ rfl aw rp r2.rs λs2 JI=>Mu _ _ _ ?_;have gF:Same F1 (upd F' T (.tup [.int k,v])):=g'.trans gn.ff;refine#[upd F' T (.tup [.int k,v]),upd F' T (.tup [.int k,v]),_,M',#[k2.bh,k2.fh,Same.refl _,λb h1 _=>h1,k2.eb,k2.jf.trans k2.f0,λb h1 h2=>k2.out b (k2.jo b h1 h2) h2],#[JI,jX is _ _ z' rp r2.no,r2.rm,r2.mb],_,c3 k d z' M' hd w',?_];have up:∀{F3 H3:Hp},Kept J.B (upd F' T (.tup [.int k,v])) F3 H3->Kept J.B F0 F3 H3:=λk3=>#[k3.bh,k3.fh,k2.f0.trans k3.f0,λb h1 h2=>k3.out b (k2.out b h1 h2) h2,k2.eb,k2.jf,k2.jo];exact#[λz3 s3 M3 F3 H3 k3 h3 r3=>#[F3,z3,M3,up k3,gF.trans k3.f0,r3,h3],λd v M3 F3 H3 k3=>e.rt d v M3 F3 H3 (up k3),λz3 s3 M3 F3 H3 k3=>e.nx z3 s3 M3 F3 H3 (up k3),λz3 s3 M3 F3 H3 k3 h3 r3=>#[F3,z3,M3,up k3,gF.trans k3.f0,r3,h3]]
 .have ek:k=ds.length:=by lia
  subst ek;exact .inl #[stop F' H' g' k'.fh,e.nx z' s' M' F' H' k' (out z' M' w') r']
variable{es:List P3}{body:List Q0}
def zy{x1:Nat}{tp p1 p2:Q_}{tb:TMS}(hp:Rm (QZ X.prog X.w) X.A X.env X.xe)(hc:X.calm=true)(hm:X.mg "enumerate"=z8)(he:ME X e te)(hG:DGs X es is)(hb:MSs X body tb)(b8:autoParam (is.length=2) zA0)(hg:autoParam (Gl X "enumerate") zA0)
  (hn:autoParam ((Q5 es X.env).length=2) zA0) (j4:autoParam ((Q5 es X.env).findIdx? (·.1)=none) zA0)
  (hs:autoParam (∀y,zFS X (.Call (.Name "enumerate" p1) [e] [] p2) y) zA3) (o_:autoParam (zSE X e []) zA0) (f_:autoParam (Q4 [e] X.env=[(false,Q7 e X.env)]) zA0):
  MSt X (.For (.Tuple es x1 tp) (.Call (.Name "enumerate" p1) [e] [] p2) body [] pos) (sk is (mItE te) tb):=by
 obtain⟨ug,Kv,kk⟩:=hG;refine#[(cN hp hc (zw hg hm (bo he.out pa_nil o_) f_) (eZ hc Kv hn j4) hb.out hs).anti λE s H q=>?_];obtain⟨F0,F,z,M,kp,rs,ED,h,e⟩:=q;refine#[F,z,M,kp.kf,rs,_,h,λd v M1 F1 H1 g1 hd rd m1=>?_];split at hd
 .rename_i ds;obtain⟨p,vs,rfl,hq,rr⟩:=rep_lst.mp rd;refine#[p,rfl,#[vs,SqL.of (g1.fh _ _ hq)],so (It':=Itel X.K p) rfl (kp.growM rs.mb g1) (rs.growM kp.bh g1 m1) e b8 (λk F' H' s1 s2 hk=>?_) (λF' H' s1 s2=>?_) (λk F' H' x H'' s1 s2 hk hy=>?_) (λdd l6 T z s F H Q hl hT rp w6 hQ=>?_) (λ_ _ _ h=>h) hd]
  .have Kw:k<vs.length:=by rw[rr.length];exact hk
   exact#[vs,vs[k],SqL.of (s2 _ _ (s1 _ _ hq)),by simp[Kw]]
  .exact#[vs,SqL.of (s2 _ _ (s1 _ _ hq)),by rw[rr.length];exact E7 _]
  .obtain⟨T,v,hT,e1,e2,hv⟩:=hy;obtain⟨d,hd,rd⟩:=rr.get' (hv vs (SqL.of (s2 _ _ (s1 _ _ hq))));exact#[T,d,v,hT,e1,e2,hd,rd.mono s1]
  .exact#[T,l6,rfl,SqT.of hT,by rw[rp.length];exact hl,kk dd l6 z s J.B F H Q (by rw[hl,b8]) rp w6 hQ]
 .exact hd.elim
def zz{x1:Nat}{tp p1 p2:Q_}{tb:TMS}(hp:Rm (QZ X.prog X.w) X.A X.env X.xe)(hc:X.calm=true)(hm:X.mg "enumerate"=z8)(he:ME X e te)(hG:DGs X es is)(hb:MSs X body tb)(b8:autoParam (is.length=2) zA0)(hg:autoParam (Gl X "enumerate") zA0)
  (hn:autoParam ((Q5 es X.env).length=2) zA0) (j4:autoParam ((Q5 es X.env).findIdx? (·.1)=none) zA0)
  (hs:autoParam (∀y,zFS X (.Call (.Name "enumerate" p1) [e] [] p2) y) zA3) (o_:autoParam (zSE X e []) zA0) (f_:autoParam (Q4 [e] X.env=[(false,Q7 e X.env)]) zA0):
  MSt X (.For (.Tuple es x1 tp) (.Call (.Name "enumerate" p1) [e] [] p2) body [] pos) (sk is (zx te) tb):=by
 obtain⟨ug,Kv,kk⟩:=hG;refine#[(cN hp hc (sj hg hm (bo he.out pa_nil o_) f_) (eZ hc Kv hn j4) hb.out hs).anti λE s H q=>?_];obtain⟨F0,F,z,M,kp,rs,ED,h,e⟩:=q;refine#[F,z,M,kp.kf,rs,_,h,λd v M1 F1 H1 g1 hd rd m1=>?_];split at hd
 .rename_i x;obtain⟨ha,hd⟩:=hd;have hl:=eE x;refine#[x,by rw[rep_str.mp rd],ha,so (It':=Ites x) rfl (kp.growM rs.mb g1) (rs.growM kp.bh g1 m1) e b8 (λk F' H' s1 s2 hk=>?_) (λF' H' s1 s2=>?_) (λk F' H' x H'' s1 s2 hk hy=>?_) (λdd l6 T z s F H Q hl hT rp w6 hQ=>?_) (λ_ _ _ h=>h) hd]
  .rw[hl]at hk;exact hk
  .exact hl
  .obtain⟨T,c,hT,e1,e2,hc⟩:=hy;exact#[T,.str #[[c].toArray],.str #[[c].toArray],hT,e1,e2,gA hc,rep_str.mpr rfl]
  .exact#[T,l6,rfl,SqT.of hT,by rw[rp.length];exact hl,kk dd l6 z s J.B F H Q (by rw[hl,b8]) rp w6 hQ]
 .exact hd.elim
end
end My
namespace L2
section
variable {prog:Pi}{w:Q2}{K:Type}[DecidableEq K]{j7:HeapKind prog w K}{A:Q3}{E:KB->KF->Prop}{s:KF}{d a:Addr}{k:K}{xs:List (K×Addr×KB)}
def zA{v:KB}{Q:KB->KF->Prop}(hu:j7.room A)(m5:j7.is s.heap k a)(hm:s.heap.DictOfH j7 d xs)
  (h1:∀p,Se xs k=be p->Q p.2 {s with toks:=s.toks+j7.draws k})
  (h2:Se xs k=z8->∀h',h'.DictOfH j7 d (xs++[(k,a,v)])->Heap.SameBut d s.heap h'->Q v {s with heap:=h',toks:=s.toks+j7.draws k})
  (h_:xs.length<=sizeLine):Q1 (QZ prog w) A (Sl d (.ref a) v) Q E s:=by
 obtain⟨o,es,ep,ho,hc,hd,he,Oj,hn⟩:=hm;unfold Sl
 try with_reducible refine Rk ?_
 refine KM (j7.pyHash hu m5 ?_);refine KM (wpAny_dictFind_heap (s:={s with toks:=s.toks+j7.draws k}) hu m5 ho hd he Oj hn ?_ ?_)
 .intro JF;have Mw:k∉xs.map (·.1):=not_mem_keys_of_get JF;refine KM (wpAny_rule (KM (wpAny_updateDictKeys (hz:=by have e:=size_of_entries he;lia) (s:={s with toks:=s.toks+j7.draws k}) ho hd (QY (h2 (atKey_none_of_get JF) _ ⟨_,_,ep+1,Heap.get?_update_self _ ho (Obj.isFreed_of_dict (Obj.data_mapDictKeys hd _)),
   hc.mapDictKeys _,Obj.data_mapDictKeys hd _,?_,?_,?_⟩ (Heap.SameBut.update ..))))))
  .simp[he,entryOfKey]
  .intro x hx;rcases FH.mp hx with hx|hx
   .exact j7.keeps (Oj x hx) ho hd (Heap.SameBut.update ..)
   .simp only[E6]at hx;subst hx;exact j7.keeps m5 ho hd (Heap.SameBut.update ..)
  .rw[FG,Gg];refine#[hn,J4,?_];intro x hx y hy;simp only[Ft,GM,E6]at hy;subst hy;exact λe=>Mw (e ▸ hx)
 .intro j p hj;refine KM (wpAny_dictEntries (s:={s with toks:=s.toks+j7.draws k}) ho hd ?_);rw[entry_at he j,hj];exact KM (wpAny_rule (QY (h1 p (atKey_of_get hn hj))))
def zB(j7:HeapKind prog w K)(d a:Addr)(hd:(d==Rp)=false)(v:KB):
  MeetsIn prog w (Builtin.«dict.setdefault» #[[.ref d,.ref a,v],[]]) (λA R s=>j7.room A.in1/\∃k xs,j7.is s.heap k a/\s.heap.DictOfH j7 d xs/\xs.length<=sizeLine/\
   (∀p,Se xs k=be p->R (.ok (.ret p.2)) {s with toks:=s.toks+j7.draws k})/\
   (Se xs k=z8->∀h',h'.DictOfH j7 d (xs++[(k,a,v)])->Heap.SameBut d s.heap h'->R (.ok (.ret v)) {s with heap:=h',toks:=s.toks+j7.draws k})):=
 .of_wp λA R s hh=>by
  obtain⟨hu,k,xs,m5,hm,hz,h1,h2⟩:=hh;unfold Builtin.«dict.setdefault»;refine KM ?_;unfold Builtin.Dict.keyAndDefault;refine KM (wpAny_notOrdered_dict hm.typeIs ?_);show Q1 _ _ (pure (d,Value.ref a,be v)) _ _ s;refine QY ?_;show Q1 _ _ (if(d==Rp)=true then _ else(Sl d (.ref a) v>>=_)) _ _ s;rw[if_neg (by rw[hd];exact Fh)];exact KM (zA hu m5 hm (λp hp=>QY #[p.2,rfl,h1 p hp]) (λhn h' Jf Lh=>QY #[v,rfl,h2 hn h' Jf Lh]) hz)
end
end L2
namespace My
open Exc
def lookD:List ((Int×Int)×Int)->Int->Int->Option Int
 |[],_,_=>z8
 |((a,b),h)::r,x,y=>if a=x/\b=y then be h else lookD r x y
def jY(x y:Int):∀a8:List ((Int×Int)×Int),valV (dtiV a8) [.inl x,.inl y]=(lookD a8 x y).map V.int
 |[]=>rfl
 |((a,b),h)::r=>by
  show valV (([.inl a,.inl b],V.int h)::dtiV r) _=_;unfold lookD;by_cases e:a=x/\b=y
  .rw[if_pos e,jw (by rw[e.1,e.2])];rfl
  .rw[if_neg e,jx (λz=>e (by
    have z':([Sum.inl a,Sum.inl b]:List Key)=[.inl x,.inl y]:=z;injection z' with z1 z2;injection z2 with z2 _;exact#[Sum.inl.inj z1,Sum.inl.inj z2])),jY x y r]
def sdD(a8:List ((Int×Int)×Int))(x y v:Int):List ((Int×Int)×Int):=if(lookD a8 x y).isSome then a8 else a8++[((x,y),v)]
def zC:V->List V->Hp->VK->Prop:=λx vs H Q=>∃a b i j d a8,x=.ref a/\vs=[.ref b,.int d]/\H a=be (.dT (dtiV a8))/\H b=be (.tup [.int i,.int j])/\Q (.int ((lookD a8 i j).getD d)) H
def zD{X:Cx}(hu:X.A.units+1<R6):MtR X "dict.get" zC:=by
 intro pins s σ H x vs v us Q I rx rv h;obtain⟨a,b,i,j,d,a8,rfl,rfl,ha,hb,q⟩:=h;obtain⟨u,u',rfl,ru,rd⟩:=fb rv;cases(show v=Value.ref a from rx);refine wW hu I (DGet.t (k:=[.inl i,.inl j]) ha hb) ru rd λw' s' I' g7=>#[.int ((lookD a8 i j).getD d),H,I',?_,q];rw[jY]at g7;cases e:lookD a8 i j with
 |none=>rw[e]at g7;exact g7
 |some z=>rw[e]at g7;exact g7
def rSdT:V->List V->Hp->VK->Prop:=λx vs H Q=>∃a b i j d a8,x=.ref a/\vs=[.ref b,.int d]/\H a=be (.dT (dtiV a8))/\H b=be (.tup [.int i,.int j])/\a8.length<100000/\∀w,Q (.int w) (upd H a (.dT (dtiV (sdD a8 i j d))))
variable{H:Hp}{a:Addr}
def zE{o:HO}(h:H a=be o):upd H a o=H:=by
 funext b;by_cases e:b=a
 .subst e;rw[aw,h]
 .rw[aj e]
def zF{X:Cx}(hu:X.A.units+1<R6):MtR X "dict.setdefault" rSdT:=by
 intro pins s σ H x vs v us Q I rx rv h;obtain⟨a,b,i,j,d,a8,rfl,rfl,ha,hb,hl,q⟩:=h;obtain⟨u,u',rfl,ru,t,rfl⟩:=fb rv;cases(show v=Value.ref a from rx);cases(show u=Value.ref b from ru);obtain⟨z,hd,xs,s9,dd⟩:=wS I.hok ha;have b8:xs.length=a8.length:=by rw[<-Paired.length s9];simp[dtiV]
 have big:(100000:Nat)<sizeLine:=Ji
 have f7:H b=be (.tup (([.inl i,.inl j]:List Key).map kV)):=hb;have j8:=s9.val [.inl i,.inl j];rw[jY]at j8;refine SA PySem.F.slot_dict_setdefault dd.typeIs PySem.F.entry_dict_setdefault (PySem.F.args_dict_setdefault_3 _ _ _) (zB (RS (bz X.prog X.w)) a b hd (.int d t)) #[SU hu,[.inl i,.inl j],xs,key_of I.hok f7,dd,Jb,λp hp=>?_,λhn h' Kp hs=>?_]
 .rw[hp]at j8;cases e:lookD a8 i j with
  |none=>rw[e]at j8;exact j8.elim
  |some w=>
   rw[e]at j8;have:=q w;unfold sdD at this;rw[e]at this;have e2:(if(be w:Option Int).isSome then a8 else a8++[((i,j),d)])=a8:=rfl;rw[e2,zE ha]at this;exact#[.int w,H,I.tok _,j8,this]
 .rw[hn]at j8;cases e:lookD a8 i j with
  |some w=>rw[e]at j8;exact j8.elim
  |none=>
   have e2:sdD a8 i j d=a8++[((i,j),d)]:=by unfold sdD;rw[e];rfl
   have e3:dtiV (sdD a8 i j d)=dtiV a8++[([.inl i,.inl j],.int d)]:=by rw[e2];simp[dtiV]
   obtain⟨o,es,ep,ho,hx,h3,h4,_,h5⟩:=Kp;have new:ObjOk X.prog X.w (upd H a (.dT (dtiV (sdD a8 i j d)))) h' a (.dT (dtiV (sdD a8 i j d))):=by
    refine#[by rw[e3,Fp];simp[dtiV];lia,hd,_,?_,o,es,ep,ho,hx,h3,h4,h5];rw[e3];refine KT.keeps (H:=H) (Paired.snoc (a:=(([.inl i,.inl j]:List Key),V.int d)) (b:=(([.inl i,.inl j]:List Key),b,Value.int d t)) s9 #[rfl,f7,#[t,rfl]]) λc ys ec=>?_;rw[aj (uu ec ha (λz=>nomatch z))];exact ec
   exact#[.int d,_,wT I (by rw[ha];exact True.intro) hs #[o,ho] new,#[t,rfl],q d]
section
variable {X:Cx}[J:Jm]{a b c e o f:P3}{ta tb tc te to:TME}{pos apos cpos:Q_}{t:TMA}
def mD0:TME:=λ_ M R=>R (.dti []) M
def zG:ME X (.Dict [] [] pos) mD0:=⟨pe_dnewT.anti λs H Q q=>by
 obtain⟨F,z,M,k,rs,R,h1,h2⟩:=q;intro p hp;have gn:=Grow.new k.fh hp (.dT []);exact h2 _ _ M _ _ gn.toM h1 (rep_dti.mpr #[p,rfl,aw]) (rs.rm.grow gn)⟩
def mDN:TME:=λ_ M R=>∀p,p∉aq M->R (.ptr p) ((p,.dti [])::M)
def zH:ME X (.Dict [] [] pos) mDN:=⟨pe_dnewT.anti λs H Q q=>by
 obtain⟨F,z,M,k,rs,R,h1,h2⟩:=q;intro p hp;exact h2 _ _ _ F _ (GrowM.new k.fh hp) (h1 p λz=>rs.rm.here z hp) (rep_ptr.mpr rfl) (rs.rm.new k.fh hp aw)⟩
def zI(to:TME)(t:TMA):TME:=λz M R=>to z M λd M1=>match d with|.dti a8=>(t z M1 λds M2=>match ds with|[.tup [.int i,.int j],.int x]=>R (.int ((lookD a8 i j).getD x)) M2|_=>False)|_=>False
def zJ(hu:X.A.units+1<R6)(ho:ME X o to)(ha:MA X [e,f] t)(b7:autoParam (Q6 o "get" X.env (Q7 o X.env)=Q7 o X.env) zA0)
  (d4:autoParam (zHF X cpos [e,f]) zA0)
  (b_:autoParam ((apos.endLine==cpos.line)=true) zA0) (k6:autoParam (zSE X e [f]) zA0) (c5:autoParam (zPL X cpos [f]) zA0):
  ME X (.Call (.Attribute o "get" apos) [e,f] [] cpos) (zI to t):=⟨(dR PySem.F.plainAttrs_dict PySem.F.slot_dict_get PySem.F.type_dict_get (zD hu) ho.out ha.out b7 d4 b_ k6 c5).anti λs H Q h=>by
 obtain⟨F,z,M,k,rs,R,h1,h2⟩:=h;refine#[F,z,M,k,rs,_,h1,λx u M1 F1 H1 g1 hx rx m1=>?_];split at hx
 .rename_i a8;obtain⟨p,rfl,hp⟩:=rep_dti.mp rx;refine#[.inr (.inr (.inl #[rfl,.inr #[_,g1.fh _ _ hp]])),?_];refine#[F1,z,M1,k.growM rs.mb g1,rs.growM k.bh g1 m1,_,hx,λds vs M2 F2 H2 g2 hd rd m2=>?_];split at hd
  .rename_i i j x;obtain⟨v1,r1,rfl,q1,q2⟩:=reps_cons.mp rd;obtain⟨v2,r2,rfl,q3,q4⟩:=reps_cons.mp q2;rw[reps_nil.mp q4,rep_int.mp q3];obtain⟨b,us,rfl,hb,ru⟩:=rep_tupS.mp q1;have Mx:us=[.int i,.int j]:=(Reps.ints (ns:=[i,j])).mp ru;subst Mx;exact#[p,b,i,j,x,a8,rfl,rfl,g2.fh _ _ (g2.ff _ _ hp),g2.fh _ _ hb,h2 _ _ M2 F2 H2 (g1.trans g2) hd (rep_int.mpr rfl) m2]
  .exact hd.elim
 .exact hx.elim⟩
def mDsd(to:TME)(t:TMA):TME:=λz M R=>to z M λd M1=>match d with|.ptr a=>(∃a8,mget M1 a=be (.dti a8))/\(t z M1 λds M2=>match ds with|[.tup [.int i,.int j],.int x]=>∃a8,mget M2 a=be (.dti a8)/\a8.length<100000/\∀w,R (.int w) (mput M2 a (.dti (sdD a8 i j x)))|_=>False)|_=>False
def zK(hu:X.A.units+1<R6)(ho:ME X o to)(ha:MA X [e,f] t)(b7:autoParam (Q6 o "setdefault" X.env (Q7 o X.env)=Q7 o X.env) zA0)
  (d4:autoParam (zHF X cpos [e,f]) zA0)
  (b_:autoParam ((apos.endLine==cpos.line)=true) zA0) (k6:autoParam (zSE X e [f]) zA0) (c5:autoParam (zPL X cpos [f]) zA0):
  ME X (.Call (.Attribute o "setdefault" apos) [e,f] [] cpos) (mDsd to t):=⟨(dR PySem.F.plainAttrs_dict PySem.F.slot_dict_setdefault PySem.F.type_dict_setdefault (zF hu) ho.out ha.out b7 d4 b_ k6 c5).anti λs H Q h=>by
 obtain⟨F,z,M,k,rs,R,h1,h2⟩:=h;refine#[F,z,M,k,rs,_,h1,λx u M1 F1 H1 g1 hx rx m1=>?_];split at hx
 .rename_i a;obtain⟨⟨QE,Mp⟩,hx⟩:=hx;rw[rep_ptr.mp rx];refine#[.inr (.inr (.inl #[rfl,.inr #[_,m1.ok _ _ (bn Mp)]])),?_];refine#[F1,z,M1,k.growM rs.mb g1,rs.growM k.bh g1 m1,_,hx,λds vs M2 F2 H2 g2 hd rd m2=>?_];split at hd
  .rename_i i j x;obtain⟨a8,hm,hl,hR⟩:=hd;obtain⟨v1,r1,rfl,q1,q2⟩:=reps_cons.mp rd;obtain⟨v2,r2,rfl,q3,q4⟩:=reps_cons.mp q2;rw[reps_nil.mp q4,rep_int.mp q3];obtain⟨b,us,rfl,hb,ru⟩:=rep_tupS.mp q1;have Mx:us=[.int i,.int j]:=(Reps.ints (ns:=[i,j])).mp ru;subst Mx;refine#[a,b,i,j,x,a8,rfl,rfl,m2.ok _ _ (bn hm),g2.fh _ _ hb,hl,λw=>?_];exact h2 _ _ _ F2 _ (g1.trans (g2.trans (GrowM.put g2.fh (m2.fr a (bD (bn hm))) hm))) (hR w) (rep_int.mpr rfl) (m2.put hm aw)
  .exact hd.elim
 .exact hx.elim⟩
end
section
variable {P:Pi}{w:Q2}{K:Ex}{mg:E_->Option KB}{base:Heap}
open Classical in
def Cls.okIM{x qual:E_}{st:Q0}{f C:Addr}{fd:Q8}{N:List E_}{p0:E_}{ps:List E_}{k:Nat}{S:SiD}(T:Fun K "__init__" qual st f fd)(hb:Binds K fd (p0::ps) [])(F:FnScope N (p0::ps) (ag st))(len:∀ds R,S ds R->ds.length=ps.length)
  (hns:nsIn K Os x=be (be (.ref C))) (i8:mg x=be (.ref C)) (mk:Mk K C f)
  (a9:∀(cdv:KB) (A:Q3) (outer:List RI) (s:KF) (H:Hp) (E:XK) (J:Jm),Room k (A.deeper (Ra qual (ag st) s.heap.objs.size f cdv))->XOkM (cxOf (CX1 P w) P w K mg base N qual (ag st) f cdv A outer s H E).nox->
   ∃t,MSs (cxOf (CX1 P w) P w K mg base N qual (ag st) f cdv A outer s H E).nox (aE st) t/\∀a ds R,(∀z M x fs,¬J.RM z M x fs)->S ds R->t {nx:=λ_ M'=>∃fs,M'=[(a,.ins x fs)]/\R fs,rt:=λ_ _=>False} (startD N (.ptr a::ds)) [(a,.ins x [])]):CalM P w K mg base (k+1) x (p0::ps) S:=by
 refine#[C,f,fd,hns,i8,mk,Fun.okC T F (λvs H Q E h=>?_) (λcdv A outer s H vs Q E hr h=>?_),hb]
 .obtain⟨a,dx,us,H1,F,ds,rfl,_,_,_,_,_,rs,R,h,_⟩:=h;rw[Fc,Fc,rs.length,len ds R h]
 .obtain⟨a,dx,us,H1,F1,ds,rfl,rfl,ha,m9,j3,fh,rs,R,h,q⟩:=h
  let H:Hp:=upd (upd H1 dx (.own a)) a (.ins C dx [])
  let B:Hp:=λb=>if b=a then z8 else H b
  have Kx:B a=none:=if_pos rfl;have hB:∀{b:Addr},b≠a->B b=H b:=λ{b} h=>if_neg h;have l5:∀{b:Addr} {o:HO},H1 b=be o->b≠a/\H b=be o:=λ{b o} e=>by
   have n1:b≠a:=bw e ha;exact#[n1,by show upd _ _ _ b=_;rw[aj n1,aj (bw e m9)];exact e]
  letI:Jm:={B:=B,F0:=F1,RX:=λ_ _ _=>False,RM:=λ_ _ _ _=>False}
  have hx:XOkM (cxOf (CX1 P w) P w K mg base N qual (ag st) f cdv A outer s H E).nox:=λσ z M' F' H' s' e C od y fs I kk rr hR er _=>hR.elim;obtain⟨t,ht,hq⟩:=a9 cdv A outer s H E inferInstance hr hx;have Fa:F1 a=none:=fh.free ha;have k0:Kept B F1 F1 H:=⟨λb o e=>by
   by_cases n:b=a
   .rw[n,Kx]at e;cases e
   .rw[hB n]at e;exact e,λb o e=>(l5 (fh b o e)).2,Same.refl F1,λ_ h _=>h,rfl,Same.refl F1,λ_ h _=>h⟩
  have w6:Reps K F1 (.ptr a::ds) (.ref a::us):=reps_cons.mpr #[_,_,rfl,rep_ptr.mpr rfl,rs];have Mz:RepM K F1 H [(a,.ins x [])]:=⟨by simp[aq],λb o hb=>by
   have e:=E6.mp hb;cases e;exact#[C,dx,[],hns,aw,repf_nil.mpr rfl],λb hb=>by
   have e:b=a:=by simpa[aq]using hb
   rw[e];exact Fa⟩
  have r0:RepZ K B F1 H (startD N (.ptr a::ds)) (L2.start N (.ref a::us)) [(a,.ins x [])]:=⟨dg w6,jW w6,Mz,λb hb=>by
   have e:b=a:=by simpa[aq]using hb
   rw[e];exact Kx⟩
  refine#[_,ht.out.nox,F1,F1,_,_,k0,r0,_,hq a ds R (λ_ _ _ _ z=>z) h,#[λz' s' M' F' H' kk hn r=>?_,λd v M' F' H' kk hd rd Mr mb=>hd.elim,λ_ _ _ _ _ _ h _=>h.elim,λ_ _ _ _ _ _ h _=>h.elim]];obtain⟨fs,rfl,hR⟩:=hn;obtain⟨C',Iw,ws,f8,d7,rf⟩:=r.rm.ok a _ (E6.mpr rfl);have r_:nsIn K Os x=be (be (.ref C')):=f8;rw[hns]at r_;cases r_;exact q fs ws Iw F' H' ⟨kk.f0,kk.fh,λb o e=>kk.bh b o (by show B b=be o;rw[hB (l5 e).1];exact(l5 e).2),λb h1 h2=>kk.out b h1 (by
   show B b≠z8;cases e:H1 b with
   |none=>exact absurd e h2
   |some o=>rw[hB (l5 e).1,(l5 e).2];exact λz=>nomatch z)⟩ hR d7 (r.rm.fr a (by simp[aq])) rf
end
section
variable {P:Pi}{w:Q2}{K:Ex}{mg:E_->Option KB}{base:Heap}{n:Nat}{x m:E_}{ps:List E_}
variable{S:SpM}
def CalMth.one(h:CalMth P w K mg base n x m ps (lSpM K S)):∀y,y∈[x]->CalMth P w K mg base n y m ps (lSpM K ((λ_=>S) y)):=λy hy=>by
 rw[E6.mp hy];exact h
def sq{f:Addr}{fd:Q8}{sp:Sp}(h:∀vs H Q E,¬sp vs H Q E):FnOk P w K mg base (CX1 P w) n f fd ps sp:=#[λvs H Q E q=>(h _ _ _ _ q).elim,λA outer s H args us vs Q E _ _ _ _ q=>(h _ _ _ _ q).elim]
def sr(h:∀ds M R RX,¬S ds M R RX):∀vs H Q E,¬lSpM K S vs H Q E:=by
 rintro vs H Q E⟨F,ds,M,_,_,_,R,RX,q,_⟩;exact h ds M R RX q
def CalMth.never{qual:E_}{st:Q0}(T:Txm K x m qual st ps)(h:∀ds M R RX,¬S ds M R RX):CalMth P w K mg base n x m ps (lSpM K S):=by
 obtain⟨C,f,fd,h1,h2,h3,T,hb⟩:=T;exact#[C,f,fd,h1,h2,h3,sq (sr h),hb]
def CalMM.never{st:Q0}(T:Tx K mg x st ps)(h:∀ds M R RX,¬S ds M R RX):CalMM P w K mg base n x ps S:=by
 obtain⟨f,fd,T,hb,hm⟩:=T;exact#[f,fd,sq (sr h),hb,T.kp,hm]
end
section
variable {X:Cx}[J:Jm]{a b c e:P3}{ta tb:TME}{pos:Q_}
def mUn(r:D->(D->Prop)->Prop)(ta:TME):TME:=λz M R=>ta z M λx M1=>r x λd=>R d M1
end
def jZ(S:SpM):SpM:=λds M R RX=>∃M1 M2,M=M1++M2/\S ds M2 (λd M'=>R d (M1++M')) λx fs M'=>RX x fs (M1++M')
def keys_app{M1 M2:MS}:a∈aq (M1++M2)↔a∈aq M1\/a∈aq M2:=by unfold aq;rw[FG,FH]
variable{K:Ex}{vs:List V}
def kd{S:SpM}{Q:VK}{E:XK}(h:lSpM K (jZ S) vs H Q E):lSpM K S vs H Q E:=by
 obtain⟨F,ds,M,fh,rs,rm,R,RX,⟨M1,M2,rfl,hS⟩,q,qx⟩:=h;have nd:(aq M1++aq M2).Nodup:=by have:=rm.nd;unfold aq at this ⊢;rw[FG]at this;exact this
 have MB:∀{a:Addr},a∈aq M1->a∉aq M2:=λ{a} h1 h2=>(Gg.mp nd).2.2 a h1 a h2 rfl;have PL:RepM K F H M2:=#[(Gg.mp nd).2.1,λa o h=>rm.ok a o (Fw _ h),λa h=>rm.fr a (keys_app.mpr (.inr h))];have up:∀{M':MS} {F' H':Hp},GrowM M2 M' F H F' H'->RepM K F' H' M'->GrowM (M1++M2) (M1++M') F H F' H'/\RepM K F' H' (M1++M'):=λ{M' F' H'} g r=>by
  have Ol:∀{a:Addr},a∈aq M1->H a≠none:=λ{a} h=>rm.here (keys_app.mpr (.inl h));have MC:∀{a:Addr},a∈aq M1->a∉aq M':=λ{a} h1 h2=>by
   rcases g.ks a h2 with z|z
   .exact MB h1 z
   .exact Ol h1 z
  refine#[#[g.ff,g.fh,λb o nb e=>g.hh b o (λz=>nb (keys_app.mpr (.inr z))) e,λb nb h1 h2=>g.out b (λz=>nb (keys_app.mpr (.inr z))) h1 h2,λb hb=>?_],#[?_,λa o h=>?_,λa h=>?_]]
  .rcases keys_app.mp hb with z|z
   .exact .inl (keys_app.mpr (.inl z))
   .exact(g.ks b z).imp (λz=>keys_app.mpr (.inr z)) id
  .unfold aq;rw[FG];exact Gg.mpr #[(Gg.mp nd).1,r.nd,λa h1 b h2 e=>MC h1 (e ▸ h2)]
  .rcases FH.mp h with z|z
   .have ka:a∈aq M1:=bD z;exact(rm.ok a o (Ga _ z)).mono g.ff λo e=>g.hh a o (MB ka) e
   .exact r.ok a o z
  .rcases keys_app.mp h with z|z
   .exact g.out a (MB z) (rm.fr a (keys_app.mpr (.inl z))) (Ol z)
   .exact r.fr a z
 exact#[F,ds,M2,fh,rs,PL,_,_,hS,λd v M' F' H' g hd rd m'=>q d v _ F' H' (up g m').1 hd rd (up g m').2,λx fs C od M' F' H' g hR er m'=>qx x fs C od _ F' H' (up g m').1 hR er (up g m').2]
section
variable {P:Pi}{w:Q2}{K:Ex}{mg:E_->Option KB}{base:Heap}{n:Nat}{x m:E_}{ps:List E_}{S:SpM}
def CalMM.frame(C:CalMM P w K mg base n x ps S):CalMM P w K mg base n x ps (jZ S):=C.imp λ_ _ _ _ h=>kd h
def CalMth.frame(C:CalMth P w K mg base n x m ps (lSpM K S)):CalMth P w K mg base n x m ps (lSpM K (jZ S)):=C.imp λ_ _ _ _ h=>kd h
end
def nilX(S:SpX):SpM:=λds M R RX=>M=[]/\∃(R0:D->Prop) (IB:XD),S ds R0 IB/\(∀d M',R0 d->R d M')/\∀x fs M',IB x fs->RX x fs M'
def CalMM.nilX{P:Pi}{w:Q2}{mg:E_->Option KB}{base:Heap}{n:Nat}{x:E_}{ps:List E_}{S:SpX}(C:CalMM P w K mg base n x ps (nilX S)):CalX P w K mg base n x ps S:=C.toX λ_ R RX h=>#[rfl,R,RX,h,λ_ _ h=>h,λ_ _ _ h=>h]
mutual
def bY:D->Bool
 |.non=>true|.bl _=>true|.int _=>true|.str _=>true|.ptr _=>true
 |.tup ds=>flats ds
 |.lst ds=>flats ds
 |_=>false
def flats:List D->Bool
 |[]=>true
 |d::ds=>bY d&&flats ds
end
def cutF(F:Hp)(a:Addr):Hp:=λb=>if b=a then z8 else F b
variable{F:Hp}
def fB{b:Addr}(h:b≠a):cutF F a b=F b:=if_neg h
mutual
def Rep.cutF{K:Ex}{F:Hp}{a:Addr}{C:Addr}{dx:Addr}{ws:List (E_×V)}(ea:F a=be (.ins C dx ws)):∀(d:D) (v:V),bY d=true->Rep K F d v->Rep K (My.cutF F a) d v
 |.non,v,_,h=>by unfold Rep at h ⊢;exact h
 |.bl b,v,_,h=>by unfold Rep at h ⊢;exact h
 |.int b,v,_,h=>by unfold Rep at h ⊢;exact h
 |.str b,v,_,h=>by unfold Rep at h ⊢;exact h
 |.ptr b,v,_,h=>by unfold Rep at h ⊢;exact h
 |.tup ds,v,n,h=>by
  unfold Rep at h ⊢;obtain⟨p,vs,e,q,r⟩:=h;have ne:p≠a:=λz=>by rw[z,ea]at q;cases q
  exact#[p,vs,e,by rw[fB ne];exact q,Reps.cutF ea ds vs (by unfold bY at n;exact n) r]
 |.lst ds,v,n,h=>by
  unfold Rep at h ⊢;obtain⟨p,vs,e,q,r⟩:=h;have ne:p≠a:=λz=>by rw[z,ea]at q;cases q
  exact#[p,vs,e,by rw[fB ne];exact q,Reps.cutF ea ds vs (by unfold bY at n;exact n) r]
 |.rol _,_,n,_=>by unfold bY at n;cases n
 |.obj _ _,_,n,_=>by unfold bY at n;cases n
 |.exc _ _,_,n,_=>by unfold bY at n;cases n
 |.own _,_,n,_=>by unfold bY at n;cases n
 |.dti _,_,n,_=>by unfold bY at n;cases n
def Reps.cutF{K:Ex}{F:Hp}{a:Addr}{C:Addr}{dx:Addr}{ws:List (E_×V)}(ea:F a=be (.ins C dx ws)):∀(ds:List D) (vs:List V),flats ds=true->Reps K F ds vs->Reps K (My.cutF F a) ds vs
 |[],vs,_,h=>by unfold Reps at h ⊢;exact h
 |d::ds,vs,n,h=>by
  unfold flats at n;rw[Fx]at n;unfold Reps at h ⊢;obtain⟨v,r,e,q1,q2⟩:=h;exact#[v,r,e,Rep.cutF ea d v n.1 q1,Reps.cutF ea ds r n.2 q2]
end
def lendD(a:Addr)(o:D)(d:D):D:=match d with|.ptr b=>if b=a then o else .ptr b|d=>d
def lend(S:SpX):SpM:=λds M R _=>∃a x fs,mget M a=be (.ins x fs)/\S (ds.map (lendD a (.obj x fs))) (λd=>bY d=true/\R d M) λ_ _=>False
def zL{F2:Hp}{o d:D}{v:V}(g:Same F F2)(ro:Rep K F2 o (.ref a))(h:Rep K F d v):Rep K F2 (lendD a o d) v:=by
 unfold lendD;split
 .rename_i b;split
  .rename_i e;rw[rep_ptr.mp h,e];exact ro
  .exact rep_ptr.mpr (rep_ptr.mp h)
 .exact h.mono g
def zM{F2:Hp}{o:D}(g:Same F F2)(ro:Rep K F2 o (.ref a)){ds:List D}:∀{vs:List V},Reps K F ds vs->Reps K F2 (ds.map (lendD a o)) vs:=by
 induction ds with
 |nil=>intro vs h;rw[reps_nil.mp h];exact reps_nil.mpr rfl
 |cons d ds ih=>
  intro vs h;obtain⟨v,r,rfl,q1,q2⟩:=reps_cons.mp h;exact reps_cons.mpr #[v,r,rfl,zL g ro q1,ih q2]
def ke{S:SpX}{Q:VK}{E:XK}(h:lSpM K (lend S) vs H Q E):lSpX K S vs H Q E:=by
 obtain⟨F,ds,M,fh,rs,rm,R,RX,⟨a,x,fs,hm,hS⟩,q,qx⟩:=h;have ma:=bn hm;obtain⟨C,dx,ws,n,hH,rf⟩:=rm.ok _ _ ma;have fa:=rm.fr a (bD ma);have g:Same F (upd F a (.ins C dx ws)):=aR fa _;have g2:Same (upd F a (.ins C dx ws)) H:=λb o e=>by
  by_cases hb:b=a
  .subst hb;rw[aw]at e;cases e;exact hH
  .rw[aj hb]at e;exact fh b o e
 have ro:Rep K (upd F a (.ins C dx ws)) (.obj x fs) (.ref a):=by
  unfold Rep;exact#[a,C,dx,ws,rfl,n,aw,RepF.mono g fs ws rf]
 refine#[upd F a (.ins C dx ws),_,g2,zM g ro rs,_,_,hS,λd v F' H' g' hd rd=>?_,λ_ _ _ _ _ _ _ z=>z.elim];have ea:F' a=be (.ins C dx ws):=g'.ff a _ aw;have ff:Same F (cutF F' a):=λb o e=>by
  have ne:b≠a:=λz=>by rw[z,fa]at e;cases e
  rw[fB ne];exact g'.ff b o (by rw[aj ne];exact e)
 have PM:Same (cutF F' a) H':=λb o e=>by
  by_cases hb:b=a
  .subst hb;unfold cutF at e;rw[if_pos rfl]at e;cases e
  .rw[fB hb]at e;exact g'.fh b o e
 have out:∀b,F b=z8->H b≠z8->cutF F' a b=none:=λb h1 h2=>by
  by_cases hb:b=a
  .subst hb;exact if_pos rfl
  .rw[fB hb];exact g'.out b (by rw[aj hb];exact h1) h2
 exact q d v M (cutF F' a) H' #[ff,PM,λb o _ e=>g'.hh b o e,λb _ h1 h2=>out b h1 h2,λb z=>.inl z] hd.2 (Rep.cutF ea d v hd.1 rd)
  #[rm.nd,λb o hb=>(rm.ok b o hb).mono ff λo e=>g'.hh b o e,λb hb=>out b (rm.fr b hb) (rm.here hb)]
section
variable {P:Pi}{w:Q2}{K:Ex}{mg:E_->Option KB}{base:Heap}{n:Nat}{x:E_}{ps:List E_}
def CalX.lend{S:SpX}(C:CalX P w K mg base n x ps S):CalMM P w K mg base n x ps (My.lend S):=Cal.imp C λ_ _ _ _ h=>ke h
def CalMth.lend{m:E_}{S:SpX}(C:CalMth P w K mg base n x m ps (lSpX K S)):CalMth P w K mg base n x m ps (lSpM K (My.lend S)):=C.imp λ_ _ _ _ h=>ke h
end
def NoOwn(z:SD):Prop:=∀(i:Nat) ds,z[i]?≠be (be (.own ds))
def ofB(B H:Hp)(M:MS):Hp:=λb=>if b∈aq M then H b else B b
def jOf(B H F:Hp)(M:MS):Jx:=#[ofB B H M,F,λ_ _ _=>False]
def endD(E:EndsM)(M:MS):EndsD:=#[λz=>E.nx z M/\NoOwn z,λd=>E.rt d M,λz=>E.bk z M/\NoOwn z,λz=>E.ct z M/\NoOwn z]
def mPS(t:TSD):TMS:=λE z M=>t (endD E M) z
section
variable {X:Cx}[J:Jm]
variable{B H:Hp}{M:MS}
def kg{b:Addr}(h:b∈aq M):ofB B H M b=H b:=if_pos h
def kh{b:Addr}(h:b∉aq M):ofB B H M b=B b:=if_neg h
variable{K:Ex}{F0 F:Hp}{z:SD}{s:L2.St}
def cT{F' H':Hp}(k:Kept J.B F0 F H)(rz:RepZ K J.B F H z s M)(k':@Kept (jOf J.B H F M) (ofB J.B H M) F F' H'):Kept J.B F0 F' H'/\RepM K F' H' M:=by
 have nk:∀b,J.B b≠z8->b∉aq M:=λb e z=>e (rz.mb b z);obtain⟨bh,fh,f0,out,_,_,_⟩:=k';refine#[#[λb o e=>?_,fh,k.f0.trans f0,λb h1 h2=>?_,k.eb,k.jf,k.jo],rz.rm.nd,λb o hb=>(rz.rm.ok b o hb).mono f0 λo e=>?_,λb hb=>?_]
 .exact bh b o (by rw[kh (nk b (by rw[e];exact λz=>nomatch z))];exact e)
 .exact out b (k.out b h1 h2) (by rw[kh (nk b h2)];exact h2)
 .exact bh b o (by rw[kg (bD hb)];exact e)
 .exact out b (rz.rm.fr b hb) (by rw[kg hb];exact rz.rm.here hb)
def fC{B':Hp}(r:RepS K B F H z s)(no:NoOwn z):RepS K B' F H z s:=#[r.len,r.val,λi ds e=>absurd e (no i ds),r.apart]
def ss(k:Kept J.B F0 F H):@Kept (jOf J.B H F M) (ofB J.B H M) F F H:=
 @Kept.mk (jOf J.B H F M) _ _ _ _ (λb o e=>by
  by_cases hb:b∈aq M
  .rw[kg hb]at e;exact e
  .rw[kh hb]at e;exact k.bh b o e) k.fh (Same.refl F) (λ_ h _=>h) rfl (Same.refl F) (λ_ h _=>h)
def su{ED:EndsM}{D:Ends}(k:Kept J.B F0 F H)(rz:RepZ K J.B F H z s M)(e:EndsOkM K F0 ED D):@EndsOk (jOf J.B H F M) K (ofB J.B H M) F (endD ED M) D:=
 @EndsOk.mk (jOf J.B H F M) _ _ _ _ _ (λz' s' F' H' k' hz r'=>e.nx z' s' M F' H' (cT k rz k').1 hz.1 #[fC r' hz.2,hz.2,(cT k rz k').2,rz.mb])
  (λd v F' H' k' hd rd=>e.rt d v M F' H' (cT k rz k').1 hd rd (cT k rz k').2 rz.mb)
  (λz' s' F' H' k' hz r'=>e.bk z' s' M F' H' (cT k rz k').1 hz.1 #[fC r' hz.2,hz.2,(cT k rz k').2,rz.mb])
  (λz' s' F' H' k' hz r'=>e.ct z' s' M F' H' (cT k rz k').1 hz.1 #[fC r' hz.2,hz.2,(cT k rz k').2,rz.mb])
def ki{st:Q0}{t:TSD}(h:∀J':Jx,@WDS X J' st t):MSt X st (mPS t):=⟨λpins s σ H D I q=>by
 obtain⟨F0,F,z,M,k,rz,ED,ht,e⟩:=q;exact @WDS.out X (jOf J.B H F M) st t (h _) pins s σ H D I #[ofB J.B H M,F,F,z,ss k,fC rz.rs rz.no,_,ht,su k rz e]⟩
def mTry(tb:Jm->TMS)(th:TH):TMS:=λE z M=>∃RM:SD->MS->XD,(∀J':Jm,J'.RM=RM->tb J' E z M)/\∀z' M' x fs,RM z' M' x fs->th x fs (endD E M') z'
def jTry(B F0:Hp)(RM:SD->MS->XD):Jm:={B:=B,F0:=F0,RX:=λ_ _ _=>False,RM:=RM}
variable{RM:SD->MS->XD}
def Kept.reM(k:Kept J.B F0 F H):@Kept (jTry J.B F0 RM).toJx J.B F0 F H:=@Kept.mk (jTry J.B F0 RM).toJx J.B F0 F H k.bh k.fh k.f0 k.out rfl (Same.refl F0) (λ_ h _=>h)
def Kept.unM{F' H':Hp}(k:Kept J.B F0 F H)(k':@Kept (jTry J.B F0 RM).toJx J.B F0 F' H'):Kept J.B F0 F' H':=by
 obtain⟨a,b,c,d,_,_,_⟩:=k';exact#[a,b,c,d,k.eb,k.jf,k.jo]
def kj{body:List Q0}{h₀:Rt}{hs:List Rt}{pos:Q_}{tb:Jm->TMS}{th:TH}
  (hb:∀(pn:List (Addr×Re)) (xe:KB->KF->Prop) (J':Jm),Rm (QZ X.prog X.w) X.A X.env xe->@XOkM (X.tried pn xe) J'->@MSs (X.tried pn xe) J' body (tb J'))
  (hh:∀J':Jx,@WDH X J' (h₀::hs) th) (d6:autoParam (X.ex=[]) zA0) (v9:autoParam (X.stack=X.env::X.outer) zA0) (j_:autoParam (X.env.frame=be X.env.locals) zA0):MSt X (.Try body (h₀::hs) [] [] pos) (mTry tb th):=⟨by
 intro pins s σ H D I h;obtain⟨F0,F,z,M,k,rz,ED,⟨RM,h1,h2⟩,ee⟩:=h;have ok:=I.ok;have hx:@XOkM (X.tried (X.pn++pins) (λe s₁=>Q1 (QZ X.prog X.w) X.A (RT e X.env) (λ_ s₂=>Q1 (QZ X.prog X.w) X.A (Sa e z8) (λ_ s₃=>Q1 (QZ X.prog X.w) X.A (Sk e X.env (h₀::hs)) (SP X pins D) X.xe s₃) X.xe s₂) X.xe s₁)) (jTry J.B F0 RM):=by
  intro σ' z' M' F' H' s' e C od x fs I1 kk rr hR er hd;have k2:Kept J.B F0 F' H':=Kept.unM k kk;exact yt (Inv.untried ok I1) hd d6 v9 j_ λs4 T2 I4 hl=>@WDH.out X (jOf J.B H' F' M') _ _ (hh _) pins s4 σ' H' D e C od T2 x fs (ofB J.B H' M') F' F' z' (endD ED M') I4 hl (ss k2) (fC rr.rs rr.no) er (h2 z' M' x fs hR) (su k2 rr ee)
 refine wpAny_Try_except (Q9 (@MSs.out _ (jTry J.B F0 RM) _ _ (hb (X.pn++pins) _ (jTry J.B F0 RM) PassesOwn.looking hx) [] s σ H D (Inv.tried I) ?_) (λf s1 q=>?_) λe s1 q=>q)
 .exact#[F0,F,z,M,Kept.reM k,rz,ED,h1 (jTry J.B F0 RM) rfl,@EndsOkM.mk (jTry J.B F0 RM) _ _ _ _ (λz' s' M' F' H' k'=>ee.nx z' s' M' F' H' (Kept.unM k k')) (λd v M' F' H' k'=>ee.rt d v M' F' H' (Kept.unM k k')) (λz' s' M' F' H' k'=>ee.bk z' s' M' F' H' (Kept.unM k k')) (λz' s' M' F' H' k'=>ee.ct z' s' M' F' H' (Kept.unM k k'))]
 .have q:=SP.untried ok q;cases f with
  |next=>exact RH q
  |ret v=>exact q
  |brk=>exact q
  |cont=>exact q⟩
end
end My
namespace My
section
variable {K:Ex}{h:Heap}{mg:E_->Option KB}{x y m q f:E_}{st:Q0}{ps:List E_}
abbrev NsC(K:Ex)(x:E_)(C:Addr):Prop:=nsIn K Os x=be (be (.ref C))
variable{C:Addr}
def NsC.uniq{D:Addr}(a:NsC K x C)(b:NsC K x D):C=D:=by
 have e:=a.symm.trans b;cases e;rfl
abbrev BindA(x q:E_)(st:Q0)(ps:List E_):Prop:=∀(kV doc pm:KB) (an:Option Addr) (cdv ct:KB) (us:List KB),us.length=ps.length->RF (fnOf x q (bq st) (aE st) (ag st) .none kV doc pm an cdv ct) #[us,[]]=pure (ps.zip us)
def FnIn(K:Ex)(x:E_)(st:Q0):Prop:=∃f fd,NsC K x f/\Fun K x x st f fd
variable{oc kV dc pm cd ct:KB}{od an:Option Addr}{sl:Array (Option KB)}
def fnIn_mk{f:Addr}(a:nsIn K Os x=be (be (.ref f)))(l:K.lookup f=be #[oc,od,.func (fnOf x x (bq st) (aE st) (ag st) .none kV dc pm an cd ct),sl])(c:codeIn K cd x=true)(k:keepIn K (.ref f)=true):FnIn K x st:=#[f,_,a,fY l c k]
def FnIn.tx(T:FnIn K x st)(X:K.In h)(G:h.Ns Os mg)(b:BindA x x st ps):Tx K mg x st ps:=by
 obtain⟨f,fd,a,F⟩:=T;exact#[f,fd,F,F.binds b,mg_of X G a]
def FnIn.law{p:E_}(T:FnIn K x st)(X:K.In h)(G:h.Ns Os mg){fa:Addr}(Jq:mg x=be (.ref fa))(b:∀(kV doc pm:KB) (an:Option Addr) (cdv ct v:KB),RF (fnOf x x (bq st) (aE st) (ag st) .none kV doc pm an cdv ct) #[[v],[]]=pure [(p,v)]):∃fd,(∀(s:KF) (v:KB),RW s fd #[[v],[]] [(p,v)])/\Fun K x x st fa fd:=by
 obtain⟨f,fd,a,F⟩:=T;have e:=Jq.symm.trans (mg_of X G a);cases e;refine#[fd,λs v=>?_,F];obtain⟨oc,od,kV,doc,pm,an,cdv,ct,osl,rfl,lk,d_⟩:=F.ex;exact .of_eq (b _ _ _ _ _ _ v)
variable{us:List KB}
def bc{x:E_}{xs:List E_}(h:us.length=(x::xs).length):∃u t,us=u::t/\t.length=xs.length:=by
 cases us with
 |nil=>cases h
 |cons u t=>exact#[u,t,rfl,Nat.succ.inj h]
def len_0(h:us.length=([]:List E_).length):us=[]:=Gv h
variable{x0:E_}
def zN(b:∀(kV doc pm:KB) (an:Option Addr) (cdv ct u0:KB),RF (fnOf x q (bq st) (aE st) (ag st) .none kV doc pm an cdv ct) #[[u0],[]]=pure [(x0,u0)]):BindA x q st [x0]:=λkV doc pm an cdv ct us hl=>by
 obtain⟨u0,t0,rfl,h0⟩:=bc hl;cases len_0 h0;exact b kV doc pm an cdv ct u0
variable{x1:E_}
def bind2(b:∀(kV doc pm:KB) (an:Option Addr) (cdv ct u0 u1:KB),RF (fnOf x q (bq st) (aE st) (ag st) .none kV doc pm an cdv ct) #[[u0,u1],[]]=pure [(x0,u0),(x1,u1)]):BindA x q st [x0,x1]:=λkV doc pm an cdv ct us hl=>by
 obtain⟨u0,t0,rfl,h0⟩:=bc hl;obtain⟨u1,t1,rfl,h1⟩:=bc h0;cases len_0 h1;exact b kV doc pm an cdv ct u0 u1
variable{x2:E_}
def bind3(b:∀(kV doc pm:KB) (an:Option Addr) (cdv ct u0 u1 u2:KB),RF (fnOf x q (bq st) (aE st) (ag st) .none kV doc pm an cdv ct) #[[u0,u1,u2],[]]=pure [(x0,u0),(x1,u1),(x2,u2)]):BindA x q st [x0,x1,x2]:=λkV doc pm an cdv ct us hl=>by
 obtain⟨u0,t0,rfl,h0⟩:=bc hl;obtain⟨u1,t1,rfl,h1⟩:=bc h0;obtain⟨u2,t2,rfl,h2⟩:=bc h1;cases len_0 h2;exact b kV doc pm an cdv ct u0 u1 u2
variable{x3:E_}
def bind4(b:∀(kV doc pm:KB) (an:Option Addr) (cdv ct u0 u1 u2 u3:KB),RF (fnOf x q (bq st) (aE st) (ag st) .none kV doc pm an cdv ct) #[[u0,u1,u2,u3],[]]=pure [(x0,u0),(x1,u1),(x2,u2),(x3,u3)]):BindA x q st [x0,x1,x2,x3]:=λkV doc pm an cdv ct us hl=>by
 obtain⟨u0,t0,rfl,h0⟩:=bc hl;obtain⟨u1,t1,rfl,h1⟩:=bc h0;obtain⟨u2,t2,rfl,h2⟩:=bc h1;obtain⟨u3,t3,rfl,h3⟩:=bc h2;cases len_0 h3;exact b kV doc pm an cdv ct u0 u1 u2 u3
def bind5{x4:E_}(b:∀(kV doc pm:KB) (an:Option Addr) (cdv ct u0 u1 u2 u3 u4:KB),RF (fnOf x q (bq st) (aE st) (ag st) .none kV doc pm an cdv ct) #[[u0,u1,u2,u3,u4],[]]=pure [(x0,u0),(x1,u1),(x2,u2),(x3,u3),(x4,u4)]):BindA x q st [x0,x1,x2,x3,x4]:=λkV doc pm an cdv ct us hl=>by
 obtain⟨u0,t0,rfl,h0⟩:=bc hl;obtain⟨u1,t1,rfl,h1⟩:=bc h0;obtain⟨u2,t2,rfl,h2⟩:=bc h1;obtain⟨u3,t3,rfl,h3⟩:=bc h2;obtain⟨u4,t4,rfl,h4⟩:=bc h3;cases len_0 h4;exact b kV doc pm an cdv ct u0 u1 u2 u3 u4
def bind6{x4 x5:E_}(b:∀(kV doc pm:KB) (an:Option Addr) (cdv ct u0 u1 u2 u3 u4 u5:KB),RF (fnOf x q (bq st) (aE st) (ag st) .none kV doc pm an cdv ct) #[[u0,u1,u2,u3,u4,u5],[]]=pure [(x0,u0),(x1,u1),(x2,u2),(x3,u3),(x4,u4),(x5,u5)]):BindA x q st [x0,x1,x2,x3,x4,x5]:=λkV doc pm an cdv ct us hl=>by
 obtain⟨u0,t0,rfl,h0⟩:=bc hl;obtain⟨u1,t1,rfl,h1⟩:=bc h0;obtain⟨u2,t2,rfl,h2⟩:=bc h1;obtain⟨u3,t3,rfl,h3⟩:=bc h2;obtain⟨u4,t4,rfl,h4⟩:=bc h3;obtain⟨u5,t5,rfl,h5⟩:=bc h4;cases len_0 h5;exact b kV doc pm an cdv ct u0 u1 u2 u3 u4 u5
structure ClF(K:Ex)(x:Str)(C:Addr):Prop where
 ns:NsC K x C
 cl:Cls K C
 ha:E9 K (.ref C) "__class__"=be (be (.builtin "object.__class__"))
 hn:specialIn K (.builtin "object.__class__") "__get__"=be (be (.builtin "getset_descriptor.__get__"))
 ht:takesIn K (.builtin "object.__class__")=be true
 hm:FM K C (.type "object")=be true
def ClIn(K:Ex)(x:E_):Prop:=∃C,ClF K x C
def clIn_mk(a:nsIn K Os x=be (be (.ref C)))(pg:plainGet K C Str.empty=true)(hd:hasDictIn K C=true)(po:plainOver K C=true)(sa:E9 K (.ref C) "__setattr__"=be (be (.builtin "object.__setattr__")))
  (ha:E9 K (.ref C) "__class__"=be (be (.builtin "object.__class__"))) (hn:specialIn K (.builtin "object.__class__") "__get__"=be (be (.builtin "getset_descriptor.__get__"))) (ht:takesIn K (.builtin "object.__class__")=be true) (hm:FM K C (.type "object")=be true):ClIn K x:=#[C,a,#[pg,hd,po,sa],ha,hn,ht,hm]
def ClIn.i(c:ClIn K x)(X:K.In h)(G:h.Ns Os mg):∃C,ClsI K mg x C:=by
 obtain⟨C,k⟩:=c;exact#[C,k.ns,mg_of X G k.ns,k.cl,k.ha,k.hn,k.ht,k.hm,yx]
def NoIn(K:Ex)(x f:E_):Prop:=∃C,NsC K x C/\E9 K (.ref C) f=be z8
def noIn_mk(a:nsIn K Os x=be (be (.ref C)))(b:E9 K (.ref C) f=be z8):NoIn K x f:=#[C,a,b]
def ClIn.a(c:ClIn K x)(n:NoIn K x f):ClsA K x f:=by
 obtain⟨C,k⟩:=c;obtain⟨D,a,b⟩:=n;cases NsC.uniq k.ns a;exact#[C,a,k.cl,b]
def NoIn.all(n:NoIn K x f):∀C,nsIn K Os x=be (be (.ref C))->E9 K (.ref C) f=be none:=λC hC=>by
 obtain⟨D,a,b⟩:=n;cases NsC.uniq hC a;exact b
def MtIn(K:Ex)(x m q:E_)(st:Q0):Prop:=∃C f fd,NsC K x C/\Meth K C m f/\Fun K m q st f fd
def mtIn_mk{f:Addr}(a:nsIn K Os x=be (be (.ref C)))(b:E9 K (.ref C) m=be (be (.ref f)))(i:isFn K (.ref f)=true)(l:K.lookup f=be #[oc,od,.func (fnOf m q (bq st) (aE st) (ag st) .none kV dc pm an cd ct),sl])(c:codeIn K cd q=true)(k:keepIn K (.ref f)=true):MtIn K x m q st:=#[C,f,_,a,#[b,i,k],fY l c k]
def MtIn.txm(T:MtIn K x m q st)(c:ClIn K x)(b:BindA m q st ps):Txm K x m q st ps:=by
 obtain⟨C,k⟩:=c;obtain⟨D,f,fd,a,mt,F⟩:=T;cases NsC.uniq k.ns a;exact#[C,f,fd,a,k.cl,mt,F,F.binds b]
def InIn(K:Ex)(x q:E_)(st:Q0):Prop:=∃C f fd,NsC K x C/\Mk K C f/\Fun K "__init__" q st f fd
def inIn_mk{f:Addr}(a:nsIn K Os x=be (be (.ref C)))(mk:makesIn K C=true)(b:E9 K (.ref C) "__init__"=be (be (.ref f)))(i:isFn K (.ref f)=true)(kp:keepIn K (.ref C)=true)(l:K.lookup f=be #[oc,od,.func (fnOf "__init__" q (bq st) (aE st) (ag st) .none kV dc pm an cd ct),sl])(c:codeIn K cd q=true)(k:keepIn K (.ref f)=true):InIn K x q st:=#[C,f,_,a,#[mk,b,i,kp],fY l c k]
def Txi(K:Ex)(mg:E_->Option KB)(x q:E_)(st:Q0)(ps:List E_):Prop:=∃C f fd,NsC K x C/\mg x=be (.ref C)/\Mk K C f/\Fun K "__init__" q st f fd/\Binds K fd ps []
def InIn.txi(T:InIn K x q st)(X:K.In h)(G:h.Ns Os mg)(b:BindA "__init__" q st ps):Txi K mg x q st ps:=by
 obtain⟨C,f,fd,a,mk,F⟩:=T;exact#[C,f,fd,a,mg_of X G a,mk,F,F.binds b]
def CiIn(K:Ex)(x:E_)(i:Int):Prop:=∃t,nsIn K Os x=be (be (.int i t))
def CsIn(K:Ex)(x y:E_):Prop:=∃t,nsIn K Os x=be (be (.str y t))
def ciIn_mk{i:Int}{t:S3}(a:nsIn K Os x=be (be (.int i t))):CiIn K x i:=#[t,a]
def csIn_mk{t:S3}(a:nsIn K Os x=be (be (.str y t))):CsIn K x y:=#[t,a]
def CiIn.g{i:Int}(c:CiIn K x i)(X:K.In h)(G:h.Ns Os mg):∃t,mg x=be (.int i t):=let ⟨t,a⟩:=c;#[t,mg_of X G a]
def CsIn.g(c:CsIn K x y)(X:K.In h)(G:h.Ns Os mg):∃t,mg x=be (.str y t):=let ⟨t,a⟩:=c;#[t,mg_of X G a]
def NnIn(K:Ex)(x:E_):Prop:=nsIn K Os x=be z8
def nnIn_mk(a:nsIn K Os x=be z8):NnIn K x:=a
structure ErF(K:Ex)(x:Str)(bm:List KB)(C N:Addr):Prop where
 ns:NsC K x C
 kp:keepIn K (.ref C)=true
 ob:∃nm q bs sn sub ab col dd k0 k1 k2 k3 k5,K.lookup C=be (Rj nm q C N bs bm true sn sub ab col dd k0 k1 k2 k3 k5 "ValueError.__new__")
structure ErN(K:Ex)(N:Addr):Prop where
 ok:nsOkIn K N=true
 no:nsIn K N "__init__"=be z8
def EbIn(K:Ex):Prop:=∃C N,ErF K "MotifError" Exc.veLine C N/\ErN K N
def EdIn(K:Ex)(x:E_)(C N:Addr):Prop:=∃B,NsC K "MotifError" B/\ErF K x (.ref B::Exc.veLine) C N
def E0In(K:Ex)(x:E_):Prop:=∃C N,EdIn K x C N/\ErN K N
def E1In(K:Ex)(x q:E_)(st:Q0):Prop:=∃C N f fd,EdIn K x C N/\E9 K (.ref C) "__init__"=be (be (.ref f))/\isFn K (.ref f)=true/\Fun K "__init__" q st f fd
def EaIn(K:Ex)(x:E_):Prop:=∃C,NsC K x C/\E9 K (.ref C) "__setattr__"=be (be (.builtin "object.__setattr__"))
def EgIn(K:Ex)(x:E_):Prop:=∃C,NsC K x C/\E9 K (.ref C) "__getattribute__"=be (be (.builtin "BaseException.__getattribute__"))/\E9 K (.ref C) "__getattr__"=be z8
def EiIn(K:Ex)(x:E_):Prop:=∃M,NsC K x M/\readsIn K M (.type "type")=true/\findCls K (.ref M) (.type "type") "__init__"=be (.val (.builtin "ValueError.__init__"))/\specialIn K (.ref M) "__getattribute__"=be (be (.builtin "type.__getattribute__"))
def EmIn(K:Ex)(x y:E_):Prop:=∃C D,NsC K x C/\NsC K y D/\FM K C (.ref D)=be (subE x y)
section
variable {B C D N:Addr}{nm qn:E_}{bs:List KB}{sn:List E_}{sub:List KB}{ab:Bool}{col:Option Bool}{dd:Option Addr}{k0 k1 k2 k3 k5:Option KB}{nc:KB}{nd:Option Addr}{ne:Array DictEntry}{np:Nat}{nl:Array (Option KB)}
def ebIn_mk(a:nsIn K Os "MotifError"=be (be (.ref C)))(kp:keepIn K (.ref C)=true)(o:K.lookup C=be (Rj nm qn C N bs Exc.veLine true sn sub ab col dd k0 k1 k2 k3 k5 "ValueError.__new__"))(nk:K.lookup N=be #[nc,nd,.dict ne np,nl])(al:ne.toList.all (λe=>match e.key with|.str _ _=>true|_=>false)=true)(ni:nsIn K N "__init__"=be z8):EbIn K:=#[C,N,#[a,kp,_,_,_,_,_,_,_,_,_,_,_,_,_,o],rJ nk al,ni]
def e0In_mk(b:nsIn K Os "MotifError"=be (be (.ref B)))(a:nsIn K Os x=be (be (.ref C)))(kp:keepIn K (.ref C)=true)(o:K.lookup C=be (Rj nm qn C N bs (.ref B::Exc.veLine) true sn sub ab col dd k0 k1 k2 k3 k5 "ValueError.__new__"))(nk:K.lookup N=be #[nc,nd,.dict ne np,nl])(al:ne.toList.all (λe=>match e.key with|.str _ _=>true|_=>false)=true)(ni:nsIn K N "__init__"=be z8):E0In K x:=#[C,N,#[B,b,a,kp,_,_,_,_,_,_,_,_,_,_,_,_,_,o],rJ nk al,ni]
def e1In_mk{f:Addr}{oc:KB}{od an:Option Addr}{sl:Array (Option KB)}{kV dc pm cd ct:KB}(b:nsIn K Os "MotifError"=be (be (.ref B)))(a:nsIn K Os x=be (be (.ref C)))(kp:keepIn K (.ref C)=true)(o:K.lookup C=be (Rj nm qn C N bs (.ref B::Exc.veLine) true sn sub ab col dd k0 k1 k2 k3 k5 "ValueError.__new__"))
  (j:E9 K (.ref C) "__init__"=be (be (.ref f))) (i:isFn K (.ref f)=true) (l:K.lookup f=be #[oc,od,.func (fnOf "__init__" q (bq st) (aE st) (ag st) .none kV dc pm an cd ct),sl]) (c:codeIn K cd q=true) (k:keepIn K (.ref f)=true):E1In K x q st:=#[C,N,f,_,#[B,b,a,kp,_,_,_,_,_,_,_,_,_,_,_,_,_,o],j,i,fY l c k]
def eaIn_mk(a:nsIn K Os x=be (be (.ref C)))(b:E9 K (.ref C) "__setattr__"=be (be (.builtin "object.__setattr__"))):EaIn K x:=#[C,a,b]
def egIn_mk(a:nsIn K Os x=be (be (.ref C)))(b:E9 K (.ref C) "__getattribute__"=be (be (.builtin "BaseException.__getattribute__")))(c:E9 K (.ref C) "__getattr__"=be z8):EgIn K x:=#[C,a,b,c]
def eiIn_mk(a:nsIn K Os x=be (be (.ref C)))(b:readsIn K C (.type "type")=true)(c:findCls K (.ref C) (.type "type") "__init__"=be (.val (.builtin "ValueError.__init__")))(d:specialIn K (.ref C) "__getattribute__"=be (be (.builtin "type.__getattribute__"))):EiIn K x:=#[C,a,b,c,d]
def emIn_mkT(e:subE x y=true)(a:nsIn K Os x=be (be (.ref C)))(c:nsIn K Os y=be (be (.ref D)))(d:FM K C (.ref D)=be true):EmIn K x y:=#[C,D,a,c,e ▸ d]
def emIn_mkF(e:subE x y=false)(a:nsIn K Os x=be (be (.ref C)))(c:nsIn K Os y=be (be (.ref D)))(d:FM K C (.ref D)=be false):EmIn K x y:=#[C,D,a,c,e ▸ d]
end
def EbIn.k(e:EbIn K)(X:K.In h)(G:h.Ns Os mg):∃C N bm,ErrK K mg "MotifError" C N bm/\ErrN K N:=by
 obtain⟨C,N,k,n⟩:=e;exact#[C,N,_,#[k.ns,mg_of X G k.ns,k.kp,k.ob,rH],n.ok,n.no]
def EdIn.k{N:Addr}(e:EdIn K x C N)(b:EbIn K)(X:K.In h)(G:h.Ns Os mg):∃bm,ErrK K mg x C N bm:=by
 obtain⟨B,hB,k⟩:=e;obtain⟨B',N',kb,n⟩:=b;cases NsC.uniq kb.ns hB;obtain⟨_,_,_,_,_,_,_,_,_,_,_,_,_,o⟩:=kb.ob;exact#[_,k.ns,mg_of X G k.ns,k.kp,k.ob,yw o rfl n.ok n.no]
def E0In.k(e:E0In K x)(b:EbIn K)(X:K.In h)(G:h.Ns Os mg):∃C N bm,ErrK K mg x C N bm/\ErrN K N:=by
 obtain⟨C,N,k,n⟩:=e;obtain⟨bm,z⟩:=k.k b X G;exact#[C,N,bm,z,n.ok,n.no]
def Txe(K:Ex)(mg:E_->Option KB)(x q:E_)(st:Q0)(ps:List E_):Prop:=∃C N bm f fd,ErrK K mg x C N bm/\E9 K (.ref C) "__init__"=be (be (.ref f))/\isFn K (.ref f)=true/\Fun K "__init__" q st f fd/\Binds K fd ps []
def E1In.txe(e:E1In K x q st)(b:EbIn K)(X:K.In h)(G:h.Ns Os mg)(bi:BindA "__init__" q st ps):Txe K mg x q st ps:=by
 obtain⟨C,N,f,fd,k,i,j,F⟩:=e;obtain⟨bm,z⟩:=k.k b X G;exact#[C,N,bm,f,fd,z,i,j,F,F.binds bi]
def ErrK.a'{N:Addr}{bm:List KB}(k:ErrK K mg x C N bm)(a:EaIn K x):∃C cd,ErrA K x C cd:=by
 obtain⟨D,hD,sa⟩:=a;cases NsC.uniq k.ns hD;exact#[C,k.a sa]
def E1In.a(e:E1In K x q st)(b:EbIn K)(a:EaIn K x)(X:K.In h)(G:h.Ns Os mg):∃C cd,ErrA K x C cd:=by
 obtain⟨C,N,f,fd,k,_⟩:=e;obtain⟨bm,z⟩:=k.k b X G;exact z.a' a
def E1In.c(e:E1In K x q st)(b:EbIn K)(X:K.In h)(G:h.Ns Os mg):∃C N bm,ErrK K mg x C N bm:=by
 obtain⟨C,N,f,fd,k,_⟩:=e;obtain⟨bm,z⟩:=k.k b X G;exact#[C,N,bm,z]
def EiIn.b(e:EiIn K x)(X:K.In h)(G:h.Ns Os mg):∃M,BaseK K mg x M:=by
 obtain⟨M,a,b,c,d⟩:=e;exact#[M,mg_of X G a,b,c,d]
def EgIn.g(e:EgIn K x)(a:∃C cd,ErrA K x C cd)(n:NoIn K x f):ErrG K f x:=by
 obtain⟨C,h1,h2,h3⟩:=e;obtain⟨D,cd,ea⟩:=a;cases NsC.uniq ea.ns h1;exact#[C,cd,ea,h2,h3,n.all C h1]
def AllP(p:E_->Prop):List E_->Prop
 |[]=>True
 |a::l=>p a/\AllP p l
def AllP.mem{p:E_->Prop}:∀{l:List E_},AllP p l->∀x∈l,p x
 |_::_,h,_,.head _=>h.1
 |_::_,h,_,.tail _ m=>AllP.mem h.2 _ m
def zO{es:List E_}(c:AllP (λx=>∃C N bm,ErrK K mg x C N bm) es)(s:AllP (λx=>AllP (λy=>EmIn K x y) es) es):ErrsK K mg es:=by
 refine#[c.mem,λx hx y hy C C' h1 h2=>?_];obtain⟨A,B,a,b,m⟩:=(s.mem x hx).mem y hy;cases NsC.uniq a h1;cases NsC.uniq b h2;exact m
end
structure Bx where
 P:Pi
 w:Q2
 K:Ex
 mg:E_->Option KB
 base:Heap
abbrev Bx.T(V:Bx)(x:E_)(st:Q0)(ps:List E_):Prop:=Tx V.K V.mg x st ps
abbrev Bx.Tm(V:Bx)(x m q:E_)(st:Q0)(ps:List E_):Prop:=Txm V.K x m q st ps
abbrev Bx.Ti(V:Bx)(x q:E_)(st:Q0)(ps:List E_):Prop:=Txi V.K V.mg x q st ps
abbrev Bx.Te(V:Bx)(x q:E_)(st:Q0)(ps:List E_):Prop:=Txe V.K V.mg x q st ps
abbrev Bx.Ek(V:Bx)(es:List E_):Prop:=ErrsK V.K V.mg es
abbrev Bx.m(V:Bx)(x:E_):Prop:=V.mg x=z8
abbrev Bx.gi(V:Bx)(x:E_)(i:Int):Prop:=∃t,V.mg x=be (.int i t)
abbrev Bx.gs(V:Bx)(x y:E_):Prop:=∃t,V.mg x=be (.str y t)
abbrev Bx.a(V:Bx)(x f:E_):Prop:=ClsA V.K x f
abbrev Bx.i(V:Bx)(x:E_):Prop:=∃C,ClsI V.K V.mg x C
abbrev Bx.D(V:Bx)(n:Nat)(x:E_)(ps:List E_)(S:SpD):Prop:=CalD V.P V.w V.K V.mg V.base n x ps S
abbrev Bx.X(V:Bx)(n:Nat)(x:E_)(ps:List E_)(S:SpX):Prop:=CalX V.P V.w V.K V.mg V.base n x ps S
abbrev Bx.MM(V:Bx)(n:Nat)(x:E_)(ps:List E_)(S:SpM):Prop:=CalMM V.P V.w V.K V.mg V.base n x ps S
abbrev Bx.M(V:Bx)(n:Nat)(x:E_)(ps:List E_)(S:SiD):Prop:=CalM V.P V.w V.K V.mg V.base n x ps S
abbrev Bx.E(V:Bx)(n:Nat)(x:E_)(ps:List E_)(S:SiD):Prop:=CalE V.P V.w V.K V.mg V.base n x ps S
abbrev Bx.Q(V:Bx)(n:Nat)(x m:E_)(ps:List E_)(S:SpM):Prop:=CalMth V.P V.w V.K V.mg V.base n x m ps (lSpM V.K S)
abbrev Bx.n(V:Bx)(x:E_):Prop:=∃C N bm,ErrK V.K V.mg x C N bm/\ErrN V.K N
abbrev Bx.b(V:Bx)(x:E_):Prop:=∃M,BaseK V.K V.mg x M
abbrev Bx.ea(V:Bx)(x:E_):Prop:=∃C cd,ErrA V.K x C cd
abbrev Bx.xf(V:Bx)(x f:E_):Prop:=∀C,nsIn V.K Os x=be (be (.ref C))->E9 V.K (.ref C) f=be z8
abbrev Bx.x(V:Bx)(f:E_)(ys:List E_):Prop:=∀y∈ys,ErrG V.K f y
section
variable {P:Pi}{w:Q2}{K:Ex}{mg:E_->Option KB}{base:Heap}
variable{x qual p0:E_}{st:Q0}{N ps:List E_}{k:Nat}{S:SiD}
def Txi.okI(T:Txi K mg x qual st (p0::ps))(F:FnScope (p0::N) (p0::ps) (ag st))(len:∀ds R,S ds R->ds.length=ps.length)
  (a9:∀(f:Addr) (cdv:KB) (A:Q3) (outer:List RI) (s:KF) (H:Hp) (E:XK) (J:Jx),Room k (A.deeper (Ra qual (ag st) s.heap.objs.size f cdv))->
   ∃t,WDI (cxOf (Exc.CX1 P w) P w K mg base (p0::N) qual (ag st) f cdv A outer s H E).nox x (aE st) t/\∀ds R,S ds R->t (z8::startD N ds) [] R):CalM P w K mg base (k+1) x (p0::ps) S:=by
 obtain⟨C,f,fd,a,b,c,d,e⟩:=T;exact Cls.okIW d e F len a b c (a9 f)
def Txi.okIM(T:Txi K mg x qual st (p0::ps))(F:FnScope N (p0::ps) (ag st))(len:∀ds R,S ds R->ds.length=ps.length)
  (a9:∀(f:Addr) (cdv:KB) (A:Q3) (outer:List RI) (s:KF) (H:Hp) (E:XK) (J:Jm),Room k (A.deeper (Ra qual (ag st) s.heap.objs.size f cdv))->XOkM (cxOf (Exc.CX1 P w) P w K mg base N qual (ag st) f cdv A outer s H E).nox->
   ∃t,MSs (cxOf (Exc.CX1 P w) P w K mg base N qual (ag st) f cdv A outer s H E).nox (aE st) t/\∀a ds R,(∀z M x fs,¬J.RM z M x fs)->S ds R->t {nx:=λ_ M'=>∃fs,M'=[(a,.ins x fs)]/\R fs,rt:=λ_ _=>False} (startD N (.ptr a::ds)) [(a,.ins x [])]):CalM P w K mg base (k+1) x (p0::ps) S:=by
 obtain⟨C,f,fd,a,b,c,d,e⟩:=T;exact Cls.okIM d e F len a b c (a9 f)
def Txe.okE(T:Txe K mg x qual st (p0::ps))(F:FnScope (p0::N) (p0::ps) (ag st))(len:∀ds R,S ds R->ds.length=ps.length)
  (a9:∀(f:Addr) (cdv:KB) (A:Q3) (outer:List RI) (s:KF) (H:Hp) (E:XK) (J:Jx),Room k (A.deeper (Ra qual (ag st) s.heap.objs.size f cdv))->
   ∃t,WDX (cxOf (Exc.CX1 P w) P w K mg base (p0::N) qual (ag st) f cdv A outer s H E).nox x (aE st) t/\∀ds R,S ds R->t (z8::startD N ds) [] R):CalE P w K mg base (k+1) x (p0::ps) S:=by
 obtain⟨C,N',bm,f,fd,a,b,c,d,e⟩:=T;exact Cls.okEW d e F len a b c (a9 f)
end
section
variable {X:Cx}[J:Jx]{a b c e o g8 iter:P3}{es:List P3}{ta tb tc te to ti tj:TD}{tt:TDT}{t:TDA}{pos px:Q_}{x:E_}{scope:Rr}
def sv(ix:Nat)(Jl:TDI)(te:TD):TSD:=λE z=>Jl z (cmpP te z λd=>match d with|.lst ys=>E.nx (z.set ix (be (.own ys)))|_=>False)
variable{K:Ex}{H:Hp}
def zP{E:Ends}{s:L2.St}{ix:Nat}{wi:TI}{Jl:TDI}(hI:ItOk K wi Jl)(q:lS K (sv ix Jl te) E s H):tAsg (gu wi (lT K dT1) (lE K te)) (fT ix) E s H:=by
 obtain⟨B,F0,F,z,k,rs,ED,h,e⟩:=q;refine hI k.kf rs h λitems J F1 H1 g1 hg it=>rj (Q:=λv H=>E.nx (s.set ix (be v)) H) k.kf g1 rs (λD ys us F' H' hH hF GG hu ry hR=>?_) it (cmpP.g hg);have r2:=(rs.grow GG).setOwn (i:=ix) (a:=D) (k.bh.free hH) hF ry λj dj _ q1 q2=>by
  obtain⟨a,vs,p1,p2,_⟩:=rs.own j dj q1;rw[p1]at q2;cases q2;rw[hH]at p2;cases p2
 rw[rD hu]at r2;exact e.nx _ _ F' H' (k.grow GG) hR r2
def zQ(ix:Nat){y:E_}{py v5:Q_}(hc:X.calm=true)(S:CompScope X scope x)(hN:X.N.Nodup)(hi:WDE X iter ti)(he:∀cl s₀ H₀ fp,WDE (bW X scope cl x s₀ H₀ fp) g8 te)(LY:autoParam (X.N[ix]?=be y) zA0)(hy:autoParam (Loc X.env.scope y) zA4)
  (hf:autoParam (zFN X y) zA2) (Jh:autoParam (Rh (.ListComp g8 [#[.Name x px,iter,[],0]] scope pos) (be (.Name y py)) v5.line X.env=pure true) zA0) (hs:autoParam (∀y,zFS X iter y) zA3):
  WDS X (.Assign [.Name y py] (.ListComp g8 [#[.Name x px,iter,[],0]] scope pos) v5) (sv ix (dItS ti) te):=#[(xX hc S (rM hi.out) (λ_ _ _ _=>rh) (λa b c d=>(he a b c d).out) hN LY hy hf Jh hs).anti λE s H q=>zP itS q]
def E3:RDn:=λds R=>match ds with|[.lst xs]=>∃ns:List Int,xs=ns.map D.int/\0<ns.length/\∀m,m∈ns->(∀a∈ns,m<=a)->R (.int m)|_=>False
def rSCount:RTx:=λy ds R=>match ds with|[.str p]=>R (.int (Builtin.Str.occurrences y p 0 y.length (y.length+1)).length)|_=>False
def zR:MtS X "str.count" rSCount:=by
 refine#[λx vs H Q=>∃y p,x=.str y/\vs=[.str p]/\Q (.int (Builtin.Str.occurrences y p 0 y.length (y.length+1)).length) H,?_,?_]
 .intro pins s σ H x vs v us Q I rx rv h;obtain⟨y,p,rfl,rfl,q⟩:=h;obtain⟨t,rfl⟩:=rx;obtain⟨u,rfl,t',rfl⟩:=bT rv;exact SC.count #[.int _,H,I.tok _,#[_,rfl],q]
 .intro y ds vs F H R Q r h q;unfold rSCount at h;split at h
  .obtain⟨v,vr,rfl,h1,h2⟩:=reps_cons.mp r;rw[reps_nil.mp h2,rep_str.mp h1];exact#[_,_,rfl,rfl,q _ _ (λ_=>rep_int.mpr rfl) h]
  .exact h.elim
def sy{apos cpos:Q_}(ho:WDE X o to)(ha:WDA X [e] t)(b7:autoParam (Q6 o "count" X.env (Q7 o X.env)=Q7 o X.env) zA0)
  (d4:autoParam (zHF X cpos [e]) zA0)
  (b_:autoParam ((apos.endLine==cpos.line)=true) zA0) (hs:autoParam (zSE X e []) zA0):WDE X (.Call (.Attribute o "count" apos) [e] [] cpos) (dTx rSCount to t):=#[jR PySem.F.slot_str_count PySem.F.type_str_count zR ho.out ha.out b7 d4 b_ hs]
def zS(is:List Nat)(ti:TDI)(tb:TSD):TSD:=λE z=>ti z λds=>∃W:Nat->SD->Prop,W 0 z/\(∀(k:Nat) x z,ds[k]?=be x->W k z->tb {E with nx:=W (k+1),ct:=W (k+1),bk:=E.nx} (bQ is [.int k,x] z))/\∀z,W ds.length z->E.nx z
variable{is:List Nat}
def zT{B F0 F1 H1:Hp}{z:SD}{s:L2.St}{E:Ends}{ED:EndsD}{It':It}{g:TG}{tb:TSD}{Ku:TS}{ds:List D}(k1:Kept B F0 F1 H1)(l7:RepS K B F1 H1 z s)(e:EndsOk K B F0 ED E)
  (go:∀k F' H',Same F1 F'->Same F' H'->k<ds.length->It'.go k H') (stop:∀F' H',Same F1 F'->Same F' H'->It'.stop ds.length H')
  (yld:∀k F' H' x H'',Same F1 F'->Same F' H'->k<ds.length->It'.yld k H' x H''->∃T d v,H' T=z8/\x=.ref T/\H''=upd H' T (.tup [.int k,v])/\ds[k]?=be d/\Rep K F' d v)
  (hg:∀(dd:List D) (vs:List V) (T:Addr) (z:SD) (s:L2.St) (F H:Hp) (Q:L2.St->Hp->Prop),dd.length=2->H T=be (.tup vs)->Reps K F dd vs->RepS K B F H z s->(∀s',RepS K B F H (bQ is dd z) s'->Q s' H)->g (.ref T) s H Q)
  (Mu:∀E s H,lS K tb E s H->Ku E s H)
  (hd:∃W:Nat->SD->Prop,W 0 z/\(∀(k:Nat) x z,ds[k]?=be x->W k z->tb {ED with nx:=W (k+1),ct:=W (k+1),bk:=ED.nx} (bQ is [.int k,x] z))/\∀z,W ds.length z->ED.nx z):
  ∃W:Nat->Nat->L2.St->Hp->Prop,(∃m,W 0 m s H1)/\∀i m σ H,W i m σ H->
   (It'.stop i H/\E.nx σ H)\/(It'.go i H/\∃N:L2.St->Hp->Prop,(∀σ' H',N σ' H'->∃m',m'<m/\W (i+1) m' σ' H')/\∀x H',It'.yld i H x H'->g x σ H' λσ2 H2=>Ku {E with nx:=N,ct:=N,bk:=E.nx} σ2 H2):=by
 obtain⟨W,w0,c3,out⟩:=hd;refine#[λk m s' H'=>m=ds.length-k/\k<=ds.length/\∃F' z',Kept B F0 F' H'/\Same F1 F'/\RepS K B F' H' z' s'/\W k z',#[ds.length,J4,Fz _,F1,z,k1,Same.refl F1,l7,w0],?_];rintro k m s' H'⟨rfl,hk,F',z',k',g',r',w'⟩;by_cases e8:k<ds.length
 .refine .inr #[go k F' H' g' k'.fh e8,λs3 H3=>∃F3 z3,Kept B F0 F3 H3/\Same F1 F3/\RepS K B F3 H3 z3 s3/\W (k+1) z3,λs3 H3 h3=>#[ds.length-(k+1),Jb,rfl,e8,h3],λx H'' hy=>?_];obtain⟨T,d,v,hT,rfl,rfl,hd,rd⟩:=yld k F' H' x H'' g' k'.fh e8 hy;have gn:=Grow.new k'.fh hT (.tup [.int k,v]);have k2:=k'.grow gn;have rp:Reps K (upd F' T (.tup [.int k,v])) [.int k,d] [.int k,v]:=reps_cons.mpr #[_,_,rfl,rep_int.mpr rfl,eo (rd.mono gn.ff)];refine hg [.int k,d] _ T z' s' _ _ _ rfl aw rp (r'.grow gn) λs2 JI=>Mu _ _ _ ?_;have gF:Same F1 (upd F' T (.tup [.int k,v])):=g'.trans gn.ff;refine#[B,upd F' T (.tup [.int k,v]),upd F' T (.tup [.int k,v]),_,#[k2.bh,k2.fh,Same.refl _,λb h1 _=>h1,k2.eb,k2.jf.trans k2.f0,λb h1 h2=>k2.out b (k2.jo b h1 h2) h2],JI,_,c3 k d z' hd w',?_];have up:∀{F3 H3:Hp},Kept B (upd F' T (.tup [.int k,v])) F3 H3->Kept B F0 F3 H3:=λk3=>#[k3.bh,k3.fh,k2.f0.trans k3.f0,λb h1 h2=>k3.out b (k2.out b h1 h2) h2,k2.eb,k2.jf,k2.jo];exact#[λz3 s3 F3 H3 k3 h3 r3=>#[F3,z3,up k3,gF.trans k3.f0,r3,h3],λd v F3 H3 k3=>e.rt d v F3 H3 (up k3),λz3 s3 F3 H3 k3=>e.nx z3 s3 F3 H3 (up k3),λz3 s3 F3 H3 k3 h3 r3=>#[F3,z3,up k3,gF.trans k3.f0,r3,h3]]
 .have ek:k=ds.length:=by lia
  subst ek;exact .inl #[stop F' H' g' k'.fh,e.nx z' s' F' H' k' (out z' w') r']
def zU{es:List P3}{x1:Nat}{tp p1 p2:Q_}{body:List Q0}{tb:TSD}(hp:Rm (QZ X.prog X.w) X.A X.env X.xe)(hc:X.calm=true)(hm:X.mg "enumerate"=z8)(he:WDE X e te)(hG:DGs X es is)(hb:WDSs X body tb)(b8:autoParam (is.length=2) zA0)(hg:autoParam (Gl X "enumerate") zA0)
  (hn:autoParam ((Q5 es X.env).length=2) zA0) (j4:autoParam ((Q5 es X.env).findIdx? (·.1)=none) zA0)
  (hs:autoParam (∀y,zFS X (.Call (.Name "enumerate" p1) [e] [] p2) y) zA3) (o_:autoParam (zSE X e []) zA0) (f_:autoParam (Q4 [e] X.env=[(false,Q7 e X.env)]) zA0):
  WDS X (.For (.Tuple es x1 tp) (.Call (.Name "enumerate" p1) [e] [] p2) body [] pos) (zS is (dItS te) tb):=by
 obtain⟨ug,Kv,kk⟩:=hG;refine#[(cN hp hc (sj hg hm (bo he.out pa_nil o_) f_) (eZ hc Kv hn j4) hb.out hs).anti λE s H q=>?_];obtain⟨B,F0,F,z,kp,rs,ED,h,e⟩:=q;refine#[B,F,z,kp.kf,rs,_,h,λd v F1 H1 g1 hd rd=>?_];split at hd
 .rename_i x;obtain⟨ha,hd⟩:=hd;have hl:=eE x;refine#[x,by rw[rep_str.mp rd],ha,zT (It':=Ites x) (kp.grow g1) (rs.grow g1) e (λk F' H' s1 s2 hk=>?_) (λF' H' s1 s2=>?_) (λk F' H' x H'' s1 s2 hk hy=>?_) (λdd l6 T z s F H Q hl hT rp w6 hQ=>?_) (λ_ _ _ h=>h) hd]
  .rw[hl]at hk;exact hk
  .exact hl
  .obtain⟨T,c,hT,e1,e2,hc⟩:=hy;exact#[T,.str #[[c].toArray],.str #[[c].toArray],hT,e1,e2,gA hc,rep_str.mpr rfl]
  .exact#[T,l6,rfl,SqT.of hT,by rw[rp.length];exact hl,kk dd l6 z s B F H Q (by rw[hl,b8]) rp w6 hQ]
 .exact hd.elim
def zV(K:Ex):R2:=λx y H Q=>∃p xs i z,x=.ref p/\y=.int i/\0<=i/\SqL K H p xs/\xs[i.toNat]?=be z/\Q z H
def zW:PGet X (zV X.K):=by
 intro pins s σ H x y v u Q I rx ry h;obtain⟨p,xs,i,z,rfl,rfl,h0,hq,he,q⟩:=h;cases rx;obtain⟨t,rfl⟩:=ry;obtain⟨its,r,pl,hz⟩:=I.list hq;obtain⟨w,ew,g7⟩:=r.get he;have hl:=r.length;have hn:=line63;have hi:=(Fk.mp he).1;exact wpAny_getItem_list pl.isList h0 Jb (by simpa using ew) #[z,H,I,g7,q]
def sA(i:Nat)(ti te:TD):TSD:=λE z=>match z[i]? with
 |some (be (.own ds))=>ti z λy=>(match y with|.int k=>∃n,0<=k/\ds[k.toNat]?=be (.int n)/\te z λd=>(match d with|.int m=>E.nx (z.set i (be (.own (ds.set k.toNat (.int (n+m))))))|_=>False)|_=>False)
 |_=>False
def zX(i:Nat){x:E_}{p1 p2:Q_}(hb:WDE X b tb)(he:WDE X e te)(hN:autoParam (X.N[i]?=be x) zA0)(hv:autoParam (Vis X.env.scope x) zA5)(hd:autoParam (zND x) zA1)
  (d_:autoParam (zNC x) zA1)
  (ha:autoParam (∀ov iv new,augStore b ov iv new=(do Rq [new,ov,iv] (Sv ov iv new);SZ [new,ov,iv] [];pure .next)) zA7):
  WDS X (.AugAssign (.Subscript (.Name x p1) b p2) .Add e pos) (sA i tb te):=⟨(vw (cG hN hv hd d_) hb.out zW he.out vx ql ha).anti λE s H q=>by
 obtain⟨B,F0,F,z,k,rs,ED,h,e⟩:=q;unfold sA at h;split at h
 .rename_i ds ez;obtain⟨a,vs,q1,q2,q3,q4,q5⟩:=rs.own i ds ez;refine#[.ref a,q1,B,F,z,k.kf,rs,_,h,λy w F2 H2 g2 hy ry=>?_];split at hy
  .rename_i k';obtain⟨n,k0,en,hn⟩:=hy;have Iv:F2 a=none:=g2.out a q4 (by rw[q2];exact λz=>nomatch z);obtain⟨v,ev,rv⟩:=q5.get en;refine#[a,vs,_,v,rfl,rep_int.mp ry,k0,SqL.of (g2.hh _ _ q2),ev,B,F2,z,k.kf.grow g2,rs.grow g2,_,hn,λd u F3 H3 g3 hd rd=>?_];split at hd
   .have r2:=(rs.grow g2).grow g3;have k2:=(k.grow g2).grow g3;have Li:F3 a=none:=g3.out a Iv (by rw[g2.hh _ _ q2];exact λz=>nomatch z);rw[rep_int.mp rv,rep_int.mp rd];have e8:=(Fk.mp en).1;refine#[_,_,rfl,rfl,a,vs,_,k'.toNat,rfl,rep_int.mp ry,g3.hh _ _ (g2.hh _ _ q2),by unfold ixN;rw[q5.length,if_pos k0,if_pos Jb],?_];obtain⟨k3,r3⟩:=r2.change k2 ez q1 q3 Li (Reps.put (d:=.int _) (v:=.int _) (rep_int.mpr rfl) k'.toNat ((q5.mono g2.ff).mono g3.ff));exact e.nx _ s F3 _ k3 hd r3
   .exact hd.elim
  .exact hy.elim
 .exact h.elim⟩
def EqE(K:Ex)(H:Hp)(x y:V)(b:Bool):Prop:=(bp x=true/\bp y=true/\b=eqV x y)\/∃a a' xs ys,x=.ref a/\y=.ref a'/\((SqT K H a xs/\SqT K H a' ys)\/(SqL K H a xs/\SqL K H a' ys))/\xs.all bp=true/\ys.all bp=true/\b=eqVs xs ys
def sh2(x y:D):Bool:=(bg x&&bg y)||match x,y with|.tup a,.tup b=>a.all bg&&b.all bg|.lst a,.lst b=>a.all bg&&b.all bg|_,_=>false
def eq2(x y:D):Bool:=match x,y with|.tup a,.tup b=>eqFs a b|.lst a,.lst b=>eqFs a b|x,y=>eqF x y
def EqE.of{F:Hp}(fh:Same F H){x y:D}{u v:V}(rx:Rep K F x u)(ry:Rep K F y v)(h:sh2 x y=true):EqE K H u v (eq2 x y):=by
 unfold sh2 at h;rw[Bool.or_eq_true,Fx]at h;rcases h with⟨f1,f2⟩|h
 .refine .inl #[dZ rx f1,dZ ry f2,?_];rw[jI rx ry f1 f2];unfold eq2;split
  .cases f1
  .cases f1
  .rfl
 .split at h
  .rw[Fx]at h;obtain⟨a,us,rfl,hq,rr⟩:=rep_tup_mp rx;obtain⟨b,vs,rfl,m6,m8⟩:=rep_tup_mp ry;exact .inr #[a,b,us,vs,rfl,rfl,.inl #[fh.tup hq,fh.tup m6],cz rr h.1,cz m8 h.2,(gk rr m8 h.1 h.2).symm]
  .rw[Fx]at h;obtain⟨a,us,rfl,hq,rr⟩:=rep_lst.mp rx;obtain⟨b,vs,rfl,m6,m8⟩:=rep_lst.mp ry;exact .inr #[a,b,us,vs,rfl,rfl,.inr #[SqL.of (fh _ _ hq),SqL.of (fh _ _ m6)],cz rr h.1,cz m8 h.2,(gk rr m8 h.1 h.2).symm]
  .cases h
def sh2s:List D->List D->Bool
 |[],[]=>true
 |x::xs,y::ys=>sh2 x y&&sh2s xs ys
 |_,_=>false
def eq2s(xs ys:List D):List Bool:=List.zipWith eq2 xs ys
def EqE.all{F:Hp}(fh:Same F H):∀{xs ys:List D} {us vs:List V},Reps K F xs us->Reps K F ys vs->sh2s xs ys=true->us.length=vs.length/\(eq2s xs ys).length=us.length/\∀j,j<us.length->EqE K H (us.getD j .non) (vs.getD j .non) ((eq2s xs ys).getD j true):=by
 intro xs;induction xs with
 |nil=>
  intro ys us vs r1 r2 h;cases ys with
  |nil=>
   rw[reps_nil.mp r1,reps_nil.mp r2];exact#[rfl,rfl,λj h=>absurd h (GS j)]
  |cons y ys=>exact absurd h Fh
 |cons x xs ih=>
  intro ys us vs r1 r2 h;cases ys with
  |nil=>exact absurd h Fh
  |cons y ys=>
   obtain⟨u,ur,rfl,a1,a2⟩:=reps_cons.mp r1;obtain⟨v,vr,rfl,b1,b2⟩:=reps_cons.mp r2;rw[sh2s,Fx]at h;obtain⟨q1,q2,q3⟩:=ih a2 b2 h.2;refine#[by rw[Fc,Fc,q1],by show(eq2s xs ys).length+1=_;rw[q2,Fc],λj hj=>?_];cases j with
   |zero=>exact EqE.of fh a1 b1 h.1
   |succ j=>exact q3 j (Nat.lt_of_succ_lt_succ hj)
end
mutual
def noL:D->Bool
 |.non=>true|.bl _=>true|.int _=>true|.str _=>true|.ptr _=>true|.dti _=>true
 |.tup ds=>noLs ds
 |.obj _ fs=>noLF fs
 |_=>false
def noLs:List D->Bool
 |[]=>true
 |d::ds=>noL d&&noLs ds
def noLF:List (E_×D)->Bool
 |[]=>true
 |(_,d)::ds=>noL d&&noLF ds
end
def nlF(F:Hp):Hp:=λb=>match F b with|some (.lst _)=>z8|o=>o
def km{F:Hp}{b:Addr}{o:HO}(e:F b=be o)(h:∀vs,o≠.lst vs):nlF F b=be o:=by
 unfold nlF;rw[e];cases o with
 |lst vs=>exact absurd rfl (h vs)
 |_=>rfl
mutual
def Rep.nl{K:Ex}{F:Hp}:∀(d:D) (v:V),noL d=true->Rep K F d v->Rep K (nlF F) d v
 |.non,v,_,h=>by unfold Rep at h ⊢;exact h
 |.bl b,v,_,h=>by unfold Rep at h ⊢;exact h
 |.int b,v,_,h=>by unfold Rep at h ⊢;exact h
 |.str b,v,_,h=>by unfold Rep at h ⊢;exact h
 |.ptr b,v,_,h=>by unfold Rep at h ⊢;exact h
 |.dti a8,v,_,h=>by
  unfold Rep at h ⊢;obtain⟨a,e,q⟩:=h;exact#[a,e,km q λ_ z=>nomatch z]
 |.tup ds,v,n,h=>by
  unfold Rep at h ⊢;obtain⟨a,vs,e,q,r⟩:=h;exact#[a,vs,e,km q (λ_ z=>nomatch z),Reps.nl ds vs (by unfold noL at n;exact n) r]
 |.obj x fs,v,n,h=>by
  unfold Rep at h ⊢;obtain⟨a,C,dx,vs,e,n1,q,r⟩:=h;exact#[a,C,dx,vs,e,n1,km q (λ_ z=>nomatch z),RepF.nl fs vs (by unfold noL at n;exact n) r]
 |.lst _,_,n,_=>by unfold noL at n;cases n
 |.rol _,_,n,_=>by unfold noL at n;cases n
 |.exc _ _,_,n,_=>by unfold noL at n;cases n
 |.own _,_,n,_=>by unfold noL at n;cases n
def RepF.nl{K:Ex}{F:Hp}:∀(ds:List (E_×D)) (vs:List (E_×V)),noLF ds=true->RepF K F ds vs->RepF K (nlF F) ds vs
 |[],vs,_,h=>by unfold RepF at h ⊢;exact h
 |(f,d)::ds,vs,n,h=>by
  unfold noLF at n;rw[Fx]at n;unfold RepF at h ⊢;obtain⟨v,r,e,q1,q2⟩:=h;exact#[v,r,e,Rep.nl d v n.1 q1,RepF.nl ds r n.2 q2]
def Reps.nl{K:Ex}{F:Hp}:∀(ds:List D) (vs:List V),noLs ds=true->Reps K F ds vs->Reps K (nlF F) ds vs
 |[],vs,_,h=>by unfold Reps at h ⊢;exact h
 |d::ds,vs,n,h=>by
  unfold noLs at n;rw[Fx]at n;unfold Reps at h ⊢;obtain⟨v,r,e,q1,q2⟩:=h;exact#[v,r,e,Rep.nl d v n.1 q1,Reps.nl ds r n.2 q2]
end
end My
end
section
namespace My
open PySem PySem.Spec PyProof.Rows L2
variable{w:Int}
def b64B(h:0<w)(h':w<=33554432):-(2^64)<w/\w<2^64:=Jb
variable{s:Int}
def s64B(h:0<=s)(h':s<w)(QF:w<=33554432):-(2^64)<s/\s<2^64:=Jb
def d30B(h:0<w)(h':w<=33554432):0<w/\w<1073741824:=Jb
def sq0(a:Int):0<=a*a:=(HK 0 a).elim (λq=>HL q q) (λq=>Int.mul_nonneg_of_nonpos_of_nonpos q q)
def n64{k:Nat}(h:w.natAbs<=k)(hk:autoParam (k<=1073741823) zA1):-(2^64)<w/\w<2^64:=Jb
variable{a b:Int}
def i64(h:a<=w)(h':w<=b)(ha:autoParam ( -1000000000001<=a) zA1)(hb:autoParam (b<=1000000000001) zA1):-(2^64)<w/\w<2^64:=Jb
def fdm(a b:Int)(hb:b≠0):(a-a.fdiv b*b).natAbs<b.natAbs/\(a.fdiv b).natAbs<=a.natAbs+1:=by
 have e:=Int.fmod_def a b;have e2:a-a.fdiv b*b=a.fmod b:=by rw[e,FK]
 rw[e2];have r:(a.fmod b).natAbs<b.natAbs:=by
  rcases(Jb:0<b\/b<0)with h|h
  .have h1:=HM a h;have h2:=HN a h;lia
  .have h1:=HM (-a) (show 0< -b by lia);have h2:=HN (-a) (show 0< -b by lia);rw[Int.neg_fmod_neg]at h1 h2;lia
 refine#[r,?_];have e3:(b*a.fdiv b).natAbs=b.natAbs*(a.fdiv b).natAbs:=Hc _ _;have e4:=Int.mul_fdiv_self a b;rcases GR (a.natAbs+1) (a.fdiv b).natAbs with c|c
 .have h1:b.natAbs*(a.natAbs+2)<=b.natAbs*(a.fdiv b).natAbs:=Nat.mul_le_mul_left _ c;have h2:b.natAbs*(a.natAbs+2)=b.natAbs*a.natAbs+2*b.natAbs:=by rw[Nat.mul_add,Nat.mul_comm _ 2]
  have h3:1*a.natAbs<=b.natAbs*a.natAbs:=Nat.mul_le_mul_right _ Jb;lia
 .exact c
def Uni(a b c d p0 p1 q0 q1:Int):Prop:=∃m n k l:Int,(m*l-n*k=1\/m*l-n*k=-1)/\p0=m*a+n*c/\p1=m*b+n*d/\q0=k*a+l*c/\q1=k*b+l*d
def Uni.refl(a b c d:Int):Uni a b c d a b c d:=#[1,0,0,1,.inl Ji,Jb,Jb,Jb,Jb]
variable{c d p0 p1 q0 q1:Int}
def Uni.step(t:Int)(h:Uni a b c d p0 p1 q0 q1):Uni a b c d q0 q1 (p0-t*q0) (p1-t*q1):=by
 obtain⟨m,n,k,l,hd,rfl,rfl,rfl,rfl⟩:=h;refine#[k,l,m-t*k,n-t*l,?_,rfl,rfl,Kf,Kf];rcases hd with h|h
 .right;grind
 .left;grind
def Uni.neg(h:Uni a b c d p0 p1 q0 q1):Uni a b c d (-p0) (-p1) q0 q1:=by
 obtain⟨m,n,k,l,hd,rfl,rfl,rfl,rfl⟩:=h;refine#[-m,-n,k,l,?_,Kf,Kf,rfl,rfl];rcases hd with h|h
 .right;grind
 .left;grind
def Uni.inv(h:Uni a b c d p0 p1 q0 q1):Uni p0 p1 q0 q1 a b c d:=by
 obtain⟨m,n,k,l,hd,rfl,rfl,rfl,rfl⟩:=h;rcases hd with h|h
 .exact#[l,-n,-k,m,.inl Kf,Kf,Kf,Kf,Kf]
 .exact#[-l,n,k,-m,.inr Kf,Kf,Kf,Kf,Kf]
def Uni.det(h:Uni a b c d p0 p1 q0 q1):p0*q1-p1*q0=a*d-b*c\/p0*q1-p1*q0=-(a*d-b*c):=by
 obtain⟨m,n,k,l,hd,rfl,rfl,rfl,rfl⟩:=h;rcases hd with h|h
 .left;grind
 .right;grind
def Lev(a b c d p0 p1 q0:Int):Prop:=0<=p1/\Uni a b c d p0 p1 q0 0
def FamOf(a b c d w h s:Int):Prop:=0<w/\0<h/\0<=s/\s<w/\Uni a b c d w 0 s h
def zY(x:Int):(if x<0 then -x else x)=x\/(if x<0 then -x else x)=-x:=by
 split<;>simp
variable{x:Int}
def zZ(h:x≠0):0<(if x<0 then -x else x):=by split<;>lia
def gJ(hn:¬a*d=b*c)(h:Lev a b c d p0 p1 q0):FamOf a b c d (if q0<0 then -q0 else q0) p1 (p0%(if q0<0 then -q0 else q0)):=by
 obtain⟨hp,hu⟩:=h;have dt:=hu.det;have PN:q0≠0:=by
  rintro rfl;simp at dt;lia
 have QG:p1≠0:=by
  rintro rfl;simp at dt;lia
 have hw:=zZ PN;have hs:=zY q0;generalize (if q0<0 then -q0 else q0)=w at hw hs;refine#[hw,Jb,Gh _ Jb,Gi _ hw,?_];have em:=F8 p0 w;generalize p0%w=s at em;generalize p0/w=t at em;obtain⟨m,n,k,l,hd,e1,e2,e3,e4⟩:=hu;rcases hs with e|e
 .refine#[k,l,m-t*k,n-t*l,?_,Kf,Kf,Kf,Kf];rcases hd with h|h
  .right;grind
  .left;grind
 .refine#[-k,-l,m+t*k,n+t*l,?_,Kf,Kf,Kf,Kf];rcases hd with h|h
  .left;grind
  .right;grind
variable{h y i j:Int}
def in_fam(hh:0<h)(ex:x=i*w+j*s)(ey:y=j*h):y%h=0/\(x-y/h*s)%w=0:=by
 subst ex ey;rw[FL _ Jb];refine#[Hd _ _,?_];have e:i*w+j*s-j*s=i*w:=Jb
 rw[e];exact Hd _ _
def FamOf.first(f:FamOf a b c d w h s):b%h=0/\(a-b/h*s)%w=0:=by
 obtain⟨hw,hh,_,_,hu⟩:=f;obtain⟨m,n,k,l,_,e1,e2,e3,e4⟩:=hu.inv;exact in_fam (i:=m) (j:=n) hh e1 Jb
def FamOf.second(f:FamOf a b c d w h s):d%h=0/\(c-d/h*s)%w=0:=by
 obtain⟨hw,hh,_,_,hu⟩:=f;obtain⟨m,n,k,l,_,e1,e2,e3,e4⟩:=hu.inv;exact in_fam (i:=k) (j:=l) hh e3 Jb
variable{u v:Int}
def Aa(eu:u=i*a+j*c)(ev:v=i*b+j*d):(u*d-v*c).fmod (a*d-b*c)=0/\(a*v-b*u).fmod (a*d-b*c)=0:=by
 subst eu ev;refine#[Hf #[i,Kf],Hf #[j,Kf]]
def FamOf.cells(f:FamOf a b c d w h s):w*h=a*d-b*c\/w*h=-(a*d-b*c):=by
 have:=f.2.2.2.2.det;simpa using this
def bZ{A B:Nat}(h1:a.natAbs<=A)(h2:d.natAbs<=B):(a*d).natAbs<=A*B:=by
 rw[Hc];exact Hg h1 h2
variable{g:Int}
def Ab{gap:Int}{N:Nat}(hg:0<g)(c0:0<=c)(cg:c<=g)(h:gap.natAbs<=N):(c*gap/g).natAbs<=N:=by
 have h1:(c*gap).natAbs<=g.natAbs*N:=by rw[Hc];exact Hg Jj h
 have e:((g.natAbs*N:Nat):Int)=N*g:=by rw[Int.natCast_mul,Int.natAbs_of_nonneg Jj,FK]
 have l1:=Int.le_ediv_of_mul_le (a:=-(N:Int)) (b:=c*gap) hg (by rw[F9];omega);have l2:=Int.ediv_le_of_le_mul (a:=c*gap) (b:=(N:Int)) hg Jj;omega
def fD(hw:0<w)(hh:0<h):w<=w*h/\h<=w*h:=by
 have h1:=HP (show 1<=h by lia) (show 0<=w by lia);have h2:=FA (show 1<=w by lia) (show 0<=h by lia);lia
def FamOf.bd(f:FamOf a b c d w h s){N:Nat}(hN:(a*d-b*c).natAbs<=N):w<=N/\h<=N/\s<N:=by
 obtain⟨h1,h2⟩:=fD f.1 f.2.1;have h3:=f.cells;have h4:=f.2.2.2.1;lia
def Meas(x y g u:Int):Prop:=0<=g/\(∃i,x=i*g)/\(∃j,y=j*g)/\∃n,g=u*x+n*y
variable{q:Int}
def sB(h:0<=g/\∃m n k l:Int,(m*l-n*k=1\/m*l-n*k=-1)/\u=m*1+n*0/\g=m*x+n*y/\q=k*1+l*0/\0=k*x+l*y):Meas x y g u:=by
 obtain⟨h0,m,n,k,l,hd,e1,e2,e3,e4⟩:=h;refine#[h0,?_,?_,n,Kf]
 .rcases hd with h|h
  .exact#[l,Kf]
  .exact#[-l,Kf]
 .rcases hd with h|h
  .exact#[-k,Kf]
  .exact#[k,Kf]
def Meas.pos(h:Meas x y g u)(hx:0<x):0<g:=by
 obtain⟨h0,⟨i,hi⟩,_⟩:=h;rcases(Jb:g=0\/0<g)with e|e
 .subst e;simp at hi;lia
 .exact e
def Meas.le(h:Meas x y g u)(hx:0<x):g<=x:=by
 have hg:=h.pos hx;obtain⟨h0,⟨i,hi⟩,_⟩:=h;have QH:0<i:=by
  rcases(Jb:i<=0\/0<i)with e|e
  .have:=Gw e h0;lia
  .exact e
 have:=FA (show 1<=i by lia) h0;lia
structure MetR(w1 h1 s1 w2 h2 s2 w h s A:Int):Prop where
 w0:0<w
 h0:0<h
 s0:0<=s
 sw:s<w
 in1:∃i,w=i*w1
 in2:∃i,w=i*w2
 up1:∃i j,s=i*w1+j*s1/\h=j*h1
 up2:∃i j,s=i*w2+j*s2/\h=j*h2
 A0:0<A
 cells:w*h*A=w1*h1*w2*h2
 d11:A∣w1*h1
 d12:A∣w1*h2
 d21:A∣w2*h1
 d22:A∣w2*h2
 ds:A∣s1*h2-h1*s2
 all:∀x y:Int,(∃i j,x=i*w1+j*s1/\y=j*h1)->(∃i j,x=i*w2+j*s2/\y=j*h2)->∃i j,x=i*w+j*s/\y=j*h
 comb:∀G:Int,G∣w1*h1->G∣w1*h2->G∣w2*h1->G∣w2*h2->G∣s1*h2-h1*s2->G∣A
def dB(h:0<x*y)(hy:0<y):0<x:=by
 rcases(Jb:x<=0\/0<x)with e|e
 .have:=Gw e (show 0<=y by lia);lia
 .exact e
def ko(ha:0<a)(h:a*b=a*c):b=c:=Hh Jb h
def r1(k j c:Int):k*(j*c)=j*(c*k):=Kf
def r2(j u c n d:Int):j*(u*c+n*d)=u*(j*c)+n*d*j:=Kf
def r3(u j d n j1:Int):u*(j*d)+n*d*j1=d*(u*j+n*j1):=Kf
def r4(j u c n d:Int):j*(u*c+n*d)=u*c*j+n*(j*d):=Kf
def r5(u c j n j1:Int):u*c*j+n*(j1*c)=c*(u*j+n*j1):=Kf
def r6(g e i1 a i2 b d T s1 c s2:Int)(q:i1*(a*(e*g))+d*T*s1=i2*(b*(e*g))+c*T*s2):g*(e*(i1*a-i2*b))=T*(c*s2-d*s1):=Kf
def r7(g T f:Int):g*(T*f)=T*(f*g):=Kf
def r8(T v e q f:Int):T*(v*e+q*f)=v*T*e+q*(T*f):=Kf
def r9(v T e q m:Int):v*T*e+q*(e*m)=e*(v*T+q*m):=Kf
def r10(e r f:Int):e*r*f=e*(r*f):=Kf
def r11(i u a n b:Int):i*(u*a+n*b)=u*(i*a)+n*b*i:=Kf
def r12(u r f i2 b n i1:Int):u*(r*f+i2*b)+n*b*i1=u*(r*f)+b*(u*i2+n*i1):=Kf
def r13(u r f b M a e g d s1 t:Int):(u*(r*f)+b*M)*(a*(e*g))+d*(e*r)*s1=(M+r*t)*(a*b*(e*g))+r*(e*(d*s1)+f*u*(a*(e*g))-a*b*(e*g)*t):=Kf
def r14(d e r c k:Int):d*(e*r)*(c*k)=r*(c*d*k*e):=Kf
variable{k e f gg u' s1 s2:Int}
def Ac{n n' t i1 j1 i2 j2:Int}(hk:0<k)(IC:0<gg)(he:0<e)
  (p9:u*a+n*b=1) (n4:u'*c+n'*d=1) (gap:c*s2-d*s1=f*gg) (p_:v*e+q*f=1)
  (hs:s=e*(d*s1)+f*u*(a*(e*gg))-a*b*(e*gg)*t) (x1:x=i1*(a*(e*gg))+j1*s1) (y1:y=j1*(c*k)) (x2:x=i2*(b*(e*gg))+j2*s2) (y2:y=j2*(d*k)):
  ∃i j,x=i*(a*b*(e*gg))+j*s/\y=j*(c*d*k*e):=by
 have h1:j1*c=j2*d:=ko hk (by rw[r1 k j1 c,r1 k j2 d,<-y1,<-y2]);have Lm:j1=d*(u'*j2+n'*j1):=by
  have p:=r2 j1 u' c n' d;rw[n4,h1,r3]at p;lia
 have Om:j2=c*(u'*j2+n'*j1):=by
  have p:=r4 j2 u' c n' d;rw[n4,<-h1,r5]at p;lia
 generalize u'*j2+n'*j1=T at Lm Om;have q1:i1*(a*(e*gg))+d*T*s1=i2*(b*(e*gg))+c*T*s2:=by rw[<-Lm,<-Om,<-x1,<-x2]
 have h2:e*(i1*a-i2*b)=T*f:=ko IC (by rw[r6 gg e i1 a i2 b d T s1 c s2 q1,r7,gap]);have eT:T=e*(v*T+q*(i1*a-i2*b)):=by
  have p:=r8 T v e q f;rw[p_,<-h2,r9]at p;lia
 generalize hr:v*T+q*(i1*a-i2*b)=r at eT;have h3:i1*a-i2*b=r*f:=ko he (by rw[h2,eT,r10]);have h4:i1=u*(r*f)+b*(u*i2+n*i1):=by
  have p:=r11 i1 u a n b;have q3:i1*a=r*f+i2*b:=Jb
  rw[p9,q3,r12]at p;lia
 generalize u*i2+n*i1=M at h4;refine#[M+r*t,r,?_,?_]
 .rw[hs,x1,Lm,eT,<-r13,<-h4]
 .rw[y1,Lm,eT,r14]
def Ad{n n' t:Int}(ha:0<a)(hb:0<b)(hc:0<c)(hd:0<d)(he:0<e)(hk:0<k)(IC:0<gg)
  (p9:u*a+n*b=1) (n4:u'*c+n'*d=1) (gap:c*s2-d*s1=f*gg) (p_:v*e+q*f=1)
  (hs:s=e*(d*s1)+f*u*(a*(e*gg))-a*b*(e*gg)*t) (m1:0<=s) (m2:s<a*b*(e*gg)):
  MetR (a*(e*gg)) (c*k) s1 (b*(e*gg)) (d*k) s2 (a*b*(e*gg)) (c*d*k*e) s (k*gg):=by
 have hg:0<e*gg:=Fu he IC;have hW:0<a*b*(e*gg):=Fu (Fu ha hb) hg;have MD:d*s1=c*s2-f*gg:=Jb
 have ua:u*a=1-n*b:=Jb
 refine#[hW,Fu (Fu (Fu hc hd) hk) he,m1,m2,#[b,?_],#[a,?_],#[f*u-t*b,d*e,?_,?_],#[-(f*n)-t*a,c*e,?_,?_],Fu hk IC,?_,#[a*e*c,?_],#[a*e*d,?_],#[b*e*c,?_],#[b*e*d,?_],#[-f,?_],?_,?_]
 .grind
 .grind
 .grind
 .grind
 .rw[hs,MD];have x2:f*u*(a*(e*gg))=f*(u*a)*(e*gg):=by grind
  rw[x2,ua];grind
 .grind
 .grind
 .grind
 .grind
 .grind
 .grind
 .have:s1*(d*k)-c*k*s2=-(k*(c*s2-d*s1)):=by grind
  rw[this,gap];grind
 .rintro x y⟨i1,j1,x1,z1⟩ ⟨i2,j2,x2,z2⟩;exact Ac hk IC he p9 n4 gap p_ hs x1 z1 x2 z2
 .rintro G⟨y1,z1⟩ ⟨y2,z2⟩ ⟨y3,z3⟩ ⟨y4,z4⟩ ⟨y5,z5⟩;refine#[v*(u'*u*y1+n'*u*y2+u'*n*y3+n'*n*y4)-q*y5,?_];have k1:k*(e*gg)=G*(u'*u*y1+n'*u*y2+u'*n*y3+n'*n*y4):=by
   have p1:k*(e*gg)=(u'*c+n'*d)*(u*a+n*b)*(k*(e*gg)):=by rw[p9,n4];grind
   have p2:(u'*c+n'*d)*(u*a+n*b)*(k*(e*gg))=u'*u*(a*(e*gg)*(c*k))+n'*u*(a*(e*gg)*(d*k))+u'*n*(b*(e*gg)*(c*k))+n'*n*(b*(e*gg)*(d*k)):=Kf
   rw[p1,p2,z1,z2,z3,z4];grind
  have k2:k*(f*gg)=-(G*y5):=by
   rw[<-z5,<-gap];grind
  have k3:k*gg=(v*e+q*f)*(k*gg):=by rw[p_];grind
  have k4:(v*e+q*f)*(k*gg)=v*(k*(e*gg))+q*(k*(f*gg)):=Kf
  rw[k3,k4,k1,k2];grind
variable{w1 h1 w2 h2:Int}
def sC{w9:Int}(Ln:0<w1)(Ky:0<w2)(On:0<h1)(IP:0<h2)
  (M1:Meas w1 w2 g u) (M2:Meas h1 h2 k u')
  (M3:Meas g (h1*h2/k/h2*s2-h1*h2/k/h1*s1) gg w9):
  MetR w1 h1 s1 w2 h2 s2 (w1*w2/g) (h1*h2/k*(g/gg)) ((g/gg*(h1*h2/k/h1*s1)+g/gg*(h1*h2/k/h2*s2-h1*h2/k/h1*s1)/g*u*w1)%(w1*w2/g)) (k*gg):=by
 have hg:=M1.pos Ln;have hk:=M2.pos On;have IC:=M3.pos hg;obtain⟨_,⟨a,ea⟩,⟨b,eb⟩,n,en⟩:=M1;obtain⟨_,⟨c,ec⟩,⟨d,ed⟩,n',QI⟩:=M2;have ha:0<a:=dB (ea ▸ Ln) hg;have hb:0<b:=dB (eb ▸ Ky) hg;have hc:0<c:=dB (ec ▸ On) hk;have hd:0<d:=dB (ed ▸ IP) hk;have p9:u*a+n*b=1:=by
  have p:(u*a+n*b)*g=1*g:=by
   have:(u*a+n*b)*g=u*(a*g)+n*(b*g):=by grind
   rw[this,<-ea,<-eb];lia
  exact Gj Jb p
 have n4:u'*c+n'*d=1:=by
  have p:(u'*c+n'*d)*k=1*k:=by
   have:(u'*c+n'*d)*k=u'*(c*k)+n'*(d*k):=by grind
   rw[this,<-ec,<-ed];lia
  exact Gj Jb p
 have eW:w1*w2/g=a*b*g:=by
  have:w1*w2=(a*b*g)*g:=by rw[ea,eb];grind
  rw[this];exact FL _ Jb
 have eR:h1*h2/k=c*d*k:=by
  have:h1*h2=(c*d*k)*k:=by rw[ec,ed];grind
  rw[this];exact FL _ Jb
 have PP:h1*h2/k/h1=d:=by
  rw[eR];have:c*d*k=d*h1:=by rw[ec];grind
  rw[this];exact FL _ Jb
 have PQ:h1*h2/k/h2=c:=by
  rw[eR];have:c*d*k=c*h2:=by rw[ed];grind
  rw[this];exact FL _ Jb
 rw[PP,PQ]at M3 ⊢;obtain⟨_,⟨e,ee⟩,⟨f,ef⟩,q,eq⟩:=M3;have he:0<e:=dB (ee ▸ hg) IC;have p_:w9*e+q*f=1:=by
  have p:(w9*e+q*f)*gg=1*gg:=by
   have:(w9*e+q*f)*gg=w9*(e*gg)+q*(f*gg):=by grind
   rw[this,<-ee,<-ef];lia
  exact Gj Jb p
 have eC:g/gg=e:=by rw[ee];exact FL _ Jb
 have eS:e*(c*s2-d*s1)/g=f:=by
  have:e*(c*s2-d*s1)=f*g:=by rw[ef,ee];grind
  rw[this];exact FL _ Jb
 rw[eC,eS,eW,eR];have hW:0<a*b*g:=Fu (Fu ha hb) hg;have em:=F8 (e*(d*s1)+f*u*w1) (a*b*g);have m1:=Gh (e*(d*s1)+f*u*w1) (show a*b*g≠0 by lia);have m2:=Gi (e*(d*s1)+f*u*w1) hW;generalize (e*(d*s1)+f*u*w1)%(a*b*g)=s at em m1 m2 ⊢;generalize (e*(d*s1)+f*u*w1)/(a*b*g)=t at em;subst ea eb ec ed;subst ee;exact Ad ha hb hc hd he hk IC p9 n4 ef p_ em m1 m2
def sD(hx:0<x)(hy:0<y)(M:Meas x y g u):0<x*y/g/\x*y/g<=x*y/\x*y/g/x*1<=y/\0<=x*y/g/x/\x*y/g/y<=x/\0<=x*y/g/y:=by
 have hg:=M.pos hx;obtain⟨_,⟨a,ea⟩,⟨b,eb⟩,_⟩:=M;have ha:0<a:=dB (ea ▸ hx) hg;have hb:0<b:=dB (eb ▸ hy) hg;have e1:x*y/g=a*b*g:=by
  have:x*y=(a*b*g)*g:=by rw[ea,eb];grind
  rw[this];exact FL _ Jb
 have e2:a*b*g/x=b:=by
  have:a*b*g=b*x:=by rw[ea];grind
  rw[this];exact FL _ Jb
 have e3:a*b*g/y=a:=by
  have:a*b*g=a*y:=by rw[eb];grind
  rw[this];exact FL _ Jb
 have p1:0<a*b*g:=Fu (Fu ha hb) hg;have q1:=(fD (w:=b) (h:=g) hb hg).1;have q2:=(fD (w:=a) (h:=g) ha hg).1;have q3:x*y=a*b*g*g:=by rw[ea,eb];grind
 have q4:=(fD (w:=a*b*g) (h:=g) p1 hg).1;rw[e1,e2,e3];lia
def cell(ns:List Int)(k:Int):Int:=ns.getD k.toNat 0
variable{ns:List Int}
def kq(h0:0<=k)(h1:k<(ns.length:Int)):atI (ns.map D.int) k=be (.int (cell ns k)):=by
 obtain⟨j,rfl⟩:∃j:Nat,k=(j:Int):=#[k.toNat,Jb];have hk:j<ns.length:=Jb
 refine cw ?_;rw[Fo,Fy hk];simp[cell,FJ,Fy hk]
def Ae(h1:(ns.length:Int)<=k):cell ns k=0:=by
 have hk:ns.length<=k.toNat:=Jb
 simp[cell,FJ,FR hk]
def E4(k:Int):∃m,atI [D.int 12,D.int 720] (k%2)=be (.int m)/\(m=12\/m=720):=by
 rcases(Jb:k%2=0\/k%2=1)with e|e
 .rw[e];exact#[12,rfl,.inl rfl]
 .rw[e];exact#[720,rfl,.inr rfl]
def cL(h:0<b):0<=a%b:=Gh a Jb
def cM(h:0<b):a%b<b:=Gi a h
def Af:SpD:=λds R=>∃(ns:List Int) (k:Int),ds=[.rol (ns.map D.int),.int k]/\0<=k/\R (.int (cell ns k))
def Ag:SpD:=λds R=>∃i:Int,ds=[.int i]/\R (.bl true)
def Ah:SpD:=λds R=>∃a b c d u v:Int,ds=[.tup [.int a,.int b],.tup [.int c,.int d],.int u,.int v]/\a.natAbs<1073741824/\b.natAbs<1073741824/\c.natAbs<1073741824/\d.natAbs<1073741824/\
 ¬a*d=b*c/\R (.bl (decide ((u*d-v*c).fmod (a*d-b*c)=0/\(a*v-b*u).fmod (a*d-b*c)=0)))
def Ai:SpD:=λds R=>∃w h s x y:Int,ds=[.tup [.int w,.int h,.int s],.int x,.int y]/\0<w/\0<h/\h<1073741824/\0<=s/\s<1073741824/\
 R (.tup [.int ((x-y/h*s)%w),.int (y%h)])
def Aj:SpD:=λds R=>∃a b c d:Int,ds=[.tup [.int a,.int b],.tup [.int c,.int d]]/\b.natAbs<4611686018427387904/\d.natAbs<4611686018427387904/\
 ∀p0 p1 q0,Lev a b c d p0 p1 q0->R (.tup [.tup [.int p0,.int p1],.tup [.int q0,.int 0]])
def Ak:SpD:=λds R=>∃a b c d:Int,ds=[.tup [.int a,.int b],.tup [.int c,.int d]]/\a.natAbs<4611686018427387904/\b.natAbs<4611686018427387904/\c.natAbs<4611686018427387904/\d.natAbs<4611686018427387904/\
 (a*d=b*c->R .non)/\(¬a*d=b*c->∀w h s,FamOf a b c d w h s->R (.tup [.int w,.int h,.int s]))
def Al:SpD:=λds R=>∃w h s:Int,ds=[.tup [.int w,.int h,.int s]]/\0<w/\R (.tup [.int w,.int h,.int (-s%w)])
def Am:SpD:=λds R=>∃w h s:Int,ds=[.tup [.int w,.int h,.int s]]/\0<w/\0<h/\w<4611686018427387904/\h<4611686018427387904/\0<=s/\s<4611686018427387904/\
 ∀w' h' s',FamOf 0 w (-h) s w' h' s'->R (.tup [.int w',.int h',.int s'])
def An:SpD:=λds R=>∃x y:Int,ds=[.int x,.int y]/\x.natAbs<4611686018427387904/\y.natAbs<4611686018427387904/\∀g u,Meas x y g u->R (.tup [.int g,.int u])
def Ao:SpD:=λds R=>∃w1 h1 s1 w2 h2 s2:Int,ds=[.tup [.int w1,.int h1,.int s1],.tup [.int w2,.int h2,.int s2]]/\0<w1/\w1<=33554432/\0<h1/\h1<=33554432/\0<=s1/\s1<w1/\0<w2/\w2<=33554432/\0<h2/\h2<=33554432/\0<=s2/\s2<w2/\
 ∀w h s A,MetR w1 h1 s1 w2 h2 s2 w h s A->R (.tup [.int w,.int h,.int s])
def Drawn(xs:List Int):Prop:=∀x∈xs,0<=x/\x<5040
variable{xs:List Int}
def Drawn.at(h:Drawn xs)(k:Int):0<=cell xs k/\cell xs k<5040:=by
 by_cases hk:k.toNat<xs.length
 .have:cell xs k=xs[k.toNat]:=by simp[cell,FJ,Fy hk]
  rw[this];exact h _ (FQ hk)
 .have:cell xs k=0:=by simp[cell,FJ,FR (GN hk)]
  lia
def dD(h0:0<=k)(h:k.toNat<xs.length):atI (xs.map D.int) k=be (.int (cell xs k)):=kq h0 Jb
def sE:xs.map D.int++[D.int v]=(xs++[v]).map D.int:=J4
def sF(h:Drawn xs)(h1:0<=v)(h2:v<5040):Drawn (xs++[v]):=by
 intro x hx;rcases FH.mp hx with q|q
 .exact h x q
 .rw[E6.mp q];exact#[h1,h2]
def Ap:SpD:=λds R=>∃(ns:List Int) (k:Int) (n:Nat),ds=[.rol (ns.map D.int),.int k,.int n]/\0<=k/\n<=100/\∀xs:List Int,xs.length=n->Drawn xs->R (.lst (xs.map D.int))
def Aq:SpD:=λds R=>∃xs:List Int,ds=[.lst (xs.map D.int)]/\8<=xs.length/\Drawn xs/\
 ∀a b c d:Int,(-12<=a/\a<=12)->(-12<=b/\b<=12)->(-12<=c/\c<=12)->(-12<=d/\d<=12)->¬a*d=b*c->R (.lst [.tup [.int a,.int b],.tup [.int c,.int d]])
abbrev cs(x:E_):List Nat:=x.cps.toList
def bt(x:E_):(cs x).length=x.length:=by simp[Str.length]
def sG:cs ""=[]:=rfl
def bu(x y:E_):cs (x++y)=cs x++cs y:=by
 show((x++y:E_)).cps.toList=_;rw[show(x++y:E_).cps=x.cps++y.cps from rfl,Array.toList_append]
def aS(x y:E_):(x++y).length=x.length+y.length:=by rw[<-bt,bu,Fp,bt,bt]
def aZ(c:Nat):Prop:=c=46\/(49<=c/\c<=54)
def kr:∀(L:List E_),cK (L.map D.str)=be L
 |[]=>rfl
 |x::L=>by simp[cK,kr L]
def eI(x:E_):Prop:=0<x.length/\x.length<=7/\∀c∈cs x,aZ c
def Ar{x:E_}(h:eI x)(v:Int):∃c,(x.length<=1000000/\atI (cs x) (v%(x.length:Int))=be c)/\aZ c:=by
 have h1:=cL (a:=v) (show 0<(x.length:Int)by have:=h.1;lia);have h2:=cM (a:=v) (show 0<(x.length:Int)by have:=h.1;lia);obtain⟨j,ej⟩:∃j:Nat,v%(x.length:Int)=(j:Int):=#[(v%(x.length:Int)).toNat,Jb];have hj:j<(cs x).length:=by rw[bt];lia
 refine#[(cs x)[j],#[by have:=h.2.1;lia,?_],h.2.2 _ (FQ hj)];rw[ej];exact cw (Fy hj)
def As:eI "1.23456":=#[Je,Je,by unfold aZ;decide+kernel]
def Au:eI "12":=#[Je,Je,by unfold aZ;decide+kernel]
def Av:eI "1.":=#[Je,Je,by unfold aZ;decide+kernel]
def Aw:eI "...2":=#[Je,Je,by unfold aZ;decide+kernel]
def Ax(k:Int):∃x,atI [D.str "1.23456",D.str "12",D.str "1.",D.str "...2"] (k%4)=be (.str x)/\eI x:=by
 rcases(Jb:k%4=0\/k%4=1\/k%4=2\/k%4=3)with e|e|e|e<;>rw[e]
 .exact#[_,rfl,As]
 .exact#[_,rfl,Au]
 .exact#[_,rfl,Av]
 .exact#[_,rfl,Aw]
def Ay(k:Int):∃m,atI [D.int 1,D.int 70] (k%2)=be (.int m)/\(m=1\/m=70):=by
 rcases(Jb:k%2=0\/k%2=1)with e|e<;>rw[e]
 .exact#[1,rfl,.inl rfl]
 .exact#[70,rfl,.inr rfl]
structure Rows(L:List Str):Prop where
 many:1<=L.length/\L.length<=8
 wide:∃w,(1<=w/\w<=8)/\∀l∈L,l.length=w/\∀c∈cs l,aZ c
variable{L:List E_}
def Rows.of{w t:Nat}(h1:1<=t)(h2:t<=8)(hl:L.length=t)(w1:1<=w)(w2:w<=8)(h:∀l∈L,l.length=w/\∀c∈cs l,aZ c):Rows L:=#[Jb,w,#[w1,w2],h]
def Az{x:E_}{c:Nat}{i:Nat}(h1:x.length=i)(h2:∀c∈cs x,aZ c)(hc:aZ c):(x++#[[c].toArray]:E_).length=i+1/\∀c'∈cs (x++#[[c].toArray]),aZ c':=by
 refine#[by rw[aS,h1];rfl,λc' q=>?_];rw[bu]at q;rcases FH.mp q with q|q
 .exact h2 _ q
 .have:c'=c:=by simpa[cs]using q
  rw[this];exact hc
def AA{x:E_}:L.map D.str++[D.str x]=(L++[x]).map D.str:=J4
def cU(L:List E_)(a b c d:Int):Str:=("["++Txt.join "/" L)++((((((((";":E_)++(toString a:String))++",")++(toString b:String))++";")++(toString c:String))++",")++(toString d:String))++"]"
def ca(h:-12<=a/\a<=12):((toString a:String):E_).length<=3:=by
 have key:∀k:Fin 25,((toString (((k.val:Nat):Int)-12):String):E_).length<=3:=Je
 have:=key #[(a+12).toNat,Jb];have e:(((a+12).toNat:Nat):Int)-12=a:=Jb
 rw[e]at this;exact this
def B12(a:Int):Prop:=-12<=a/\a<=12
def B12.lt(h:B12 a):a.natAbs<1073741824:=by unfold B12 at h;lia
def sH{w:Nat}(h:∀l∈L,l.length=w):(L.map (·.length)).sum=L.length*w:=by
 induction L with
 |nil=>simp
 |cons x L ih=>
  rw[Ft,List.sum_cons,ih (λl hl=>h l (Fe _ hl)),h x Fi,Fc,Nat.succ_mul,Hi]
def sI(h:Rows L):(L.map (·.length)).sum+L.length*("/":E_).length<=72:=by
 obtain⟨h1,w,hw,h2⟩:=h;rw[sH (λl hl=>(h2 l hl).1)];have e:("/":E_).length=1:=rfl;rw[e];have:=Hg h1.2 hw.2;lia
def AB:SpD:=λds R=>∃xs:List Int,ds=[.lst (xs.map D.int)]/\40<=xs.length/\Drawn xs/\∀L:List E_,Rows L->R (.lst (L.map D.str))
def AC:SpD:=λds R=>∃(L:List E_) (a b c d:Int),ds=[.lst (L.map D.str),.tup [.int a,.int b],.tup [.int c,.int d]]/\Rows L/\B12 a/\B12 b/\B12 c/\B12 d/\R (.str (cU L a b c d))
structure Leaf where
 rows:List E_
 a:Int
 b:Int
 c:Int
 d:Int
 w0:Int
 w1:Int
 w2:Int
 w3:Int
 w4:Int
 w5:Int
 hues:List Int
def Leaf.D(l:Leaf):My.D:=.tup [.lst (l.rows.map D.str),.tup [.int l.a,.int l.b],.tup [.int l.c,.int l.d],.tup [.int l.w0,.int l.w1,.int l.w2,.int l.w3,.int l.w4,.int l.w5],.lst (l.hues.map D.int)]
structure Leaf.Ok(l:Leaf):Prop where
 rows:Rows l.rows
 a:B12 l.a
 b:B12 l.b
 c:B12 l.c
 d:B12 l.d
 ne:¬l.a*l.d=l.b*l.c
 w0:l.w0.natAbs<=1
 w1:l.w1.natAbs<=1
 w2:l.w2.natAbs<=1
 w3:l.w3.natAbs<=1
 w4:l.w4.natAbs<=1000
 w5:l.w5.natAbs<=1000
 many:l.hues.length=7
 hue:∀h∈l.hues,0<=h/\h<=6
def onB(a b c d u v:Int):Bool:=decide ((u*d-v*c).fmod (a*d-b*c)=0/\(a*v-b*u).fmod (a*d-b*c)=0)
def scanRow(f:Int->Bool):Nat->List Nat->Option Nat
 |_,[]=>z8
 |i,c::r=>if c≠46/\f i=true then be c else scanRow f (i+1) r
def bG(f:Int->Int->Bool):Nat->List E_->Option Nat
 |_,[]=>z8
 |j,l::r=>match scanRow (λi=>f i j) 0 (cs l)with|some c=>be c|none=>bG f (j+1) r
def Leaf.hit(l:Leaf)(x y:Int):Option Nat:=bG (λi j=>onB l.a l.b l.c l.d (l.w0*x+l.w1*y+l.w4-i) (l.w2*x+l.w3*y+l.w5-j)) 0 l.rows
def Leaf.shows(l:Leaf)(x y:Int):Int:=match l.hit x y with|some c=>cell l.hues ((c:Int)-48)|none=>0
def one_sign{c:Nat}:(#[[c].toArray]:E_)="."↔c=46:=by
 constructor
 .intro h;have:([c].toArray:Array Nat)=(".":E_).cps:=congrArg Str.cps h;have e:([c].toArray:Array Nat).toList=(".":E_).cps.toList:=by rw[this]
  have e2:(".":E_).cps.toList=[46]:=rfl;rw[e2]at e;simpa using e
 .rintro rfl;rfl
def digit_of{c:Nat}(h:49<=c/\c<=54):PySem.intText? (#[[c].toArray]:E_)=be ((c:Int)-48):=by
 rcases(Jb:c=49\/c=50\/c=51\/c=52\/c=53\/c=54)with e|e|e|e|e|e<;>subst e<;>decide+kernel
def at_str{j:Nat}{x:E_}(h:L[j]?=be x):atI (L.map D.str) (j:Int)=be (.str x):=cw (by rw[Fo,h];rfl)
def cb{n:Int}{k:Nat}{x:D}(h:((E8 n.toNat).map λk=>D.int ((k:Nat):Int))[k]?=be x):k<n.toNat/\x=.int (k:Int):=by
 have hk:k<n.toNat:=by simpa using(Fk.mp h).1
 refine#[hk,?_];simp[hk]at h;exact h.symm
def bN{n:Int}:((E8 n.toNat).map λk=>D.int ((k:Nat):Int)).length=n.toNat:=J4
def aU:List Leaf->Int->Int->Int
 |[],_,_=>0
 |l::r,x,y=>if l.shows x y≠0 then l.shows x y else aU r x y
variable{hs:List Int}
def AD(h:∀h∈hs,0<=h/\h<=6)(k:Int):0<=cell hs k/\cell hs k<=6:=by
 by_cases hk:k.toNat<hs.length
 .have:cell hs k=hs[k.toNat]:=by simp[cell,FJ,Fy hk]
  rw[this];exact h _ (FQ hk)
 .have:cell hs k=0:=by simp[cell,FJ,FR (GN hk)]
  lia
variable{l:Leaf}
def Leaf.shows_le(h:l.Ok)(x y:Int):0<=l.shows x y/\l.shows x y<=6:=by
 unfold Leaf.shows;split
 .exact AD h.hue _
 .lia
def sJ:∀{ls:List Leaf} (x y:Int),(∀l∈ls,l.Ok)->0<=aU ls x y/\aU ls x y<=6
 |[],_,_,_=>by simp[aU]
 |l::r,x,y,h=>by
  unfold aU;split
  .exact Leaf.shows_le (h l Fi) x y
  .exact sJ x y λl' q=>h l' (Fe _ q)
def cq(L:List E_)(a b c d:Int):Leaf:=#[L,a,b,c,d,1,0,0,1,0,0,[0,1,2,3,4,5,6]]
def AE:SpD:=λds R=>∃(ns:List Int) (k:Int),ds=[.rol (ns.map D.int),.int k]/\0<=k/\
 ∀(L:List E_) (a b c d:Int),Rows L->B12 a->B12 b->B12 c->B12 d->¬a*d=b*c->R (.lst [.str (cU L a b c d),.int 0,.lst [(cq L a b c d).D]])
def AF:SpD:=λds R=>∃(l:Leaf) (x y:Int),ds=[l.D,.int x,.int y]/\l.Ok/\R (.int (l.shows x y))
def AG:SpD:=λds R=>∃(ls:List Leaf) (x y:Int),ds=[.lst (ls.map Leaf.D),.int x,.int y]/\(∀l∈ls,l.Ok)/\R (.int (aU ls x y))
inductive Pat where
 |mot (L:List Str) (a b c d:Int)
 |over (p q:Pat)
 |sh (a b:Int) (p:Pat)
 |mir (p:Pat)
 |tur (p:Pat)
 |hue (f g:Int) (p:Pat)
def Pat.text:Pat->E_
 |.mot L a b c d=>cU L a b c d
 |.over p q=>(((("(":E_)++p.text)++"|")++q.text)++")"
 |.sh a b p=>((((("s":E_)++(toString a:String))++",")++(toString b:String))++":")++p.text
 |.mir p=>("m":E_)++p.text
 |.tur p=>("t":E_)++p.text
 |.hue f g p=>((("h":E_)++(toString f:String))++(toString g:String))++p.text
def Pat.depth:Pat->Nat
 |.mot ..=>0
 |.over p q=>1+max p.depth q.depth
 |.sh _ _ p=>p.depth+1
 |.mir p=>p.depth+1
 |.tur p=>p.depth+1
 |.hue _ _ p=>p.depth+1
def Leaf.by(l:Leaf)(b0 b1 b2 b3 b4 b5:Int):Leaf:=
 {l with w0:=l.w0*b0+l.w1*b2,w1:=l.w0*b1+l.w1*b3,w2:=l.w2*b0+l.w3*b2,w3:=l.w2*b1+l.w3*b3,w4:=l.w4+l.w0*b4+l.w1*b5,w5:=l.w5+l.w2*b4+l.w3*b5}
def ce(f g h:Int):Int:=if h=f then g else h
def Leaf.dye(l:Leaf)(f g:Int):Leaf:={l with hues:=l.hues.map (ce f g)}
def Pat.leaves:Pat->List Leaf
 |.mot L a b c d=>[cq L a b c d]
 |.over p q=>p.leaves++q.leaves
 |.sh a b p=>p.leaves.map (λl=>l.by 1 0 0 1 (-a) (-b))
 |.mir p=>p.leaves.map (λl=>l.by (-1) 0 0 1 0 0)
 |.tur p=>p.leaves.map (λl=>l.by 0 1 (-1) 0 0 0)
 |.hue f g p=>p.leaves.map (λl=>(l.by 1 0 0 1 0 0).dye f g)
def Pat.show:Pat->Int->Int->Int
 |.mot L a b c d,x,y=>(cq L a b c d).shows x y
 |.over p q,x,y=>if p.show x y≠0 then p.show x y else q.show x y
 |.sh a b p,x,y=>p.show (x-a) (y-b)
 |.mir p,x,y=>p.show (-x) y
 |.tur p,x,y=>p.show y (-x)
 |.hue f g p,x,y=>ce f g (p.show x y)
def Pat.Wf:Pat->Prop
 |.mot L a b c d=>Rows L/\B12 a/\B12 b/\B12 c/\B12 d/\¬a*d=b*c
 |.over p q=>p.Wf/\q.Wf
 |.sh a b p=>B12 a/\B12 b/\p.Wf
 |.mir p=>p.Wf
 |.tur p=>p.Wf
 |.hue f g p=>(1<=f/\f<=6)/\(1<=g/\g<=6)/\p.Wf
def Leaf.by_shows(l:Leaf)(b0 b1 b2 b3 b4 b5 x y:Int):(l.by b0 b1 b2 b3 b4 b5).shows x y=l.shows (b0*x+b1*y+b4) (b2*x+b3*y+b5):=by
 have e1:(l.w0*b0+l.w1*b2)*x+(l.w0*b1+l.w1*b3)*y+(l.w4+l.w0*b4+l.w1*b5)=l.w0*(b0*x+b1*y+b4)+l.w1*(b2*x+b3*y+b5)+l.w4:=Kf
 have e2:(l.w2*b0+l.w3*b2)*x+(l.w2*b1+l.w3*b3)*y+(l.w5+l.w2*b4+l.w3*b5)=l.w2*(b0*x+b1*y+b4)+l.w3*(b2*x+b3*y+b5)+l.w5:=Kf
 simp only[Leaf.shows,Leaf.hit,Leaf.by,e1,e2]
def fE(b0 b1 b2 b3 b4 b5 x y:Int):∀ls:List Leaf,aU (ls.map (λl=>l.by b0 b1 b2 b3 b4 b5)) x y=aU ls (b0*x+b1*y+b4) (b2*x+b3*y+b5)
 |[]=>rfl
 |l::r=>by
  rw[Ft,aU,aU,Leaf.by_shows,fE b0 b1 b2 b3 b4 b5 x y r]
def scanRow_sign{f:Int->Bool}:∀{cs:List Nat} {i c:Nat},(∀c∈cs,aZ c)->scanRow f i cs=be c->49<=c/\c<=54
 |[],_,_,_,h=>by cases h
 |a::r,i,c,hs,h=>by
  rw[scanRow]at h;split at h
  .rename_i q;cases h;have:=hs a Fi;unfold aZ at this;have:=q.1;lia
  .exact scanRow_sign (λc q=>hs c (Fe _ q)) h
def kt{f:Int->Int->Bool}:∀{L:List E_} {j c:Nat},(∀l∈L,∀c∈cs l,aZ c)->bG f j L=be c->49<=c/\c<=54
 |[],_,_,_,h=>by cases h
 |a::r,j,c,hs,h=>by
  rw[bG]at h;split at h
  .rename_i q;cases h;exact scanRow_sign (hs a Fi) q
  .exact kt (λl q=>hs l (Fe _ q)) h
def AH(h:k.toNat<hs.length):cell (hs.map (ce f g)) k=ce f g (cell hs k):=by
 simp[cell,FJ,Fo,Fy h]
def Leaf.dye_shows(ok:l.Ok)(hf:1<=f)(x y:Int):(l.dye f g).shows x y=ce f g (l.shows x y):=by
 have e:(l.dye f g).hit x y=l.hit x y:=rfl;unfold Leaf.shows;rw[e];cases h:l.hit x y with
 |none=>simp[ce];lia
 |some c=>
  have hc:49<=c/\c<=54:=kt (λl' q=>let ⟨_,_,_,h⟩:=ok.rows;(h l' q).2) h;exact AH (by rw[ok.many];lia)
def sK(hf:1<=f)(hg:1<=g):ce f g h=0↔h=0:=by
 unfold ce;split<;>lia
def sL{f g:Int}(hf:1<=f)(hg:1<=g)(x y:Int):∀ls:List Leaf,(∀l∈ls,l.Ok)->aU (ls.map (λl=>l.dye f g)) x y=ce f g (aU ls x y)
 |[],_=>by simp[aU,ce];lia
 |l::r,h=>by
  rw[Ft,aU,aU,Leaf.dye_shows (h l Fi) hf,sL hf hg x y r λl q=>h l (Fe _ q)];by_cases z:l.shows x y=0
  .rw[if_neg (λq=>q ((sK hf hg).mpr z)),if_neg (λq=>q z)]
  .rw[if_pos (λq=>z ((sK hf hg).mp q)),if_pos z]
def sM(x y:Int):∀(a b:List Leaf),aU (a++b) x y=if aU a x y≠0 then aU a x y else aU b x y
 |[],b=>by simp[aU]
 |l::r,b=>by
  rw[List.cons_append,aU,aU];by_cases z:l.shows x y≠0
  .rw[if_pos z,if_pos z,if_pos z]
  .rw[if_neg z,if_neg z,sM x y r b]
structure Leaf.Near(l:Leaf)(n:Nat):Prop where
 u0:(l.w0.natAbs=1/\l.w1=0/\l.w2=0/\l.w3.natAbs=1)\/(l.w0=0/\l.w1.natAbs=1/\l.w2.natAbs=1/\l.w3=0)
 w4:l.w4.natAbs<=24*n
 w5:l.w5.natAbs<=24*n
variable{n:Nat}
def Leaf.Near.mono{m:Nat}(h:l.Near n)(k:n<=m):l.Near m:=#[h.u0,by have:=h.w4;lia,by have:=h.w5;lia]
def Leaf.Near.unit(h:l.Near n):(l.w0=1\/l.w0=-1\/l.w0=0)/\(l.w1=1\/l.w1=-1\/l.w1=0)/\(l.w2=1\/l.w2=-1\/l.w2=0)/\(l.w3=1\/l.w3=-1\/l.w3=0):=by
 have:=h.u0;lia
def sN(h:e.natAbs<=24*n)(hw:w=1\/w=-1\/w=0)(hv:v=1\/v=-1\/v=0)(ha:B12 a)(hb:B12 b):(e+w* -a+v* -b).natAbs<=24*(n+1):=by
 have m:∀{w a:Int},(w=1\/w=-1\/w=0)->B12 a->(w* -a).natAbs<=12:=λhw ha=>by
  unfold B12 at ha;rcases hw with rfl|rfl|rfl<;>lia
 have:=m hw ha;have:=m hv hb;generalize w* -a=x at*;generalize v* -b=y at*;clear m hw hv ha hb;lia
def AI(h:l.Near n)(ha:B12 a)(hb:B12 b):(l.by 1 0 0 1 (-a) (-b)).Near (n+1):=by
 obtain⟨h0,h1,h2,h3⟩:=h.unit;exact#[by simpa[Leaf.by]using h.u0,sN h.w4 h0 h1 ha hb,sN h.w5 h2 h3 ha hb]
def AJ(h:l.Near n):(l.by (-1) 0 0 1 0 0).Near (n+1):=by
 have p:=h.w4;have q:=h.w5;exact#[by simpa[Leaf.by]using h.u0,by simp[Leaf.by];lia,by simp[Leaf.by];lia]
def AK(h:l.Near n):(l.by 0 1 (-1) 0 0 0).Near (n+1):=by
 have p:=h.w4;have q:=h.w5;refine#[?_,by simp[Leaf.by];lia,by simp[Leaf.by];lia];rcases h.u0 with⟨a,b,c,d⟩|⟨a,b,c,d⟩
 .exact .inr (by simp[Leaf.by,a,b,c,d])
 .exact .inl (by simp[Leaf.by,a,b,c,d])
def sO(h:l.Near n):((l.by 1 0 0 1 0 0).dye f g).Near (n+1):=by
 have p:=h.w4;have q:=h.w5;exact#[by simpa[Leaf.by,Leaf.dye]using h.u0,by simp[Leaf.by,Leaf.dye];lia,by simp[Leaf.by,Leaf.dye];lia]
structure Leaf.Good(l:Leaf):Prop where
 rows:Rows l.rows
 a:B12 l.a
 b:B12 l.b
 c:B12 l.c
 d:B12 l.d
 ne:¬l.a*l.d=l.b*l.c
 many:l.hues.length=7
 hue:∀h∈l.hues,0<=h/\h<=6
def Leaf.ok_of(g:l.Good)(h:l.Near n)(hn:n<=40):l.Ok:=by
 have:=h.u0;have:=h.w4;have:=h.w5;exact#[g.rows,g.a,g.b,g.c,g.d,g.ne,Jb,Jb,Jb,Jb,Jb,Jb,g.many,g.hue]
def Pat.leaf_good:∀{p:Pat},p.Wf->∀l∈p.leaves,l.Good/\l.Near p.depth
 |.mot L a b c d,h,l,q=>by
  have:l=cq L a b c d:=by simpa[Pat.leaves]using q
  subst this;obtain⟨h1,h2,h3,h4,h5,h6⟩:=h;exact#[#[h1,h2,h3,h4,h5,h6,rfl,by intro h q;simp[cq]at q;lia],#[by simp[cq],by simp[cq],by simp[cq]]]
 |.over p r,h,l,q=>by
  rcases FH.mp q with q|q
  .obtain⟨g,n⟩:=Pat.leaf_good h.1 l q;exact#[g,n.mono (by simp only[Pat.depth];lia)]
  .obtain⟨g,n⟩:=Pat.leaf_good h.2 l q;exact#[g,n.mono (by simp only[Pat.depth];lia)]
 |.sh a b p,h,l,q=>by
  obtain⟨l',q',rfl⟩:=FF.mp q;obtain⟨g,n⟩:=Pat.leaf_good h.2.2 l' q';exact#[#[g.rows,g.a,g.b,g.c,g.d,g.ne,g.many,g.hue],AI n h.1 h.2.1]
 |.mir p,h,l,q=>by
  obtain⟨l',q',rfl⟩:=FF.mp q;obtain⟨g,n⟩:=Pat.leaf_good (p:=p) h l' q';exact#[#[g.rows,g.a,g.b,g.c,g.d,g.ne,g.many,g.hue],AJ n]
 |.tur p,h,l,q=>by
  obtain⟨l',q',rfl⟩:=FF.mp q;obtain⟨g,n⟩:=Pat.leaf_good (p:=p) h l' q';exact#[#[g.rows,g.a,g.b,g.c,g.d,g.ne,g.many,g.hue],AK n]
 |.hue f k p,h,l,q=>by
  obtain⟨l',q',rfl⟩:=FF.mp q;obtain⟨g,n⟩:=Pat.leaf_good (p:=p) h.2.2 l' q';refine#[#[g.rows,g.a,g.b,g.c,g.d,g.ne,?_,λv hv=>?_],sO n]
  .show(l'.hues.map _).length=7;rw[Fs];exact g.many
  .obtain⟨u,hu,rfl⟩:=FF.mp hv;have:=g.hue u hu;have:=h.2.1;unfold ce;split<;>lia
variable{p:Pat}
def Pat.leaf_ok(h:p.Wf)(hd:p.depth<=40):∀l∈p.leaves,l.Ok:=λl q=>Leaf.ok_of (Pat.leaf_good h l q).1 (Pat.leaf_good h l q).2 hd
def Pat.show_leaves:∀{p:Pat},p.Wf->p.depth<=40->∀x y,aU p.leaves x y=p.show x y
 |.mot L a b c d,_,_,x,y=>by
  simp only[Pat.leaves,Pat.show,aU];split
  .rfl
  .lia
 |.over p q,h,hd,x,y=>by
  simp only[Pat.depth]at hd;rw[Pat.leaves,sM,Pat.show_leaves h.1 Jb,Pat.show_leaves h.2 Jb,Pat.show]
 |.sh a b p,h,hd,x,y=>by
  simp only[Pat.depth]at hd;rw[Pat.leaves,fE,Pat.show_leaves h.2.2 Jb,Pat.show];congr 1<;>lia
 |.mir p,h,hd,x,y=>by
  simp only[Pat.depth]at hd;rw[Pat.leaves,fE,Pat.show_leaves (p:=p) h Jb,Pat.show];congr 1<;>lia
 |.tur p,h,hd,x,y=>by
  simp only[Pat.depth]at hd;rw[Pat.leaves,fE,Pat.show_leaves (p:=p) h Jb,Pat.show];congr 1<;>lia
 |.hue f g p,h,hd,x,y=>by
  simp only[Pat.depth]at hd;have e:p.leaves.map (λl=>(l.by 1 0 0 1 0 0).dye f g)=(p.leaves.map (λl=>l.by 1 0 0 1 0 0)).map (λl=>l.dye f g):=by rw[Gx];rfl
  rw[Pat.leaves,e,sL h.1.1 h.2.1.1,fE,Pat.show_leaves h.2.2 Jb,Pat.show]
  .congr 2<;>lia
  .intro l q;obtain⟨l',q',rfl⟩:=FF.mp q;obtain⟨g',n⟩:=Pat.leaf_good h.2.2 l' q';have n':=sO (f:=f) (g:=g) n;have:(l'.by 1 0 0 1 0 0).Near (p.depth+1):=#[n'.u0,n'.w4,n'.w5];exact Leaf.ok_of #[g'.rows,g'.a,g'.b,g'.c,g'.d,g'.ne,g'.many,g'.hue] this Jb
def Pat.D(p:Pat):My.D:=.lst [.str p.text,.int p.depth,.lst (p.leaves.map Leaf.D)]
def Leaf.T(dy:Bool)(j5 new b0 b1 b2 b3 b4 b5:Int)(l:Leaf):Leaf:=if dy then(l.by b0 b1 b2 b3 b4 b5).dye j5 new else l.by b0 b1 b2 b3 b4 b5
def sP(h:1<=a/\a<=6):((toString a:String):E_).length<=3:=ca Jb
def Wraps(p:Pat)(H:Prop)(R:My.D->Prop):Prop:=(5<=p.depth->R p.D)/\(p.depth<5->R (Pat.mir p).D/\R (Pat.tur p).D/\(∀a b,B12 a->B12 b->R (Pat.sh a b p).D)/\(H->∀f g:Int,(1<=f/\f<=6)->(1<=g/\g<=6)->R (Pat.hue f g p).D))
def AL(hn:¬a*d=b*c)(h:(u*d-v*c).fmod (a*d-b*c)=0/\(a*v-b*u).fmod (a*d-b*c)=0):∃i j,u=i*a+j*c/\v=i*b+j*d:=by
 have hz:a*d-b*c≠0:=Jj
 obtain⟨i,ei⟩:(a*d-b*c)∣(u*d-v*c):=#[_,(HQ h.1).symm];obtain⟨j,ej⟩:(a*d-b*c)∣(a*v-b*u):=#[_,(HQ h.2).symm];refine#[i,j,?_,?_]
 .have:(a*d-b*c)*u=(a*d-b*c)*(i*a+j*c):=by
   have q1:(a*d-b*c)*u=a*(u*d-v*c)+c*(a*v-b*u):=Kf
   rw[q1,ei,ej];grind
  exact Hh hz this
 .have:(a*d-b*c)*v=(a*d-b*c)*(i*b+j*d):=by
   have q1:(a*d-b*c)*v=b*(u*d-v*c)+d*(a*v-b*u):=Kf
   rw[q1,ei,ej];grind
  exact Hh hz this
def Uni.trans{x0 x1 y0 y1:Int}(h:Uni a b c d p0 p1 q0 q1)(k:Uni p0 p1 q0 q1 x0 x1 y0 y1):Uni a b c d x0 x1 y0 y1:=by
 obtain⟨m,n,k1,l,hd,rfl,rfl,rfl,rfl⟩:=h;obtain⟨m',n',k',l',d8,rfl,rfl,rfl,rfl⟩:=k;have dt:(m'*m+n'*k1)*(k'*n+l'*l)-(m'*n+n'*l)*(k'*m+l'*k1)=(m'*l'-n'*k')*(m*l-n*k1):=Kf
 refine#[m'*m+n'*k1,m'*n+n'*l,k'*m+l'*k1,k'*n+l'*l,?_,Kf,Kf,Kf,Kf];rw[dt];rcases hd with e|e<;>rcases d8 with e'|e'<;>rw[e,e']<;>decide
def fF:∀(n:Nat) (a b c d:Int),d.natAbs<=n->∃p0 p1 q0,Lev a b c d p0 p1 q0
 |n,a,b,c,d,hn=>by
  by_cases hd:d=0
  .subst hd;by_cases hb:0<=b
   .exact#[a,b,c,hb,Uni.refl a b c 0]
   .exact#[-a,-b,c,Jb,(Uni.refl a b c 0).neg]
  .match n,hn with
   |0,hn=>exact absurd (Jb:d=0) hd
   |n+1,hn=>
    have lt:=(fdm b d hd).1;obtain⟨p0,p1,q0,h0,hu⟩:=fF n c d (a-b.fdiv d*c) (b-b.fdiv d*d) Jb;exact#[p0,p1,q0,h0,((Uni.refl a b c d).step (b.fdiv d)).trans hu]
def E5(hn:¬a*d=b*c)(g0:0<=g)(g1:g∣b)(g2:g∣d)(g3:∀e,e∣b->e∣d->e∣g):
  ∃w s,FamOf a b c d w g s:=by
 obtain⟨p0,p1,q0,hL⟩:=fF d.natAbs a b c d (E7 _);have hF:=gJ hn hL;have hp:=hF.2.1;obtain⟨m,n,k,l,_,e1,e2,e3,e4⟩:=hL.2;obtain⟨m',n',k',l',_,f1,f2,f3,f4⟩:=hL.2.inv;have d1:p1∣g:=g3 p1 #[m',by rw[f2];grind] #[k',by rw[f4];grind];have d2:g∣p1:=by
  rw[e2];exact Int.dvd_add (HR g1) (HR g2)
 have:p1=g:=Int.dvd_antisymm Jb g0 d1 d2;subst this;exact#[_,_,hF]
def FamOf.uniq_lean(f:FamOf a b c d w h s)(e1:x=i*a+j*c)(e2:h=i*b+j*d)(h0:0<=x)(h1:x<=s):x=s:=by
 obtain⟨hw,hh,hs,Jh,hu⟩:=f;obtain⟨m,n,k,l,_,f1,f2,f3,f4⟩:=hu.inv;have ex:x=(i*m+j*k)*w+(i*n+j*l)*s:=by rw[e1,f1,f3];grind
 have eh:h=(i*n+j*l)*h:=by
  have:i*b+j*d=(i*n+j*l)*h:=by rw[f2,f4];grind
  rw[<-this];exact e2
 have one:i*n+j*l=1:=by
  have:(i*n+j*l)*h=1*h:=by lia
  exact Gj Jb this
 rw[one]at ex;generalize i*m+j*k=t at ex;have:t*w=x-s:=Jb
 rcases(Jb:t<=-1\/t=0\/1<=t)with z|z|z
 .have:=FA z (show 0<=w by lia);lia
 .subst z;lia
 .have:=FA z (show 0<=w by lia);lia
def Leaf.o1(l:Leaf):Int:=l.w1*l.a+l.w3*l.b
def Leaf.t0(l:Leaf):Int:=l.w0*l.c+l.w2*l.d
def Leaf.t1(l:Leaf):Int:=l.w1*l.c+l.w3*l.d
def ku(x y:Int):∃g u,Meas x y g u:=by
 obtain⟨p0,p1,q0,hL⟩:=fF y.natAbs 1 x 0 y (E7 _);exact#[p1,p0,sB #[hL.1,hL.2]]
structure Fm(w h s:Int):Prop where
 w0:0<w
 w1:w<=720
 h0:0<h
 h1:h<=720
 s0:0<=s
 sw:s<w
variable{A:Int}
def MetR.high(M:MetR w1 h1 s1 w2 h2 s2 w h s A)(hh:0<h1)(hj:1<=j)(e1:∃i,x=i*w1+j*s1)(e2:∃i k,x=i*w2+k*s2/\j*h1=k*h2):h<=j*h1/\(j*h1=h->0<=x->x<w->x=s):=by
 obtain⟨i,e1⟩:=e1;obtain⟨i',k,e3,e4⟩:=e2;obtain⟨a,b,e5,e6⟩:=M.all x (j*h1) #[i,j,e1,rfl] #[i',k,e3,e4];have hp:0<j*h1:=Fu Jb hh;have hb:1<=b:=by
  rcases(Jb:b<=0\/1<=b)with z|z
  .have:=Gw z (show 0<=h by have:=M.h0;lia);lia
  .exact z
 refine#[?_,λe x0 x1=>?_]
 .have:=FA hb (show 0<=h by have:=M.h0;lia);lia
 .have ob:b=1:=by
   have:b*h=1*h:=by lia
   exact Gj (by have:=M.h0;lia) this
  rw[ob]at e5;have s0:=M.s0;have sw:=M.sw;have:a*w=x-s:=Jb
  rcases(Jb:a<=-1\/a=0\/1<=a)with z|z|z
  .have:=FA z (show 0<=w by lia);lia
  .subst z;lia
  .have:=FA z (show 0<=w by lia);lia
def InF(w h s x y:Int):Prop:=∃i j,x=i*w+j*s/\y=j*h
def FamOf.lat(f:FamOf a b c d w h s)(x y:Int):InF w h s x y↔∃i j,x=i*a+j*c/\y=i*b+j*d:=by
 obtain⟨_,_,_,_,hu⟩:=f;obtain⟨m,n,k,l,_,e1,e2,e3,e4⟩:=id hu;obtain⟨m',n',k',l',_,f1,f2,f3,f4⟩:=hu.inv;constructor
 .rintro⟨i,j,rfl,rfl⟩;refine#[i*m+j*k,i*n+j*l,by rw[e1,e3];grind,?_];have z:i*0+j*h=(i*m+j*k)*b+(i*n+j*l)*d:=by rw[e2,e4];grind
  lia
 .rintro⟨i,j,rfl,rfl⟩;refine#[i*m'+j*k',i*n'+j*l',by rw[f1,f3];grind,by rw[f2,f4];grind]
def MetR.lat(M:MetR w1 h1 s1 w2 h2 s2 w h s A)(x y:Int):InF w h s x y↔InF w1 h1 s1 x y/\InF w2 h2 s2 x y:=by
 constructor
 .rintro⟨i,j,rfl,rfl⟩;obtain⟨a1,e1⟩:=M.in1;obtain⟨a2,e2⟩:=M.in2;obtain⟨b1,c1,e3,e4⟩:=M.up1;obtain⟨b2,c2,e5,e6⟩:=M.up2;refine#[#[i*a1+j*b1,j*c1,?_,?_],#[i*a2+j*b2,j*c2,?_,?_]]
  .rw[e1,e3];grind
  .rw[e4];grind
  .rw[e2,e5];grind
  .rw[e6];grind
 .rintro⟨h1,h2⟩;exact M.all x y h1 h2
variable{w' h' s':Int}
def InF.le(hw:0<w)(hh:0<h)(MF:0<w')(MG:0<h')(sub:∀x y,InF w' h' s' x y->InF w h s x y):w*h<=w'*h'/\w<=w'/\h<=h':=by
 obtain⟨i,j,e1,e2⟩:=sub w' 0 #[1,0,Jb,Jb];have j0:j=0:=by
  rcases GT.mp e2.symm with z|z
  .exact z
  .lia
 subst j0;have i1:1<=i:=by
  rcases(Jb:i<=0\/1<=i)with z|z
  .have:=Gw z (show 0<=w by lia);lia
  .exact z
 obtain⟨i',j',e3,e4⟩:=sub s' h' #[0,1,Jb,Jb];have j1:1<=j':=by
  rcases(Jb:j'<=0\/1<=j')with z|z
  .have:=Gw z (show 0<=h by lia);lia
  .exact z
 have a1:=FA i1 (show 0<=w by lia);have a2:=FA j1 (show 0<=h by lia);have b1:w<=w':=Jb
 have b2:h<=h':=Jb
 exact#[Int.mul_le_mul b1 b2 Jb Jb,b1,b2]
def InF.uniq(hw:0<w)(hh:0<h)(hs:0<=s)(Jh:s<w)(MF:0<w')(MG:0<h')(Lh:0<=s')(PR:s'<w')(e:∀x y,InF w h s x y↔InF w' h' s' x y):w=w'/\h=h'/\s=s':=by
 obtain⟨_,a1,a2⟩:=InF.le hw hh MF MG (λx y q=>(e x y).mpr q);obtain⟨_,b1,b2⟩:=InF.le MF MG hw hh (λx y q=>(e x y).mp q);have ew:w=w':=Jb
 have eh:h=h':=Jb
 subst ew eh;refine#[rfl,rfl,?_];obtain⟨i,j,e1,e2⟩:=(e s h).mp #[0,1,Jb,Jb];have j1:j=1:=by
  have:j*h=1*h:=by lia
  exact Gj Jb this
 subst j1;have:i*w=s-s':=Jb
 rcases(Jb:i<=-1\/i=0\/1<=i)with z|z|z
 .have:=FA z (show 0<=w by lia);lia
 .subst z;lia
 .have:=FA z (show 0<=w by lia);lia
structure Fam0(w h s:Int):Prop where
 w0:0<w
 h0:0<h
 s0:0<=s
 sw:s<w
def AM(f:Fam0 w1 h1 s1)(k:Fam0 w2 h2 s2):∃w h s,Fam0 w h s/\∀x y,InF w h s x y↔InF w1 h1 s1 x y/\InF w2 h2 s2 x y:=by
 obtain⟨g,u,M1⟩:=ku w1 w2;obtain⟨k',u',M2⟩:=ku h1 h2;obtain⟨gg,w9,M3⟩:=ku g (h1*h2/k'/h2*s2-h1*h2/k'/h1*s1);have M:=sC f.w0 k.w0 f.h0 k.h0 M1 M2 M3;exact#[_,_,_,#[M.w0,M.h0,M.s0,M.sw],M.lat]
def Pat.Lat:Pat->Int->Int->Prop
 |.mot _ a b c d,x,y=>∃i j,x=i*a+j*c/\y=i*b+j*d
 |.over p q,x,y=>p.Lat x y/\q.Lat x y
 |.sh _ _ p,x,y=>p.Lat x y
 |.mir p,x,y=>p.Lat (-x) y
 |.tur p,x,y=>p.Lat y (-x)
 |.hue _ _ p,x,y=>p.Lat x y
structure Pat.Fam(p:Pat)(w h s:Int):Prop where
 f:Fam0 w h s
 lat:∀x y,InF w h s x y↔p.Lat x y
def Pat.Fam.uniq(a:p.Fam w h s)(b:p.Fam w' h' s'):w=w'/\h=h'/\s=s':=
 InF.uniq a.f.w0 a.f.h0 a.f.s0 a.f.sw b.f.w0 b.f.h0 b.f.s0 b.f.sw λx y=>(a.lat x y).trans (b.lat x y).symm
def Pat.Fam.mot(k:FamOf a b c d w h s):(Pat.mot L a b c d).Fam w h s:=#[#[k.1,k.2.1,k.2.2.1,k.2.2.2.1],k.lat]
def Pat.Fam.sh(a b:Int)(k:p.Fam w h s):(Pat.sh a b p).Fam w h s:=#[k.f,k.lat]
def Pat.Fam.hue(a b:Int)(k:p.Fam w h s):(Pat.hue a b p).Fam w h s:=#[k.f,k.lat]
def Pat.Fam.mir(k:p.Fam w h s):(Pat.mir p).Fam w h (-s%w):=by
 refine#[#[k.f.w0,k.f.h0,cL k.f.w0,cM k.f.w0],λx y=>?_];show _↔p.Lat (-x) y;rw[<-k.lat];have e:=F8 (-s) w;generalize -s%w=r at e;generalize -s/w=t at e;constructor
 .rintro⟨i,j,rfl,rfl⟩;exact#[j*t-i,j,by rw[e];grind,rfl]
 .rintro⟨i,j,ex,rfl⟩;exact#[j*t-i,j,by rw[e];grind,rfl]
def Pat.Fam.tur(k:p.Fam w h s)(f:FamOf 0 w (-h) s w' h' s'):(Pat.tur p).Fam w' h' s':=by
 refine#[#[f.1,f.2.1,f.2.2.1,f.2.2.2.1],λx y=>?_];show _↔p.Lat y (-x);rw[<-k.lat,f.lat];constructor
 .rintro⟨i,j,rfl,rfl⟩;exact#[i,j,Kf,Kf]
 .rintro⟨i,j,ex,ey⟩;exact#[i,j,Kf,Kf]
def Pat.Fam.over{q:Pat}(k1:p.Fam w1 h1 s1)(k2:q.Fam w2 h2 s2)(M:MetR w1 h1 s1 w2 h2 s2 w h s A):(Pat.over p q).Fam w h s:=by
 refine#[#[M.w0,M.h0,M.s0,M.sw],λx y=>?_];rw[M.lat,k1.lat,k2.lat];exact Iff.rfl
def gK(hw:0<w)(hh:0<h):∃w' h' s',FamOf 0 w (-h) s w' h' s'/\w'*h'=w*h:=by
 have hp:0<w*h:=Fu hw hh;have hn:¬0*s=w* -h:=by rw[FW];lia
 obtain⟨p0,p1,q0,hL⟩:=fF s.natAbs 0 w (-h) s (E7 _);have f:=gJ hn hL;refine#[_,_,_,f,?_];have JH:=Fu f.1 f.2.1;have c:=f.cells;rw[FW]at c;lia
def sQ(hn:¬a*d=b*c):∃w h s,FamOf a b c d w h s/\(Pat.mot L a b c d).Fam w h s:=by
 obtain⟨p0,p1,q0,hL⟩:=fF d.natAbs a b c d (E7 _);have f:=gJ hn hL;exact#[_,_,_,f,.mot f]
def Pat.fam_ex:∀{p:Pat},p.Wf->∃w h s,p.Fam w h s
 |.mot L a b c d,h=>by
  obtain⟨w,k,s,_,f⟩:=sQ (L:=L) h.2.2.2.2.2;exact#[w,k,s,f]
 |.over p q,h=>by
  obtain⟨w1,h1,s1,f1⟩:=Pat.fam_ex h.1;obtain⟨w2,h2,s2,f2⟩:=Pat.fam_ex h.2;obtain⟨w,k,s,f,e⟩:=AM f1.f f2.f;refine#[w,k,s,f,λx y=>?_];rw[e,f1.lat,f2.lat];exact Iff.rfl
 |.sh a b p,h=>by
  obtain⟨w,k,s,f⟩:=Pat.fam_ex h.2.2;exact#[w,k,s,f.sh a b]
 |.mir p,h=>by
  obtain⟨w,k,s,f⟩:=Pat.fam_ex (p:=p) h;exact#[w,k,_,f.mir]
 |.tur p,h=>by
  obtain⟨w,k,s,f⟩:=Pat.fam_ex (p:=p) h;obtain⟨w',k',s',f',_⟩:=gK (s:=s) f.f.w0 f.f.h0;exact#[w',k',s',f.tur f']
 |.hue a b p,h=>by
  obtain⟨w,k,s,f⟩:=Pat.fam_ex h.2.2;exact#[w,k,s,f.hue a b]
def Pat.Fits(p:Pat):Prop:=∃w h s,p.Fam w h s/\w*h<=720
def Pat.fits_mot(ha:B12 a)(hb:B12 b)(hc:B12 c)(hd:B12 d)(hn:¬a*d=b*c):(Pat.mot L a b c d).Fits:=by
 obtain⟨w,h,s,k,f⟩:=sQ (L:=L) hn;refine#[w,h,s,f,?_];have kc:=k.cells;unfold B12 at*;have m1:=bZ (a:=a) (d:=d) (A:=12) (B:=12) Jb Jb;have m2:=bZ (a:=b) (d:=c) (A:=12) (B:=12) Jb Jb;lia
def Pat.Fits.sh(a b:Int)(k:p.Fits):(Pat.sh a b p).Fits:=by
 obtain⟨w,h,s,f,q⟩:=k;exact#[w,h,s,f.sh a b,q]
def Pat.Fits.hue(a b:Int)(k:p.Fits):(Pat.hue a b p).Fits:=by
 obtain⟨w,h,s,f,q⟩:=k;exact#[w,h,s,f.hue a b,q]
def Pat.Fits.mir(k:p.Fits):(Pat.mir p).Fits:=by
 obtain⟨w,h,s,f,q⟩:=k;exact#[w,h,_,f.mir,q]
def Pat.Fits.tur(k:p.Fits):(Pat.tur p).Fits:=by
 obtain⟨w,h,s,f,q⟩:=k;obtain⟨w',k',s',f',e⟩:=gK (s:=s) f.f.w0 f.f.h0;exact#[w',k',s',f.tur f',Jb]
def AN(hL:Rows L)(ha:B12 a)(hb:B12 b)(hc:B12 c)(hd:B12 d):(cU L a b c d).length<=100:=by
 have la:=ca ha;have lb:=ca hb;have lc:=ca hc;have ld:=ca hd;have l1:(";":E_).length=1:=rfl;have l2:(",":E_).length=1:=rfl;have l3:("[":E_).length=1:=rfl;have l4:("]":E_).length=1:=rfl;have ls:=sI hL;have lj:=StrLaws.join_length_le "/" L;have lg:(Txt.join "/" L).length<=72:=by
  have e:Txt.join "/" L=Str.join "/" L:=StrLaws.glued_eq_join _ _;rw[e];exact Fg lj ls
 unfold cU
 repeat rw[aS]
 lia
def Pat.text_len:∀{p:Pat},p.Wf->p.text.length+10<=110*2^p.depth
 |.mot L a b c d,h=>by
  have:=AN h.1 h.2.1 h.2.2.1 h.2.2.2.1 h.2.2.2.2.1;show(cU L a b c d).length+10<=110*2^0;lia
 |.over p q,h=>by
  have h1:=Pat.text_len h.1;have h2:=Pat.text_len h.2;have m1:2^p.depth<=2^(max p.depth q.depth):=Hj Ji (Nat.le_max_left _ _);have m2:2^q.depth<=2^(max p.depth q.depth):=Hj Ji (Nat.le_max_right _ _);have l1:("(":E_).length=1:=rfl;have l2:("|":E_).length=1:=rfl;have l3:(")":E_).length=1:=rfl;rw[Pat.text,Pat.depth,Nat.pow_add]
  repeat rw[aS]
  lia
 |.sh a b p,h=>by
  have h1:=Pat.text_len h.2.2;have la:=ca h.1;have lb:=ca h.2.1;have l1:("s":E_).length=1:=rfl;have l2:(",":E_).length=1:=rfl;have l3:(":":E_).length=1:=rfl;have:0<2^p.depth:=GU Ji;rw[Pat.text,Pat.depth,GV]
  repeat rw[aS]
  lia
 |.mir p,h=>by
  have h1:=Pat.text_len (p:=p) h;have l1:("m":E_).length=1:=rfl;have:0<2^p.depth:=GU Ji;rw[Pat.text,Pat.depth,GV,aS];lia
 |.tur p,h=>by
  have h1:=Pat.text_len (p:=p) h;have l1:("t":E_).length=1:=rfl;have:0<2^p.depth:=GU Ji;rw[Pat.text,Pat.depth,GV,aS];lia
 |.hue f g p,h=>by
  have h1:=Pat.text_len h.2.2;have la:=sP h.1;have lb:=sP h.2.1;have l1:("h":E_).length=1:=rfl;have:0<2^p.depth:=GU Ji;rw[Pat.text,Pat.depth,GV]
  repeat rw[aS]
  lia
def Pat.text_short(h:p.Wf)(hd:p.depth<=5):p.text.length<=3510:=by
 have h1:=Pat.text_len h;have h2:2^p.depth<=2^5:=Hj Ji hd;lia
structure Pat.Ok(p:Pat):Prop where
 wf:p.Wf
 deep:p.depth<=5
 fits:p.Fits
def Wraps.of{H:Prop}{R:My.D->Prop}(h:p.Ok)(hR:∀q:Pat,q.Ok->R q.D):Wraps p H R:=by
 refine#[λ_=>hR p h,λhd=>#[hR _ #[h.wf,?_,h.fits.mir],hR _ #[h.wf,?_,h.fits.tur],λa b ha hb=>hR _ #[#[ha,hb,h.wf],?_,h.fits.sh a b],λ_ f g hf hg=>hR _ #[#[hf,hg,h.wf],?_,h.fits.hue f g]]]<;>(simp only[Pat.depth];lia)
end My
end
section
open PySem PySem.Spec PyProof.Rows L2
namespace My
def AO:TMS:=λ_ _ _=>False
def gL{X:Cx}[Jm]{st:Q0}:MSt X st AO:=⟨ps_never.anti λE s H q=>by
 obtain⟨F0,F,z,M,k,rs,ED,h,e⟩:=q;exact h.elim⟩
end My
end
section
namespace My
open PySem PySem.Spec PyProof.Rows L2
abbrev isSg(c:Nat):Bool:=c==46||(49<=c&&c<=54)
def numL(a:Int):List Nat:=cs (toString a:String)
variable{a:Int}
def sR(h:B12 a){P:Int->Prop}(hP:∀k:Fin 25,P (((k.val:Nat):Int)-12)):P a:=by
 unfold B12 at h;have:=hP #[(a+12).toNat,Jb];have e:(((a+12).toNat:Nat):Int)-12=a:=Jb
 rw[e]at this;exact this
def isNumL(l:List Nat):Prop:=(∃c,(48<=c/\c<=57)/\l=[c])\/(∃c,(48<=c/\c<=50)/\l=[49,c])\/(∃c,(49<=c/\c<=57)/\l=[45,c])\/∃c,(48<=c/\c<=50)/\l=[45,49,c]
def numL_is(h:B12 a):isNumL (numL a):=by
 have key:∀k:Fin 25,(numL (((k.val:Nat):Int)-12))∈([[45,49,50],[45,49,49],[45,49,48],[45,57],[45,56],[45,55],[45,54],[45,53],[45,52],[45,51],[45,50],[45,49],[48],[49],[50],[51],[52],[53],[54],[55],[56],[57],[49,48],[49,49],[49,50]]:List (List Nat)):=Je
 have h1:=sR (P:=λa=>numL a∈([[45,49,50],[45,49,49],[45,49,48],[45,57],[45,56],[45,55],[45,54],[45,53],[45,52],[45,51],[45,50],[45,49],[48],[49],[50],[51],[52],[53],[54],[55],[56],[57],[49,48],[49,49],[49,50]]:List (List Nat))) h key;revert h1;generalize numL a=l;intro h1;unfold isNumL;simp only[Fb,Gy,or_false]at h1;rcases h1 with e|e|e|e|e|e|e|e|e|e|e|e|e|e|e|e|e|e|e|e|e|e|e|e|e<;>subst e
 all_goals first
  |exact .inl ⟨_,Ji,rfl⟩
  |exact .inr (.inl ⟨_,Ji,rfl⟩)
  |exact .inr (.inr (.inl ⟨_,Ji,rfl⟩))
  |exact .inr (.inr (.inr ⟨_,Ji,rfl⟩))
def endS(c:Nat):Prop:=c=44\/c=59\/c=58\/c=93
def rowsL:List (List Nat)->List Nat
 |[]=>[]
 |[x]=>x
 |x::y::r=>x++47::rowsL (y::r)
variable{c:Nat}
def AQ(h:aZ c):isSg c=true:=by
 unfold aZ at h;unfold isSg;rcases h with h|h
 .subst h;rfl
 .have:(decide (49<=c)&&decide (c<=54))=true:=by simp[h]
  rw[this,GO]
def motL(L:List (List Nat))(a b c d:Int):List Nat:=91::(rowsL L++59::(numL a++44::(numL b++59::(numL c++44::(numL d++[93])))))
def Pat.tl:Pat->List Nat
 |.mot L a b c d=>motL (L.map cs) a b c d
 |.over p q=>40::(p.tl++124::(q.tl++[41]))
 |.sh a b p=>115::(numL a++44::(numL b++58::p.tl))
 |.mir p=>109::p.tl
 |.tur p=>116::p.tl
 |.hue f g p=>104::(numL f++(numL g++p.tl))
def sS:∀L:List E_,cs (Str.join "/" L)=rowsL (L.map cs)
 |[]=>rfl
 |[x]=>rfl
 |x::y::L=>by
  show cs (x++"/"++Str.join "/" (y::L))=cs x++47::rowsL ((y::L).map cs);rw[bu,bu,sS (y::L),FX];rfl
def cV:∀p:Pat,cs p.text=p.tl
 |.mot L a b c d=>by
  show cs (cU L a b c d)=motL (L.map cs) a b c d;unfold cU motL;have e:Txt.join "/" L=Str.join "/" L:=StrLaws.glued_eq_join _ _;rw[e]
  repeat rw[bu]
  rw[sS];simp only[FX];rfl
 |.over p q=>by
  rw[Pat.text,Pat.tl]
  repeat rw[bu]
  rw[cV p,cV q];simp only[FX];rfl
 |.sh a b p=>by
  rw[Pat.text,Pat.tl]
  repeat rw[bu]
  rw[cV p];simp only[FX];rfl
 |.mir p=>by
  rw[Pat.text,Pat.tl,bu,cV p];rfl
 |.tur p=>by
  rw[Pat.text,Pat.tl,bu,cV p];rfl
 |.hue f g p=>by
  rw[Pat.text,Pat.tl]
  repeat rw[bu]
  rw[cV p];simp only[FX];rfl
def hueL{f:Int}(h:1<=f/\f<=6):numL f=[(48+f).toNat]:=by
 have key:∀k:Fin 6,numL (((k.val:Nat):Int)+1)=[49+k.val]:=Je
 have:=key #[(f-1).toNat,Jb];have e:(((f-1).toNat:Nat):Int)+1=f:=Jb
 rw[e]at this;rw[this];congr 1;show 49+(f-1).toNat=(48+f).toNat;lia
def rowsT(L:List (List Nat)):List Nat:=L.flatMap λy=>47::y
def sT:∀(x:List Nat) (L:List (List Nat)),rowsL (x::L)=x++rowsT L
 |x,[]=>by simp[rowsL,rowsT]
 |x,y::L=>by
  rw[rowsL,sT y L];simp[rowsT]
def fG{x y:E_}(h:cs x=cs y):x=y:=by
 obtain⟨a⟩:=x;obtain⟨b⟩:=y;have:a=b:=HS.mp h;rw[this]
variable{x:Int}
def numS(h:B12 x):numL x=[48]\/∃pre c y,(pre=[]\/pre=[45])/\(49<=c/\c<=57)/\numL x=pre++c::y/\(y=[]\/(c=49/\∃d,(48<=d/\d<=50)/\y=[d])):=by
 rcases numL_is h with⟨c,hc,e⟩|⟨c,hc,e⟩|⟨c,hc,e⟩|⟨c,hc,e⟩
 .by_cases z:c=48
  .exact .inl (by rw[e,z])
  .exact .inr #[[],c,[],.inl rfl,Jb,e,.inl rfl]
 .exact .inr #[[],49,[c],.inl rfl,Ji,e,.inr #[rfl,c,hc,rfl]]
 .exact .inr #[[45],c,[],.inr rfl,hc,e,.inl rfl]
 .exact .inr #[[45],49,[c],.inr rfl,Ji,e,.inr #[rfl,c,hc,rfl]]
variable{A B:Prop}
def ifT{c:Prop}[Decidable c](h:c)(a:A):if c then A else B:=by rw[if_pos h];exact a
def ifdT{p:Prop}[Decidable p](h:p)(a:A):if decide p=true then A else B:=by rw[if_pos (decide_eq_true h)];exact a
def ifdF{p:Prop}[Decidable p](h:¬p)(b:B):if decide p=true then A else B:=by rw[if_neg (by simpa using h)];exact b
def rdF(t:E_)(k:Nat):List (E_×D):=[("text",.str t),("place",.int k)]
def RdM(a:Addr)(t:E_)(k:Nat):MS:=[(a,.ins "Reading" (rdF t k))]
variable{o:MO}
def dE{a:Addr}:mget [(a,o)] a=be o:=by unfold mget;rw[if_pos rfl]
def gM{a:Addr}{o':MO}:mput [(a,o)] a o'=[(a,o')]:=by unfold mput;rw[if_pos rfl]
variable{t:E_}
def aV{a:Addr}{k:Nat}:mget (RdM a t k) a=be (.ins "Reading" (rdF t k)):=dE
def ky{k:Nat}:(rdF t k).lookup ("text":E_)=be (.str t):=rfl
def eJ{k:Nat}:(rdF t k).lookup ("place":E_)=be (.int k):=by
 unfold rdF;rw[Fq,show(("place":E_)==("text":E_))=false by decide+kernel];rfl
def AR{k:Nat}:putD ("place":E_) (.int ((k:Int)+1)) (rdF t k)=rdF t (k+1):=by
 unfold rdF putD;rw[if_neg Je];unfold putD;rw[if_pos rfl];rfl
def cW{k:Nat}:(rdF t k).lookup ("may_take":E_)=none:=by
 unfold rdF;rw[Fq,show(("may_take":E_)==("text":E_))=false by decide+kernel,Fq,show(("may_take":E_)==("place":E_))=false by decide+kernel];rfl
def cf{k:Nat}:(rdF t k).lookup ("take":E_)=none:=by
 unfold rdF;rw[Fq,show(("take":E_)==("text":E_))=false by decide+kernel,Fq,show(("take":E_)==("place":E_))=false by decide+kernel];rfl
structure At(t:Str)(k:Nat)(l:List Nat):Prop where
 eq:(cs t).drop k=l
 le:k<=t.length
 sz:t.length<=100000
def At.nil{k:Nat}(h:At t k []):k=t.length:=by
 have h1:=congrArg G3 h.eq;rw[F6,bt]at h1;have:=h.le;simp at h1;lia
variable{l:List Nat}
def At.lt{k:Nat}(h:At t k (c::l)):k<t.length:=by
 have h1:=congrArg G3 h.eq;rw[F6,bt]at h1;simp at h1;lia
def At.get{k:Nat}(h:At t k (c::l)):(cs t)[k]?=be c:=by
 have h1:=congrArg (·[0]?) h.eq;simpa using h1
def At.next{k:Nat}(h:At t k (c::l)):At t (k+1) l:=by
 refine#[?_,h.lt,h.sz];have h1:=congrArg (Gu 1) h.eq;rw[List.drop_drop]at h1;simpa using h1
def At.app{t:E_}:∀{x l:List Nat} {k:Nat},At t k (x++l)->At t (k+x.length) l
 |[],_,_,h=>h
 |c::x,l,k,h=>by
  have h1:At t (k+1+x.length) l:=At.app (At.next h);have e:k+1+x.length=k+(c::x).length:=by rw[Fc];lia
  rw[e]at h1;exact h1
variable{al:E_}
def sU:(!(!(Builtin.Str.occurrences al #[[c].toArray] 0 al.length 1).isEmpty))=!decide (c∈cs al):=by
 rw[StrLaws.found_one]
def mayS(al:E_):List Nat->E_|c::_=>if c∈cs al then#[[c].toArray]else ""|[]=>""
def mayN(al:E_):List Nat->Nat|c::_=>if c∈cs al then 1 else 0|[]=>0
def eK(h:c∈cs al):mayS al (c::l)=#[[c].toArray]:=if_pos h
def eL(h:c∈cs al):mayN al (c::l)=1:=if_pos h
def dF(h:c∉cs al):mayS al (c::l)="":=if_neg h
def dG(h:c∉cs al):mayN al (c::l)=0:=if_neg h
def AS:SiD:=λds R=>∃t:E_,ds=[.str t]/\R (rdF t 0)
def AT:SpM:=λds M R RX=>∃(a:Addr) (t:E_) (k:Nat) (l:List Nat) (al:E_),ds=[.ptr a,.str al]/\M=RdM a t k/\At t k l/\R (.str (mayS al l)) (RdM a t (k+mayN al l))
def AU:SpM:=λds M R _=>∃(a:Addr) (t:E_) (k c:Nat) (l:List Nat) (al:E_),ds=[.ptr a,.str al]/\M=RdM a t k/\At t k (c::l)/\c∈cs al/\R (.str #[[c].toArray]) (RdM a t (k+1))
def AV(h:B12 x):PySem.intText? #[(numL x).toArray]=be x:=
 sR (P:=λx=>PySem.intText? #[(numL x).toArray]=be x) h Je
def fH(x y:List Nat):((#[x.toArray]:E_)++#[y.toArray]:E_)=#[(x++y).toArray]:=by
 apply fG;rw[bu]
def digits19:c∈cs "123456789"↔49<=c/\c<=57:=by
 have e:cs "123456789"=[49,50,51,52,53,54,55,56,57]:=rfl;rw[e];simp;lia
def digits02:c∈cs "012"↔48<=c/\c<=50:=by
 have e:cs "012"=[48,49,50]:=rfl;rw[e];simp;lia
def AW(w:List Nat)(c:Nat):Txt.endswith #[(w++[c]).toArray] "1"=decide (c=49):=by
 unfold Txt.endswith;have e1:("1":E_).length=1:=rfl;have e2:(#[(w++[c]).toArray]:E_).length=w.length+1:=by simp[Str.length]
 rw[e1,e2];have e3:decide (0+1<=w.length+1)=true:=J4
 rw[e3,Bool.true_and,Nat.add_sub_cancel];unfold Builtin.Str.subAt;have e4:(#[(w++[c]).toArray]:E_).cps.extract w.length (w.length+("1":E_).length)=[c].toArray:=by
  apply HS.mp;simp[Array.toList_extract,e1]
 rw[e4];have e5:("1":E_).cps=[49].toArray:=rfl;rw[e5];by_cases h:c=49
 .subst h;rfl
 .simp[h]
def AX:SpM:=λds M R _=>∃(a:Addr) (t:E_) (k:Nat) (x:Int) (e:Nat) (l:List Nat),ds=[.ptr a]/\M=RdM a t k/\B12 x/\endS e/\At t k (numL x++e::l)/\R (.int x) (RdM a t (k+(numL x).length))
def AY:SpM:=λds M R _=>∃(a:Addr) (t:E_) (k:Nat) (x y:Int) (e:Nat) (l:List Nat),ds=[.ptr a]/\M=RdM a t k/\B12 x/\B12 y/\endS e/\At t k (numL x++44::(numL y++e::l))/\R (.tup [.int x,.int y]) (RdM a t (k+(numL x).length+1+(numL y).length))
def signs_is:c∈cs ".123456"↔isSg c=true:=by
 have e:cs ".123456"=[46,49,50,51,52,53,54]:=rfl;rw[e];simp;lia
def eN(x:List Nat):(#[x.toArray]:E_).length=x.length:=by simp[Str.length]
def sV(h:isSg c=false):c∉cs ".123456":=λz=>by rw[signs_is.mp z]at h;cases h
def S_line_from:SpM:=λds M R _=>∃(a:Addr) (t:E_) (k n m:Nat) (x l:List Nat),ds=[.ptr a,.int n,.int m]/\M=RdM a t k/\At t k (x++l)/\(∀c∈x,aZ c)/\n<=x.length/\x.length<=m/\m<=8/\(x.length=m\/∃c l',l=c::l'/\isSg c=false)/\R (.str #[x.toArray]) (RdM a t (k+x.length))
def AZ{p a:Addr}{k:Nat}(h:p≠a):mget ((p,o)::RdM a t k) a=be (.ins "Reading" (rdF t k)):=by
 unfold mget;rw[if_neg h];exact dE
variable{M:MS}
def bH{p:Addr}:mget ((p,o)::M) p=be o:=by unfold mget;rw[if_pos rfl]
def kz{p:Addr}{o':MO}:mput ((p,o)::M) p o'=(p,o')::M:=by unfold mput;rw[if_pos rfl]
def kA{p:Addr}:mdel ((p,o)::M) p=M:=by unfold mdel;rw[if_pos rfl]
structure RowsL(L:List (List Nat))(w:Nat):Prop where
 many:1<=L.length/\L.length<=8
 w1:1<=w
 w8:w<=8
 each:∀x∈L,x.length=w/\∀c∈x,aZ c
def lstD(L:List (List Nat)):List D:=L.map λx=>D.str #[x.toArray]
def A1:SpM:=λds M R _=>∃(a:Addr) (t:E_) (k:Nat) (L:List (List Nat)) (w:Nat) (l:List Nat),ds=[.ptr a]/\M=RdM a t k/\RowsL L w/\At t k (rowsL L++59::l)/\R (.lst (lstD L)) (RdM a t (k+(rowsL L).length))
def hmX(w h s:Int)(i j:Int):Int:=(i-j/h*s)%w
def hRow(w h s:Int)(j:Nat):Nat->List Nat->List ((Int×Int)×Int)->List ((Int×Int)×Int)
 |_,[],kv=>kv
 |i,c::r,kv=>hRow w h s j (i+1) r (if c=46 then kv else sdD kv (hmX w h s i j) ((j:Int)%h) ((c:Int)-48))
def hAll(w h s:Int):Nat->List (List Nat)->List ((Int×Int)×Int)->List ((Int×Int)×Int)
 |_,[],kv=>kv
 |j,x::r,kv=>hAll w h s (j+1) r (hRow w h s j 0 x kv)
def sW(kv:List ((Int×Int)×Int))(x y v:Int):(sdD kv x y v).length<=kv.length+1:=by
 unfold sdD;split
 .lia
 .rw[Fp];simp
def A2(h:49<=c/\c<=54):∃i rest,Builtin.Str.occurrences ".123456" #[[c].toArray] 0 (".123456":E_).length 1=i::rest/\((i:Nat):Int)=(c:Int)-48:=by
 rcases(Jb:c=49\/c=50\/c=51\/c=52\/c=53\/c=54)with e|e|e|e|e|e<;>subst e
 .exact#[1,[],Je,Ji]
 .exact#[2,[],Je,Ji]
 .exact#[3,[],Je,Ji]
 .exact#[4,[],Je,Ji]
 .exact#[5,[],Je,Ji]
 .exact#[6,[],Je,Ji]
def A3{x:List Nat}(h:∀c∈x,aZ c):(#[x.toArray]:E_).cps.all (·<128)=true:=by
 rw[<-Hb,FP];intro c hc;have:=h c hc;unfold aZ at this;simp;lia
def A5{L:List (List Nat)}{j:Nat}{d:D}(h:(lstD L)[j]?=be d):∃x,L[j]?=be x/\d=.str #[x.toArray]:=by
 unfold lstD at h;rw[Fo]at h;cases e:L[j]? with
 |none=>rw[e]at h;cases h
 |some x=>rw[e]at h;cases h;exact#[x,rfl,rfl]
variable{i:Nat}
def A6{x:List Nat}{d:D}(h:(bC #[x.toArray])[i]?=be d):∃c,x[i]?=be c/\d=.str #[[c].toArray]:=by
 unfold bC at h;rw[Fo]at h;cases e:x[i]? with
 |none=>simp[e]at h
 |some c=>simp[e]at h;exact#[c,rfl,h.symm]
def sX{α:Type}{l:List α}{x:α}(h:l[i]?=be x):l.drop i=x::l.drop (i+1):=by
 have hi:i<l.length:=(Fk.mp h).1;rw[Gk hi];congr 1;rw[Fy hi]at h;exact Option.some.inj h
def A7:SpM:=λds M R RX=>∃(L:List (List Nat)) (wd:Nat) (w h s:Int),ds=[.lst (lstD L),.tup [.int w,.int h,.int s]]/\RowsL L wd/\0<w/\0<h/\h<1073741824/\0<=s/\s<1073741824/\R (.dti (hAll w h s 0 L [])) M
def moF(k:Nat)(sh:D)(hu:List ((Int×Int)×Int)):List (E_×D):=[("place",.int k),("shifts",sh),("hues",.dti hu)]
def A8:SiD:=λds R=>∃(k:Nat) (L:List (List Nat)) (wd:Nat) (a b c d:Int),ds=[.int k,.lst (lstD L),.tup [.int a,.int b],.tup [.int c,.int d]]/\RowsL L wd/\B12 a/\B12 b/\B12 c/\B12 d/\¬a*d=b*c/\
 ∀w h s,FamOf a b c d w h s->R (moF k (.tup [.int w,.int h,.int s]) (hAll w h s 0 L []))
variable{v:My.D}
def A9:putD ("place":E_) v []=([("place",v)]:List (E_×D)):=rfl
variable{u:My.D}
def Ba:putD ("shifts":E_) v [("place",u)]=([("place",u),("shifts",v)]:List (E_×D)):=by
 unfold putD;rw[if_neg Je];rfl
def Bb{t:D}:putD ("hues":E_) v [("place",t),("shifts",u)]=([("place",t),("shifts",u),("hues",v)]:List (E_×D)):=by
 unfold putD;rw[if_neg Je];unfold putD;rw[if_neg Je];rfl
def sY:([("place",u),("shifts",v)]:List (E_×D)).lookup ("shifts":E_)=be v:=by
 rw[Fq,show(("shifts":E_)==("place":E_))=false by decide+kernel];rfl
def Bc:SiD:=λds R=>∃(x y:E_) (fs gs:List (E_×D)),ds=[.obj x fs,.obj y gs]/\R [("above",.obj x fs),("below",.obj y gs)]
def Bd:SiD:=λds R=>∃(x:E_) (fs:List (E_×D)) (a b:Int),ds=[.obj x fs,.int a,.int b]/\R [("form",.obj x fs),("x",.int a),("y",.int b)]
def Be:SiD:=λds R=>∃(x:E_) (fs:List (E_×D)),ds=[.obj x fs]/\R [("form",.obj x fs)]
def Bf:SiD:=λds R=>∃(x:E_) (fs:List (E_×D)),ds=[.obj x fs]/\R [("form",.obj x fs)]
def Bg:SiD:=λds R=>∃(x:E_) (fs:List (E_×D)) (a b:Int),ds=[.obj x fs,.int a,.int b]/\R [("form",.obj x fs),("old",.int a),("new",.int b)]
def FormOf:Pat->D->Prop
 |.mot L a b c d,v=>∃(k:Nat) (w h s:Int),v=.obj "Motif" (moF k (.tup [.int w,.int h,.int s]) (hAll w h s 0 (L.map cs) []))/\FamOf a b c d w h s
 |.over p q,v=>∃u u',v=.obj "Over" [("above",u),("below",u')]/\FormOf p u/\FormOf q u'
 |.sh a b p,v=>∃u,v=.obj "Shifted" [("form",u),("x",.int a),("y",.int b)]/\FormOf p u
 |.mir p,v=>∃u,v=.obj "Mirror" [("form",u)]/\FormOf p u
 |.tur p,v=>∃u,v=.obj "Turn" [("form",u)]/\FormOf p u
 |.hue f g p,v=>∃u,v=.obj "Rehue" [("form",u),("old",.int f),("new",.int g)]/\FormOf p u
def Pat.cls:Pat->E_
 |.mot ..=>"Motif"|.over ..=>"Over"|.sh ..=>"Shifted"|.mir ..=>"Mirror"|.tur ..=>"Turn"|.hue ..=>"Rehue"
variable{f g:E_}{r:List (E_×My.D)}
def bI(h:(f==g)=false)(hr:r.lookup f=z8):(((g,v)::r:List (E_×D))).lookup f=none:=by
 rw[Fq,h];exact hr
structure ObjM(p:Pat)(fs:List (Str×D)):Prop where
 nl:noLF fs=true
 fam:fs.lookup ("family":E_)=z8
 shw:fs.lookup ("shows":E_)=z8
variable{p:Pat}
def FormOf.objm:∀{v:D},FormOf p v->∃fs,v=.obj p.cls fs/\ObjM p fs:=by
 have n1 {g:E_} {u:D} {f:E_} (h:(f==g)=false):([(g,u)]:List (E_×D)).lookup f=none:=bI h rfl;have nn {fs:List (E_×D)} {x:E_} (h:noLF fs=true):noL (.obj x fs)=true:=by simp[noL,h]
 induction p with
 |mot L a b c d=>
  rintro _⟨k,w,h,s,rfl,_⟩;exact#[_,rfl,by simp[noL,noLF,noLs,moF],bI Je (bI Je (n1 Je)),bI Je (bI Je (n1 Je))]
 |over p q i j=>
  rintro _⟨u,u',rfl,h1,h2⟩;obtain⟨fs,rfl,o1⟩:=i h1;obtain⟨gs,rfl,o2⟩:=j h2;exact#[_,rfl,by simp[noLF,nn o1.nl,nn o2.nl],bI Je (n1 Je),bI Je (n1 Je)]
 |sh a b p i=>
  rintro _⟨u,rfl,h1⟩;obtain⟨fs,rfl,o1⟩:=i h1;exact#[_,rfl,by simp[noL,noLF,o1.nl],bI Je (bI Je (n1 Je)),bI Je (bI Je (n1 Je))]
 |mir p i=>
  rintro _⟨u,rfl,h1⟩;obtain⟨fs,rfl,o1⟩:=i h1;exact#[_,rfl,by simp[noLF,nn o1.nl],n1 Je,n1 Je]
 |tur p i=>
  rintro _⟨u,rfl,h1⟩;obtain⟨fs,rfl,o1⟩:=i h1;exact#[_,rfl,by simp[noLF,nn o1.nl],n1 Je,n1 Je]
 |hue f g p i=>
  rintro _⟨u,rfl,h1⟩;obtain⟨fs,rfl,o1⟩:=i h1;exact#[_,rfl,by simp[noL,noLF,o1.nl],bI Je (bI Je (n1 Je)),bI Je (bI Je (n1 Je))]
variable{L:List E_}
def Bh(h:Rows L):∃w,RowsL (L.map cs) w:=by
 obtain⟨h1,w,h2,h3⟩:=h;refine#[w,by rw[Fs];exact h1,h2.1,h2.2,λx hx=>?_];obtain⟨l,hl,rfl⟩:=FF.mp hx;rw[bt];exact h3 l hl
def sZ{f:Int}(h:1<=f/\f<=6):(48+f).toNat∈cs "123456":=by
 have e:cs "123456"=[49,50,51,52,53,54]:=rfl;rw[e];simp;lia
def Bi:SpM:=λds M R _=>∃(g:Addr) (t:E_) (k:Nat) (L:List E_) (a b c d:Int) (l:List Nat),ds=[.ptr g]/\M=RdM g t k/\At t k (motL (L.map cs) a b c d++l)/\(Pat.mot L a b c d).Wf/\∀v,FormOf (.mot L a b c d) v->R v (RdM g t (k+(motL (L.map cs) a b c d).length))
def cX(j:Nat):SpM:=λds M R _=>∃(a:Addr) (t:E_) (k:Nat) (p:Pat) (l:List Nat) (d:Nat),ds=[.ptr a,.int d]/\M=RdM a t k/\At t k (p.tl++l)/\d+j=6/\1<=j/\p.Wf/\p.depth+d<=5/\∀v,FormOf p v->R v (RdM a t (k+p.tl.length))
variable{ds:List My.D}{R:My.D->MS->Prop}{RX:XDM}
def Bj:¬cX 0 ds M R RX:=by
 rintro⟨_,_,_,_,_,_,_,_,_,_,h,_⟩;exact absurd h Ji
def tf(j:Nat):SpM:=λds M R _=>∃(a:Addr) (t:E_) (k:Nat) (p q:Pat) (l:List Nat) (d:Nat),ds=[.ptr a,.int d]/\M=RdM a t k/\At t k (p.tl++124::(q.tl++41::l))/\d+j=6/\1<=j/\p.Wf/\q.Wf/\p.depth+d<=5/\q.depth+d<=5/\∀u u',FormOf p u->FormOf q u'->R (.obj "Over" [("above",u),("below",u')]) (RdM a t (k+p.tl.length+1+q.tl.length+1))
def tm(j:Nat):SpM:=λds M R _=>∃(a:Addr) (t:E_) (k:Nat) (x y:Int) (p:Pat) (l:List Nat) (d:Nat),ds=[.ptr a,.int d]/\M=RdM a t k/\At t k (numL x++44::(numL y++58::(p.tl++l)))/\d+j=6/\1<=j/\B12 x/\B12 y/\p.Wf/\p.depth+d<=5/\∀u,FormOf p u->R (.obj "Shifted" [("form",u),("x",.int x),("y",.int y)]) (RdM a t (k+(numL x).length+1+(numL y).length+1+p.tl.length))
def tw(j:Nat):SpM:=λds M R _=>∃(a:Addr) (t:E_) (k:Nat) (f g:Int) (p:Pat) (l:List Nat) (d:Nat),ds=[.ptr a,.int d]/\M=RdM a t k/\At t k ((48+f).toNat::(48+g).toNat::(p.tl++l))/\d+j=6/\1<=j/\(1<=f/\f<=6)/\(1<=g/\g<=6)/\p.Wf/\p.depth+d<=5/\∀u,FormOf p u->R (.obj "Rehue" [("form",u),("old",.int f),("new",.int g)]) (RdM a t (k+2+p.tl.length))
def Pat.cls_mem(p:Pat):p.cls∈(["Motif","Over","Shifted","Mirror","Turn","Rehue"]:List E_):=by
 cases p<;>simp[Pat.cls]
variable{hu:List ((Int×Int)×Int)}
def mo_shifts{k:Nat}{sh:D}:(moF k sh hu).lookup ("shifts":E_)=be sh:=by
 unfold moF;rw[Fq,show(("shifts":E_)==("place":E_))=false by decide+kernel];rfl
def Bk{k:Nat}{sh:D}:(moF k sh hu).lookup ("hues":E_)=be (.dti hu):=by
 unfold moF;rw[Fq,show(("hues":E_)==("place":E_))=false by decide+kernel,Fq,show(("hues":E_)==("shifts":E_))=false by decide+kernel];rfl
def eO(h:(g==f)=false):(((f,u)::(g,v)::r:List (E_×D))).lookup g=be v:=by
 rw[Fq,h,Fq,beq_self_eq_true]
def kB{e:E_}{t:D}(h1:(g==e)=false)(h2:(g==f)=false):(((e,t)::(f,u)::(g,v)::r:List (E_×D))).lookup g=be v:=by
 rw[Fq,h1];exact eO h2
variable{w s:Int}
def Pat.Fits.small(h:p.Fits){k:Int}(f:p.Fam w k s):0<w/\w<=720/\0<k/\k<=720/\0<=s/\s<w:=by
 obtain⟨w',k',s',f',hb⟩:=h;obtain⟨rfl,rfl,rfl⟩:=f.uniq f';obtain⟨h1,h2⟩:=fD f.f.w0 f.f.h0;exact#[f.f.w0,Jb,f.f.h0,Jb,f.f.s0,f.f.sw]
variable{q:Pat}
def Pat.Fits.over_parts(hp:p.Wf)(hq:q.Wf)(h:(Pat.over p q).Fits):p.Fits/\q.Fits:=by
 obtain⟨w,k,s,f,hb⟩:=h;obtain⟨w1,k1,s1,f1⟩:=Pat.fam_ex hp;obtain⟨w2,k2,s2,f2⟩:=Pat.fam_ex hq;have l1:=(InF.le f1.f.w0 f1.f.h0 f.f.w0 f.f.h0 (λx y z=>(f1.lat x y).mpr ((f.lat x y).mp z).1)).1;have l2:=(InF.le f2.f.w0 f2.f.h0 f.f.w0 f.f.h0 (λx y z=>(f2.lat x y).mpr ((f.lat x y).mp z).2)).1;exact#[#[w1,k1,s1,f1,Jb],#[w2,k2,s2,f2,Jb]]
variable{b:Int}
def Pat.Fits.of_sh(h:(Pat.sh a b p).Fits):p.Fits:=by
 obtain⟨w,k,s,f,hb⟩:=h;exact#[w,k,s,#[f.f,f.lat],hb]
def Pat.Fits.of_hue(h:(Pat.hue a b p).Fits):p.Fits:=by
 obtain⟨w,k,s,f,hb⟩:=h;exact#[w,k,s,#[f.f,f.lat],hb]
def Pat.Fits.of_mir(hp:p.Wf)(h:(Pat.mir p).Fits):p.Fits:=by
 obtain⟨w,k,s,f,hb⟩:=h;obtain⟨w1,k1,s1,f1⟩:=Pat.fam_ex hp;obtain⟨rfl,rfl,_⟩:=f.uniq f1.mir;exact#[_,_,_,f1,hb]
def Pat.Fits.of_tur(hp:p.Wf)(h:(Pat.tur p).Fits):p.Fits:=by
 obtain⟨w,k,s,f,hb⟩:=h;obtain⟨w1,k1,s1,f1⟩:=Pat.fam_ex hp;obtain⟨w',k',s',f',e⟩:=gK (s:=s1) f1.f.w0 f1.f.h0;obtain⟨rfl,rfl,_⟩:=f.uniq (f1.tur f');exact#[_,_,_,f1,Jb]
def bO(j:Nat)(x:E_):SpX:=λds R _=>∃(p:Pat) (v:D),ds=[v]/\FormOf p v/\p.Wf/\p.depth<j/\p.cls=x/\p.Fits/\∀w h s,p.Fam w h s->R (.tup [.int w,.int h,.int s])
def eQ{x:E_}:¬ofX (bO 0 x) ds M R RX:=by
 rintro⟨_,_,_,_,_,h,_⟩;exact absurd h (GS _)
def lookD_app(x y v X Y:Int):∀kv:List ((Int×Int)×Int),lookD (kv++[((x,y),v)]) X Y=match lookD kv X Y with|some u=>be u|none=>if x=X/\y=Y then be v else z8
 |[]=>rfl
 |((a,b),h)::r=>by
  show lookD (((a,b),h)::(r++[((x,y),v)])) X Y=_;unfold lookD;by_cases e:a=X/\b=Y
  .rw[if_pos e,if_pos e]
  .rw[if_neg e,if_neg e];exact lookD_app x y v X Y r
def Bl(kv:List ((Int×Int)×Int))(x y v X Y:Int):lookD (sdD kv x y v) X Y=match lookD kv X Y with|some u=>be u|none=>if x=X/\y=Y then be v else none:=by
 unfold sdD;split
 .rename_i hs;cases e:lookD kv X Y with
  |some u=>rfl
  |none=>
   show z8=_;rw[if_neg];rintro⟨rfl,rfl⟩;rw[e]at hs;cases hs
 .exact lookD_app x y v X Y kv
def look_row(w h s:Int)(j:Nat)(X Y:Int):∀(x:List Nat) (i:Nat) (kv:List ((Int×Int)×Int)),lookD (hRow w h s j i x kv) X Y=match lookD kv X Y with|some u=>be u|none=>(scanRow (λi=>decide (hmX w h s i j=X/\(j:Int)%h=Y)) i x).map λc=>(c:Int)-48
 |[],i,kv=>by
  rw[hRow,scanRow];cases lookD kv X Y<;>rfl
 |c::r,i,kv=>by
  rw[hRow,look_row w h s j X Y r (i+1),scanRow];by_cases t8:c=46
  .rw[if_pos t8,if_neg (c:=c≠46/\_) (λz=>z.1 t8)]
  .rw[if_neg t8,Bl];cases lookD kv X Y with
   |some u=>rfl
   |none=>
    by_cases e:hmX w h s i j=X/\(j:Int)%h=Y
    .rw[if_pos (c:=c≠46/\_) #[t8,decide_eq_true e]];show(match (if hmX w h s i j=X/\(j:Int)%h=Y then be ((c:Int)-48)else z8)with|some u=>be u|none=>_)=_;rw[if_pos e];rfl
    .rw[if_neg (c:=c≠46/\_) (λz=>e (of_decide_eq_true z.2))];show(match (if hmX w h s i j=X/\(j:Int)%h=Y then be ((c:Int)-48)else z8)with|some u=>be u|none=>_)=_;rw[if_neg e]
def tz(w h s X Y:Int):∀(L:List E_) (j:Nat) (kv:List ((Int×Int)×Int)),lookD (hAll w h s j (L.map cs) kv) X Y=match lookD kv X Y with|some u=>be u|none=>(bG (λi j=>decide (hmX w h s i j=X/\j%h=Y)) j L).map λc=>(c:Int)-48
 |[],j,kv=>by
  rw[GM,hAll,bG];cases lookD kv X Y<;>rfl
 |x::r,j,kv=>by
  rw[Ft,hAll,tz w h s X Y r (j+1),look_row,bG];cases lookD kv X Y with
  |some u=>rfl
  |none=>
   show(match (scanRow (λi=>decide (hmX w h s i j=X/\(j:Int)%h=Y)) 0 (cs x)).map (λc=>(c:Int)-48)with|some u=>be u|none=>_)=_;cases scanRow (λi=>decide (hmX w h s i j=X/\(j:Int)%h=Y)) 0 (cs x)<;>rfl
variable{h:Int}
def Bm{c d:Int}(F:FamOf a b c d w h s)(hn:¬a*d=b*c)(x y i j:Int):decide (hmX w h s i j=hmX w h s x y/\j%h=y%h)=onB a b c d (x-i) (y-j):=by
 have hw:=F.1;have hh:=F.2.1;have key:(hmX w h s i j=hmX w h s x y/\j%h=y%h)↔InF w h s (x-i) (y-j):=by
  unfold hmX;constructor
  .rintro⟨e1,e2⟩;have dy:=GW y h;have dj:=GW j h;have m1:=GW (x-y/h*s) w;have m2:=GW (i-j/h*s) w;refine#[(x-y/h*s)/w-(i-j/h*s)/w,y/h-j/h,?_,?_]
   .rw[GX,GX,FK ((x-y/h*s)/w) w,FK ((i-j/h*s)/w) w];lia
   .rw[GX,FK (y/h) h,FK (j/h) h];lia
  .rintro⟨m,q,ex,ey⟩;have PU:y=j+q*h:=by lia
   have NP:x=i+(m*w+q*s):=Jb
   subst NP PU;rw[HU,HV _ _ Jb];refine#[?_,rfl];have e:i+(m*w+q*s)-(j/h+q)*s=i-j/h*s+m*w:=by rw[GY];lia
   rw[e,HU]
 unfold onB;congr 1;apply propext;rw[key,F.lat];constructor
 .rintro⟨m,q,eu,ev⟩;exact Aa eu ev
 .exact λz=>AL hn z
def Bn(h:49<=c/\c<=54):cell [0,1,2,3,4,5,6] ((c:Int)-48)=(c:Int)-48:=by
 rcases(Jb:c=49\/c=50\/c=51\/c=52\/c=53\/c=54)with e|e|e|e|e|e<;>subst e<;>rfl
def motif_shows{c d:Int}(hL:Rows L)(F:FamOf a b c d w h s)(hn:¬a*d=b*c)(x y:Int):(lookD (hAll w h s 0 (L.map cs) []) (hmX w h s x y) (y%h)).getD 0=(cq L a b c d).shows x y:=by
 rw[tz];show((bG (λi j=>decide (hmX w h s i j=hmX w h s x y/\j%h=y%h)) 0 L).map λc=>(c:Int)-48).getD 0=_;have e:(λi j=>decide (hmX w h s i j=hmX w h s x y/\j%h=y%h))=λi j=>onB a b c d (1*x+0*y+0-i) (0*x+1*y+0-j):=by
  funext i j;rw[Bm F hn];congr 1<;>lia
 rw[e];show _=match bG (λi j=>onB a b c d (1*x+0*y+0-i) (0*x+1*y+0-j)) 0 L with|some c=>cell [0,1,2,3,4,5,6] ((c:Int)-48)|none=>0
 cases q:bG (λi j=>onB a b c d (1*x+0*y+0-i) (0*x+1*y+0-j)) 0 L with
 |none=>rfl
 |some c=>
  have hc:49<=c/\c<=54:=kt (λl' q=>let ⟨_,_,_,h⟩:=hL;(h l' q).2) q;exact(Bn hc).symm
def bP(j:Nat)(x:E_):SpX:=λds R _=>∃(p:Pat) (v:D) (X Y:Int),ds=[v,.int X,.int Y]/\FormOf p v/\p.Wf/\p.depth<j/\p.cls=x/\R (.int (p.show X Y))
def eU{x:E_}:¬ofX (bP 0 x) ds M R RX:=by
 rintro⟨_,_,_,_,_,_,_,h,_⟩;exact absurd h (GS _)
structure PatOf(p:Pat)(w h s:Int)(fs:List (Str×D)):Prop extends Pat.Fam p w h s where
 form:∃v,fs.lookup ("form":E_)=be v/\FormOf p v
 nl:noLF fs=true
def bf(p:Pat)(d:D):Prop:=∃w h s fs,d=.obj "Pattern" fs/\fs.lookup ("text":E_)=be (.str p.text)/\fs.lookup ("shifts":E_)=be (.tup [.int w,.int h,.int s])/\PatOf p w h s fs
def aX(x:Int):Prop:=-1000000000000<=x/\x<=1000000000000
def Pat.show_le(h:p.Wf)(hd:p.depth<=40)(x y:Int):0<=p.show x y/\p.show x y<=6:=by
 rw[<-Pat.show_leaves h hd];exact sJ x y (Pat.leaf_ok h hd)
def aY(h:Int):Nat:=if h=0 then 46 else(48+h).toNat
def aG(p:Pat)(x y:Int)(n:Nat):Str:=#[((E8 n).map λ(k:Nat)=>aY (p.show (x+(k:Int)) y)).toArray]
def gN(p:Pat)(x y:Int)(n:Nat):(aG p x y n).length=n:=by simp[aG,Str.length]
def tD(h0:0<=h)(h6:h<=6):atI (cs ".123456") h=be (aY h):=by
 rcases(Jb:h=0\/h=1\/h=2\/h=3\/h=4\/h=5\/h=6)with e|e|e|e|e|e|e<;>subst e<;>decide+kernel
def range2_int{i j:Int}{k:Nat}{x:D}(h:((E8 (j-i).toNat).map λk=>D.int (i+((k:Nat):Int)))[k]?=be x):k<(j-i).toNat/\x=.int (i+(k:Int)):=by
 have hk:k<(j-i).toNat:=by simpa using(Fk.mp h).1
 refine#[hk,?_];simp[hk]at h;exact h.symm
def tE:∀L:List E_,cs (Str.join "" L)=L.flatMap cs
 |[]=>rfl
 |[x]=>by simp[Str.join]
 |x::y::r=>by
  show cs (x++""++Str.join "" (y::r))=_;rw[bu,bu,tE (y::r),sG];simp
def Bo(f:Nat->Nat)(n:Nat):Str.join "" ((E8 n).map λi=>(#[[f i].toArray]:E_))=#[((E8 n).map f).toArray]:=by
 apply fG;rw[tE,List.flatMap_map];show(E8 n).flatMap (λi=>[f i])=(E8 n).map f;rw[List.map_eq_flatMap]
def Bp:SiD:=λds R=>∃(t:E_) (w h s:Int) (x:E_) (fs:List (E_×D)),ds=[.str t,.tup [.int w,.int h,.int s],.obj x fs]/\R [("text",.str t),("shifts",.tup [.int w,.int h,.int s]),("form",.obj x fs)]
def S_read:SpX:=λds R _=>∃p:Pat,ds=[.str p.text]/\p.Ok/\∀d,bf p d->R d
def S_read.mono{R R':D->Prop}{RX RX':XD}(h:S_read ds R RX)(hR:∀d,R d->R' d):S_read ds R' RX':=by
 obtain⟨p,e,ok,h⟩:=h;exact#[p,e,ok,λd i=>hR d (h d i)]
def tF{R:D->Prop}{RX:XD}(ok:p.Ok)(h:∀d,bf p d->R d):S_read [.str p.text] R RX:=#[p,rfl,ok,h]
def Bq:SpX:=λds R RX=>∃x y:Int,ds=[.int x,.int y]/\(aX x/\aX y->R .non)/\(¬(aX x/\aX y)->RX "TooFar" [])
def Br:SpX:=λds R RX=>∃(p:Pat) (d:D) (x y:Int),ds=[d,.int x,.int y]/\bf p d/\p.Ok/\(aX x/\aX y->R (.int (p.show x y)))/\(¬(aX x/\aX y)->RX "TooFar" [])
def Bs:SpD:=λds R=>∃(p:Pat) (d:D) (x y:Int) (n:Nat),ds=[d,.int x,.int y,.int n]/\bf p d/\p.Ok/\n<=1000/\aX x/\aX (x+n-1)/\aX y/\R (.str (aG p x y n))
def rowD(p:Pat)(x y:Int)(n:Nat):List D:=(E8 n).map λ(i:Nat)=>D.str #[[aY (p.show (x+(i:Int)) y)].toArray]
def tG(p:Pat)(x y:Int)(k:Nat):rowD p x y k++[D.str #[[aY (p.show (x+(k:Int)) y)].toArray]]=rowD p x y (k+1):=by
 unfold rowD;rw[Gr,FG];rfl
variable{n:Nat}
def tH(p:Pat)(x y:Int)(hn:n<=1000):∃ys,cK (rowD p x y n)=be ys/\(ys.map (·.length)).sum+ys.length*("":E_).length<=1000000/\Txt.join "" ys=aG p x y n:=by
 have e1:rowD p x y n=((E8 n).map λ(i:Nat)=>(#[[aY (p.show (x+(i:Int)) y)].toArray]:E_)).map D.str:=by unfold rowD;rw[Gx];rfl
 rw[e1];refine#[_,kr _,?_,(StrLaws.glued_eq_join _ _).trans (Bo (λi=>aY (p.show (x+(i:Int)) y)) n)];rw[sH (w:=1) (λl hl=>by obtain⟨i,_,rfl⟩:=FF.mp hl;rfl),Fs,Hk,show("":E_).length=0 from rfl];lia
def Bt{n:Int}:x.fmod n=0↔n∣x:=#[Int.dvd_of_fmod_eq_zero,Hf]
def Bu(a b c d u v i j:Int):onB a b c d (u+(i*a+j*c)) (v+(i*b+j*d))=onB a b c d u v:=by
 unfold onB;have e1:(u+(i*a+j*c))*d-(v+(i*b+j*d))*c=(u*d-v*c)+(a*d-b*c)*i:=Kf
 have e2:a*(v+(i*b+j*d))-b*(u+(i*a+j*c))=(a*v-b*u)+(a*d-b*c)*j:=Kf
 rw[e1,e2];simp only[Bt];have h1:(a*d-b*c∣u*d-v*c+(a*d-b*c)*i)↔a*d-b*c∣u*d-v*c:=HW (HX _ _);have h2:(a*d-b*c∣a*v-b*u+(a*d-b*c)*j)↔a*d-b*c∣a*v-b*u:=HW (HX _ _);simp only[h1,h2]
def Pat.Keeps(p:Pat)(X Y:Int):Prop:=∀x y,p.show (x+X) (y+Y)=p.show x y
def Pat.lat_keeps:∀{p:Pat} {X Y:Int},p.Lat X Y->p.Keeps X Y
 | .mot L a b c d,_,_,⟨i,j,rfl,rfl⟩,x,y=>by
  have e:∀u v:Int,onB a b c d (1*(x+(i*a+j*c))+0*(y+(i*b+j*d))+0-u) (0*(x+(i*a+j*c))+1*(y+(i*b+j*d))+0-v)=onB a b c d (1*x+0*y+0-u) (0*x+1*y+0-v):=λu v=>by
   rw[<-Bu a b c d (1*x+0*y+0-u) (0*x+1*y+0-v) i j];congr 1<;>lia
  show Leaf.shows _ _ _=Leaf.shows _ _ _;unfold Leaf.shows Leaf.hit;simp only[cq,e]
 |.over p q,X,Y,h,x,y=>by
  simp only[Pat.show];rw[Pat.lat_keeps h.1 x y,Pat.lat_keeps h.2 x y]
 |.sh a b p,X,Y,h,x,y=>by
  have:=Pat.lat_keeps (p:=p) h (x-a) (y-b);simp only[Pat.show];rw[<-this];congr 1<;>lia
 |.mir p,X,Y,h,x,y=>by
  have:=Pat.lat_keeps (p:=p) h (-x) y;simp only[Pat.show];rw[<-this];congr 1;lia
 |.tur p,X,Y,h,x,y=>by
  have:=Pat.lat_keeps (p:=p) h y (-x);simp only[Pat.show];rw[<-this];congr 1;lia
 |.hue f g p,X,Y,h,x,y=>by
  simp only[Pat.show];rw[Pat.lat_keeps (p:=p) h x y]
namespace Pat.Keeps
variable {p:Pat}{X Y U V:Int}
def zero:p.Keeps 0 0:=λx y=>by rw[FS,FS]
def add(h:p.Keeps X Y)(k:p.Keeps U V):p.Keeps (X+U) (Y+V):=λx y=>by
 rw[<-Gz,<-Gz,k,h]
def neg(h:p.Keeps X Y):p.Keeps (-X) (-Y):=λx y=>by
 have:=h (x+-X) (y+-Y);rw[<-this];congr 1<;>lia
def sub(h:p.Keeps X Y)(k:p.Keeps U V):p.Keeps (X-U) (Y-V):=by
 have:=h.add k.neg;rwa [<-HY,<-HY]at this
def nat(h:p.Keeps X Y):∀n:Nat,p.Keeps ((n:Int)*X) ((n:Int)*Y)
 |0=>by simpa using zero
 |n+1=>by
  have:=(nat h n).add h;have e:∀z:Int,((n+1:Nat):Int)*z=(n:Int)*z+z:=λz=>by rw[Gm,GY];simp
  rw[e,e];exact this
def mul(h:p.Keeps X Y)(n:Int):p.Keeps (n*X) (n*Y):=by
 rcases HK 0 n with q|q
 .have:=h.nat n.toNat;rwa [FC q]at this
 .have:=(h.nat (-n).toNat).neg;rw[FC Jb]at this;simpa[F9]using this
end Pat.Keeps
variable{y:Int}
def InF.keeps(a:p.Keeps w 0)(b:p.Keeps s h)(q:InF w h s x y):p.Keeps x y:=by
 obtain⟨i,j,rfl,rfl⟩:=q;have:=(a.mul i).add (b.mul j);rwa [HZ,Gn]at this
def InF.one(w h s:Int):InF w h s w 0:=#[1,0,Jb,Jb]
def InF.two(w h s:Int):InF w h s s h:=#[0,1,Jb,Jb]
def Pat.Fam.keeps(f:p.Fam w h s)(q:InF w h s x y):p.Keeps x y:=Pat.lat_keeps ((f.lat x y).mp q)
structure Pat.Kfam(p:Pat)(w h s:Int):Prop where
 f:Fam0 w h s
 keeps:∀{x y},InF w h s x y->p.Keeps x y
def Pat.Fam.k(F:p.Fam w h s):p.Kfam w h s:=#[F.f,F.keeps]
structure Pat.Least(p:Pat)(w h s:Int):Prop where
 f:Fam0 w h s
 lat:∀x y,InF w h s x y↔p.Keeps x y
def Bv(hw:0<w)(hh:0<h)(x y:Int):InF w h s (x-hmX w h s x y) (y-y%h):=by
 have e1:=F8 y h;have e2:=F8 (x-y/h*s) w;refine#[(x-y/h*s)/w,y/h,?_,by rw[e1,FK];lia];unfold hmX;rw[e2,FK w];lia
def Pat.show_home(hw:0<w)(hh:0<h)(k:∀x y,InF w h s x y->p.Keeps x y)(x y:Int):p.show (hmX w h s x y) (y%h)=p.show x y:=by
 have:=k _ _ (Bv (s:=s) hw hh x y) (hmX w h s x y) (y%h);rw[<-this];congr 1<;>lia
def Bw(f:Nat->Nat){w:Nat}(h:c<w):((E8 w).map f).drop c++((E8 w).map f).take c=(E8 w).map λk=>f ((c+k)%w):=by
 apply Ge;intro i;by_cases h1:i<w-c
 .rw[FO (by simp;exact h1),H8,Fo,Fo,FT Jb,FT Jb];simp[H9 (show c+i<w by lia)]
 .rw[F5 Qv];simp only[F6,Fs,Hk];by_cases h2:i<w
  .rw[G5 Jb,Fo,Fo,FT Jb,FT Jb];have e:(c+i)%w=i-(w-c):=by
    rw[show c+i=(i-(w-c))+w by lia,Nat.add_mod_right,H9 Jb]
   simp[e]
  .rw[FR Qv,FR Qv]
def fJ(l:List Nat):cs (#[l.toArray]:E_)=l:=J4
def By{c:Int}(ht:cs t=l)(c0:0<=c)(cl:c<l.length):Txt.slice t (be c) z8++Txt.slice t z8 (be c)=(#[(l.drop c.toNat++l.take c.toNat).toArray]:E_):=by
 have hl:t.length=l.length:=by rw[<-ht,bt]
 apply fG;rw[bu,slice_cps,slice_cps,fJ,fJ,fJ,show t.cps.toList=l from ht,hl];have e1:HT.sIx l.length 0 (be c)=c.toNat:=by show(if c<0 then _ else min c.toNat l.length)=_;rw[if_neg Jb];lia
 have e2:HT.sIx l.length l.length z8=l.length:=rfl;have e3:HT.sIx l.length 0 z8=0:=rfl;have e4:HT.sIx l.length l.length (be c)=c.toNat:=by show(if c<0 then _ else min c.toNat l.length)=_;rw[if_neg Jb];lia
 rw[e1,e2,e3,e4,Hl,Gf J4];rfl
def cY(p:Pat)(x y:Int)(n:Nat):cs (aG p x y n)=(E8 n).map λ(k:Nat)=>aY (p.show (x+(k:Int)) y):=fJ _
def Bz(hw:0<w)(hh:0<h)(k:∀x y,InF w h s x y->p.Keeps x y)(x y:Int):
  Txt.slice (aG p 0 (y%h) w.toNat) (be (hmX w h s x y)) z8++Txt.slice (aG p 0 (y%h) w.toNat) z8 (be (hmX w h s x y))=aG p x y w.toNat:=by
 have c0:0<=hmX w h s x y:=Gh _ Jb;have c1:hmX w h s x y<w:=Gi _ hw;rw[By (cY p 0 (y%h) w.toNat) c0 Qv,Bw _ Jb];unfold aG;congr 2;apply Gs;intro i _;have e:=Pat.show_home hw hh k (x+(i:Int)) y;rw[<-e];congr 2;have q:hmX w h s (x+(i:Int)) y=(hmX w h s x y+i)%w:=by
  unfold hmX;rw[Int.emod_add_emod];congr 1;lia
 rw[q,Gn,Ia,Gm,FC c0,FC Jb]
def fK(p:Pat)(w h:Int):D:=.lst ((E8 h.toNat).map λ(y:Nat)=>D.str (aG p 0 (y:Int) w.toNat))
def BA:SpD:=λds R=>∃(p:Pat) (d:D),ds=[d]/\bf p d/\p.Ok/\∀w h s,p.Fam w h s->w*h<=720->w<=720->h<=720->R (fK p w h)
def BB:SpD:=λds R=>∃(p:Pat) (w h s x y:Int),ds=[.tup [.int w,.int h,.int s],fK p w h,.int x,.int y]/\p.Fam w h s/\w<=720/\h<=720/\R (.str (aG p x y w.toNat))
def BC(a0:0<=a)(a6:a<=6)(b0:0<=b)(b6:b<=6)(e:aY a=aY b):a=b:=by
 unfold aY at e;split at e<;>split at e<;>lia
structure Pat.LeastW(p:Pat)(w m:Int):Prop where
 lo:1<=m
 hi:m<=w
 md:w%m=0
 k:p.Keeps m 0
 l:∀d,1<=d->d<=w->w%d=0->p.Keeps d 0->m<=d
variable{w' h' s':Int}
def Pat.LeastW.eq{m:Int}(F:p.Fam w h s)(L:p.Least w' h' s')(a:p.LeastW w m):m=w':=by
 have w0:=L.f.w0;have k:p.Keeps w' 0:=(L.lat _ _).mp (InF.one _ _ _);obtain⟨i,j,e1,e2⟩:=(L.lat m 0).mpr a.k;have h0:=L.f.h0;have j0:j=0:=by
  rcases GZ j 0 with q|q|q
  .have:=Hm q h0;lia
  .exact q
  .have:=Fu q h0;lia
 subst j0;rw[Ib,FS]at e1;have lo:=a.lo;have i0:0<i:=by
  rcases GZ i 0 with q|q|q
  .have:=Hm q w0;lia
  .subst q;lia
  .exact q
 have h1:w'<=m:=by
  rw[e1];have:=FA (show 1<=i by lia) (show 0<=w' by lia);lia
 obtain⟨i2,j2,f1,f2⟩:=(L.lat w 0).mpr (F.keeps (InF.one w h s));have PV:j2=0:=by
  rcases GZ j2 0 with q|q|q
  .have:=Hm q h0;lia
  .exact q
  .have:=Fu q h0;lia
 subst PV;have h2:=a.l w' Jb (by have:=a.hi;lia) (by rw[f1,Ib,FS];exact Hd _ _) k;lia
def BD{j:Int}(h0:0<h)(e:h=j*h):j=1:=by
 have:(j-1)*h=0:=by rw[GX,<-e];lia
 rcases GT.mp this with q|q<;>lia
def small_mul{i:Int}(w0:0<w)(a:-w<i*w)(b:i*w<w):i=0:=by
 rcases GZ i 0 with q|q|q
 .have:=FA (show i<=-1 by lia) (show 0<=w by lia);lia
 .exact q
 .have:=FA (show 1<=i by lia) (show 0<=w by lia);lia
def Pat.Least.slant{t:Int}(L:p.Least w h s)(a:0<=t)(b:t<w)(k:p.Keeps t h):t=s:=by
 obtain⟨i,j,e1,e2⟩:=(L.lat t h).mpr k;have j1:=BD L.f.h0 e2;subst j1;have s0:=L.f.s0;have sw:=L.f.sw;have:=small_mul (i:=i) L.f.w0 Jb Jb;subst this;lia
def Pat.Least.row(L:p.Least w h s)(k:p.Keeps x y):p.Keeps (x%w) y:=by
 have e:=F8 x w;have:=k.sub (((L.lat _ _).mp (InF.one w h s)).mul (x/w));rw[HZ,Int.sub_zero]at this;rw[e,FK];exact this
def Pat.Least.le(F:p.Fam w h s)(L:p.Least w' h' s'):w'*h'<=w*h:=(InF.le L.f.w0 L.f.h0 F.f.w0 F.f.h0 (λx y q=>(L.lat x y).mpr (F.keeps q))).1
def Pat.Least.first(L:p.Least w h s)(k:p.Keeps x y)(y0:0<=y)(yh:y<h)(x0:0<=x)(xw:x<w):x=0/\y=0:=by
 obtain⟨i,j,e1,e2⟩:=(L.lat x y).mpr k;have h0:=L.f.h0;have j0:=small_mul (i:=j) h0 Jb Jb;subst j0;have i0:=small_mul (i:=i) L.f.w0 Jb Jb;subst i0;lia
def sumN(g:Nat->Int):Nat->Int
 |0=>0
 |n+1=>sumN g n+g n
def dH{g f:Nat->Int}:∀{n:Nat},(∀k,k<n->g k=f k)->sumN g n=sumN f n
 |0,_=>rfl
 |n+1,h=>by rw[sumN,sumN,dH λk hk=>h k Jb,h n Jb]
def gO(g:Nat->Int)(n:Nat):∀m:Nat,sumN g (n+m)=sumN g n+sumN (λk=>g (n+k)) m
 |0=>by simp[sumN]
 |m+1=>by rw[<-Nat.add_assoc,sumN,sumN,gO g n m];lia
def tI(g f:Nat->Int):∀n:Nat,sumN (λk=>g k+f k) n=sumN g n+sumN f n
 |0=>rfl
 |n+1=>by simp only[sumN,tI g f n];lia
variable{N:Nat}
def BE{g:Nat->Int}(hN:0<N)(JK:∀k,g (k+N)=g k)(n:Nat):sumN (λj=>(((n:Int)-1-j)/N+1)*g j) (min n N)=sumN g n:=by
 induction n using Nat.strongRecOn with
 |ind n ih=>
  by_cases h:n<=N
  .rw[Go h];refine dH λk hk=>?_;rw[Ic Jb Jb];simp
  .have e1:n=N+(n-N):=by lia
   have i:=ih (n-N) Jb;have MH:sumN (λk=>g (N+k)) (n-N)=sumN g (n-N):=dH λk _=>by rw[Hi];exact JK k
   rw[G0 Jb];have e2:sumN g n=sumN g N+sumN g (n-N):=by
    conv=>lhs;rw[e1]
    rw[gO,MH]
   rw[e2,<-i];have e3:min (n-N) N+(N-min (n-N) N)=N:=Jb
   have split:∀f:Nat->Int,sumN f N=sumN f (min (n-N) N)+sumN (λk=>f (min (n-N) N+k)) (N-min (n-N) N):=λf=>by
    conv=>lhs;rw[<-e3]
    exact gO _ _ _
   rw[split,split g];have a:sumN (λj=>(((n:Int)-1-j)/N+1)*g j) (min (n-N) N)=sumN g (min (n-N) N)+sumN (λj=>((((n-N:Nat):Int)-1-j)/N+1)*g j) (min (n-N) N):=by
    rw[<-tI];refine dH λk hk=>?_;have q:((n:Int)-1-k)/N=(((n-N:Nat):Int)-1-k)/N+1:=by
     rw[show((n:Int)-1-k)=(((n-N:Nat):Int)-1-k)+1*N by lia,HV _ _ Jb]
    rw[q,GY];lia
   have b:sumN (λk=>(((n:Int)-1-((min (n-N) N+k:Nat):Int))/N+1)*g (min (n-N) N+k)) (N-min (n-N) N)=sumN (λk=>g (min (n-N) N+k)) (N-min (n-N) N):=by
    refine dH λk hk=>?_;rw[Ic Jb Jb];simp
   rw[a,b];lia
def cntN(f:Nat->Int)(v:Int)(n:Nat):Int:=sumN (λk=>if f k=v then 1 else 0) n
def tJ(f:Nat->Int)(v:Int):∀n,0<=cntN f v n/\cntN f v n<=n
 |0=>by simp[cntN,sumN]
 |n+1=>by
  have:=tJ f v n;unfold cntN at this ⊢;rw[sumN];split<;>lia
def BF{f:Nat->Int}{w:Nat}(hw:0<w)(JK:∀k,f (k+w)=f k)(v:Int)(m:Nat):((m/w:Nat):Int)*cntN f v w+cntN f v (m%w)=cntN f v m:=by
 have key:∀q r:Nat,cntN f v (w*q+r)=(q:Int)*cntN f v w+cntN f v r:=λq=>by
  have sh:∀q k,f (w*q+k)=f k:=λq=>by
   induction q with
   |zero=>intro k;rw[Nat.mul_zero,Ie]
   |succ q ih=>intro k;rw[Ig,show w*q+w+k=w*q+k+w by lia,JK];exact ih k
  induction q with
  |zero=>intro r;simp
  |succ q ih=>
   intro r;rw[Ig,show w*q+w+r=w*q+(w+r)by lia,ih,Gm,GY];have e:cntN f v (w+r)=cntN f v w+cntN f v r:=by
    unfold cntN;rw[gO];congr 1;refine dH λk _=>?_;rw[Hi w k,JK]
   rw[e];simp;lia
 have:=key (m/w) (m%w);rw[Nat.div_add_mod]at this;exact this.symm
def gP(y:E_)(c:Nat):∀(m a:Nat) (st:Array Nat×Nat),a+m=y.length+1->st.2<=a->st.1.size<=a->(forIn (List.range' a m) st (StrLaws.occBody y #[[c].toArray] y.length (y.length+1))).run.fst.size=st.1.size+(((cs y).drop a).filter (·==c)).length
 |0,a,st,h,_,_=>by
  rw[Hn (by rw[bt];lia)];rfl
 |m+1,a,st,h,h1,h2=>by
  have l1:(#[[c].toArray]:E_).length=1:=rfl;have q:=StrLaws.subAt_eq y #[[c].toArray] a;rw[List.range'_succ,G8];by_cases ha:a<y.length
  .have hd:(cs y).drop a=(cs y)[a]'(by rw[bt];exact ha)::(cs y).drop (a+1):=Gk (by rw[bt];exact ha);rw[show y.cps.toList.drop a=_ from hd,l1]at q;rw[hd,List.filter_cons];by_cases e:(cs y)[a]'(by rw[bt];exact ha)=c
   .have eb:StrLaws.occBody y #[[c].toArray] y.length (y.length+1) a st=pure (.yield (st.1.push a,a+1)):=by
     unfold StrLaws.occBody;rw[if_pos #[#[#[Jb,h1],by rw[l1];lia],by rw[q];simp[e]],l1]
    rw[eb];have:=gP y c m (a+1) (st.1.push a,a+1) Jb (E7 _) Qv;simp only[e,beq_self_eq_true,if_true,Fc];refine Eq.trans this ?_;simp only[Array.size_push];lia
   .have eb:StrLaws.occBody y #[[c].toArray] y.length (y.length+1) a st=pure (.yield (st.1,st.2)):=by
     unfold StrLaws.occBody;rw[if_neg];rintro⟨_,z⟩;rw[q]at z;simp at z;exact e z
    rw[eb];have:=gP y c m (a+1) st Jb Jb Jb;rw[if_neg (by simpa using e)];exact this
  .have eb:StrLaws.occBody y #[[c].toArray] y.length (y.length+1) a st=pure (.yield (st.1,st.2)):=by
    unfold StrLaws.occBody;rw[if_neg];rintro⟨⟨_,z⟩,_⟩;rw[l1]at z;lia
   rw[eb];have:=gP y c m (a+1) st Jb Jb Jb;rw[Hn (by rw[bt];lia)];rw[Hn (by rw[bt];lia)]at this;exact this
def BG(y:E_)(c:Nat):(Builtin.Str.occurrences y #[[c].toArray] 0 y.length (y.length+1)).length=((cs y).filter (·==c)).length:=by
 rw[StrLaws.occ_eq,GE,gP y c _ 0 _ Jb (E7 _) (E7 _)];simp
def tK(f:Nat->Int)(b:∀k,0<=f k/\f k<=6){v:Int}(v0:0<=v)(v6:v<=6):∀n:Nat,(((((E8 n).map λk=>aY (f k)).filter (·==aY v)).length:Nat):Int)=cntN f v n
 |0=>rfl
 |n+1=>by
  rw[Gr,FG,List.filter_append,Fp,Gm,tK f b v0 v6 n];show _=cntN f v n+_;congr 1;by_cases e:f n=v
  .simp[e]
  .have:¬aY (f n)=aY v:=λz=>e (BC (b n).1 (b n).2 v0 v6 z);simp[this,e]
def BH(ok:p.Ok)(x y:Int){v:Int}(v0:0<=v)(v6:v<=6)(n:Nat):(((cs (aG p x y n)).filter (·==aY v)).length:Int)=cntN (λk=>p.show (x+k) y) v n:=by
 rw[cY];exact tK _ (λk=>Pat.show_le ok.wf (by have:=ok.deep;lia) _ _) v0 v6 n
def BI(p:Pat)(x y:Int){r:Nat}(h:r<=n):Txt.slice (aG p x y n) z8 (be (r:Int))=aG p x y r:=by
 apply fG;rw[slice_cps,fJ,cY,show(aG p x y n).cps.toList=_ from cY p x y n,gN];have e1:HT.sIx n 0 z8=0:=rfl;have e2:HT.sIx n n (be (r:Int))=r:=by show(if(r:Int)<0 then((r:Int)+n).toNat else min (r:Int).toNat n)=r;rw[if_neg Jb];lia
 rw[e1,e2,Hl,Ih,<-Ii,Ij,Go h]
def occC(t:E_)(c:Nat):Int:=((Builtin.Str.occurrences t #[[c].toArray] 0 t.length (t.length+1)).length:Nat)
def tL(ok:p.Ok)(x y:Int){v:Int}(v0:0<=v)(v6:v<=6)(n:Nat):occC (aG p x y n) (aY v)=cntN (λk=>p.show (x+k) y) v n:=by
 unfold occC;rw[BG,BH ok x y v0 v6]
def cB(p:Pat)(v left top:Int)(m n:Nat):Int:=sumN (λj=>cntN (λk=>p.show (left+k) (top+j)) v m) n
def cC(p:Pat)(left top:Int)(m n:Nat):List Int:=(E8 7).map λ(v:Nat)=>cB p v left top m n
def BJ:SpD:=λds R=>∃(p:Pat) (x y v m:Int) (w:Nat),ds=[.str (aG p x y w),.str #[[aY v].toArray],.int m]/\p.Ok/\0<=v/\v<=6/\0<w/\w<=720/\0<=m/\m<2^63/\p.Keeps w 0/\R (.int (cntN (λk=>p.show (x+k) y) v m.toNat))
def Pat.Fam.across(F:p.Fam w h s):p.Keeps w 0:=F.keeps (InF.one w h s)
def Pat.Fam.down(F:p.Fam w h s):p.Keeps 0 (w*h):=F.keeps #[-s,w,by rw[F9,FK w s];lia,rfl]
def BK(hN:0<N)(k:p.Keeps 0 N)(v left top:Int)(m n:Nat):sumN (λj=>(((n:Int)-1-j)/N+1)*cntN (λk=>p.show (left+k) (top+j)) v m) (min n N)=cB p v left top m n:=by
 refine BE (g:=λj=>cntN (λk=>p.show (left+k) (top+j)) v m) hN (λj=>?_) n;unfold cntN;refine dH λi _=>?_;have e:p.show (left+i) (top+((j+N:Nat):Int))=p.show (left+i) (top+j):=by
  have:=k (left+i) (top+j);rw[FS]at this;rw[<-this,Gm,Gz]
 simp only[e]
def tM{α:Type}(f g:Nat->α)(h:∀v,v<n->v≠i->g v=f v):((E8 n).map f).set i (g i)=(E8 n).map g:=by
 apply Ge;intro k;rw[F7];by_cases hk:i=k
 .subst hk;simp only[if_true,Fs,Hk];by_cases hi:i<n
  .simp[hi]
  .simp[hi]
 .rw[if_neg hk];by_cases hi:k<n
  .simp[hi,h k hi (Ne.symm hk)]
  .simp[hi]
def BL:bC ".123456"=(E8 7).map λ(v:Nat)=>D.str #[[aY (v:Int)].toArray]:=by
 unfold bC;rw[show(".123456":E_).cps.toList=[46,49,50,51,52,53,54]by decide+kernel];rfl
def bS(p:Pat)(left top:Int)(m n N k:Nat)(v:Int):Int:=sumN (λj=>(((n:Int)-1-j)/N+1)*cntN (λi=>p.show (left+i) (top+j)) v m) k
variable{top a_:Int}
def BM{W:Int}(hn:(a_-top+1).toNat=n)(wN:W=(N:Int)):((if top+W<a_+1 then top+W else a_+1)-top).toNat=min n N:=by split<;>lia
def BN{W:Int}(a:-1000000000000<=top/\top<=1000000000000)(c:-1000000000000<=a_/\a_<=1000000000000)(w0:0<W)(w1:W<=720):-(2^62)<=top/\top<2^62/\-(2^62)<=(if top+W<a_+1 then top+W else a_+1)/\(if top+W<a_+1 then top+W else a_+1)<2^62:=by split<;>lia
def BO{k:Nat}(hn:(a_-top+1).toNat=n)(hk:k<min n N):a_-(top+k)=(n:Int)-1-k:=Jb
def tN{l r:Int}{m:Nat}(a:-1000000000000<=l/\l<=1000000000000)(b:-1000000000000<=r/\r<=1000000000000)(h:(r-l+1).toNat=m):m<=2000000000001:=Jb
def BP(x:Int):(if 0>x then 0 else x)=(x.toNat:Int):=by split<;>lia
def BQ:SpX:=λds R RX=>∃(p:Pat) (d:D) (left top right a_:Int),ds=[d,.int left,.int top,.int right,.int a_]/\bf p d/\p.Ok/\(aX left/\aX top/\aX right/\aX a_->R (.lst ((cC p left top (right-left+1).toNat (a_-top+1).toNat).map D.int)))/\(¬(aX left/\aX top/\aX right/\aX a_)->RX "TooFar" [])
def tO(X Y:Int):(Pat.mir p).Keeps X Y↔p.Keeps (-X) Y:=by
 constructor<;>intro h x y
 .have:=h (-x) y;simp only[Pat.show,G1,Ho]at this;exact this
 .have:=h (-x) y;simp only[Pat.show,G1];exact this
def tP(X Y:Int):(Pat.tur p).Keeps X Y↔p.Keeps Y (-X):=by
 constructor<;>intro h x y
 .have:=h (-y) x;simp only[Pat.show,G1,Ho]at this;exact this
 .have:=h y (-x);simp only[Pat.show,G1];exact this
def tQ(a b X Y:Int):(Pat.sh a b p).Keeps X Y↔p.Keeps X Y:=by
 constructor<;>intro h x y
 .have:=h (x+a) (y+b);simp only[Pat.show]at this;rw[show x+a+X-a=x+X by lia,show y+b+Y-b=y+Y by lia,show x+a-a=x by lia,show y+b-b=y by lia]at this;exact this
 .have:=h (x-a) (y-b);simp only[Pat.show];rw[show x+X-a=x-a+X by lia,show y+Y-b=y-b+Y by lia];exact this
def Pat.Least.mir(k:p.Least w h s):(Pat.mir p).Least w h (-s%w):=by
 refine#[#[k.f.w0,k.f.h0,cL k.f.w0,cM k.f.w0],λx y=>?_];rw[tO,<-k.lat];have e:=F8 (-s) w;generalize -s%w=r at e;generalize -s/w=t at e;constructor
 .rintro⟨i,j,rfl,rfl⟩;exact#[j*t-i,j,by rw[e];grind,rfl]
 .rintro⟨i,j,ex,rfl⟩;exact#[j*t-i,j,by rw[e];grind,rfl]
def Pat.Least.tur(k:p.Least w h s)(f:FamOf 0 w (-h) s w' h' s'):(Pat.tur p).Least w' h' s':=by
 refine#[#[f.1,f.2.1,f.2.2.1,f.2.2.2.1],λx y=>?_];rw[tP,<-k.lat,f.lat];constructor
 .rintro⟨i,j,rfl,rfl⟩;exact#[i,j,Kf,Kf]
 .rintro⟨i,j,ex,ey⟩;exact#[i,j,Kf,Kf]
def Pat.Least.sh(a b:Int)(k:p.Least w h s):(Pat.sh a b p).Least w h s:=#[k.f,λx y=>by rw[tQ,k.lat]]
structure Mv(p q:Pat)(b0 b1 b2 b3:Int):Prop where
 keeps:∀X Y,q.Keeps X Y↔p.Keeps (b0*X+b1*Y) (b2*X+b3*Y)
 leaf:∀l ls,p.leaves=l::ls->∃l' ls',q.leaves=l'::ls'/\l'.w0=l.w0*b0+l.w1*b2/\l'.w1=l.w0*b1+l.w1*b3/\l'.w2=l.w2*b0+l.w3*b2/\l'.w3=l.w2*b1+l.w3*b3
 area:∀w h s,p.Least w h s->∃w' h' s',q.Least w' h' s'/\w'*h'=w*h
variable{b0 b1 b2 b3:Int}
def Mv.mir(m:Mv p q b0 b1 b2 b3):Mv p (.mir q) (-b0) b1 (-b2) b3:=by
 refine#[λX Y=>?_,λl ls e=>?_,λw h s L=>?_]
 .rw[tO,m.keeps,FW,FW,F9,F9]
 .obtain⟨l',ls',e',h0,h1,h2,h3⟩:=m.leaf l ls e;refine#[_,_,by rw[Pat.leaves,e',Ft],?_,?_,?_,?_]<;>simp only[Leaf.by,h0,h1,h2,h3]<;>grind
 .obtain⟨w',h',s',L',e⟩:=m.area w h s L;exact#[_,_,_,L'.mir,e]
def Mv.tur(m:Mv p q b0 b1 b2 b3):Mv p (.tur q) (-b1) b0 (-b3) b2:=by
 refine#[λX Y=>?_,λl ls e=>?_,λw h s L=>?_]
 .rw[tP,m.keeps,FW,FW,F9,F9,Ik (b0*Y),Ik (b2*Y)]
 .obtain⟨l',ls',e',h0,h1,h2,h3⟩:=m.leaf l ls e;refine#[_,_,by rw[Pat.leaves,e',Ft],?_,?_,?_,?_]<;>simp only[Leaf.by,h0,h1,h2,h3]<;>grind
 .obtain⟨w',h',s',L',e⟩:=m.area w h s L;obtain⟨w2,h2,s2,f,e2⟩:=gK (s:=s') L'.f.w0 L'.f.h0;exact#[_,_,_,L'.tur f,Jb]
def Mv.sh(a b:Int)(m:Mv p q b0 b1 b2 b3):Mv p (.sh a b q) b0 b1 b2 b3:=by
 refine#[λX Y=>?_,λl ls e=>?_,λw h s L=>?_]
 .rw[tQ,m.keeps]
 .obtain⟨l',ls',e',h0,h1,h2,h3⟩:=m.leaf l ls e;refine#[_,_,by rw[Pat.leaves,e',Ft],?_,?_,?_,?_]<;>simp only[Leaf.by,h0,h1,h2,h3]<;>grind
 .obtain⟨w',h',s',L',e⟩:=m.area w h s L;exact#[_,_,_,L'.sh a b,e]
structure Side(a w:Int)(A t:Nat):Prop where
 n:aX a
 A4:A<=4000000000000
 t1:t<=1000
 e:aX (a+A*w+t-1)
def Side.of{A t:Nat}(n:aX a)(w0:0<w)(hA:(A:Int)<=(1000000000000-a+1)/w)(h:(t<=720/\(t:Int)<=1000000000000-a+1-A*w/\¬(a=-1000000000000/\A=0))\/(a=-1000000000000/\A=0/\1<=t/\t<=720)):Side a w A t:=by
 have h1:=FA hA (show 0<=w by omega);have h2:=Int.ediv_mul_le (1000000000000-a+1) (show w≠0 by omega);have h3:(A:Int)<=A*w:=by
  have:=HP (show 1<=w by omega) (show 0<=(A:Int)by omega);omega
 unfold aX at n;rcases h with⟨t7,ht,ne⟩|⟨e1,rfl,t0,t7⟩
 .refine#[n,Jj,Jj,?_,Jj];by_cases z:A=0
  .subst z;simp at ne ⊢;omega
  .omega
 .refine#[n,Jj,Jj,?_,?_]<;>simp<;>omega
end My
end
section
open PySem PySem.Spec PyProof.Rows L2
namespace My
open Exc
section
variable {X:Cx}[J:Jm]{a b c e:P3}{ta tb te:TME}{pos:Q_}
def mTru(te:TME):TMT:=λz M R=>te z M λd M1=>match d with|.bl k=>R k M1|_=>False
abbrev TMO:=SD->MS->(Option Int->MS->Prop)->Prop
def BR:TMO:=λ_ M R=>R z8 M
def BS(te:TME):TMO:=λz M R=>te z M λx M1=>match x with|.int i=>R (be i) M1|_=>False
def mO(K:Ex)[J:Jm](t:TMO):TO:=λs H Q=>∃F z M,Kept J.B J.F0 F H/\RepZ K J.B F H z s M/\∃R:Option Int->MS->Prop,t z M R/\∀o M' F' H',GrowM M M' F H F' H'->R o M'->RepM K F' H' M'->Q o H'
structure MPO(X:Cx)[Jm](e:Option P3)(t:TMO):Prop where
 out:PO X e (mO X.K t)
def kC:MPO X z8 BR:=⟨PO.anti qe λs H Q q=>by
 obtain⟨F,z,M,k,rs,R,h1,h2⟩:=q;exact h2 z8 M F H (GrowM.refl k.fh) h1 rs.rm⟩
def kD(he:ME X e te):MPO X (be e) (BS te):=⟨PO.anti (qf he.out) λs H Q q=>by
 obtain⟨F,z,M,k,rs,R,h1,h2⟩:=q;refine#[F,z,M,k,rs,_,h1,λx u M1 F1 H1 g1 hx rx m1=>?_];split at hx
 .exact#[_,rep_int.mp rx,h2 _ M1 F1 H1 g1 hx m1]
 .exact hx.elim⟩
def mSl(ta:TME)(tl th:TMO):TME:=λz M R=>ta z M λx M1=>tl z M1 λlo M2=>th z M2 λhi M3=>rdSl x lo hi λd=>R d M3
def BT{lo hi:Option P3}{tl th:TMO}{p2:Q_}(ha:ME X a ta)(hl:MPO X lo tl)(hu:MPO X hi th):ME X (.Subscript a (.Slice lo hi z8 p2) pos) (mSl ta tl th):=⟨(js (SlR.or rL (SlR.or jt qh)) ha.out hl.out hu.out).anti λs H Q q=>by
 obtain⟨F,z,M,k,rs,R,h1,h2⟩:=q;refine#[F,z,M,k,rs,_,h1,λx u M1 F1 H1 g1 hx rx m1=>?_];have k1:=k.growM rs.mb g1;have r1:=rs.growM k.bh g1 m1;refine#[F1,z,M1,k1,r1,_,hx,λlo M2 F2 H2 g2 hy m2=>?_];refine#[F2,z,M2,k1.growM r1.mb g2,r1.growM k1.bh g2 m2,_,hy,λhi M3 F3 H3 g3 hw m3=>?_];have g:=g1.trans (g2.trans g3);have IA:=(rx.mono g2.ff).mono g3.ff;unfold rdSl at hw;split at hw
 .exact .inl #[_,rep_str.mp IA,Fg hw.1 Ji,h2 _ _ M3 F3 H3 g hw.2 (rep_str.mpr rfl) m3]
 .obtain⟨l,vs,rfl,hq,rr⟩:=rep_lst.mp IA;refine .inr (.inl #[l,vs,rfl,SqL.of (g3.fh _ _ hq),λp hp=>?_]);exact h2 _ _ M3 _ _ (g.trans (Grow.new g3.fh hp _).toM) hw (rep_lst.mpr #[p,_,rfl,aw,(rr.cut _ _).mono (aR (g3.fh.free hp) _)]) (m3.grow (Grow.new g3.fh hp _))
 .obtain⟨l,vs,rfl,hq,rr⟩:=rep_rol.mp IA;refine .inr (.inl #[l,vs,rfl,g3.fh.seq hq,λp hp=>?_]);exact h2 _ _ M3 _ _ (g.trans (Grow.new g3.fh hp _).toM) hw (rep_lst.mpr #[p,_,rfl,aw,(rr.cut _ _).mono (aR (g3.fh.free hp) _)]) (m3.grow (Grow.new g3.fh hp _))
 .obtain⟨l,vs,rfl,hq,rr⟩:=rep_tup_mp IA;refine .inr (.inr #[l,vs,rfl,g3.fh.tup hq,by rw[rr.length];exact hw.1,λp hp=>?_]);exact h2 _ _ M3 _ _ (g.trans (Grow.new g3.fh hp _).toM) hw.2 (rep_tupS.mpr #[p,_,rfl,aw,(rr.cut _ _).mono (aR (g3.fh.free hp) _)]) (m3.grow (Grow.new g3.fh hp _))
 .exact hw.elim⟩
end
end My
namespace Exc
open PySem PySem.Spec PyProof.Rows PySem.W L2
section
variable {prog:Pi}{w:Q2}{A:Q3}{E:KB->KF->Prop}{s:KF}{K:Ex}{x C dx:Addr}{ox:Re}{cd:Sr}{name:E_}{v:KB}{vs:Array KB}{mA:E_->Option KB}{ns:List E_}
def BU{Q:Unit->KF->Prop}(X:K.In s.heap)(hx:s.heap.get? x=be ox)(gt:ox.cls=.ref C)(v3:ox.data=.fields vs)(hd:ox.dict=be dx)(Oo:s.heap.Ns1 dx mA)(hw:PySem.Within mA ns)(hz:ns.length<=1000)(hc:clsIn K C=be cd)(hm:aK cd.mro=true)(hh:cd.hasDict=true)
  (hs:findIn K (.ref C) "__setattr__"=be (be (.builtin "object.__setattr__"))) (hf:findIn K (.ref C) name=be z8)
  (h:∀h',h'.Ns1 dx (λy=>if y=name then be v else mA y)->Heap.SameBut dx s.heap h'->∀tk,Q () {s with heap:=h',toks:=tk}):
  Q1 (QZ prog w) A (SY (.ref x) name v) Q E s:=by
 have hn:notCls ox=true:=by unfold notCls;rw[v3]
 obtain⟨od,es,ep,MI,Op⟩:=id Oo;have I:InstAt s.heap x ox C (be od):=#[hx,gt,hn,by rw[hd];exact MI];refine set_plain X I hs ?_;have SF:=PySem.F.store_object;have ne:cd.mro.isEmpty=false:=K_
 have sub:Looks (QZ prog w) s.heap (R7 (.ref x) (.type "object")) true:=I.type.andThen (looks_mroIn X Rs);refine RE SF.slot.plain SF.entry (@check_slot (QZ prog w) _ _ _ "object.__setattr__" "object" "__setattr__" (.ref x) [.str name s.toks,v] [] _ SF.kind SF.split sub (SF.args (.ref x) (.str name s.toks) v) ?_);have Jf:Looks (QZ prog w) s.heap (mroOf (.ref C)) cd.mro:=(looks_clsIn X hc).andThen .now;rw[osa_eq,refuse_eq];refine KM (KM (I.type.here (s:={s with toks:=s.toks+1}) (KM (Jf.here (s:={s with toks:=s.toks+1}) ?_))));rw[jy _ hm];refine QY (KM (I.type.here (s:={s with toks:=s.toks+1}) (KM ((looks_findIn X hf).here (s:={s with toks:=s.toks+1}) (KM (Looks.now.here (s:={s with toks:=s.toks+1}) ?_))))));obtain⟨oc,N7,N8,osl⟩:=ox;dsimp only at gt hd v3;subst gt hd v3;refine KM (QY (KM (KM (Si hx (KM ((looks_clsIn X hc).here (s:={s with toks:=s.toks+1}) ?_))))));rw[hh];rw[if_neg Ji];refine QY ?_;show Q1 _ _ (Builtin.ObjectAttr.storeInDict dx (.str name s.toks) name v) _ _ _;unfold Builtin.ObjectAttr.storeInDict Builtin.ObjectAttr.newKeyGuard;refine KM (QY (KM (Ss Oo λh' f8 hs=>?_)));obtain⟨oD,NW,NX,J5,J6,J7⟩:=f8.count (PySem.Within.cons name v hw);refine KM (R_ J5 (by rw[J6];exact Sb (Fg J7 (by rw[Fc,RO];lia))) ?_);exact QY (h h' f8 hs _)
end
end Exc
namespace My
open Exc
section
variable {X:Cx}[J:Jx]{x f:E_}{e:P3}{te:TD}{pos c7 p:Q_}{rest:List Q0}{tr:TID}
def tR{β:Type}{y:E_}{z:β}:∀{ws:List (E_×β)},ws.lookup y=be z->y∈ws.map (·.1)
 |[],h=>nomatch h
 |(g,d)::ws,h=>by
  rw[Fq]at h;split at h
  .rename_i hg;rw[Ft,show y=g by simpa using hg];exact Fi
  .exact Fe _ (tR h)
def BV(f:E_)(te:TD)(tr:TID):TID:=λz fs R=>(fs≠[]/\fs.length<=100)/\te z λd=>tr z ((f,d)::fs) R
def BW{sx:E_}{ps:Q_}(hA:∃C cd,ErrA X.K x C cd)(hf:∀C,nsIn X.K Os x=be (be (.ref C))->E9 X.K (.ref C) f=be z8)(he:WDE X e te)(hr:WDX X x rest tr)(hN:autoParam (X.N[0]?=be sx) zA0)(hv:autoParam (Vis X.env.scope sx) zA5)(hd:autoParam (zND sx) zA1)
  (d_:autoParam (zNC sx) zA1) (hs:autoParam (Rh e (be (.Attribute (.Name sx ps) f c7)) pos.line X.env=pure false) zA0):WDX X x (.Assign [.Attribute (.Name sx ps) f c7] e pos::rest) (BV f te tr):=⟨by
 have he:=he.out;have hr:=hr.out;obtain⟨C,cd,er⟩:=hA;have Jq:=hf C er.ns;have step:PS X (.Assign [.Attribute (.Name sx ps) f c7] e pos) (λE σ H=>∃e b ws,σ[0]?=be (be (.ref e))/\
   lE X.K te σ H (λv H1=>H1 e=be (XN e C (be b))/\H1 b=be (.xd ws)/\ws.length<=100/\E.nx σ (upd H1 b (.xd ((f,v)::ws))))):=by
  intro pins s σ H D I h;obtain⟨ea,b,ws,h0,h⟩:=h;refine Ry (thn (he pins s σ H _ I h) λu s1 ⟨y,H1,I1,ry,p6,hb,hl,Jp⟩=>thn (cG (i:=0) hN hv hd d_ pins s1 σ H1 (λv H'=>v=.ref ea/\H'=H1) I1 #[.ref ea,h0,rfl,rfl]) λov s2 hh=>?_) hs;obtain⟨v0,H2,I2,r0,e1,e2⟩:=hh;subst e1 e2;obtain rfl:ov=Value.ref ea:=r0;obtain⟨t0,sl,g9⟩:=XN.get I2.hok p6;obtain⟨mA,hns,s9⟩:=(show ObjOk X.prog X.w H2 s2.heap b (.xd ws)from I2.hok b _ hb);have hw:PySem.Within mA (ws.map (·.1)):=λy' hy=>by
   have:=s9 y';cases hq:ws.lookup y' with
   |none=>
    rw[hq]at this;cases hm:mA y' with
    |none=>exact absurd hm hy
    |some z=>rw[hm]at this;exact this.elim
   |some z=>exact tR hq
  refine BU (K:=X.K) (C:=C) (cd:=cd) I2.kIn g9 rfl rfl rfl hns hw (by rw[Fs];lia) er.cl er.mro er.hd er.sa Jq λh' g1 g2 tk=>?_;obtain⟨od,es,ep,MI,QJ⟩:=id g1;have MJ:∀c,H2 c=z8->c≠b:=λc q z=>by rw[z,hb]at q;cases q
  have v7:∀c o,H2 c=be o->(∀fs,o≠.xd fs)->upd H2 b (.xd ((f,y)::ws)) c=be o:=λc o q n=>by
   have n1:c≠b:=λz=>by rw[z,hb]at q;cases q;exact n _ rfl
   rw[aj n1];exact q
  refine#[σ,_,?_,Jp];refine I2.un (h':=h') (t':=tk) #[λc o q n _ _=>(g2.2 c (MJ c n)).trans q,λc o q n _ _=>#[o.slots,(g2.2 c (MJ c n)).trans q],λc o q n _=>?_,λc o q _=>?_,λc xs q=>v7 c _ q (λφ z=>nomatch z),λc o u q=>v7 c _ q (λφ z=>nomatch z),λc ps q=>#[[].toArray,by rw[v7 c _ q (λφ z=>nomatch z)];simp]] λa o q=>?_
  .rw[aj (MJ c n)];exact n
  .by_cases hc:c=b
   .rw[hc];exact#[od,MI]
   .exact#[o,(g2.2 c hc).trans q]
  .by_cases hc:a=b
   .subst hc;rw[aw]at q;cases q;refine#[_,g1,λg=>?_];rw[Fq];by_cases hg:g=f
    .subst hg;simp;exact ry
    .have:(g==f)=false:=by simpa using hg
     rw[this,if_neg hg];exact s9 g
   .rw[aj hc]at q;refine(I2.hok a o q).stay (λc u f7 r=>?_) (λc r=>v7 c _ r (λφ z=>nomatch z)) λc xs r=>v7 c _ r (λφ z=>nomatch z);refine(g2.2 c λz=>?_).trans r;rcases f7 with e1|e1
    .exact hc (e1 ▸ z)
    .rw[z,hb]at e1;cases e1
 refine(dN step hr).anti λE s H q=>?_;obtain⟨C',a,od,ws,F,z,fs,hn,h0,d7,hB,g5,k,rs,rf,d8,R,⟨⟨j3,hl⟩,hR⟩,kk⟩:=q;rw[er.ns]at hn;cases hn;rcases d8 with⟨_,rfl⟩|⟨b,rfl,h1,h2,h3,h4,h5⟩
 .cases fs with
  |nil=>exact absurd rfl j3
  |cons c fs=>obtain⟨g,d⟩:=c;obtain⟨v,r,h,_⟩:=repf_cons.mp rf;cases h
 refine#[a,b,ws,h0,_,F,z,k,rs,_,hR,λd v F1 H1 g hx rv=>#[g.hh a _ d7,g.hh b _ h1,?_,?_]]
 .have:∀{fs:List (E_×D)} {ws:List (E_×V)},RepF X.K F fs ws->ws.length=fs.length:=λ{fs}=>by
   induction fs with
   |nil=>intro ws r;rw[repf_nil.mp r];rfl
   |cons c fs ih=>obtain⟨g,d⟩:=c;intro ws r;obtain⟨v,r',rfl,_,h⟩:=repf_cons.mp r;rw[Fc,Fc,ih h]
  rw[this rf];exact hl
 .have PX:=g.hh b _ h1;have Jo:F1 b=none:=g.out b h3 (by rw[h1];exact λz=>nomatch z);have Ix:F1 a=none:=g.out a g5 (by rw[d7];exact λz=>nomatch z);have k1:=k.grow g;have l7:=rs.grow g;have Sf:∀{G:Hp},G b=z8->Same G H1->Same G (upd H1 b (.xd ((f,v)::ws))):=λ{G} gb gs c o q=>by
   have n2:c≠b:=λz=>by rw[z,gb]at q;cases q
   rw[aj n2];exact gs c o q
  refine#[C,a,be b,(f,v)::ws,F1,z,(f,d)::fs,er.ns,h0,by rw[aj (Ne.symm h4)];exact g.hh a _ d7,hB,Ix,#[Sf h2 k1.bh,Sf Jo k1.fh,k1.f0,k1.out,k1.eb,k1.jf,k1.jo],?_,repf_cons.mpr #[v,ws,rfl,rv,RepF.mono g.ff fs ws rf],.inr #[b,rfl,aw,h2,Jo,h4,λz=>nomatch z],R,hx,kk];refine#[l7.len,l7.val,λi ds e'=>?_,l7.apart];obtain⟨c,vs,q1,q2,q⟩:=l7.own i ds e';have n2:c≠b:=λz=>by rw[z,PX]at q2;cases q2
  exact#[c,vs,q1,by rw[aj n2];exact q2,q]⟩
end
def subM(N M:MS):Prop:=(∀e,e∈N->e∈M)/\(aq N).Nodup
variable{M:MS}
def subM.keys{N:MS}(s:subM N M){a:Addr}(h:a∈aq N):a∈aq M:=by
 obtain⟨⟨b,o⟩,h1,rfl⟩:=FF.mp h;exact bD (s.1 _ h1)
variable{K:Ex}{F H:Hp}
def RepM.sub{N:MS}(r:RepM K F H M)(s:subM N M):RepM K F H N:=#[s.2,λa o h=>r.ok a o (s.1 _ h),λa h=>r.fr a (s.keys h)]
def GrowM.sub{F' H':Hp}{N M':MS}(g:GrowM M M' F H F' H')(s:subM N M'):GrowM M N F H F' H':=#[g.ff,g.fh,g.hh,g.out,λb h=>g.ks b (s.keys h)]
def GrowM.sub0{F' H':Hp}{N M':MS}(g:GrowM N M' F H F' H')(s:subM N M):GrowM M M' F H F' H':=#[g.ff,g.fh,λb o h=>g.hh b o λz=>h (s.keys z),λb h=>g.out b λz=>h (s.keys z),λb h=>(g.ks b h).imp s.keys id]
def fL(S:SpM):SpM:=λds M R RX=>∃(R0:D->MS->Prop) (IB:XDM),S ds M R0 IB/\R=(λd M'=>∃N,subM N M'/\R0 d N)/\RX=λx fs M'=>∃N,subM N M'/\IB x fs N
variable{vs:List V}
def tS{S:SpM}{Q:VK}{E:XK}(h:lSpM K S vs H Q E):lSpM K (fL S) vs H Q E:=by
 obtain⟨F,ds,M,fh,rs,rm,R,RX,hS,q,qx⟩:=h;refine#[F,ds,M,fh,rs,rm,_,_,#[R,RX,hS,rfl,rfl],λd v M' F' H' g hd rd m'=>?_,λx fs C od M' F' H' g hR er m'=>?_]
 .obtain⟨N,s,hd⟩:=hd;exact q d v N F' H' (g.sub s) hd rd (m'.sub s)
 .obtain⟨N,s,hR⟩:=hR;exact qx x fs C od N F' H' (g.sub s) hR er (m'.sub s)
def kE(S:SpM):SpM:=λds M R RX=>∃M1 M2,subM (M1++M2) M/\S ds M2 (λd M'=>R d (M1++M')) λx fs M'=>RX x fs (M1++M')
def tT{S:SpM}{Q:VK}{E:XK}(h:lSpM K (kE S) vs H Q E):lSpM K S vs H Q E:=by
 obtain⟨F,ds,M,fh,rs,rm,R,RX,⟨M1,M2,s,hS⟩,q,qx⟩:=h;exact kd #[F,ds,M1++M2,fh,rs,rm.sub s,R,RX,#[M1,M2,rfl,hS],λd v M' F' H' g=>q d v M' F' H' (g.sub0 s),λx fs C od M' F' H' g=>qx x fs C od M' F' H' (g.sub0 s)]
section
variable {P:Pi}{w:Q2}{K:Ex}{mg:E_->Option KB}{base:Heap}{n:Nat}{x m:E_}{ps:List E_}{S:SpM}
def CalMth.drop(C:CalMth P w K mg base n x m ps (lSpM K (fL S))):CalMth P w K mg base n x m ps (lSpM K S):=C.imp λ_ _ _ _ h=>tS h
def CalMM.split(C:CalMM P w K mg base n x ps S):CalMM P w K mg base n x ps (kE S):=C.imp λ_ _ _ _ h=>tT h
def CalMth.split(C:CalMth P w K mg base n x m ps (lSpM K S)):CalMth P w K mg base n x m ps (lSpM K (kE S)):=C.imp λ_ _ _ _ h=>tT h
def CalMth.lendD{S:SpD}(C:CalMth P w K mg base n x m ps (lSp K S)):CalMth P w K mg base n x m ps (lSpM K (My.lend λds R _=>S ds R)):=C.imp λ_ _ _ _ h=>by
 obtain⟨F,ds,fh,rs,R,RX,hS,q,_⟩:=ke h;exact#[F,ds,fh,rs,R,hS,q]
def Txm.okDW{qual:E_}{st:Q0}{N:List E_}{k:Nat}{S:SpD}(T:Txm K x m qual st ps)(F:FnScope N ps (ag st))(len:∀ds R,S ds R->ds.length=ps.length)
  (a9:∀(f:Addr) (cdv:KB) (A:Q3) (outer:List RI) (s:KF) (H:Hp) (E:XK) (J:Jx),Room k (A.deeper (Ra qual (ag st) s.heap.objs.size f cdv))->
   ∃t,WDSs (cxOf (CX1 P w) P w K mg base N qual (ag st) f cdv A outer s H E).nox (aE st) t/\∀ds R,S ds R->t {nx:=λ_=>R .non,rt:=R} (startD N ds)):CalMth P w K mg base (k+1) x m ps (lSp K S):=by
 obtain⟨C,f,fd,h1,h2,h3,T,hb⟩:=T;exact#[C,f,fd,h1,h2,h3,L2.Fun.okDW T F len (a9 f),hb]
end
def gQ(P:Pi)(w:Q2)(K:Ex)(mg:E_->Option KB)(base:Heap)(n:Nat)(x m:E_)(ps:List E_)(dd:List D)(sp:Sp):Prop:=
 ∃C f fd e9 n5,nsIn K Os x=be (be (.ref C))/\Cls K C/\Meth K C m f/\FnOk P w K mg base (CX1 P w) n f fd ps sp/\Binds K fd ps n5/\Vals e9 n5/\∀F,Reps K F dd e9
section
variable {X:Cx}{k:Nat}{f:Addr}{fd:Q8}{ps:List E_}{sp:Sp}{E:XK}
def BX{pins:List (Addr×Re)}{σ:L2.St}{H:Hp}{s:KF}{Q:VK}{us n5:List KB}{vs e9:List V}(F:FnOk X.prog X.w X.K X.mg X.base (CX1 X.prog X.w) k f fd ps sp)(hr:Room k X.A)(hb:Binds X.K fd ps n5)(hd:Vals e9 n5)
  (hx:∀e s',CX1 X.prog X.w X.stack H s E e s'->X.xe e s') (I:Inv X pins σ H s) (r:Vals vs us) (h:sp (vs++e9) H Q E):Q1 (QZ X.prog X.w) X.A (call (.ref f) us) (EP X pins σ Q) X.xe s:=by
 have r2:=r.append hd;have hl:(us++n5).length=ps.length:=by rw[<-L2.Vals.length r2];exact F.len _ _ _ _ h
 have f7:=hb s us I.kIn hl;refine Rz (Rw (F.run X.A X.stack s H #[us,[]] (us++n5) (vs++e9) Q E hr I.env0 f7 r2 h) λr s' hq=>?_);cases r with
 |error e=>exact hx e s' hq
 |ok fl=>
  cases fl with
  |ret u=>exact I.after hq
  |next=>exact False.elim hq
  |brk=>exact False.elim hq
  |cont=>exact False.elim hq
end
section
variable {X:Cx}[J:Jm]{a b c e o:P3}{ta tb te:TME}{pos p apos cpos:Q_}{n m:Nat}{ps:List E_}{S:SpM}{x:E_}{es:List P3}{t:TMA}
def BY(x m:E_)(dd:List D)(S:SpM)(to:TME):TME:=λz M R=>to z M λd M1=>∃fs,cS M1 d x fs/\fs.lookup m=z8/\S (d::dd) M1 R λx fs M'=>J.RM z M' x fs
def BZ{nm:E_}{dd:List D}{pl:SB Bool}(C:gQ X.prog X.w X.K X.mg X.base n x nm ps dd (lSpM X.K S))(hx:XOkM X)(hr:Room m X.A)(ho:ME X o te)(d6:autoParam (X.ex=[]) zA0)(hn:autoParam (n<=m) zA1)
  (ht:Q7 (.Call (.Attribute o nm apos) [] [] pos) X.env=(do
   let ov <-Q7 o X.env
   RK apos.atName
   let (f,first) <-Rq [ov] (R3 ov nm pl)
   SK pos f first (Rx pos (Q4 [] X.env)) (RU pos (Rv [] X.env))):=by rfl):
  ME X (.Call (.Attribute o nm apos) [] [] pos) (BY x nm dd S te):=by
 refine#[λpins s σ H Q I h=>?_];obtain⟨Fr,z,M,k,rs,R,h1,h2⟩:=h;refine methodCall_KW (pl:=pl) (thn (ho.out pins s σ H (λv H1=>∃d M1 F1,GrowM M M1 Fr H F1 H1/\Rep X.K F1 d v/\RepM X.K F1 H1 M1/\∃fs,cS M1 d x fs/\fs.lookup nm=z8/\S (d::dd) M1 R λx fs M'=>J.RM z M' x fs) I #[Fr,z,M,k,rs,_,h1,λd v M1 F1 H1 g1 hd rd m1=>#[d,M1,F1,g1,rd,m1,hd]]) λu s1 hh=>?_) ht;obtain⟨v,H1,I1,rv,d,M1,F1,g1,rd,m1,fs,hi,hl,hq⟩:=hh;obtain⟨C',f,fd,e9,n5,hns,gt,IQ,F,hb,hd,PY⟩:=C;obtain⟨a,C2,dx,ws,rfl,l8,hH,rf⟩:=gD g1.fh m1 rd hi;rw[hns]at l8;cases l8;obtain rfl:u=Value.ref a:=rv;refine jq I1 hH gt IQ (rf.none hl) ?_;refine callWith_K0 (first:=[.ref a]) I1.kIn IQ.kp (BX (E:=EX X z σ) (us:=[.ref a]) (vs:=[.ref a]) F (hr.mono hn) hb hd (λe s' hq=>hx.out d6 I1 hq) I1 (.cons rfl .nil) ?_);exact gE k rs g1 m1 (reps_cons.mpr #[_,_,rfl,rd,PY F1]) hq h2
def B0(ta tb:TME):TME:=λz M R=>ta z M λx M1=>tb z M1 λy M2=>match x,y with|.ptr a,.ptr b=>∃ds es,mget M2 a=be (.lst ds)/\mget M2 b=be (.lst es)/\ds.length+es.length<=100000/\∀p,p∉aq M2->R (.ptr p) ((p,.lst (ds++es))::M2)|_,_=>False
def tU(ha:ME X a ta)(hb:ME X b tb):ME X (.BinOp a .Add b pos) (B0 ta tb):=⟨(jj qp ha.out hb.out).anti λs H Q h=>by
 obtain⟨F,z,M,k,rs,R,h1,h2⟩:=h;refine#[F,z,M,k,rs,_,h1,λx u M1 F1 H1 g1 hx rx m1=>?_];refine#[F1,z,M1,k.growM rs.mb g1,rs.growM k.bh g1 m1,_,hx,λy v M2 F2 H2 g2 hy ry m2=>?_];split at hy
 .rename_i p q;obtain⟨ds,es,hm,Jf,hl,hR⟩:=hy;obtain⟨us,hH,ru⟩:=m2.ok _ _ (bn hm);obtain⟨vs,MK,rv⟩:=m2.ok _ _ (bn Jf);refine#[p,q,us,vs,rep_ptr.mp rx,rep_ptr.mp ry,hH,MK,by rw[ru.length,rv.length];exact Fg hl Ji,λr hr=>?_];exact h2 _ _ _ F2 _ ((g1.trans g2).trans (GrowM.new g2.fh hr)) (hR r λz=>m2.here z hr) (rep_ptr.mpr rfl) (m2.new g2.fh hr #[_,aw,ru.append rv])
 .exact hy.elim⟩
def mSlP(ta:TME)(tl th:TMO):TME:=λz M R=>ta z M λx M1=>tl z M1 λlo M2=>th z M2 λhi M3=>match x with|.ptr a=>∃ds,mget M3 a=be (.lst ds)/\∀p,p∉aq M3->R (.ptr p) ((p,.lst (cutD ds lo hi))::M3)|_=>False
def tV{lo hi:Option P3}{tl th:TMO}{p2:Q_}(ha:ME X a ta)(hl:MPO X lo tl)(hu:MPO X hi th):ME X (.Subscript a (.Slice lo hi z8 p2) pos) (mSlP ta tl th):=⟨(js jt ha.out hl.out hu.out).anti λs H Q q=>by
 obtain⟨F,z,M,k,rs,R,h1,h2⟩:=q;refine#[F,z,M,k,rs,_,h1,λx u M1 F1 H1 g1 hx rx m1=>?_];have k1:=k.growM rs.mb g1;have r1:=rs.growM k.bh g1 m1;refine#[F1,z,M1,k1,r1,_,hx,λlo M2 F2 H2 g2 hy m2=>?_];refine#[F2,z,M2,k1.growM r1.mb g2,r1.growM k1.bh g2 m2,_,hy,λhi M3 F3 H3 g3 hw m3=>?_];have g:=g1.trans (g2.trans g3);split at hw
 .rename_i l;obtain⟨ds,hm,hR⟩:=hw;obtain⟨us,hH,ru⟩:=m3.ok _ _ (bn hm);refine#[l,us,rep_ptr.mp rx,SqL.of hH,λr hr=>?_];exact h2 _ _ _ F3 _ (g.trans (GrowM.new g3.fh hr)) (hR r λz=>m3.here z hr) (rep_ptr.mpr rfl) (m3.new g3.fh hr #[_,aw,ru.cut _ _])
 .exact hw.elim⟩
def B1(to:TME):TME:=λz M R=>to z M λo M1=>match o with|.ptr a=>∃ds d,mget M1 a=be (.lst ds)/\ds[ds.length-1]?=be d/\R d (mput M1 a (.lst ds.dropLast))|_=>False
def tW(ho:ME X o ta)(b7:autoParam (Q6 o "pop" X.env (Q7 o X.env)=Q7 o X.env) zA0)(b_:autoParam ((apos.endLine==cpos.line)=true) zA0):ME X (.Call (.Attribute o "pop" apos) [] [] cpos) (B1 ta):=⟨(wF PySem.F.plainAttrs_list PySem.F.slot_list_pop PySem.F.type_list_pop wK ho.out b7 b_).anti λs H Q q=>by
 obtain⟨F,z,M,k,rs,R,h1,h2⟩:=q;refine#[F,z,M,k,rs,_,h1,λx u M1 F1 H1 g1 hx rx m1=>?_];split at hx
 .rename_i l;obtain⟨ds,d,hm,hl,hR⟩:=hx;obtain⟨us,hH,ru⟩:=m1.ok _ _ (bn hm);obtain⟨v,hv,rv⟩:=ru.get hl;rw[rep_ptr.mp rx];exact#[.inl #[rfl,us,SqL.of hH],l,us,v,rfl,rfl,hH,by rw[ru.length];exact hv,h2 _ _ _ F1 _ (g1.trans (GrowM.put g1.fh (m1.fr l (bD (bn hm))) hm)) hR rv (m1.put hm #[_,aw,ru.init])]
 .exact hx.elim⟩
end
abbrev SiM:=Addr->List D->(MS->Prop)->Prop
def lSiM(K:Ex)(C:Addr)(S:SiM):Sp:=λvs H Q _=>∃a dx us H1 F ds,vs=.ref a::us/\H=upd (upd H1 dx (.own a)) a (.ins C dx [])/\H1 a=z8/\H1 dx=z8/\dx≠a/\Same F H1/\Reps K F ds us/\
 ∃R:MS->Prop,S a ds R/\∀M' F' H',GrowM [] M' F H1 F' H'->R M'->RepM K F' H' M'->Q .non H'
def CalN(P:Pi)(w:Q2)(K:Ex)(mg:E_->Option KB)(base:Heap)(n:Nat)(x:E_)(ps:List E_)(S:SiM):Prop:=
 ∃C f fd,nsIn K Os x=be (be (.ref C))/\mg x=be (.ref C)/\Mk K C f/\FnOk P w K mg base (Exc.CX1 P w) n f fd ps (lSiM K C S)/\Binds K fd ps []
section
variable {P:Pi}{w:Q2}{K:Ex}{mg:E_->Option KB}{base:Heap}
open Classical in
def Txi.okIN{x qual:E_}{st:Q0}{N:List E_}{p0:E_}{ps:List E_}{k:Nat}{S:SiM}(T:Txi K mg x qual st (p0::ps))(F:FnScope N (p0::ps) (ag st))(len:∀a ds R,S a ds R->ds.length=ps.length)
  (a9:∀(f:Addr) (cdv:KB) (A:Q3) (outer:List RI) (s:KF) (H:Hp) (E:XK) (J:Jm),Room k (A.deeper (Ra qual (ag st) s.heap.objs.size f cdv))->XOkM (cxOf (CX1 P w) P w K mg base N qual (ag st) f cdv A outer s H E).nox->
   ∃t,MSs (cxOf (CX1 P w) P w K mg base N qual (ag st) f cdv A outer s H E).nox (aE st) t/\∀a ds R,(∀z M x fs,¬J.RM z M x fs)->S a ds R->t {nx:=λ_ M'=>R M',rt:=λ_ _=>False} (startD N (.ptr a::ds)) [(a,.ins x [])]):CalN P w K mg base (k+1) x (p0::ps) S:=by
 obtain⟨C,f,fd,hns,i8,mk,T,hb⟩:=T;refine#[C,f,fd,hns,i8,mk,Fun.okC T F (λvs H Q E h=>?_) (λcdv A outer s H vs Q E hr h=>?_),hb]
 .obtain⟨a,dx,us,H1,F,ds,rfl,_,_,_,_,_,rs,R,h,_⟩:=h;rw[Fc,Fc,rs.length,len a ds R h]
 .obtain⟨a,dx,us,H1,F1,ds,rfl,rfl,ha,m9,j3,fh,rs,R,h,q⟩:=h
  let H:Hp:=upd (upd H1 dx (.own a)) a (.ins C dx [])
  let B:Hp:=λb=>if b=a then z8 else H b
  have Kx:B a=none:=if_pos rfl;have hB:∀{b:Addr},b≠a->B b=H b:=λ{b} h=>if_neg h;have l5:∀{b:Addr} {o:HO},H1 b=be o->b≠a/\H b=be o:=λ{b o} e=>by
   have n1:b≠a:=bw e ha;exact#[n1,by show upd _ _ _ b=_;rw[aj n1,aj (bw e m9)];exact e]
  letI:Jm:={B:=B,F0:=F1,RX:=λ_ _ _=>False,RM:=λ_ _ _ _=>False}
  have hx:XOkM (cxOf (CX1 P w) P w K mg base N qual (ag st) f cdv A outer s H E).nox:=λσ z M' F' H' s' e C od y fs I kk rr hR er _=>hR.elim;obtain⟨t,ht,hq⟩:=a9 f cdv A outer s H E inferInstance hr hx;have Fa:F1 a=none:=fh.free ha;have k0:Kept B F1 F1 H:=⟨λb o e=>by
   by_cases n:b=a
   .rw[n,Kx]at e;cases e
   .rw[hB n]at e;exact e,λb o e=>(l5 (fh b o e)).2,Same.refl F1,λ_ h _=>h,rfl,Same.refl F1,λ_ h _=>h⟩
  have w6:Reps K F1 (.ptr a::ds) (.ref a::us):=reps_cons.mpr #[_,_,rfl,rep_ptr.mpr rfl,rs];have Mz:RepM K F1 H [(a,.ins x [])]:=⟨by simp[aq],λb o hb=>by
   have e:=E6.mp hb;cases e;exact#[C,dx,[],hns,aw,repf_nil.mpr rfl],λb hb=>by
   have e:b=a:=by simpa[aq]using hb
   rw[e];exact Fa⟩
  have r0:RepZ K B F1 H (startD N (.ptr a::ds)) (L2.start N (.ref a::us)) [(a,.ins x [])]:=⟨dg w6,jW w6,Mz,λb hb=>by
   have e:b=a:=by simpa[aq]using hb
   rw[e];exact Kx⟩
  refine#[_,ht.out.nox,F1,F1,_,_,k0,r0,_,hq a ds R (λ_ _ _ _ z=>z) h,#[λz' s' M' F' H' kk hn r=>?_,λd v M' F' H' kk hd rd Mr mb=>hd.elim,λ_ _ _ _ _ _ h _=>h.elim,λ_ _ _ _ _ _ h _=>h.elim]];refine q M' F' H' ⟨kk.f0,kk.fh,λb o _ e=>kk.bh b o (by show B b=be o;rw[hB (l5 e).1];exact(l5 e).2),λb _ h1 h2=>kk.out b h1 (by
   show B b≠z8;cases e:H1 b with
   |none=>exact absurd e h2
   |some o=>rw[hB (l5 e).1,(l5 e).2];exact λz=>nomatch z),λb hb=>?_⟩ hn r.rm
  cases e:H1 b with
  |none=>exact .inr rfl
  |some o=>
   have h0:B b=none:=r.mb b hb;rw[hB (l5 e).1,(l5 e).2]at h0;cases h0
end
section
variable {X:Cx}[J:Jm]{e:P3}{es:List P3}{pos p:Q_}{n m:Nat}{ps:List E_}{S:SiM}{x:E_}{t:TMA}
def B2(S:SiM)(t:TMA):TME:=λz M R=>t z M λds M1=>∀a,a∉aq M1->S a ds λM'=>R (.ptr a) (M'++M1)
def B3(M:CalN X.prog X.w X.K X.mg X.base n x ps S)(hr:Room m X.A)(ha:MA X (e::es) t)(hg:autoParam (Gl X x) zA0)(hn:autoParam (n+1<=m) zA1)(c_:autoParam (zND x) zA1)
  (he:autoParam (zSE X e es) zA0) (c5:autoParam (zPL X pos es) zA0):
  ME X (.Call (.Name x p) (e::es) [] pos) (B2 S t):=by
 obtain⟨C,f,fd,hns,i8,mk,F,hb⟩:=M;refine#[(fX mk F (hr.mono hn) hg i8 hb .nil dU ha.out c_ he c5).anti λs H Q q=>?_];obtain⟨F,z,M,k,rs,R,h1,h2⟩:=q;refine#[F,z,M,k,rs,_,h1,λds vs M1 F1 H1 g1 hx rx m1=>?_];intro a dx ha m9 j3;have na:a∉aq M1:=λz=>m1.here z ha;refine#[a,dx,vs,H1,F1,ds,by rw[FE],rfl,ha,m9,j3,g1.fh,rx,_,hx a na,λM' F' H' g hR m'=>#[rfl,?_]];have hh:∀b o,H1 b=be o->H' b=be o:=λb o e=>g.hh b o (λz=>nomatch z) e;have nk:∀b,b∈aq M'->H1 b=none:=λb hb=>(g.ks b hb).elim (λz=>nomatch z) id;refine h2 (.ptr a) (.ref a) _ F' H' (g1.trans #[g.ff,g.fh,λb o _ e=>hh b o e,λb _=>g.out b (λz=>nomatch z),λb hb=>?_]) hR (rep_ptr.mpr rfl) #[?_,λb o hb=>?_,λb hb=>?_]
 .rcases keys_app.mp hb with z|z
  .exact .inr (nk b z)
  .exact .inl z
 .unfold aq;rw[FG];exact Gg.mpr #[m'.nd,m1.nd,λb h1 c h2 e=>m1.here (e ▸ h2) (nk b h1)]
 .rcases FH.mp hb with z|z
  .exact m'.ok b o z
  .exact(m1.ok b o z).mono g.ff λo e=>hh b o e
 .rcases keys_app.mp hb with z|z
  .exact m'.fr b z
  .exact g.out b (λz=>nomatch z) (m1.fr b z) (m1.here z)
end
section
variable {K:Ex}{x m q:E_}{st:Q0}{ps:List E_}
def MdIn(K:Ex)(x m q:E_)(st:Q0)(i:Int):Prop:=∃C f fd T,NsC K x C/\Meth K C m f/\FunG K (.ref T) m q st f fd/\∃tc td n ts t,K.lookup T=be #[tc,td,.seq [.int i t].toArray n,ts]
def mdIn_mk{C f T:Addr}{i:Int}{oc tc:KB}{od an td:Option Addr}{sl ts:Array (Option KB)}{n:Nat}{t:S3}{kV dc pm cd ct:KB}(a:nsIn K Os x=be (be (.ref C)))(b:E9 K (.ref C) m=be (be (.ref f)))(j:isFn K (.ref f)=true)(l:K.lookup f=be #[oc,od,.func (fnOf m q (bq st) (aE st) (ag st) (.ref T) kV dc pm an cd ct),sl])(c:codeIn K cd q=true)(k:keepIn K (.ref f)=true)
  (d:K.lookup T=be #[tc,td,.seq [.int i t].toArray n,ts]):MdIn K x m q st i:=#[C,f,_,T,a,#[b,j,k],#[#[_,_,_,_,_,_,_,_,_,rfl,l,c],k],_,_,_,_,_,d]
def B4(m q:E_)(st:Q0)(x0 x1:E_):Prop:=∀(s:KF) (T:Addr) (o:Re) (its:Array KB) (n:Nat) (v:KB) (kV doc pm:KB) (an:Option Addr) (cdv ct u0 u1:KB),s.heap.get? T=be o->o.data=.seq [v].toArray n->
 RW s (fnOf m q (bq st) (aE st) (ag st) (.ref T) kV doc pm an cdv ct) #[[u0,u1],[]] [(x0,u0),(x1,u1)]/\RW s (fnOf m q (bq st) (aE st) (ag st) (.ref T) kV doc pm an cdv ct) #[[u0],[]] [(x0,u0),(x1,v)]
def Txd(K:Ex)(x m qual:E_)(st:Q0)(ps:List E_)(dd:List D):Prop:=
 ∃C f fd dV e9 n5,nsIn K Os x=be (be (.ref C))/\Cls K C/\Meth K C m f/\FunG K dV m qual st f fd/\Binds K fd ps []/\Binds K fd ps n5/\Vals e9 n5/\∀F,Reps K F dd e9
def MdIn.txd{i:Int}{x0 x1:E_}(T:MdIn K x m q st i)(c:ClIn K x)(b:B4 m q st x0 x1):Txd K x m q st [x0,x1] [.int i]:=by
 obtain⟨C,k⟩:=c;obtain⟨D,f,fd,T,a,mt,F,tc,td,n,ts,t,hT⟩:=T;cases NsC.uniq k.ns a;have F':=F;obtain⟨oc,od,kV,doc,pm,an,cdv,ct,osl,rfl,lk,d_⟩:=F'.ex;refine#[C,f,_,_,[.int i],[.int i t],a,k.cl,mt,F,λs us hK hl=>?_,λs us hK hl=>?_,.cons #[t,rfl] .nil,λF=>reps_cons.mpr #[_,_,rfl,rep_int.mpr rfl,reps_nil.mpr rfl]]
 .rw[FE]at hl ⊢;obtain⟨u0,t0,rfl,h0⟩:=bc hl;obtain⟨u1,t1,rfl,h1⟩:=bc h0;cases len_0 h1;exact(b s T _ [].toArray n (.int i t) kV doc pm an cdv ct u0 u1 (hK _ _ hT) rfl).1
 .rw[Fp]at hl;have Kh:us.length=[x0].length:=Nat.succ.inj hl;obtain⟨u0,t0,rfl,h0⟩:=bc Kh;cases len_0 h0;exact(b s T _ [].toArray n (.int i t) kV doc pm an cdv ct u0 u0 (hK _ _ hT) rfl).2
end
section
variable {P:Pi}{w:Q2}{K:Ex}{mg:E_->Option KB}{base:Heap}
variable{N ps:List E_}{dd:List My.D}
def Txd.okM{x m qual:E_}{st:Q0}{k:Nat}{S:SpM}(T:Txd K x m qual st ps dd)(F:FnScope N ps (ag st))(len:∀ds M R RX,S ds M R RX->ds.length=ps.length)
  (a9:∀(f:Addr) (cdv:KB) (A:Q3) (outer:List RI) (s:KF) (H:Hp) (E:XK) (J:Jm),Room k (A.deeper (Ra qual (ag st) s.heap.objs.size f cdv))->XOkM (cxOf (CX1 P w) P w K mg base N qual (ag st) f cdv A outer s H E)->
   ∃t,MSs (cxOf (CX1 P w) P w K mg base N qual (ag st) f cdv A outer s H E) (aE st) t/\∀ds M R RX,(∀z,J.RM z=λM' x fs=>RX x fs M')->S ds M R RX->t {nx:=λ_ M'=>R .non M',rt:=R} (startD N ds) M):CalMth P w K mg base (k+1) x m ps (lSpM K S)/\gQ P w K mg base (k+1) x m ps dd (lSpM K S):=by
 obtain⟨C,f,fd,dV,e9,n5,h1,h2,h3,T,hb,f7,hv,hd⟩:=T;have ok:=Fun.okM (P:=P) (w:=w) (mg:=mg) (base:=base) T F len λcdv A outer s H E J hr hx=>a9 f cdv A outer s H E J hr hx;exact#[#[C,f,fd,h1,h2,h3,ok,hb],C,f,fd,e9,n5,h1,h2,h3,ok,f7,hv,hd]
def Txd.okMd{x m qual:E_}{st:Q0}{k:Nat}{S:SpM}(T:Txd K x m qual st ps dd)(F:FnScope N ps (ag st))(len:∀ds M R RX,fL S ds M R RX->ds.length=ps.length)
  (a9:∀(f:Addr) (cdv:KB) (A:Q3) (outer:List RI) (s:KF) (H:Hp) (E:XK) (J:Jm),Room k (A.deeper (Ra qual (ag st) s.heap.objs.size f cdv))->XOkM (cxOf (CX1 P w) P w K mg base N qual (ag st) f cdv A outer s H E)->
   ∃t,MSs (cxOf (CX1 P w) P w K mg base N qual (ag st) f cdv A outer s H E) (aE st) t/\∀ds M R RX,(∀z,J.RM z=λM' x fs=>RX x fs M')->fL S ds M R RX->t {nx:=λ_ M'=>R .non M',rt:=R} (startD N ds) M):CalMth P w K mg base (k+1) x m ps (lSpM K S)/\gQ P w K mg base (k+1) x m ps dd (lSpM K S):=by
 obtain⟨a,C,f,fd,e9,n5,h1,h2,h3,ok,hb,hv,hd⟩:=Txd.okM (S:=fL S) T F len a9;exact#[a.drop,C,f,fd,e9,n5,h1,h2,h3,ok.imp λ_ _ _ _ h=>tS h,hb,hv,hd]
def nilD(S:SpD):SpM:=λds M R _=>M=[]/\∃R0:D->Prop,S ds R0/\R=λd _=>R0 d
def B5{n:Nat}{f:Addr}{fd:Q8}{S:SpD}(F:FnOk P w K mg base (CX1 P w) n f fd ps (lSpM K (nilD S))):FnOk P w K mg base (CX1 P w) n f fd ps (lSp K S):=F.imp λvs H Q E q=>by
 obtain⟨F,ds,fh,rs,R,hS,q1⟩:=q;exact#[F,ds,[],fh,rs,RepM.nil,_,λ_ _ _=>False,#[rfl,R,hS,rfl],λd v M' F' H' g hd rd _=>q1 d v F' H' (growM_nil g) hd rd,λ_ _ _ _ _ _ _ _ z=>z.elim]
end
section
variable {X:Cx}[J:Jm]{a:P3}{ta:TME}{tA:TMT}{pos:Q_}
def cZ(ha:ME X a ta)(he:autoParam (∀d9,isTrue a X.env d9=(do let v <-d9;RK a.pos;Rq [v] (truthy v))) zA3):MT X a (mTru ta):=⟨(pM ha.out he).anti λs H Q q=>by
 obtain⟨F,z,M,k,rs,R,h1,h2⟩:=q;refine#[F,z,M,k,rs,_,h1,λx u M1 F1 H1 g1 hx rx m1=>?_];split at hx
 .rw[rep_bl.mp rx];exact#[_,rfl,h2 _ M1 F1 H1 g1 hx m1]
 .exact hx.elim⟩
def mNot(tA:TMT):TMT:=λz M R=>tA z M λk M1=>R (!k) M1
def dI(ha:MT X a tA):MT X (.UnaryOp .Not a pos) (mNot tA):=⟨(pr ha.out).anti λs H Q q=>by
 obtain⟨F,z,M,k,rs,R,h1,h2⟩:=q;exact#[F,z,M,k,rs,_,h1,λk M1 F1 H1 g1 hx m1=>h2 _ M1 F1 H1 g1 hx m1]⟩
end
abbrev Bx.N(V:Bx)(n:Nat)(x:E_)(ps:List E_)(S:SiM):Prop:=CalN V.P V.w V.K V.mg V.base n x ps S
abbrev Bx.QD(V:Bx)(n:Nat)(x m:E_)(ps:List E_)(S:SpD):Prop:=CalMth V.P V.w V.K V.mg V.base n x m ps (lSp V.K S)
abbrev Bx.Qd(V:Bx)(n:Nat)(x m:E_)(ps:List E_)(dd:List My.D)(S:SpM):Prop:=gQ V.P V.w V.K V.mg V.base n x m ps dd (lSpM V.K S)
abbrev Bx.Td(V:Bx)(x m q:E_)(st:Q0)(ps:List E_)(dd:List My.D):Prop:=Txd V.K x m q st ps dd
section
variable {X:Cx}[J:Jm]{a b c e o:P3}{ta tb te:TME}{pos:Q_}
def B6{p p2:Q_}{y:E_}{t:String}(hm:X.mg "isinstance"=z8)(LQ:X.mg y=z8)(ha:ME X a ta)(hv:Rc y=be (.type t))
  (hk:∀x:D,cJ x=true->kitOne X.K (.type (tyD x)) (.type t)=be (cI t x)) (hg:autoParam (Gl X "isinstance") zA0) (LR:autoParam (Gl X y) zA0) (hn:autoParam (y≠"__name__") zA1) (c_:autoParam (zND y) zA1)
  (k6:autoParam (Q4 [a,.Name y p2] X.env=(false,Q7 a X.env)::Q4 [.Name y p2] X.env) zA0) (k_:autoParam (Q4 [.Name y p2] X.env=(false,Q7 (.Name y p2) X.env)::Q4 [] X.env) zA0) (c5:autoParam ((Rx pos (Q4 [.Name y p2] X.env)).any (·.1)=false) zA0):ME X (.Call (.Name "isinstance" p) [a,.Name y p2] [] pos) (mUn (jH t) ta):=⟨(fj qP hg hm PyProof.Rows.boot_isinstance (bo ha.out (bo (ph (v:=.ty t) LR LQ hv rfl hn c_) pa_nil k_) k6) Ji Ji k6 c5).anti λs H Q q=>by
 obtain⟨F,z,M,k,rs,R,h1,h2⟩:=q;refine#[F,z,M,k,rs,_,h1,λx u M1 F1 H1 g1 hx rx m1=>?_];have no:cJ x=true/\R (.bl (cI t x)) M1:=by
  cases x with
  |obj C b=>exact False.elim hx
  |exc C b=>exact False.elim hx
  |ptr b=>exact False.elim hx
  |dti b=>exact False.elim hx
  |_=>exact#[rfl,hx]
 exact#[u,tyD x,t,_,rfl,qQ g1.fh rx no.1,hk x no.1,h2 _ _ M1 F1 H1 g1 no.2 (rep_bl.mpr rfl) m1]⟩
def B7(is:List Nat)(te:TME):TMS:=λE z M=>te z M λx M1=>match x with|.tup ds=>ds.length=is.length/\E.nx (bQ is ds z) M1|_=>False
def B8{es:List P3}{k:Nat}{is:List Nat}{p:Q_}(hc:X.calm=true)(he:ME X e te)(hg:DGs X es is)(hn:autoParam ((Q5 es X.env).length=is.length) zA0)(j4:autoParam ((Q5 es X.env).findIdx? (·.1)=none) zA0)
  (hs:autoParam (RQ [.Tuple es k p] e pos.line X.env=pure false) zA0) (hw:autoParam (RR [.Tuple es k p] e X.env=pure none) zA0) (h1:autoParam ((Q5 [.Tuple es k p] X.env).map (·.2)=[RA (.Tuple es k p) X.env]) zA0):MSt X (.Assign [.Tuple es k p] e pos) (B7 is te):=⟨by
 obtain⟨u,hu,kk⟩:=hg;refine(fU he.out (eZ hc hu hn j4) hs hw h1).anti λE s H q=>?_;obtain⟨F0,F,z,M,k,rs,ED,h,e⟩:=q;refine#[F,z,M,k.kf,rs,_,h,λd v M1 F1 H1 g hd rd m1=>?_];have r1:=rs.growM k.bh g m1;split at hd
 .obtain⟨p,vs,rfl,hq,rr⟩:=rep_tup_mp rd;exact#[p,vs,rfl,g.fh.tup hq,by rw[rr.length];exact hd.1,kk _ vs z s J.B F1 H1 _ hd.1 rr r1.rs λs' r'=>e.nx _ _ M1 F1 H1 (k.growM rs.mb g) hd.2 #[r',jX is _ _ z rr r1.no,m1,r1.mb]]
 .exact hd.elim⟩
end
end My
namespace My
section
variable {X:Cx}
def rNeT(K:Ex):R2:=λx y H Q=>∃a b xs ys,x=.ref a/\y=.ref b/\SqT K H a xs/\SqT K H b ys/\xs.all bp=true/\ys.all bp=true/\Q (.bl (!eqVs xs ys)) H
def B9(hu:X.A.units+1<R6):OpR X (Ri .NotEq) (rNeT X.K):=by
 intro pins s σ H x y v u Q I rx ry h;obtain⟨a,b,xs,ys,rfl,rfl,ha,hb,fx,fy,q⟩:=h;cases rx;cases ry;obtain⟨its,r1,p1,_⟩:=I.tuple ha;obtain⟨g6,r2,p2,_⟩:=I.tuple hb;refine SeqAt.RcNeAt.tuples (e:=λj=>eqV (xs.getD j .non) (ys.getD j .non)) p1 p2 Jb (λj h1 h2=>?_) _ _ _ _ #[.bl (!eqVs xs ys),H,I,?_,q]
 .rw[Ff]at h1 h2;simp only[List.getElem_toArray];exact eqAt_V (Vals.getD r1 h1) (Vals.getD r2 h2) (flat_getD fx) (flat_getD fy)
 .rw[<-qR,Ff,Ff,<-L2.Vals.length r1,<-L2.Vals.length r2];rfl
def rdNeT:RD2:=λx y R=>match x,y with|.tup xs,.tup ys=>(xs.all bg=true/\ys.all bg=true)/\R (.bl (!eqFs xs ys))|_,_=>False
def Ca{K:Ex}:bb K (rNeT K) rdNeT:=by
 intro x y u v F H R Q fh h rx ry q;unfold rdNeT at h;split at h
 .obtain⟨⟨f1,f2⟩,h⟩:=h;obtain⟨a,us,rfl,hq,rr⟩:=rep_tup_mp rx;obtain⟨b,vs,rfl,m6,m8⟩:=rep_tup_mp ry;exact#[a,b,us,vs,rfl,rfl,fh.tup hq,fh.tup m6,cz rr f1,cz m8 f2,q _ _ F H (Grow.refl fh) h (rep_bl.mpr (by rw[gk rr m8 f1 f2]))]
 .exact h.elim
variable {a b c e:P3}{ta tb:TD}{pos:Q_}
end
section
variable {X:Cx}[J:Jm]{a b c e:P3}{ta tb te:TME}{pos p2:Q_}
def tX(hu:X.A.units+1<R6)(ha:ME X a ta)(hb:ME X b tb):MT X (.Compare a [.NotEq] [b] pos) (mTst (mOp rdNeT ta tb)):=dz (B9 hu) Ca ha hb (nomark _)
def Cb(K:Ex):R2:=λx y H Q=>∃a b xs,x=.ref a/\y=.ref b/\SqL K H a xs/\SqL K H b []/\Q (.bl (!xs.isEmpty)) H
def Cd(hu:X.A.units<R6):OpR X (Ri .NotEq) (Cb X.K):=by
 intro pins s σ H x y v u Q I rx ry h;obtain⟨a,b,xs,rfl,rfl,ha,hb,q⟩:=h;cases rx;cases ry;obtain⟨its,r1,p1,_⟩:=I.list ha;obtain⟨g6,r2,p2,_⟩:=I.list hb;have e2:g6=[]:=Gv (L2.Vals.length r2).symm;have e1:=L2.Vals.length r1;subst e2;cases xs with
 |nil=>
  have e3:its=[]:=Gv e1.symm;subst e3;exact SeqAt.RcNeAt.lists (e:=λ_=>true) p1.isList p2.isList rfl hu (λj h1 _=>absurd h1 (GS j)) _ _ _ _ #[.bl false,H,I,rfl,q]
 |cons x xs=>
  refine SeqAt.RcNeAt.lists_lengths p1.isList p2.isList ?_ hu _ _ _ _ #[.bl true,H,I,rfl,q];rw[Ff,Ff,<-e1];rfl
def Ce(ta:TME):TMT:=λz M R=>ta z M λx M1=>match x with|.ptr a=>∃ds,mget M1 a=be (.lst ds)/\R (!ds.isEmpty) M1|_=>False
def Cf(hu:X.A.units+1<R6)(ha:ME X a ta):MT X (.Compare a [.NotEq] [.List [] p2] pos) (Ce ta):=⟨(jm (Cd Jb) ha.out (eG (pos:=p2) aT).out (nomark _)).anti λs H Q q=>by
 obtain⟨F,z,M,k,rs,R,h1,h2⟩:=q;refine#[F,z,M,k,rs,_,h1,λx u M1 F1 H1 g1 hx rx m1=>?_];split at hx
 .rename_i p;obtain⟨ds,hm,hR⟩:=hx;refine#[F1,z,M1,k.growM rs.mb g1,rs.growM k.bh g1 m1,λy M2=>∃p',p'∉aq M1/\y=.ptr p'/\M2=(p',.lst [])::M1,#[Ji,λp' hp=>#[p',hp,rfl,rfl]],λy v M2 F2 H2 g2 hy ry m2=>?_];obtain⟨p',hp,rfl,rfl⟩:=hy;obtain⟨us,hH,ru⟩:=m2.ok _ _ (Fe _ (bn hm));obtain⟨vs,MK,rv⟩:=m2.ok _ _ Fi;have ev:=reps_nil.mp rv;subst ev;have e3:us.isEmpty=ds.isEmpty:=by have:=ru.length;cases us<;>cases ds<;>simp at this ⊢
  exact#[p,p',us,rep_ptr.mp rx,rep_ptr.mp ry,SqL.of hH,SqL.of MK,#[_,rfl,h2 _ _ F2 H2 (g1.trans #[g2.ff,g2.fh,g2.hh,g2.out,λb h=>.inl h]) (by rw[e3];exact hR) #[(FN.mp m2.nd).2,λb o hb=>m2.ok b o (Fe _ hb),λb hb=>m2.fr b (Fe _ hb)]]]
 .exact hx.elim⟩
end
end My
end
section
namespace My
local macro_rules | `(tactic| k_memK) => `(tactic| exact⟨rfl, rfl, rfl, by decide +kernel, rfl, by decide +kernel, by decide +kernel⟩)
local macro_rules | `(tactic| k_places) => `(tactic| try simp only[List.set_cons_succ, List.set_cons_zero, My.bQ])
open PySem PySem.Spec PyProof.Rows L2
def top(i:Nat):Stmt:=PySem.Challenge.pw_motiffield_k33_kept.main.body.getD i (.Pass #[0,0,0,0])
abbrev kF:Q0:=top 58
abbrev kG:List Str:=["_law_script","_law_k"]
def Cg:FnScope ["_law_script","_law_k"] kG (ag kF):=Kd
abbrev kH:Q0:=top 60
abbrev kI:List Str:=["_law_script","_law_k","_law_many"]
def sc__law_draws:FnScope ["_law_script","_law_k","_law_many","_law_left","_law_drawn","_law_turn","_law_seed"] kI (ag kH):=Kd
abbrev kJ:Q0:=top 63
abbrev kK:List Str:=["_law_draws_here"]
def sc__law_lines:FnScope ["_law_draws_here","_law_wide","_law_tall","_law_signs","_law_lines_here","_law_j","_law_line","_law_i","_law_place","_law_value"] kK (ag kJ):=Kd
abbrev kL:Q0:=top 61
abbrev kM:List Str:=["_law_draws_here"]
def sc__law_shift_pair:FnScope ["_law_draws_here","_law_a","_law_b","_law_c","_law_d"] kM (ag kL):=Kd
abbrev kN:Q0:=top 62
abbrev kO:List Str:=["_law_lines_here","_law_one","_law_two"]
def sc__law_motif_text:FnScope ["_law_lines_here","_law_one","_law_two","_law_tail"] kO (ag kN):=Kd
abbrev kP:Q0:=top 64
abbrev kQ:List Str:=["_law_script","_law_k"]
def sc__law_motif:FnScope ["_law_script","_law_k","_law_draws_here","_law_lines_here","_law_one","_law_two","_law_leaf"] kQ (ag kP):=Kd
abbrev kR:Q0:=top 65
abbrev kS:List Str:=["_law_one","_law_two","_law_u","_law_v"]
def sc__law_on:FnScope ["_law_one","_law_two","_law_u","_law_v","_law_size"] kS (ag kR):=Kd
abbrev kT:Q0:=top 66
abbrev kU:List Str:=["_law_leaf","_law_x","_law_y"]
def sc__law_leaf_shows:FnScope ["_law_leaf","_law_x","_law_y","_law_way","_law_u","_law_v","_law_j","_law_i"] kU (ag kT):=Kd
abbrev kW:Q0:=top 67
abbrev kX:List Str:=["_law_leaves","_law_x","_law_y"]
def sc__law_shows:FnScope ["_law_leaves","_law_x","_law_y","_law_leaf","_law_hue"] kX (ag kW):=Kd
abbrev gR:Q0:=top 70
abbrev kY:List Str:=["_law_leaves","_law_wide","_law_high"]
def sc__law_floor_rows:FnScope ["_law_leaves","_law_wide","_law_high","_law_lines_here","_law_y"] kY (ag gR):=Kd
abbrev kZ:Q0:=aL (top 56) 1
abbrev lf:List Str:=["self","word"]
def Ch:FnScope ["self","word"] lf (ag kZ):=Kd
abbrev lh:Q0:=top 31
abbrev ll:List Str:=["x","y"]
def Ci:FnScope ["x","y"] ll (ag lh):=Kd
abbrev lm:Q0:=top 13
abbrev lq:List Str:=["family","x","y"]
def sc_home:FnScope ["family","x","y","width","height","slant"] lq (ag lm):=Kd
abbrev gS:Q0:=aL (top 20) 2
abbrev cr:List Str:=["self","x","y"]
def Cj:FnScope ["self","x","y"] cr (ag gS):=Kd
abbrev gT:Q0:=aL (top 21) 2
abbrev gU:List Str:=["self","x","y"]
def sc_Over_shows:FnScope ["self","x","y","hue"] gU (ag gT):=Kd
abbrev gW:Q0:=aL (top 22) 2
abbrev gX:List Str:=["self","x","y"]
def Ck:FnScope ["self","x","y"] gX (ag gW):=Kd
abbrev gY:Q0:=aL (top 23) 2
abbrev gZ:List Str:=["self","x","y"]
def Cl:FnScope ["self","x","y"] gZ (ag gY):=Kd
abbrev hU:Q0:=aL (top 24) 2
abbrev hV:List Str:=["self","x","y"]
def Cm:FnScope ["self","x","y"] hV (ag hU):=Kd
abbrev hZ:Q0:=aL (top 25) 2
abbrev ia:List Str:=["self","x","y"]
def sc_Rehue_shows:FnScope ["self","x","y","hue"] ia (ag hZ):=Kd
abbrev lr:Q0:=top 32
abbrev lu:List Str:=["pattern","x","y"]
def Cn:FnScope ["pattern","x","y"] lu (ag lr):=Kd
abbrev ib:Q0:=top 33
abbrev lv:List Str:=["pattern","x","y","many"]
def Co:FnScope ["pattern","x","y","many"] lv (ag ib):=Kd
abbrev ic:Q0:=aL (top 56) 7
abbrev lw:List Str:=["self"]
def Cp:FnScope ["self"] lw (ag ic):=Kd
abbrev lx:Q0:=aL (top 56) 3
abbrev ie:List Str:=["self","many"]
def sc_Floor_lay:FnScope ["self","many","ahead"] ie (ag lx):=Kd
abbrev ly:Q0:=top 73
abbrev lz:List Str:=["_law_floor","_law_many","_law_bare"]
def sc__law_lay:FnScope ["_law_floor","_law_many","_law_bare","_law_found","_law_refused"] lz (ag ly):=Kd
abbrev lB:Q0:=aL (top 44) 1
abbrev lC:List Str:=["self","allowed"]
def Cq:FnScope ["self","allowed"] lC (ag lB):=Kd
abbrev lD:Q0:=aL (top 44) 2
abbrev lF:List Str:=["self","allowed"]
def sc_Reading_take:FnScope ["self","allowed","sign"] lF (ag lD):=Kd
abbrev lG:Q0:=top 47
abbrev lH:List Str:=["reading","least","most"]
def sc_line_from:FnScope ["reading","least","most","line","column"] lH (ag lG):=Kd
abbrev lJ:Q0:=top 48
abbrev lK:List Str:=["reading"]
def sc_lines_from:FnScope ["reading","lines","width"] lK (ag lJ):=Kd
abbrev lL:Q0:=top 45
abbrev lM:List Str:=["reading"]
def sc_number_from:FnScope ["reading","written"] lM (ag lL):=Kd
abbrev lN:Q0:=top 46
abbrev lP:List Str:=["reading"]
def sc_shift_from:FnScope ["reading","x"] lP (ag lN):=Kd
abbrev lQ:Q0:=top 10
abbrev lR:List Str:=["first","second"]
def sc_levelled:FnScope ["first","second","times","rest"] lR (ag lQ):=Kd
abbrev lU:Q0:=top 12
abbrev lV:List Str:=["first","second"]
def sc_spread:FnScope ["first","second","pair","width"] lV (ag lU):=Kd
abbrev lW:Q0:=top 19
abbrev lY:List Str:=["lines","family"]
def sc_hues_by_home:FnScope ["lines","family","hues","row","line","column","sign"] lY (ag lW):=Kd
abbrev lZ:Q0:=aL (top 20) 0
abbrev me:List Str:=["self","place","lines","first","second"]
def Cr:FnScope ["self","place","lines","first","second"] me (ag lZ):=Kd
abbrev mf:Q0:=top 49
abbrev mh:List Str:=["reading"]
def sc_motif_from:FnScope ["reading","place","lines","first","second"] mh (ag mf):=Kd
abbrev mi:Q0:=aL (top 23) 0
abbrev mj:List Str:=["self","form"]
def Cs:FnScope ["self","form"] mj (ag mi):=Kd
abbrev ml:Q0:=aL (top 24) 0
abbrev mn:List Str:=["self","form"]
def Ct:FnScope ["self","form"] mn (ag ml):=Kd
abbrev mo:Q0:=aL (top 21) 0
abbrev ms:List Str:=["self","above","below"]
def Cu:FnScope ["self","above","below"] ms (ag mo):=Kd
abbrev mv:Q0:=aL (top 22) 0
abbrev mw:List Str:=["self","form","x","y"]
def Cw:FnScope ["self","form","x","y"] mw (ag mv):=Kd
abbrev mx:Q0:=aL (top 25) 0
abbrev my:List Str:=["self","form","old","new"]
def Cy:FnScope ["self","form","old","new"] my (ag mx):=Kd
abbrev ig:Q0:=top 50
abbrev fM:List Str:=["reading","around"]
def sc_over_from:FnScope ["reading","around","above","below"] fM (ag ig):=Kd
abbrev ii:Q0:=top 51
abbrev fN:List Str:=["reading","around"]
def sc_shifted_from:FnScope ["reading","around","shift"] fN (ag ii):=Kd
abbrev ij:Q0:=top 52
abbrev fO:List Str:=["reading","around"]
def sc_rehue_from:FnScope ["reading","around","old","new"] fO (ag ij):=Kd
abbrev ik:Q0:=top 53
abbrev cD:List Str:=["reading","around"]
def sc_form_from:FnScope ["reading","around","sign"] cD (ag ik):=Kd
abbrev mz:Q0:=aL (top 44) 0
abbrev mB:List Str:=["self","text"]
def Cz:FnScope ["self","text"] mB (ag mz):=Kd
abbrev mC:Q0:=aL (top 43) 0
abbrev mD:List Str:=["self","text","shifts","form"]
def CA:FnScope ["self","text","shifts","form"] mD (ag mC):=Kd
abbrev mF:Q0:=top 11
abbrev mG:List Str:=["one","two"]
def sc_measure:FnScope ["one","two","last"] mG (ag mF):=Kd
abbrev mH:Q0:=top 14
abbrev mI:List Str:=["one","two"]
def sc_met:FnScope ["one","two","common","width","rise","start","gap","climbs","steps"] mI (ag mH):=Kd
abbrev mJ:Q0:=top 15
abbrev mK:List Str:=["family"]
def CB:FnScope ["family"] mK (ag mJ):=Kd
abbrev mL:Q0:=top 16
abbrev mM:List Str:=["family"]
def CC:FnScope ["family"] mM (ag mL):=Kd
abbrev il:Q0:=aL (top 20) 1
abbrev cu:List Str:=["self"]
def CD:FnScope ["self"] cu (ag il):=Kd
abbrev im:Q0:=aL (top 21) 1
abbrev io:List Str:=["self"]
def sc_Over_family:FnScope ["self","first"] io (ag im):=Kd
abbrev ip:Q0:=aL (top 22) 1
abbrev iq:List Str:=["self"]
def CF:FnScope ["self"] iq (ag ip):=Kd
abbrev ir:Q0:=aL (top 23) 1
abbrev iu:List Str:=["self"]
def CG:FnScope ["self"] iu (ag ir):=Kd
abbrev iw:Q0:=aL (top 24) 1
abbrev iy:List Str:=["self"]
def CH:FnScope ["self"] iy (ag iw):=Kd
abbrev iz:Q0:=aL (top 25) 1
abbrev iA:List Str:=["self"]
def CI:FnScope ["self"] iA (ag iz):=Kd
abbrev mN:Q0:=top 54
abbrev mQ:List Str:=["text"]
def sc_read:FnScope ["text","reading","form","family"] mQ (ag mN):=Kd
abbrev mR:Q0:=top 37
abbrev mU:List Str:=["one","two","width","height"]
def sc_first_unlike:FnScope ["one","two","width","height","y","x"] mU (ag mR):=Kd
abbrev mV:Q0:=aL (top 7) 0
abbrev mW:List Str:=["self","x","y"]
def CJ:FnScope ["self","x","y"] mW (ag mV):=Kd
abbrev mY:Q0:=aL (top 56) 2
abbrev mZ:List Str:=["self","pattern"]
def CK:FnScope ["self","pattern"] mZ (ag mY):=Kd
abbrev ng:Q0:=aL (top 56) 4
abbrev nh:List Str:=["self","text"]
def sc_Floor_change:FnScope ["self","text","pattern","cell"] nh (ag ng):=Kd
abbrev nj:Q0:=top 74
abbrev nq:List Str:=["_law_floor","_law_text"]
def sc__law_change:FnScope ["_law_floor","_law_text","_law_found","e"] nq (ag nj):=Kd
abbrev nr:Q0:=top 76
abbrev nt:List Str:=["_law_floor","_law_lay_here","_law_state","_law_high"]
def sc__law_deed:FnScope ["_law_floor","_law_lay_here","_law_state","_law_high","_law_text","_law_laid","_law_other"] nt (ag nr):=Kd
abbrev nu:Q0:=aL (top 56) 5
abbrev nv:List Str:=["self"]
def sc_Floor_undo:FnScope ["self","deed"] nv (ag nu):=Kd
abbrev nw:Q0:=top 75
abbrev ny:List Str:=["_law_floor"]
def sc__law_undo:FnScope ["_law_floor","_law_found"] ny (ag nw):=Kd
abbrev nz:Q0:=top 59
abbrev nA:List Str:=["_law_found"]
def CL:FnScope ["_law_found"] nA (ag nz):=Kd
abbrev nB:Q0:=top 69
abbrev nC:List Str:=["_law_found","_law_due"]
def sc__law_texts:FnScope ["_law_found","_law_due","_law_k"] nC (ag nB):=Kd
abbrev nD:Q0:=top 68
abbrev nE:List Str:=["_law_found","_law_due"]
def sc__law_seven:FnScope ["_law_found","_law_due","_law_k"] nE (ag nD):=Kd
abbrev nF:Q0:=top 71
abbrev nG:List Str:=["_law_lines_here"]
def sc__law_counts:FnScope ["_law_lines_here","_law_found","_law_line","_law_sign"] nG (ag nF):=Kd
abbrev iB:Q0:=top 34
abbrev nH:List Str:=["pattern"]
def CM:FnScope ["pattern"] nH (ag iB):=Kd
abbrev nI:Q0:=top 35
abbrev nJ:List Str:=["family","rows","x","y"]
def sc_round_row:FnScope ["family","rows","x","y","cell","row"] nJ (ag nI):=Kd
abbrev nK:Q0:=top 39
abbrev nM:List Str:=["row","sign","many"]
def CN:FnScope ["row","sign","many"] nM (ag nK):=Kd
abbrev iC:Q0:=top 40
abbrev nN:List Str:=["pattern","left","top","right","bottom"]
def sc_count_all:FnScope ["pattern","left","top","right","bottom","family","rows","many","again","counts","y","times","row","hue","sign"] nN (ag iC):=Kd
abbrev nO:Q0:=aL (top 56) 8
abbrev nP:List Str:=["self"]
def CO:FnScope ["self"] nP (ag nO):=Kd
abbrev nQ:Q0:=aL (top 56) 9
abbrev nR:List Str:=["self"]
def CP:FnScope ["self"] nR (ag nQ):=Kd
abbrev nS:Q0:=aL (top 56) 6
abbrev nU:List Str:=["self"]
def CQ:FnScope ["self"] nU (ag nS):=Kd
abbrev nV:Q0:=top 72
abbrev nW:List Str:=["_law_floor","_law_text","_law_size","_law_laid","_law_rest","_law_many"]
def sc__law_view:FnScope ["_law_floor","_law_text","_law_size","_law_laid","_law_rest","_law_many","_law_found"] nW (ag nV):=Kd
abbrev nX:Q0:=aL (top 56) 0
abbrev nY:List Str:=["self","text","width","height"]
def CS:FnScope ["self","text","width","height"] nY (ag nX):=Kd
abbrev iD:Q0:=top 77
abbrev nZ:List Str:=["_law_script"]
def sc_law:FnScope ["_law_script","_law_part","_law_wide","_law_high","_law_lines_here","_law_floor","_law_state","_law_past","_law_draws_here","_law_left","_law_more","_law_undone","_law_step","_law_word","_law_found","_law_text","_law_laid","_law_other"] nZ (ag iD):=Kd
structure ComF(p q:Pat)(w h s:Int):Prop where
 f:Fam0 w h s
 lat:∀x y,InF w h s x y↔p.Keeps x y/\q.Keeps x y
variable{p:Pat}{w h:Int}
def ComF.of{q:Pat}{w1 h1 s1 w2 h2 s2 s A:Int}(a:p.Least w1 h1 s1)(b:q.Least w2 h2 s2)(M:MetR w1 h1 s1 w2 h2 s2 w h s A):ComF p q w h s:=
 #[#[M.w0,M.h0,M.s0,M.sw],λx y=>by rw[M.lat,a.lat,b.lat]]
def ComF.all{q:Pat}{s:Int}(b:ComF p q w h s)(e:∀x y:Int,0<=x->x<w->0<=y->y<h->p.show x y=q.show x y)(x y:Int):p.show x y=q.show x y:=by
 have w0:=b.f.w0;have h0:=b.f.h0;rw[<-Pat.show_home w0 h0 (λx y k=>((b.lat x y).mp k).1) x y,<-Pat.show_home w0 h0 (λx y k=>((b.lat x y).mp k).2) x y];exact e _ _ (cL w0) (cM w0) (cL h0) (cM h0)
def nown(z:SD):Bool:=z.all λo=>match o with|some (.own _)=>false|_=>true
def NoOwn.of{z:SD}(h:nown z=true):NoOwn z:=λi ds e=>by
 have:=FP.mp h _ (GJ e);cases this
structure Deed where
 w:E_
 p:Pat
 d:D
 l:Int
def Deed.D(e:Deed):My.D:=.tup [.str e.w,e.d,.int e.l]
structure Fl where
 p:Pat
 d:D
 w:Int
 h:Int
 l:Int
 ds:List Deed
def Fl.fs(f:Fl)(q:Addr):List (E_×D):=[("pattern",f.d),("text",.str f.p.text),("width",.int f.w),("height",.int f.h),("laid",.int f.l),("deeds",.ptr q)]
def Fl.M(f:Fl)(a q:Addr):MS:=[(q,.lst (f.ds.map Deed.D)),(a,.ins "Floor" (f.fs q))]
variable{a:Addr}{o:MO}
def da{p:Addr}{M:MS}(h:p≠a):mget ((p,o)::M) a=mget M a:=if_neg h
def cv{M:MS}:mget ((a,o)::M) a=be o:=if_pos rfl
def dJ{p:Addr}{o':MO}{M:MS}(h:p≠a):mput ((p,o)::M) a o'=(p,o)::mput M a o':=if_neg h
def cE{o':MO}{M:MS}:mput ((a,o)::M) a o'=(a,o')::M:=if_pos rfl
variable{q:Addr}{f:Fl}
def Fl.ma(h:a≠q):mget (f.M a q) a=be (.ins "Floor" (f.fs q)):=(da (Ne.symm h)).trans cv
def Fl.mq:mget (f.M a q) q=be (.lst (f.ds.map Deed.D)):=cv
def Fl.put(h:a≠q):mput (f.M a q) a o=[(q,.lst (f.ds.map Deed.D)),(a,o)]:=(dJ (Ne.symm h)).trans (congrArg _ cE)
def fP:(f.fs q).lookup ("pattern":E_)=be f.d:=rfl
def tY:(f.fs q).lookup ("text":E_)=be (.str f.p.text):=rfl
def eV:(f.fs q).lookup ("width":E_)=be (.int f.w):=rfl
def iE:(f.fs q).lookup ("height":E_)=be (.int f.h):=rfl
def dL:(f.fs q).lookup ("laid":E_)=be (.int f.l):=rfl
def iF:(f.fs q).lookup ("deeds":E_)=be (.ptr q):=rfl
structure Fl.Ok(f:Fl):Prop where
 is:bf f.p f.d
 ok:f.p.Ok
 w1:1<=f.w
 w2:f.w<=30
 h1:1<=f.h
 h2:f.h<=30
 l0:0<=f.l
 l1:f.l<=f.h
 de:f.ds.length<=20
 dd:∀e∈f.ds,bf e.p e.d/\e.p.Ok/\0<=e.l/\e.l<=f.h
def Fl.keep(f:Fl)(w:E_):Fl:={f with ds:=(f.ds++[Deed.mk w f.p f.d f.l]).drop (f.ds.length+1-20)}
def Fl.lay(f:Fl)(n:Int):Fl:={f.keep "lay" with l:=f.l+n}
def Fl.stand(f:Fl)(p:Pat)(d:D):Fl:={f with p:=p,d:=d}
def subM.refl{M:MS}(h:(aq M).Nodup):subM M M:=#[λ_ h=>h,h]
def Fl.nd(h:a≠q):(aq (f.M a q)).Nodup:=by
 show[q,a].Nodup;simp[Ne.symm h]
def Fl.sub(h:a≠q):subM (f.M a q) (f.M a q):=subM.refl (Fl.nd h)
def tZ(xs:List D):cutD xs (be (-20)) z8=xs.drop (xs.length-20):=by
 have e:HT.sIx xs.length 0 (be (-20))=xs.length-20:=by
  unfold HT.sIx;simp;lia
 unfold cutD;rw[e,show HT.sIx xs.length xs.length z8=xs.length from rfl];exact Gf J4
def ay(p:Pat)(w lo:Int)(n:Nat):List D:=(E8 n).map λ(j:Nat)=>D.str (aG p 0 (lo+(j:Int)) w.toNat)
def oa(p:Pat)(w lo:Int)(n:Nat):ay p w lo n++[D.str (aG p 0 (lo+(n:Int)) w.toNat)]=ay p w lo (n+1):=by
 unfold ay;rw[Gr,FG];rfl
def CT(p:Pat)(w lo:Int)(n:Nat):bY (.lst (ay p w lo n))=true:=by
 unfold bY;induction n with
 |zero=>rfl
 |succ n ih=>
  rw[<-oa];have:∀xs:List D,flats xs=true->flats (xs++[D.str (aG p 0 (lo+(n:Int)) w.toNat)])=true:=λxs=>by
   induction xs with
   |nil=>intro _;rfl
   |cons x xs ih=>intro h;unfold flats at h;rw[Fx]at h;show flats (x::(xs++_))=true;unfold flats;rw[h.1,ih h.2];rfl
  exact this _ ih
def ub(p:Pat)(w:Int){l:Int}(n:Nat)(l0:0<=l):cutD (ay p w 0 (l.toNat+n)) (be l) z8=ay p w l n:=by
 have hl:(ay p w 0 (l.toNat+n)).length=l.toNat+n:=by unfold ay;simp
 have e:HT.sIx (l.toNat+n) 0 (be l)=l.toNat:=by
  unfold HT.sIx;simp only;rw[if_neg Jb];lia
 unfold cutD;rw[hl,e,show HT.sIx (l.toNat+n) (l.toNat+n) z8=l.toNat+n from rfl];unfold ay;apply Ge;intro i;by_cases h:i<n
 .rw[G5 Jb,H8,Fo,Fo,FT Jb,FT h];simp;congr 1;lia
 .rw[FR Qv,FR Qv]
def eX(p q:Pat)(w h:Int):Prop:=∀x y:Int,0<=x->x<w->0<=y->y<h->p.show x y=q.show x y
def First2(p q:Pat)(w h x y:Int):Prop:=(0<=x/\x<w/\0<=y/\y<h)/\p.show x y≠q.show x y/\∀x' y':Int,0<=x'->x'<w->0<=y'->(y'<y\/(y'=y/\x'<x))->p.show x' y'=q.show x' y'
def due7(p:Pat)(left top:Int)(m:Nat)(n k:Nat):List Int:=(E8 7).map λ(v:Nat)=>cB p v left top m n+cntN (λi=>p.show (left+i) (top+n)) v k
def CU(ok:p.Ok)(left top:Int)(m n k:Nat):∃u:Nat,u<7/\p.show (left+k) (top+n)=(u:Int)/\(due7 p left top m n k)[u]?=be (cB p u left top m n+cntN (λi=>p.show (left+i) (top+n)) u k)/\((due7 p left top m n k).map D.int).set u (D.int (cB p u left top m n+cntN (λi=>p.show (left+i) (top+n)) u k+1))=(due7 p left top m n (k+1)).map D.int:=by
 have b:=Pat.show_le ok.wf (by have:=ok.deep;lia) (left+k) (top+n);obtain⟨u,hu⟩:∃u:Nat,p.show (left+k) (top+n)=(u:Int):=#[(p.show (left+k) (top+n)).toNat,Jb];have u7:u<7:=Jb
 have cs:∀v:Int,cntN (λi=>p.show (left+i) (top+n)) v (k+1)=cntN (λi=>p.show (left+i) (top+n)) v k+if p.show (left+k) (top+n)=v then 1 else 0:=λv=>rfl
 refine#[u,u7,hu,by unfold due7;simp[u7],?_];unfold due7;rw[Gx,Gx];have:=tM (n:=7) (i:=u) (λ(v:Nat)=>D.int (cB p v left top m n+cntN (λi=>p.show (left+i) (top+n)) v k)) (λ(v:Nat)=>D.int (cB p v left top m n+cntN (λi=>p.show (left+i) (top+n)) v (k+1))) (λv hv ne=>by
  show D.int _=D.int _;rw[cs,hu,if_neg Jb,FS])
 refine Eq.trans ?_ this;show List.set _ u _=List.set _ u _;rw[cs,hu,if_pos rfl,Gz];rfl
def CV(p:Pat)(left top:Int)(m n:Nat):due7 p left top m n m=due7 p left top m (n+1) 0:=by
 unfold due7;apply Gs;intro v _;show _=(cB p v left top m n+_)+0;rw[FS]
def CW(p:Pat)(left top:Int)(m n:Nat):due7 p left top m n 0=cC p left top m n:=by
 unfold due7 cC;apply Gs;intro v _;show _+0=_;rw[FS]
variable{lo:Int}{n k:Nat}
def CY{v:D}(h:(ay p w lo n)[k]?=be v):k<n/\v=.str (aG p 0 (lo+(k:Int)) w.toNat):=by
 have hk:k<n:=by have:=(Fk.mp h).1;unfold ay at this;simpa using this
 unfold ay at h;simp[hk]at h;exact#[hk,h.symm]
def CZ(h0:0<=h)(h6:h<=6):aY h<128:=by unfold aY;split<;>lia
def C0(ok:p.Ok)(x y:Int)(n:Nat):(aG p x y n).cps.all (·<128)=true:=by
 rw[<-Hb,FP];intro c hc;have hc:c∈cs (aG p x y n):=hc;rw[cY]at hc;obtain⟨k,_,rfl⟩:=FF.mp hc;have b:=Pat.show_le ok.wf (by have:=ok.deep;lia) (x+(k:Int)) y;exact decide_eq_true (CZ b.1 b.2)
def C1{y:Int}{v:D}(h:(bC (aG p 0 y n))[k]?=be v):k<n/\v=.str #[[aY (p.show (0+(k:Int)) y)].toArray]:=by
 unfold bC at h;have hk:k<n:=by have:=(Fk.mp h).1;rwa [Fs,show(aG p 0 y n).cps.toList.length=n by show(cs (aG p 0 y n)).length=n;rw[cY];simp]at this
 rw[Fo,show(aG p 0 y n).cps.toList=(E8 n).map λ(k:Nat)=>aY (p.show (0+(k:Int)) y)from cY p 0 y n]at h;simp[hk]at h;exact#[hk,by rw[<-h,Gn]]
def C3{u:Nat}(h:u<7):∃rest,Builtin.Str.occurrences ".123456" #[[aY (u:Int)].toArray] 0 (".123456":E_).length 1=u::rest:=by
 rcases(Jb:u=0\/u=1\/u=2\/u=3\/u=4\/u=5\/u=6)with e|e|e|e|e|e|e<;>subst e<;>exact#[[],Je]
def C4(h:k<n):atI (ay p w lo n) (k:Int)=be (.str (aG p 0 (lo+(k:Int)) w.toNat)):=cw (by unfold ay;simp[h])
def C5(h:k<=n):cutD (ay p w lo n) z8 (be (k:Int))=ay p w lo k:=by
 have hl:(ay p w lo n).length=n:=by unfold ay;simp
 have e:HT.sIx n n (be (k:Int))=k:=by
  unfold HT.sIx;simp only;rw[if_neg Jb];lia
 unfold cutD;rw[hl,e,show HT.sIx n 0 z8=0 from rfl,Hl];unfold ay;rw[<-Ii,Ij,Ih,Go h]
def First2.not{q:Pat}{x y:Int}(a:First2 p q w h x y)(s:eX p q w h):False:=a.2.1 (s x y a.1.1 a.1.2.1 a.1.2.2.1 a.1.2.2.2)
def oth:Pat->Pat
 |.mir (.mir p)=>p
 |p=>.mir (.mir p)
def Spelt(m x:Pat):Prop:=x=m\/x=.mir (.mir m)
variable{m:Pat}
def og(h:m.depth=0):oth m=.mir (.mir m):=by
 cases m<;>first|rfl|(rw[Pat.depth]at h;lia)
variable{x:Pat}
def Spelt.oth(h:m.depth=0)(s:Spelt m x):Spelt m (oth x)/\My.oth (My.oth x)=x:=by
 rcases s with rfl|rfl
 .rw[og h];exact#[.inr rfl,rfl]
 .exact#[.inl rfl,og h]
def Spelt.ok(h:m.depth=0)(ok:m.Ok)(s:Spelt m x):x.Ok:=by
 rcases s with rfl|rfl
 .exact ok
 .exact#[ok.wf,by simp only[Pat.depth];lia,ok.fits.mir.mir]
def mm_show(m:Pat):(Pat.mir (.mir m)).show=m.show:=by
 funext x y;rw[Pat.show,Pat.show,Ho]
def Spelt.shw(s:Spelt m x):x.show=m.show:=by
 rcases s with rfl|rfl
 .rfl
 .exact mm_show m
def rowsD_show{q:Pat}(h:p.show=q.show)(w lo:Int)(n:Nat):ay p w lo n=ay q w lo n:=by
 unfold ay aG;rw[h]
def C6(m:Pat):("mm":E_)++m.text=(Pat.mir (.mir m)).text:=by
 apply fG;rw[Pat.text,Pat.text,bu,bu,bu];rfl
section
variable {V:Bx}
abbrev iG(V:Bx):Prop:=V.D 1 "_law_at" kG Af
def C7(T:V.T "_law_at" kF kG)(uA:V.m "len"):iG V:=by
 refine Tx.okDW T Cg (λds R h=>?_) (λf cdv A outer s H E J hr=>⟨_,((ao (bM (fq (aa 1) (ck uA (ac (aa 0) af))) (au (aH (ah (aa 0) (aa 1)))) bx)
   (au (aH ad)))),λds R h=>?_⟩)
 .obtain⟨ns,k,rfl,_⟩:=h;rfl
 .obtain⟨ns,k,rfl,hk,hR⟩:=h;refine ite2 (λc=>?_) (λc=>?_)
  .have c':=of_decide_eq_true c;rw[Fs]at c';exact#[_,kq hk c',hR]
  .have c':=of_decide_eq_false (Gp.mpr c);rw[Fs]at c';rw[Ae Jb]at hR;exact hR
abbrev iH(V:Bx):Prop:=V.D 2 "_law_draws" kI Ap
def C8(T:V.T "_law_draws" kH kI)(uB:V.m "range")(w_:iG V):iH V:=by
 refine Tx.okDW T sc__law_draws (λds R h=>?_) (λf cdv A outer s H E J hr=>⟨_,((ao (aB 3 sc__law_draws.nd (aI w_ hr (ac (aa 0) (ac (aa 1) af))))
   (ao (gl 4 sc__law_draws.nd af)
   (ao (bM (bA (aJ (aI w_ hr (ac (aa 0) (ac (aD (aa 1) ad) af))) ad) ad) (ao (cn 5 PassesOwn.never rfl sc__law_draws.nd uB (aa 2) (ao (gm 4 (aJ (aa 3) ad))
     (au (aB 3 sc__law_draws.nd (bL (aa 3) ad)))))
    (eg 4 (au (aH (aa 4))))) bx)
   (ao (aB 6 sc__law_draws.nd (aJ (aD (aa 3) ad) ad))
   (ao (cn 5 PassesOwn.never rfl sc__law_draws.nd uB (aa 2) (ao (aB 6 sc__law_draws.nd (aJ (aD (aD (aM (aa 6) ad) (aI w_ hr (ac (aa 0) (ac (aD (aD (aa 1) ad) (aJ (aa 5) ad)) af)))) (aa 5)) ad))
    (au (gm 4 (aJ (aJ (aM (aa 6) ad) ad) ad)))))
   (eg 4 (au (aH (aa 4)))))))))),λds R h=>?_⟩)
 .obtain⟨_,_,_,rfl,_⟩:=h;rfl
 .obtain⟨ns,k,n,rfl,hk,hn,hR⟩:=h;refine#[λd=>∃v:Int,d=.int v,#[ns,k,rfl,hk,_,rfl],?_];rintro _⟨left,rfl⟩;k_places;refine#[J4,?_];refine#[ns,k+1,rfl,Jb,Ji,ite2 (λ_=>?_) (λ_=>?_)]
  .refine#[#[Jb,Jb],λi z=>∃(xs:List Int) (l:Int) (o p:Option D),z=[be (.rol (ns.map D.int)),be (.int k),be (.int n),be (.int l),be (.own (xs.map D.int)),o,p]/\xs.length=i/\Drawn xs,#[[],left,_,_,rfl,rfl,(λx hx=>by cases hx)],?_,?_]
   .rintro i x z hi⟨xs,l,o,p,rfl,hl,hd⟩;k_places;have l_:i<n:=by simpa using(Fk.mp hi).1
    refine#[Ji,Qv,?_];refine#[λd=>∃v:Int,d=.int v,#[#[Ji,Ji],_,rfl],?_];rintro _⟨l',rfl⟩;k_places;rw[sE];exact#[_,l',_,_,rfl,by simp[hl],sF hd (cL Ji) (cM Ji)]
   .rintro z⟨xs,l,o,p,rfl,hl,hd⟩;k_places;exact hR xs (by simpa using hl) hd
  .refine#[λd=>∃v:Int,d=.int v/\0<=v/\v<2147483647,#[Ji,_,rfl,cL Ji,cM Ji],?_];rintro _⟨ML,rfl,s1,s2⟩;k_places;refine#[#[Jb,Jb],λi z=>∃(xs:List Int) (sd:Int) (o:Option D),z=[be (.rol (ns.map D.int)),be (.int k),be (.int n),be (.int left),be (.own (xs.map D.int)),o,be (.int sd)]/\xs.length=i/\Drawn xs/\0<=sd/\sd<2147483647,#[[],ML,_,rfl,rfl,(λx hx=>by cases hx),s1,s2],?_,?_]
   .rintro i x z hi⟨xs,sd,o,rfl,hl,hd,s1,s2⟩;k_places;have l_:i<n:=by simpa using(Fk.mp hi).1
    have ex:x=.int (i:Int):=by simp[l_]at hi;exact hi.symm
    subst ex;refine#[λd=>∃v:Int,d=.int v/\0<=v/\v<2147483647,#[.inr #[Ji,Ji],Ji,ns,_,rfl,Jb,Ji,_,rfl,cL Ji,cM Ji],?_];rintro _⟨PZ,rfl,t1,t2⟩;k_places;refine#[.inr #[Ji,Ji],Ji,Ji,Qv,?_];rw[sE];exact#[_,PZ,_,rfl,by simp[hl],sF hd (cL Ji) (cM Ji),t1,t2]
   .rintro z⟨xs,sd,o,rfl,hl,hd,_⟩;k_places;exact hR xs (by simpa using hl) hd
abbrev oh(V:Bx):Prop:=V.D 1 "_law_lines" kK AB
def C9(T:V.T "_law_lines" kJ kK)(uB:V.m "range")(uA:V.m "len"):oh V:=by
 refine Tx.okDW T sc__law_lines (λds R h=>?_) (λf cdv A outer s H E J hr=>⟨_,((ao (aB 1 sc__law_lines.nd (aD ad (aJ (ah (aa 0) ad) ad)))
   (ao (aB 2 sc__law_lines.nd (aD ad (aJ (ah (aa 0) ad) ad)))
   (ao (qU (bA (aJ (ah (aa 0) ad) ad) ad) (ao (aB 1 sc__law_lines.nd (aD ad (aJ (ah (aa 0) ad) ad)))
    (au (aB 2 sc__law_lines.nd (aD ad (aJ (ah (aa 0) ad) ad))))) bx)
   (ao (aB 3 sc__law_lines.nd (ah (bV (ac aA (ac aA (ac aA (ac aA af))))) (aJ (ah (aa 0) ad) ad)))
   (ao (gl 4 sc__law_lines.nd af)
   (ao (cn 5 PassesOwn.never rfl sc__law_lines.nd uB (aa 2) (ao (aB 6 sc__law_lines.nd aA)
    (ao (cn 7 PassesOwn.never rfl sc__law_lines.nd uB (aa 1) (ao (aB 8 sc__law_lines.nd (aD (aM (aa 5) (aa 1)) (aa 7)))
     (ao (aB 9 sc__law_lines.nd (aJ (bL (ah (aa 0) (aD ad (bL (aa 8) ad))) (ah (bV (ac ad (ac ad af))) (aJ (aa 8) ad))) ad))
     (au (aB 6 sc__law_lines.nd (aD (aa 6) (ah (aa 3) (aJ (aa 9) (ck uA (ac (aa 3) af))))))))))
    (au (gm 4 (aa 6))))))
   (eg 4 (au (aH (aa 4))))))))))),λds R h=>?_⟩)
 .obtain⟨_,rfl,_⟩:=h;rfl
 .obtain⟨xs,rfl,hl,hd,hR⟩:=h;have x8:∀k:Nat,k<40->atI (xs.map D.int) (k:Int)=be (.int (cell xs k)):=λk hk=>dD Jb (by simpa using(Jb:k<xs.length));have a0:atI (xs.map D.int) 0=be (.int (cell xs 0)):=x8 0 Ji;have a1:atI (xs.map D.int) 1=be (.int (cell xs 1)):=x8 1 Ji;have a2:atI (xs.map D.int) 2=be (.int (cell xs 2)):=x8 2 Ji;have a3:atI (xs.map D.int) 3=be (.int (cell xs 3)):=x8 3 Ji;clear hl;refine#[λd=>∃v:Int,d=.int v/\1<=v/\v<=8,#[_,a0,Ji,_,rfl,Jb],?_];rintro _⟨w0,rfl,QK⟩;k_places;refine#[λd=>∃v:Int,d=.int v/\1<=v/\v<=8,#[_,a1,Ji,_,rfl,Jb],?_];rintro _⟨t0,rfl,QL⟩;k_places;refine#[λz=>∃w t:Nat,z=[be (.lst (xs.map D.int)),be (.int w),be (.int t),z8,z8,z8,z8,z8,z8,z8]/\(1<=w/\w<=8)/\(1<=t/\t<=8),#[_,a2,Ji,ite2 (λ_=>?_) (λ_=>?_)],?_]
  .refine#[λd=>∃v:Nat,d=.int v/\1<=v/\v<=8,#[_,a0,Ji,(1+cell xs 0%8).toNat,by rw[FC Jb],Jb],?_];rintro _⟨w,rfl,hw⟩;k_places;refine#[λd=>∃v:Nat,d=.int v/\1<=v/\v<=8,#[_,a1,Ji,(1+cell xs 1%8).toNat,by rw[FC Jb],Jb],?_];rintro _⟨t,rfl,ht⟩;k_places;exact#[w,t,rfl,hw,ht]
  .obtain⟨w,rfl⟩:∃w:Nat,w0=(w:Int):=#[w0.toNat,Jb];obtain⟨t,rfl⟩:∃t:Nat,t0=(t:Int):=#[t0.toNat,Jb];exact#[w,t,rfl,Jb,Jb]
  rintro _⟨w,t,rfl,hw,ht⟩;k_places;obtain⟨sg,es,hs⟩:=Ax (cell xs 3);refine#[λd=>d=.str sg,#[J4,_,a3,Ji,_,es,rfl],?_];rintro _ rfl;k_places;refine#[J4,?_];refine#[#[Jb,Jb],λk z=>∃(L:List E_) (o1 o2 o3 o4 o5:Option D),z=[be (.lst (xs.map D.int)),be (.int w),be (.int t),be (.str sg),be (.own (L.map D.str)),o1,o2,o3,o4,o5]/\L.length=k/\∀l∈L,l.length=w/\∀c∈cs l,aZ c,#[[],_,_,_,_,_,rfl,rfl,(λx hx=>by cases hx)],?_,?_]
  .rintro j x z hj⟨L,o1,o2,o3,o4,o5,rfl,hL,Kz⟩;k_places;have JL:j<t:=by simpa using(Fk.mp hj).1
   have ex:x=.int (j:Int):=by simp[JL]at hj;exact hj.symm
   subst ex;refine#[λd=>d=.str "",rfl,?_];rintro _ rfl;k_places;refine#[#[Jb,Jb],λi z=>∃(ln:E_) (o3 o4 o5:Option D),z=[be (.lst (xs.map D.int)),be (.int w),be (.int t),be (.str sg),be (.own (L.map D.str)),be (.int j),be (.str ln),o3,o4,o5]/\ln.length=i/\∀c∈cs ln,aZ c,#[_,_,_,_,rfl,rfl,(λc hc=>by rw[sG]at hc;cases hc)],?_,?_]
   .rintro i y z hi⟨ln,o3,o4,o5,rfl,Lo,MN⟩;k_places;have l_:i<w:=by simpa using(Fk.mp hi).1
    have ey:y=.int (i:Int):=by simp[l_]at hi;exact hi.symm
    subst ey;have pb:=bZ (a:=(j:Int)) (d:=(w:Int)) (A:=7) (B:=8) Jb Jb;have pn:0<=(j:Int)*(w:Int):=HL Jb Jb;refine#[λd=>∃p:Nat,d=.int p/\p<=63,#[.inl #[Jb,Jb],((j:Int)*w+i).toNat,by rw[FC Jb],Jb],?_];rintro _⟨p,rfl,hp⟩;k_places;obtain⟨m,em,hm⟩:=Ay (p:Int);have ap:=x8 (8+p/2) Jb;have ec:((8+p/2:Nat):Int)=8+(p:Int)/2:=Jb
    rw[ec]at ap;refine#[λd=>∃v:Int,d=.int v,#[#[Ji,Ji],_,ap,J4,Ji,_,em,#[Jb,Jb],Ji,_,rfl],?_];rintro _⟨v,rfl⟩;k_places;obtain⟨c,⟨h1,h2⟩,h3⟩:=Ar hs v;refine#[λd=>∃x:E_,d=.str x/\x.length=i+1/\∀c∈cs x,aZ c,#[h1,by have:=hs.1;lia,c,#[h1,h2],?_,_,rfl,Az Lo MN h3],?_]
    .rw[Lo];show i+1<=1000000;lia
    rintro _⟨x,rfl,g1,g2⟩;k_places;exact#[x,_,_,_,rfl,g1,g2]
   .rintro z⟨ln,o3,o4,o5,rfl,Lo,MN⟩;k_places;have MP:ln.length=w:=by simpa using Lo
    refine#[by simp[hL];lia,?_];rw[AA];refine#[_,_,_,_,_,_,rfl,by simp[hL],λl hl=>?_];rcases FH.mp hl with q|q
    .exact Kz l q
    .rw[E6.mp q];exact#[MP,MN]
  .rintro z⟨L,o1,o2,o3,o4,o5,rfl,hL,Kz⟩;k_places;exact hR L (Rows.of ht.1 ht.2 (by simpa using hL) hw.1 hw.2 Kz)
abbrev oi(V:Bx):Prop:=V.D 1 "_law_shift_pair" kM Aq
def Da(T:V.T "_law_shift_pair" kL kM)(uK:V.m "int"):oi V:=by
 refine Tx.okDW T sc__law_shift_pair (λds R h=>?_) (λf cdv A outer s H E J hr=>⟨_,((ao (bM (bA (aJ (bL (ah (aa 0) ad) ad) ad) ad) (au (aH (bV (ac (aN (ac (aD ad (aJ (ah (aa 0) ad) ad)) (ac ad af))) (ac (aN (ac ad (ac (aD ad (aJ (ah (aa 0) ad) ad)) af))) af))))) bx)
   (ao (bM (bA (aJ (bL (ah (aa 0) ad) ad) ad) ad) (au (aH (bV (ac (aN (ac (aD ad (aJ (ah (aa 0) ad) ad)) (ac ad af))) (ac (aN (ac (bv (aJ (ah (aa 0) ad) ad) ad) (ac (aD ad (aJ (ah (aa 0) ad) ad)) af))) af))))) bx)
   (ao (aB 1 sc__law_shift_pair.nd (bv (aJ (ah (aa 0) ad) ad) ad))
   (ao (aB 2 sc__law_shift_pair.nd (bv (aJ (ah (aa 0) ad) ad) ad))
   (ao (aB 3 sc__law_shift_pair.nd (bv (aJ (ah (aa 0) ad) ad) ad))
   (ao (aB 4 sc__law_shift_pair.nd (bv (aJ (ah (aa 0) ad) ad) ad))
   (ao (aB 1 sc__law_shift_pair.nd (aD (aa 1) (jK uK (ac (gj (fo (aa 1) ad) (gh (fo (aa 2) ad))) af))))
   (ao (bM (bA (aM (aa 1) (aa 4)) (aM (aa 2) (aa 3))) (au (aH (bV (ac (aN (ac (aa 1) (ac (aa 2) af))) (ac (aN (ac (cH (aa 2)) (ac (aa 1) af))) af))))) bx)
   (au (aH (bV (ac (aN (ac (aa 1) (ac (aa 2) af))) (ac (aN (ac (aa 3) (ac (aa 4) af))) af)))))))))))))),λds R h=>?_⟩)
 .obtain⟨_,rfl,_⟩:=h;rfl
 .obtain⟨xs,rfl,hl,hd,hR⟩:=h;have a3:=dD (xs:=xs) (k:=3) Ji (show 3<xs.length by lia);have a4:=dD (xs:=xs) (k:=4) Ji (show 4<xs.length by lia);have a5:=dD (xs:=xs) (k:=5) Ji (show 5<xs.length by lia);have a6:=dD (xs:=xs) (k:=6) Ji (show 6<xs.length by lia);have a7:=dD (xs:=xs) (k:=7) Ji (show 7<xs.length by lia);generalize cell xs 3=x3 at*;generalize cell xs 4=x4 at*;generalize cell xs 5=x5 at*;generalize cell xs 6=x6 at*;generalize cell xs 7=x7 at*;clear hl hd;refine#[_,a3,#[Ji,Ji],Ji,ite2 (λ_=>?_) (λ_=>?_)]
  .refine#[_,a4,Ji,J4,_,a5,Ji,J4,J4,hR _ _ _ _ Jb Jb Jb Jb ?_];have p:0<(1+x4%6)*(1+x5%6):=Fu Jb Jb;lia
  refine#[_,a3,#[Ji,Ji],Ji,ite2 (λ_=>?_) (λ_=>?_)]
  .refine#[_,a4,Ji,J4,_,a6,Ji,_,a5,Ji,J4,J4,hR _ _ _ _ Jb Jb Jb Jb ?_];have p:0<(1+x4%6)*(1+x5%4):=Fu Jb Jb;lia
  refine#[λd=>∃v:Int,d=.int v/\-12<=v/\v<=12,#[_,a4,Ji,_,rfl,Jb],?_];rintro _⟨a,rfl,ha⟩;k_places;refine#[λd=>∃v:Int,d=.int v/\-12<=v/\v<=12,#[_,a5,Ji,_,rfl,Jb],?_];rintro _⟨b,rfl,hb⟩;k_places;refine#[λd=>∃v:Int,d=.int v/\-12<=v/\v<=12,#[_,a6,Ji,_,rfl,Jb],?_];rintro _⟨c,rfl,hc⟩;k_places;refine#[λd=>∃v:Int,d=.int v/\-12<=v/\v<=12,#[_,a7,Ji,_,rfl,Jb],?_];rintro _⟨d,rfl,d8⟩;k_places;refine#[λx=>∃v:Int,x=.int v/\(-12<=v/\v<=12)/\¬(v=0/\b=0),ite2 (λe=>?_) (λe=>?_),?_]
  .have e':=of_decide_eq_true e;by_cases Oq:b=0
   .refine#[_,rfl,?_];subst e' Oq;simp
   .refine#[_,rfl,?_];subst e';simp[Oq]
  .have e':=of_decide_eq_false (Gp.mpr e);refine#[_,rfl,?_];simp;lia
  rintro _⟨a,rfl,ha,P0⟩;k_places;refine#[.inl (i64 ha.1 ha.2),.inl (i64 hb.1 hb.2),ite2 (λe=>?_) (λe=>?_)]
  .refine#[J4,J4,J4,hR a b (-b) a ha hb Jb ha ?_];rw[FW];intro z;have s1:0<=a*a:=sq0 a;have s2:0<=b*b:=sq0 b;have z1:a*a=0:=by omega
   have z2:b*b=0:=Jj
   exact P0 #[(GT.mp z1).elim id id,(GT.mp z2).elim id id]
  .have e':=of_decide_eq_false (Gp.mpr e);exact#[J4,J4,J4,hR a b c d ha hb hc d8 e']
abbrev oj(V:Bx):Prop:=V.D 1 "_law_motif_text" kO AC
def Db(T:V.T "_law_motif_text" kN kO)(uP:V.m "str"):oj V:=by
 refine Tx.okDW T sc__law_motif_text (λds R h=>?_) (λf cdv A outer s H E J hr=>⟨_,((ao (aB 3 sc__law_motif_text.nd (aD (aD (aD (aD (aD (aD (aD aA (gp uP (ac (ah (aa 1) ad) af))) aA) (gp uP (ac (ah (aa 1) ad) af))) aA) (gp uP (ac (ah (aa 2) ad) af))) aA) (gp uP (ac (ah (aa 2) ad) af))))
   (au (aH (aD (aD (aD aA (jM (aa 0))) (aa 3)) aA))))),λds R h=>?_⟩)
 .obtain⟨_,_,_,_,_,rfl,_⟩:=h;rfl
 .obtain⟨L,a,b,c,d,rfl,hL,ha,hb,hc,hd,hR⟩:=h;have la:=ca ha;have lb:=ca hb;have lc:=ca hc;have ld:=ca hd;have l1:(";":E_).length=1:=rfl;have l2:(",":E_).length=1:=rfl;have l3:("[":E_).length=1:=rfl;have l4:("]":E_).length=1:=rfl;have ls:=sI hL;have lj:=StrLaws.join_length_le "/" L;unfold B12 at ha hb hc hd;refine#[λx=>x=.str ((((((((";":E_)++(toString a:String))++",")++(toString b:String))++";")++(toString c:String))++",")++(toString d:String)),#[_,rfl,Jb,?_,?_,_,rfl,Jb,?_,?_,_,rfl,Jb,?_,?_,_,rfl,Jb,?_,rfl],?_]
  .lia
  .rw[aS];lia
  .rw[aS,aS];lia
  .rw[aS,aS,aS];lia
  .rw[aS,aS,aS,aS];lia
  .rw[aS,aS,aS,aS,aS];lia
  .rw[aS,aS,aS,aS,aS,aS];lia
  rintro _ rfl;k_places;have lg:(Txt.join "/" L).length<=72:=by
   have e:Txt.join "/" L=Str.join "/" L:=StrLaws.glued_eq_join _ _;rw[e];exact Fg lj ls
  refine#[L,kr L,Jb,?_,?_,?_,hR]
  .lia
  .repeat rw[aS]
   lia
  .repeat rw[aS]
   lia
abbrev ol(V:Bx):Prop:=V.D 3 "_law_motif" kQ AE
def Dc(T:V.T "_law_motif" kP kQ)(JM:iH V)(MQ:oh V)(MU:oi V)(MV:oj V):ol V:=by
 refine Tx.okDW T sc__law_motif (λds R h=>?_) (λf cdv A outer s H E J hr=>⟨_,((ao (aB 2 sc__law_motif.nd (aI JM hr (ac (aa 0) (ac (aa 1) (ac ad af)))))
   (ao (aB 3 sc__law_motif.nd (aI MQ hr (ac (aa 2) af)))
   (ao (xU rfl (aI MU hr (ac (aa 2) af)) (dg_cons 4 sc__law_motif.nd (dg_cons 5 sc__law_motif.nd cP)))
   (ao (aB 6 sc__law_motif.nd (aN (ac (aa 3) (ac (aa 4) (ac (aa 5) (ac (aN (ac ad (ac ad (ac ad (ac ad (ac ad (ac ad af))))))) (ac (bV (ac ad (ac ad (ac ad (ac ad (ac ad (ac ad (ac ad af)))))))) af)))))))
   (au (aH (bV (ac (aI MV hr (ac (aa 3) (ac (aa 4) (ac (aa 5) af)))) (ac ad (ac (bV (ac (aa 6) af)) af))))))))))),λds R h=>?_⟩)
 .obtain⟨_,_,rfl,_⟩:=h;rfl
 .obtain⟨ns,k,rfl,hk,hR⟩:=h;refine#[λx=>∃xs:List Int,x=.lst (xs.map D.int)/\xs.length=40/\Drawn xs,#[ns,k,40,rfl,hk,Ji,λxs h1 h2=>#[xs,rfl,h1,h2]],?_];rintro _⟨xs,rfl,hl,hd⟩;k_places;refine#[λx=>∃L:List E_,x=.lst (L.map D.str)/\Rows L,#[xs,rfl,Jb,hd,λL h=>#[L,rfl,h]],?_];rintro _⟨L,rfl,hL⟩;k_places;refine#[xs,rfl,Jb,hd,λa b c d ha hb hc d8 hn=>#[rfl,?_]];refine#[λx=>x=(cq L a b c d).D,#[J4,J4,J4,rfl],?_];rintro _ rfl;k_places;exact#[L,a,b,c,d,rfl,hL,ha,hb,hc,d8,J4,J4,hR L a b c d hL ha hb hc d8 hn]
abbrev om(V:Bx):Prop:=V.D 1 "_law_on" kS Ah
def Dd(T:V.T "_law_on" kR kS):om V:=by
 refine Tx.okDW T sc__law_on (λds R h=>?_) (λf cdv A outer s H E J hr=>⟨_,((ao (aB 4 sc__law_on.nd (bv (aM (ah (aa 0) ad) (ah (aa 1) ad)) (aM (ah (aa 0) ad) (ah (aa 1) ad))))
   (au (aH (gj (fo (qH (bv (aM (aa 2) (ah (aa 1) ad)) (aM (aa 3) (ah (aa 1) ad))) (aa 4)) ad) (gh (fo (qH (bv (aM (ah (aa 0) ad) (aa 3)) (aM (ah (aa 0) ad) (aa 2))) (aa 4)) ad))))))),λds R h=>?_⟩)
 .obtain⟨a,b,c,d,u,v,rfl,_⟩:=h;rfl
 .obtain⟨a,b,c,d,u,v,rfl,ha,hb,hc,hd,hn,hR⟩:=h;have JN:∀{x:Int},x.natAbs<1073741824->-(2^64)<x/\x<2^64:=λh=>n64 (Nat.le_of_lt_succ h);refine#[λx=>x=.int (a*d-b*c),#[_,rfl,_,rfl,.inl (JN ha),_,rfl,_,rfl,.inl (JN hb),rfl],?_];rintro _ rfl;k_places;refine#[_,rfl,.inr (JN hd),_,rfl,.inr (JN hc),Jj,ite2 (λe=>?_) (λe=>?_)]
  .have e':=of_decide_eq_true e;refine#[_,rfl,.inl (JN ha),_,rfl,.inl (JN hb),Jj,?_];have q:decide ((a*v-b*u).fmod (a*d-b*c)=0)=decide ((u*d-v*c).fmod (a*d-b*c)=0/\(a*v-b*u).fmod (a*d-b*c)=0):=by simp[e']
   have g:R (.bl (decide ((a*v-b*u).fmod (a*d-b*c)=0))):=by rw[q];exact hR
   exact g
  .have e':=of_decide_eq_false (Gp.mpr e);have q:decide ((u*d-v*c).fmod (a*d-b*c)=0/\(a*v-b*u).fmod (a*d-b*c)=0)=false:=by simp[e']
   rw[q]at hR;exact hR
abbrev oq(V:Bx):Prop:=V.D 2 "_law_leaf_shows" kU AF
def De(T:V.T "_law_leaf_shows" kT kU)(uB:V.m "range")(uA:V.m "len")(uK:V.m "int")(MX:om V):oq V:=by
 refine Tx.okDW T sc__law_leaf_shows (λds R h=>?_) (λf cdv A outer s H E J hr=>⟨_,((ao (aB 3 sc__law_leaf_shows.nd (ah (aa 0) ad))
   (ao (aB 4 sc__law_leaf_shows.nd (aD (aD (aM (ah (aa 3) ad) (aa 1)) (aM (ah (aa 3) ad) (aa 2))) (ah (aa 3) ad)))
   (ao (aB 5 sc__law_leaf_shows.nd (aD (aD (aM (ah (aa 3) ad) (aa 1)) (aM (ah (aa 3) ad) (aa 2))) (ah (aa 3) ad)))
   (ao (cn 6 PassesOwn.never rfl sc__law_leaf_shows.nd uB (ck uA (ac (ah (aa 0) ad) af)) (au (cn 7 PassesOwn.never rfl sc__law_leaf_shows.nd uB (ck uA (ac (ah (ah (aa 0) ad) (aa 6)) af)) (au (bM (cO (jG (cm (ah (ah (ah (aa 0) ad) (aa 6)) (aa 7)) aA) (jF (cy (aI MX hr (ac (ah (aa 0) ad) (ac (ah (aa 0) ad) (ac (bv (aa 4) (aa 7)) (ac (bv (aa 5) (aa 6)) af))))))))) (au (aH (ah (ah (aa 0) ad) (jK uK (ac (ah (ah (ah (aa 0) ad) (aa 6)) (aa 7)) af))))) bx)))))
   (au (aH ad))))))),λds R h=>?_⟩)
 .obtain⟨_,_,_,rfl,_⟩:=h;rfl
 .obtain⟨l,x,y,rfl,ok,hR⟩:=h;obtain⟨hm,wd,P1,Kz⟩:=id ok.rows;refine#[λd=>d=.tup [.int l.w0,.int l.w1,.int l.w2,.int l.w3,.int l.w4,.int l.w5],#[_,rfl,rfl],?_];rintro _ rfl;k_places;refine#[λd=>d=.int (l.w0*x+l.w1*y+l.w4),#[_,rfl,.inl (n64 ok.w0),_,rfl,.inl (n64 ok.w1),_,rfl,rfl],?_];rintro _ rfl;k_places;refine#[λd=>d=.int (l.w2*x+l.w3*y+l.w5),#[_,rfl,.inl (n64 ok.w2),_,rfl,.inl (n64 ok.w3),_,rfl,rfl],?_];rintro _ rfl;k_places;have IR:R (.int (match l.hit x y with|some c=>cell l.hues ((c:Int)-48)|none=>0)):=hR;unfold Leaf.hit at IR;generalize l.w0*x+l.w1*y+l.w4=U at IR ⊢;generalize l.w2*x+l.w3*y+l.w5=V at IR ⊢;generalize ef:(λi j=>onB l.a l.b l.c l.d (U-i) (V-j))=f at IR;have e0:∀i j,f i j=onB l.a l.b l.c l.d (U-i) (V-j):=λi j=>by rw[<-ef]
  have b8:((l.rows.map D.str).length:Int).toNat=l.rows.length:=J4
  refine#[_,rfl,#[Jb,Qv],λk z=>∃o1 o2:Option D,z=[be l.D,be (.int x),be (.int y),be (.tup [.int l.w0,.int l.w1,.int l.w2,.int l.w3,.int l.w4,.int l.w5]),be (.int U),be (.int V),o1,o2]/\bG f 0 l.rows=bG f k (l.rows.drop k),#[_,_,rfl,rfl],?_,?_]
  .rintro j v z hj⟨o1,o2,rfl,hs⟩;k_places;obtain⟨JL,rfl⟩:=cb hj;rw[b8]at JL;have KA:l.rows[j]?=be l.rows[j]:=Fy JL;have x9:l.rows.drop j=l.rows[j]::l.rows.drop (j+1):=Gk JL;obtain⟨Ln,Ky⟩:=Kz l.rows[j] (FQ JL);generalize l.rows[j]=row at KA x9 Ln Ky;have Jv:=at_str KA;have gt:=bt row;refine#[_,rfl,_,Jv,Jb,#[Jb,Jb],λi z=>∃o2:Option D,z=[be l.D,be (.int x),be (.int y),be (.tup [.int l.w0,.int l.w1,.int l.w2,.int l.w3,.int l.w4,.int l.w5]),be (.int U),be (.int V),be (.int j),o2]/\scanRow (λi=>f i j) 0 (cs row)=scanRow (λi=>f i j) i ((cs row).drop i),#[_,rfl,rfl],?_,?_]
   .rintro i v z hi⟨o2,rfl,JO⟩;k_places;obtain⟨l_,rfl⟩:=cb hi;have MY:i<(cs row).length:=by lia
    have ID:(cs row).drop i=(cs row)[i]::(cs row).drop (i+1):=Gk MY;have KC:=Ky (cs row)[i] (FQ MY);have MZ:atI (cs row) (i:Int)=be (cs row)[i]:=cw (Fy MY);generalize (cs row)[i]=c at ID KC MZ;refine#[_,rfl,_,Jv,c,#[Jb,MZ],ite2 (λq=>?_) (λq=>?_)]
    .have t8:¬c=46:=by
      intro z;have:(#[[c].toArray]:E_)=".":=one_sign.mpr z;simp[this]at q
     refine#[_,rfl,_,rfl,l.a,l.b,l.c,l.d,U-i,V-j,rfl,ok.a.lt,ok.b.lt,ok.c.lt,ok.d.lt,ok.ne,?_];refine ite2 (λq2=>?_) (λq2=>?_)
     .have ge:f i j=true:=by rw[e0];exact q2
      have P2:49<=c/\c<=54:=by unfold aZ at KC;lia
      refine#[_,rfl,_,rfl,_,Jv,c,#[Jb,MZ],_,#[digit_of P2,by show 1<=640;decide],_,dD Jb (by rw[ok.many];lia),?_];rw[hs,x9,bG,JO,ID,scanRow,if_pos #[t8,ge]]at IR;exact IR
     .have ge:¬f i j=true:=by rw[e0];exact q2
      refine#[_,rfl,?_];rw[JO,ID,scanRow,if_neg (λz=>ge z.2)]
    .have t8:c=46:=by
      rcases Classical.em (c=46)with z|z
      .exact z
      .exact absurd (by
        have:¬(#[[c].toArray]:E_)=".":=λw=>z (one_sign.mp w);simp[this]) q
     refine#[_,rfl,?_];rw[JO,ID,scanRow,if_neg (λz=>z.1 t8)]
   .rintro z⟨o2,rfl,JO⟩;k_places;refine#[_,_,rfl,?_];have hn:((row.length:Int).toNat)=(cs row).length:=by lia
    rw[bN,hn,Hq (E7 _),scanRow]at JO;rw[hs,x9,bG,JO]
  .rintro z⟨o1,o2,rfl,hs⟩;k_places;rw[bN,b8,Hq (E7 _),bG]at hs;rw[hs]at IR;exact IR
abbrev ot(V:Bx):Prop:=V.D 3 "_law_shows" kX AG
def Df(T:V.T "_law_shows" kW kX)(M0:oq V):ot V:=by
 refine Tx.okDW T sc__law_shows (λds R h=>?_) (λf cdv A outer s H E J hr=>⟨_,((ao (qV 3 PassesOwn.never rfl sc__law_shows.nd (aa 0) (ao (aB 4 sc__law_shows.nd (aI M0 hr (ac (aa 3) (ac (aa 1) (ac (aa 2) af)))))
    (au (bM (cm (aa 4) ad) (au (aH (aa 4))) bx))))
   (au (aH ad)))),λds R h=>?_⟩)
 .obtain⟨_,_,_,rfl,_⟩:=h;rfl
 .obtain⟨ls,x,y,rfl,ok,hR⟩:=h;refine#[λk z=>∃o1 o2:Option D,z=[be (.lst (ls.map Leaf.D)),be (.int x),be (.int y),o1,o2]/\aU ls x y=aU (ls.drop k) x y,#[_,_,rfl,rfl],?_,?_]
  .rintro k v z hk⟨o1,o2,rfl,hs⟩;k_places;rw[Fo]at hk;have Kw:k<ls.length:=by
    rcases GR k ls.length with q|q
    .exact q
    .rw[FR q]at hk;cases hk
   rw[Fy Kw]at hk;cases hk;have ed:ls.drop k=ls[k]::ls.drop (k+1):=Gk Kw;have Ot:=ok ls[k] (FQ Kw);generalize ls[k]=l at ed Ot;refine#[λd=>d=.int (l.shows x y),#[l,x,y,rfl,Ot,rfl],?_];rintro _ rfl;k_places;refine ite2 (λq=>?_) (λq=>?_)
   .have q':¬l.shows x y=0:=by simpa using q
    rw[hs,ed,aU,if_pos q']at hR;exact hR
   .have q':l.shows x y=0:=by simpa using q
    refine#[_,_,rfl,?_];rw[hs,ed,aU,if_neg (λz=>z q')]
  .rintro z⟨o1,o2,rfl,hs⟩;k_places;rw[Fs,Hq (E7 _),aU]at hs;rw[hs]at hR;exact hR
def Dg:SpD:=λds R=>∃(p:Pat) (w h:Int),ds=[.lst (p.leaves.map Leaf.D),.int w,.int h]/\p.Ok/\0<=w/\w<=30/\0<=h/\h<=30/\R (.lst (ay p w 0 h.toNat))
abbrev ou(V:Bx):Prop:=V.D 4 "_law_floor_rows" kY Dg
def Dh(T:V.T "_law_floor_rows" gR kY)(uB:V.m "range")(M4:ot V):ou V:=by
 refine Tx.okDW T sc__law_floor_rows (λds R h=>?_) (λf cdv A outer s H E J hr=>⟨_,((ao (gl 3 sc__law_floor_rows.nd af)
   (ao (cn 4 PassesOwn.never rfl sc__law_floor_rows.nd uB (aa 2) (au (gm 3 (jM (gv rfl (compScope (by change dm _ (ag gR) ["_law_leaves","_law_wide","_law_high","_law_lines_here","_law_y"] _=true;decide+kernel)) uB (aa 1) (λcl s0 H0 fp=>(ah aA (aI M4 hr (ac (aa 0) (ac (aa 5) (ac (aa 4) af)))))))))))
   (eg 3 (au (aH (aa 3))))))),λds R h=>?_⟩)
 .obtain⟨_,_,_,rfl,_⟩:=h;rfl
 .obtain⟨p,w,h,rfl,ok,w0,w7,h0,h7,hR⟩:=h;have dp:=ok.deep;refine#[J4,?_];refine#[#[Jb,Jb],λk z=>∃o,z=[be (.lst (p.leaves.map Leaf.D)),be (.int w),be (.int h),be (.own (ay p w 0 k)),o],#[_,rfl],?_,?_]
  .rintro k v z hk⟨o,rfl⟩;k_places;obtain⟨t9,rfl⟩:=cb hk;refine#[#[Jb,Jb],by rw[bN];lia,λi ys=>ys=rowD p 0 k i,rfl,?_,?_]
   .rintro i v ys hi hl rfl;obtain⟨A',rfl⟩:=cb hi;refine#[p.leaves,i,k,rfl,Pat.leaf_ok ok.wf Jb,?_];rw[Pat.show_leaves ok.wf Jb];obtain⟨b0,b6⟩:=Pat.show_le ok.wf Jb (i:Int) k;refine#[_,#[Ji,tD b0 b6],?_];show rowD p 0 k i++_=rowD p 0 k (i+1);rw[<-tG,Gn]
   .rintro ys hl rfl;rw[bN];obtain⟨ys,e1,e2,e3⟩:=tH p 0 (k:Int) (n:=w.toNat) Jb;refine#[ys,e1,e2,?_];rw[e3];refine#[by unfold ay;simp;lia,be (.int k),?_];rw[<-oa,Gn];rfl
  .rintro z⟨o,rfl⟩;k_places;rw[bN];exact hR
def Di:SpM:=λds M R _=>∃a q f w,ds=[.ptr a,.str w]/\a≠q/\M=Fl.M f a q/\f.ds.length<=20/\∀q',a≠q'->R .non ((f.keep w).M a q')
abbrev iI(V:Bx):Prop:=V.Q 1 "Floor" "keep" lf Di
def Dj(T:V.Tm "Floor" "keep" "Floor.keep" kZ lf)(Jw:V.gi "KEPT" 20)(uQ:V.a "Floor" "deeds")(uD:V.a "Floor" "laid")(uE:V.a "Floor" "pattern"):iI V:=by
 refine CalMth.drop (Txm.okM T Ch (λds M R RX h=>?_) (λf cdv A outer s H E J hr hx=>#[_,((am (bF uQ (ae (aa 0)) (tV (tU (ax uQ (ae (aa 0))) (eG (av (rR (av (ae (aa 1)) (av (ax uE (ae (aa 0))) (av (ax uD (ae (aa 0))) aT)))) aT))) (kD (ae (cH (cQ Jw)))) kC)))),λds M R RX d3 h=>?_]))
 .obtain⟨_,_,⟨_,_,_,_,rfl,_⟩,_⟩:=h;rfl
 .obtain⟨R,RX,⟨a,q,f,w,rfl,ne,rfl,hl,hR⟩,rfl,rfl⟩:=h;have nk:∀{p:Addr},p∉aq (f.M a q)->p≠a/\p≠q:=λ{p} h=>#[λe=>h (e ▸ Fe _ Fi),λe=>h (e ▸ Fi)];refine#[_,Fl.ma ne,_,iF,_,Fl.ma ne,_,fP,_,Fl.ma ne,_,dL,by show(3:Nat)<=1000;decide,NU,λp1 h1=>?_];obtain⟨n1,m1⟩:=nk h1;refine#[_,_,(da m1).trans Fl.mq,cv,by rw[Fs];show _+1<=_;lia,λp2 h2=>?_];have p7:p2≠p1/\p2∉aq (f.M a q):=#[λe=>h2 (e ▸ Fi),λz=>h2 (Fe _ z)];obtain⟨n2,m2⟩:=nk p7.2;refine#[_,cv,λp3 h3=>?_];have P4:p3≠p2/\p3∉aq ((p1,.lst [])::f.M a q):=#[λe=>h3 (e ▸ Fi),λz=>h3 (Fe _ z)];obtain⟨n3,m3⟩:=nk λz=>P4.2 (Fe _ z);refine#[_,(da n3).trans ((da n2).trans ((da n1).trans (Fl.ma ne))),by show(6:Nat)<1000;decide,_,#[?_,?_],hR p3 (Ne.symm n3)]
  .rw[dJ n3,dJ n2,dJ n1,show f.M a q=[(q,.lst (f.ds.map Deed.D)),(a,.ins "Floor" (f.fs q))]from rfl,dJ (Ne.symm ne),cE];have e1:cutD (f.ds.map Deed.D++[D.tup [.str w,f.d,.int f.l]]) (be (-20)) z8=(f.keep w).ds.map Deed.D:=by
    rw[tZ];show _=GP Deed.D (Gu _ _);rw[Il,FG,Fp,Fs];rfl
   have e2:putD ("deeds":E_) (.ptr p3) (f.fs q)=(f.keep w).fs p3:=rfl;rw[e1,e2];intro e he;rcases Fb.mp he with rfl|he
   .exact Fi
   .rw[E6.mp he];simp
  .exact Fl.nd (Ne.symm n3)
abbrev iJ(V:Bx):Prop:=V.X 1 "refuse_far" ll Bq
def Dk(T:V.T "refuse_far" lh ll)(IE:V.m "max")(Jy:V.m "abs")(M5:V.gi "FAR" 1000000000000)(M6:V.n "TooFar"):iJ V:=by
 refine Tx.okXW T Ci (λds R RX h=>?_) (λf cdv A outer s H E J hr hx=>#[_,((au (bM (gf (jL rfl IE (ac (jE Jy (ac (aa 0) af)) (ac (jE Jy (ac (aa 1) af)) af))) (cQ M5)) (au (yj M6 hx rfl (ac aA af))) bx))),λds R RX d3 h=>?_])
 .obtain⟨_,_,rfl,_⟩:=h;rfl
 .obtain⟨x,y,rfl,h1,h2⟩:=h;refine ite2 (λc=>?_) (λc=>?_)
  .have c':=of_decide_eq_true c;refine#[NU,?_];rw[d3];refine h2 λ⟨⟨a1,a2⟩,a3,a4⟩=>?_;split at c'<;>split at c'<;>split at c'<;>lia
  .have c':¬_:=λz=>c (decide_eq_true z);refine h1 ?_;unfold aX;split at c'<;>split at c'<;>split at c'<;>lia
abbrev eY(V:Bx):Prop:=V.D 1 "home" lq Ai
def Dl(T:V.T "home" lm lq):eY V:=by
 refine Tx.okDW T sc_home (λds R h=>?_) (λf cdv A outer s H E J hr=>⟨_,((ao (aB 3 sc_home.nd (ah (aa 0) ad))
   (ao (aB 4 sc_home.nd (ah (aa 0) ad))
   (ao (aB 5 sc_home.nd (ah (aa 0) ad))
   (au (aH (aN (ac (aJ (bv (aa 1) (aM (bL (aa 2) (aa 4)) (aa 5))) (aa 3)) (ac (aJ (aa 2) (aa 4)) af))))))))),λds R h=>?_⟩)
 .obtain⟨w,h,s,x,y,rfl,_⟩:=h;rfl
 .obtain⟨w,h,s,x,y,rfl,hw,hh,IP,hs,k_,hR⟩:=h;refine#[λd=>d=.int w,#[_,rfl,rfl],?_];rintro _ rfl;k_places;refine#[λd=>d=.int h,#[_,rfl,rfl],?_];rintro _ rfl;k_places;refine#[λd=>d=.int s,#[_,rfl,rfl],?_];rintro _ rfl;k_places;exact#[#[hh,IP],.inr #[Jb,Jb],hw,hh,J4,hR]
variable{n j:Nat}
def ok_Motif_shows(hL:1<=n)(T:V.Tm "Motif" "shows" "Motif.shows" gS cr)(x_:eY V)(IS:V.a "Motif" "hues")(uM:V.a "Motif" "shifts"):V.Q (n+1) "Motif" "shows" cr (ofX (bP (j+1) "Motif")):=by
 refine Txm.okM T Cj (λds M R RX h=>?_) (λf cdv A outer s H E J hr hx=>#[_,((am (az (zJ (fk hr) (ax IS (ae (aa 0))) (av (aF (hn:=Jj) (CalD.toM x_) hx hr (av (ax uM (ae (aa 0))) (av (ae (aa 1)) (av (ae (aa 2)) aT)))) (av (ae ad) aT)))))),λds M R RX d3 h=>?_])
 .obtain⟨_,_,_,_,rfl,_⟩:=h;rfl
 .obtain⟨p,v,X,Y,rfl,hv,t_,hd,hc,hR⟩:=h;cases p<;>simp only[Pat.cls]at hc<;>try exact absurd hc Je
  rename_i L a b c d;obtain⟨k,w,h,s,rfl,F⟩:=hv;obtain⟨hL,ha,hb,IJ,d8,hn⟩:=t_;unfold B12 at ha hb IJ d8;obtain⟨b1,b2,b3⟩:=F.bd (N:=288) (by
   have m1:=bZ (a:=a) (d:=d) (A:=12) (B:=12) Jb Jb;have m2:=bZ (a:=b) (d:=c) (A:=12) (B:=12) Jb Jb;lia)
  rw[Pat.show,<-motif_shows hL F hn X Y]at hR;exact#[_,#[rfl,rfl],_,Bk,_,#[rfl,rfl],_,mo_shifts,w,h,s,X,Y,rfl,F.1,F.2.1,Jb,F.2.2.1,Jb,hR]
def Dm(hL:1<=n)(T:V.Tm "Over" "shows" "Over.shows" gT gU)(uT:V.a "Over" "above")(uY:V.a "Over" "below")(uG:∀x,x∈(["Motif","Over","Shifted","Mirror","Turn","Rehue"]:List E_)->V.Q n x "shows" cr (ofX (bP j x))):V.Q (n+1) "Over" "shows" gU (ofX (bP (j+1) "Over")):=by
 refine Txm.okM T sc_Over_shows (λds M R RX h=>?_) (λf cdv A outer s H E J hr hx=>⟨_,((ai (aC 3 sc_Over_shows.nd (aP (hn:=Jj) uG hx hr (ax uT (ae (aa 0))) (ar (ac (aa 1) (ac (aa 2) af)))))
   (am (az (fA (bj (bA (aa 3) ad)) (aP (hn:=Jj) uG hx hr (ax uY (ae (aa 0))) (ar (ac (aa 1) (ac (aa 2) af)))) (ae (aa 3))))))),λds M R RX d3 h=>?_⟩)
 .obtain⟨_,_,_,_,rfl,_⟩:=h;rfl
 .obtain⟨p,v,X,Y,rfl,hv,t_,hd,hc,hR⟩:=h;cases p<;>simp only[Pat.cls]at hc<;>try exact absurd hc Je
  rename_i p q;obtain⟨u,u',rfl,hu,KD⟩:=hv;obtain⟨fs,rfl,o1⟩:=hu.objm;obtain⟨gs,rfl,o2⟩:=KD.objm;rw[Pat.depth]at hd;refine#[λd M'=>d=.int (p.show X Y)/\M'=M,#[_,#[rfl,rfl],_,rfl,p.cls,p.cls_mem,fs,#[rfl,rfl],o1.shw,p,_,X,Y,rfl,hu,t_.1,Jb,rfl,rfl,rfl],?_];rintro _ _⟨rfl,rfl⟩;k_places;rw[Pat.show]at hR;show if decide (p.show X Y=0)=true then _ else _
  refine ite2 (λe=>?_) (λe=>?_)
  .have e':=of_decide_eq_true e;rw[if_neg (λz=>z e')]at hR;exact#[_,#[rfl,rfl],_,eO Je,q.cls,q.cls_mem,gs,#[rfl,rfl],o2.shw,q,_,X,Y,rfl,KD,t_.2,Jb,rfl,hR]
  .have e':p.show X Y≠0:=λz=>e (decide_eq_true z);rw[if_pos e']at hR;exact hR
def Dn(hL:1<=n)(T:V.Tm "Shifted" "shows" "Shifted.shows" gW gX)(uU:V.a "Shifted" "form")(IT:V.a "Shifted" "y")(IU:V.a "Shifted" "x")(uG:∀x,x∈(["Motif","Over","Shifted","Mirror","Turn","Rehue"]:List E_)->V.Q n x "shows" cr (ofX (bP j x))):V.Q (n+1) "Shifted" "shows" gX (ofX (bP (j+1) "Shifted")):=by
 refine Txm.okM T Ck (λds M R RX h=>?_) (λf cdv A outer s H E J hr hx=>#[_,((am (az (aP (hn:=Jj) uG hx hr (ax uU (ae (aa 0))) (av (cR (ae (aa 1)) (ax IU (ae (aa 0)))) (av (cR (ae (aa 2)) (ax IT (ae (aa 0)))) aT)))))),λds M R RX d3 h=>?_])
 .obtain⟨_,_,_,_,rfl,_⟩:=h;rfl
 .obtain⟨p,v,X,Y,rfl,hv,t_,hd,hc,hR⟩:=h;cases p<;>simp only[Pat.cls]at hc<;>try exact absurd hc Je
  rename_i a b p;obtain⟨u,rfl,hu⟩:=hv;obtain⟨fs,rfl,o1⟩:=hu.objm;rw[Pat.depth]at hd;exact#[_,#[rfl,rfl],_,rfl,p.cls,p.cls_mem,fs,#[rfl,rfl],o1.shw,_,#[rfl,rfl],_,eO Je,_,#[rfl,rfl],_,kB Je Je,p,_,X-a,Y-b,rfl,hu,t_.2.2,Jb,rfl,hR]
def Do(hL:1<=n)(T:V.Tm "Mirror" "shows" "Mirror.shows" gY gZ)(uS:V.a "Mirror" "form")(uG:∀x,x∈(["Motif","Over","Shifted","Mirror","Turn","Rehue"]:List E_)->V.Q n x "shows" cr (ofX (bP j x))):V.Q (n+1) "Mirror" "shows" gZ (ofX (bP (j+1) "Mirror")):=by
 refine Txm.okM T Cl (λds M R RX h=>?_) (λf cdv A outer s H E J hr hx=>#[_,((am (az (aP (hn:=Jj) uG hx hr (ax uS (ae (aa 0))) (ar (ac (cH (aa 1)) (ac (aa 2) af))))))),λds M R RX d3 h=>?_])
 .obtain⟨_,_,_,_,rfl,_⟩:=h;rfl
 .obtain⟨p,v,X,Y,rfl,hv,t_,hd,hc,hR⟩:=h;cases p<;>simp only[Pat.cls]at hc<;>try exact absurd hc Je
  rename_i p;obtain⟨u,rfl,hu⟩:=hv;obtain⟨fs,rfl,o1⟩:=hu.objm;rw[Pat.depth]at hd;exact#[_,#[rfl,rfl],_,rfl,p.cls,p.cls_mem,fs,#[rfl,rfl],o1.shw,p,_,-X,Y,rfl,hu,t_,Jb,rfl,hR]
def Dp(hL:1<=n)(T:V.Tm "Turn" "shows" "Turn.shows" hU hV)(uX:V.a "Turn" "form")(uG:∀x,x∈(["Motif","Over","Shifted","Mirror","Turn","Rehue"]:List E_)->V.Q n x "shows" cr (ofX (bP j x))):V.Q (n+1) "Turn" "shows" hV (ofX (bP (j+1) "Turn")):=by
 refine Txm.okM T Cm (λds M R RX h=>?_) (λf cdv A outer s H E J hr hx=>#[_,((am (az (aP (hn:=Jj) uG hx hr (ax uX (ae (aa 0))) (ar (ac (aa 2) (ac (cH (aa 1)) af))))))),λds M R RX d3 h=>?_])
 .obtain⟨_,_,_,_,rfl,_⟩:=h;rfl
 .obtain⟨p,v,X,Y,rfl,hv,t_,hd,hc,hR⟩:=h;cases p<;>simp only[Pat.cls]at hc<;>try exact absurd hc Je
  rename_i p;obtain⟨u,rfl,hu⟩:=hv;obtain⟨fs,rfl,o1⟩:=hu.objm;rw[Pat.depth]at hd;exact#[_,#[rfl,rfl],_,rfl,p.cls,p.cls_mem,fs,#[rfl,rfl],o1.shw,p,_,Y,-X,rfl,hu,t_,Jb,rfl,hR]
def Dq(hL:1<=n)(T:V.Tm "Rehue" "shows" "Rehue.shows" hZ ia)(uW:V.a "Rehue" "form")(IV:V.a "Rehue" "old")(IW:V.a "Rehue" "new")(uG:∀x,x∈(["Motif","Over","Shifted","Mirror","Turn","Rehue"]:List E_)->V.Q n x "shows" cr (ofX (bP j x))):V.Q (n+1) "Rehue" "shows" ia (ofX (bP (j+1) "Rehue")):=by
 refine Txm.okM T sc_Rehue_shows (λds M R RX h=>?_) (λf cdv A outer s H E J hr hx=>⟨_,((ai (aC 3 sc_Rehue_shows.nd (aP (hn:=Jj) uG hx hr (ax uW (ae (aa 0))) (ar (ac (aa 1) (ac (aa 2) af)))))
   (am (az (fA (fz (ae (aa 3)) (ax IV (ae (aa 0)))) (ax IW (ae (aa 0))) (ae (aa 3))))))),λds M R RX d3 h=>?_⟩)
 .obtain⟨_,_,_,_,rfl,_⟩:=h;rfl
 .obtain⟨p,v,X,Y,rfl,hv,t_,hd,hc,hR⟩:=h;cases p<;>simp only[Pat.cls]at hc<;>try exact absurd hc Je
  rename_i f g p;obtain⟨u,rfl,hu⟩:=hv;obtain⟨fs,rfl,o1⟩:=hu.objm;rw[Pat.depth]at hd;refine#[λd M'=>d=.int (p.show X Y)/\M'=M,#[_,#[rfl,rfl],_,rfl,p.cls,p.cls_mem,fs,#[rfl,rfl],o1.shw,p,_,X,Y,rfl,hu,t_.2.2,Jb,rfl,rfl,rfl],?_];rintro _ _⟨rfl,rfl⟩;k_places;rw[Pat.show]at hR;unfold ce at hR;refine#[_,#[rfl,rfl],_,eO Je,ite2 (λe=>?_) (λe=>?_)]
  .rw[if_pos (of_decide_eq_true e)]at hR;exact#[_,#[rfl,rfl],_,kB Je Je,hR]
  .rw[if_neg (λz=>e (decide_eq_true z))]at hR;exact hR
def Dr(Ou:V.Tm "Motif" "shows" "Motif.shows" gS cr)(Ov:V.Tm "Over" "shows" "Over.shows" gT gU)(Ow:V.Tm "Shifted" "shows" "Shifted.shows" gW gX)(Ox:V.Tm "Mirror" "shows" "Mirror.shows" gY gZ)(Oy:V.Tm "Turn" "shows" "Turn.shows" hU hV)(Oz:V.Tm "Rehue" "shows" "Rehue.shows" hZ ia)(x_:eY V)(IS:V.a "Motif" "hues")(uM:V.a "Motif" "shifts")(uT:V.a "Over" "above")(uY:V.a "Over" "below")(uU:V.a "Shifted" "form")(IT:V.a "Shifted" "y")(IU:V.a "Shifted" "x")(uS:V.a "Mirror" "form")(uX:V.a "Turn" "form")(uW:V.a "Rehue" "form")(IV:V.a "Rehue" "old")(IW:V.a "Rehue" "new"):∀j x,x∈(["Motif","Over","Shifted","Mirror","Turn","Rehue"]:List E_)->V.Q (1+j) x "shows" cr (ofX (bP j x)):=by
 intro j;induction j with
 |zero=>
  intro x hx;simp only[Fb,Gy,or_false]at hx;rcases hx with rfl|rfl|rfl|rfl|rfl|rfl
  .exact CalMth.never Ou (λds M R RX=>eU)
  .exact CalMth.never Ov (λds M R RX=>eU)
  .exact CalMth.never Ow (λds M R RX=>eU)
  .exact CalMth.never Ox (λds M R RX=>eU)
  .exact CalMth.never Oy (λds M R RX=>eU)
  .exact CalMth.never Oz (λds M R RX=>eU)
 |succ j KE=>
  intro x hx;simp only[Fb,Gy,or_false]at hx;rcases hx with rfl|rfl|rfl|rfl|rfl|rfl
  .exact ok_Motif_shows (n:=1+j) (j:=j) Jj Ou x_ IS uM
  .exact Dm (n:=1+j) (j:=j) Jj Ov uT uY KE
  .exact Dn (n:=1+j) (j:=j) Jj Ow uU IT IU KE
  .exact Do (n:=1+j) (j:=j) Jj Ox uS KE
  .exact Dp (n:=1+j) (j:=j) Jj Oy uX KE
  .exact Dq (n:=1+j) (j:=j) Jj Oz uW IV IW KE
abbrev uc(V:Bx):Prop:=∀x,x∈(["Motif","Over","Shifted","Mirror","Turn","Rehue"]:List E_)->V.Q 7 x "shows" cr (ofX (bP 6 x))
abbrev iK(V:Bx):Prop:=V.X 8 "cell_at" lu Br
def Ds(T:V.T "cell_at" lr lu)(Jz:iJ V)(JP:V.a "Pattern" "form")(uG:uc V):iK V:=by
 refine CalMM.nilX (Tx.okM T Cn (λds M R RX h=>?_) (λf cdv A outer s H E J hr hx=>⟨_,((ai (bE (aF (CalX.toM Jz) hx hr (ar (ac (aa 1) (ac (aa 2) af)))))
   (am (az (aP uG hx hr (ax JP (ae (aa 0))) (ar (ac (aa 1) (ac (aa 2) af)))))))),λds M R RX d3 h=>?_⟩))
 .obtain⟨_,R0,IB,⟨_,_,_,_,rfl,_⟩,_⟩:=h;rfl
 .obtain⟨rfl,R0,IB,⟨p,d,x,y,rfl,⟨w,h,s,fs,rfl,e1,e2,hp⟩,ok,h1,h2⟩,hR,hX⟩:=h;obtain⟨v,e3,hv⟩:=hp.form;obtain⟨gs,rfl,o1⟩:=hv.objm;have P5:=ok.deep;refine#[x,y,rfl,λhn=>?_,λhn=>?_]
  .exact#[_,#[rfl,rfl],_,e3,p.cls,p.cls_mem,gs,#[rfl,rfl],o1.shw,p,_,x,y,rfl,hv,ok.wf,Jb,rfl,hR _ _ (h1 hn)]
  .rw[d3];exact hX _ _ _ (h2 hn)
abbrev iL(V:Bx):Prop:=V.D 9 "row_from" lv Bs
def Dt(T:V.T "row_from" ib lv)(uB:V.m "range")(JA:iK V)(uR:V.gs "SIGNS" ".123456"):iL V:=by
 refine Tx.okDW T Co (λds R h=>?_) (λf cdv A outer s H E J hr=>#[_,((au (aH (jM (gv rfl (compScope (by change dm _ (ag ib) ["pattern","x","y","many"] _=true;decide+kernel)) uB (aa 3) (λcl s0 H0 fp=>(ah (eD uR) (aI (CalX.no JA) hr (ac (aa 0) (ac (aD (aa 1) (aa 4)) (ac (aa 2) af))))))))))),λds R h=>?_])
 .obtain⟨_,_,_,_,_,rfl,_⟩:=h;rfl
 .obtain⟨p,d,x,y,n,rfl,hd,ok,hn,IM,l9,hy,hR⟩:=h;obtain⟨w,h,s,fs,rfl,_⟩:=id hd;refine#[#[Jb,Jb],by rw[bN];lia,λk ys=>ys=rowD p x y k,rfl,?_,?_]
  .rintro k v ys hk hl rfl;obtain⟨t9,rfl⟩:=cb hk;obtain⟨b0,b6⟩:=Pat.show_le ok.wf (by have:=ok.deep;lia) (x+(k:Int)) y;unfold aX at IM l9;exact#[p,.obj "Pattern" fs,x+(k:Int),y,rfl,hd,ok,λ_=>#[_,#[Ji,tD b0 b6],tG p x y k],λz=>z #[#[Jb,Jb],hy]]
  .rintro ys hl rfl;rw[bN,GA];obtain⟨ys,e1,e2,e3⟩:=tH p x y hn;refine#[ys,e1,e2,?_];rw[e3];exact hR
def ud:SpD:=λds R=>∃f q,ds=[.obj "Floor" (Fl.fs f q)]/\f.Ok/\R (.lst (ay f.p f.w 0 f.l.toNat))
variable{f:Fl}
def ue{a q:Addr}(ne:a≠q)(ok:f.Ok){R:D->MS->Prop}{RX:XDM}(h:R (.lst (ay f.p f.w 0 f.l.toNat)) (f.M a q)):lend (λds R _=>ud ds R) [.ptr a] (f.M a q) R RX:=by
 refine#[a,_,_,Fl.ma ne,f,q,?_,ok,CT _ _ _ _,h];show[lendD a _ (.ptr a)]=_;unfold lendD;simp
abbrev iM(V:Bx):Prop:=V.QD 10 "Floor" "rows" lw ud
def Du(T:V.Tm "Floor" "rows" "Floor.rows" ic lw)(uB:V.m "range")(JQ:iL V)(uD:V.a "Floor" "laid")(uI:V.a "Floor" "width")(uE:V.a "Floor" "pattern"):iM V:=by
 refine Txm.okDW T Cp (λds R h=>?_) (λf cdv A outer s H E J hr=>#[_,((au (aH (gv rfl (compScope (by change dm _ (ag ic) ["self"] _=true;decide+kernel)) uB (eB uD (aa 0)) (λcl s0 H0 fp=>(aI JQ hr (ac (eB uE (aa 0)) (ac ad (ac (aa 1) (ac (eB uI (aa 0)) af)))))))))),λds R h=>?_])
 .obtain⟨_,_,rfl,_⟩:=h;rfl
 .obtain⟨f,q,rfl,ok,hR⟩:=h;have l0:=ok.l0;have l1:=ok.l1;have h2:=ok.h2;have w1:=ok.w1;have w2:=ok.w2;refine#[rfl,_,dL,#[Jb,Jb],by rw[bN];lia,λk ys=>ys=ay f.p f.w 0 k,rfl,?_,?_]
  .rintro k v ys hk hl rfl;obtain⟨t9,rfl⟩:=cb hk;refine#[rfl,_,fP,rfl,_,eV,f.p,f.d,0,k,f.w.toNat,by rw[FC Jb],ok.is,ok.ok,Jb,#[Jb,Jb],#[Jb,Jb],#[Jb,Jb],?_];show ay f.p f.w 0 k++_=ay f.p f.w 0 (k+1);rw[<-oa,Gn]
  .rintro ys hl rfl;rw[bN];exact hR
def S_Floor_lay:SpM:=λds M R RX=>∃a q f n,ds=[.ptr a,.int n]/\a≠q/\M=Fl.M f a q/\f.Ok/\1<=n/\n<=1000/\(f.h-f.l<n->RX "NoRow" [] (f.M a q))/\(n<=f.h-f.l->∀q',a≠q'->R (.lst (ay f.p f.w f.l n.toNat)) ((f.lay n).M a q'))
variable{p:Pat}{d:My.D}
def Fl.ok_new{w h:Int}(is:bf p d)(ok:p.Ok)(w1:1<=w)(w2:w<=30)(h1:1<=h)(h2:h<=30):(Fl.mk p d w h 0 []).Ok:=#[is,ok,w1,w2,h1,h2,Int.le_refl 0,GB (show(0:Int)<=1 by decide) h1,Fz _,λ_ h=>nomatch h]
def Fl.Ok.keep(ok:f.Ok)(w:E_):(f.keep w).Ok:=by
 refine#[ok.is,ok.ok,ok.w1,ok.w2,ok.h1,ok.h2,ok.l0,ok.l1,?_,λe he=>?_]
 .show(Gu _ _).length<=20;rw[F6,Fp,Hz];have:=ok.de;lia
 .rcases FH.mp (Im he)with z|z
  .exact ok.dd e z
  .rw[E6.mp z];exact#[ok.is,ok.ok,ok.l0,ok.l1]
def Fl.Ok.stand(ok:f.Ok)(is:bf p d)(n6:p.Ok):(f.stand p d).Ok:=#[is,n6,ok.w1,ok.w2,ok.h1,ok.h2,ok.l0,ok.l1,ok.de,ok.dd]
def Fl.Ok.lay{n:Int}(ok:f.Ok)(n0:0<=n)(hn:n<=f.h-f.l):(f.lay n).Ok:=by
 have l0:=ok.l0;have k:=ok.keep "lay";exact#[ok.is,ok.ok,ok.w1,ok.w2,ok.h1,ok.h2,by show 0<=f.l+n;lia,by show f.l+n<=f.h;lia,k.de,k.dd]
abbrev ow(V:Bx):Prop:=V.Q 11 "Floor" "lay" ie S_Floor_lay/\V.Qd 11 "Floor" "lay" ie [.int 1] S_Floor_lay
def Dv(T:V.Td "Floor" "lay" "Floor.lay" lx ie [.int 1])(IE:V.m "max")(uV:V.a "Floor" "height")(uD:V.a "Floor" "laid")(JR:iI V)(JS:iM V)(M7:V.n "NoRow"):ow V:=by
 refine Txd.okMd T sc_Floor_lay (λds M R RX h=>?_) (λf cdv A outer s H E J hr hx=>⟨_,((ai (aW (yO (ae (aa 1)) (cR (ax uV (ae (aa 0))) (ax uD (ae (aa 0))))) (am (rX M7 hx rfl (ar (ac aA af)))) aQ)
   (ai (bE (aP (CalMth.one JR) hx hr (ae (aa 0)) (ar (ac aA af))))
   (ai (aC 2 sc_Floor_lay.nd (ax uD (ae (aa 0))))
   (ai (bF uD (ae (aa 0)) (ae (aD (aa 2) (jL rfl IE (ac (aa 1) (ac ad af))))))
   (am (az (BT (bR (CalMth.one (CalMth.lendD JS)) hx hr (ae (aa 0))) (kD (ae (aa 2))) kC)))))))),λds M R RX d3 h=>?_⟩)
 .obtain⟨_,_,⟨_,_,_,_,rfl,_⟩,_⟩:=h;rfl
 .obtain⟨R,RX,⟨a,q,f,n,rfl,ne,rfl,ok,n1,n2,hX,hR⟩,rfl,rfl⟩:=h;have l0:=ok.l0;have l1:=ok.l1;refine#[_,Fl.ma ne,_,iE,_,Fl.ma ne,_,dL,ite2 (λc=>?_) (λc=>?_)]
  .have c':=of_decide_eq_true c;refine#[NU,?_];rw[d3];exact#[_,Fl.sub ne,hX c']
  have hc:n<=f.h-f.l:=by have:¬(f.h-f.l<n):=λz=>c (decide_eq_true z);lia
  refine#[_,E6.mpr rfl,_,Fl.ma ne,rfl,a,q,f,"lay",rfl,ne,rfl,ok.de,λq' d5=>?_];refine#[λd M'=>d=.int f.l/\M'=(f.keep "lay").M a q',#[_,Fl.ma d5,_,dL,rfl,rfl],?_];rintro _ _⟨rfl,rfl⟩;k_places;have eM:mput ((f.keep "lay").M a q') a (.ins "Floor" (putD "laid" (.int (f.l+if 0>n then 0 else n)) ((f.keep "lay").fs q')))=(f.lay n).M a q':=by
   rw[Fl.put d5,if_neg Jb];rfl
  refine#[_,Fl.ma d5,by show(6:Nat)<1000;decide,?_];rw[eM];have el:(f.lay n).l.toNat=f.l.toNat+n.toNat:=by show(f.l+n).toNat=_;lia
  refine#[_,E6.mpr rfl,_,Fl.ma d5,rfl,?_];dsimp only[mNil];refine ue d5 (ok.lay Jb hc) ?_;rw[el];show ∃N,subM N _/\R (.lst (cutD (ay f.p f.w 0 _) (be f.l) z8)) N;rw[ub _ _ _ l0];exact#[_,Fl.sub d5,hR hc q' d5]
def Dw:SpM:=λds M R _=>∃a q f n b,ds=[.ptr a,.int n,.bl b]/\a≠q/\M=Fl.M f a q/\f.Ok/\1<=n/\n<=1000/\(f.h-f.l<n->R (.lst [.bl true,.non]) (f.M a q))/\(n<=f.h-f.l->∀q',a≠q'->R (.lst [.bl false,.lst (ay f.p f.w f.l n.toNat)]) ((f.lay n).M a q'))
abbrev iN(V:Bx):Prop:=V.Ek ["MotifError","WrongSign","OneLine","TooGreat","TooFar","NoRow","Parted","NothingKept"]
abbrev oy(V:Bx):Prop:=V.MM 12 "_law_lay" lz Dw
def Dx(T:V.T "_law_lay" ly lz)(Lp:ow V)(ek:iN V):oy V:=by
 refine Tx.okM T sc__law_lay (λds M R RX h=>?_) (λf cdv A outer s H E J hr hx=>⟨_,((ai (aC 3 sc__law_lay.nd (ae bU))
   (ai (aC 4 sc__law_lay.nd (ae br))
   (ai (kj (λpn xe J hp hx=>(am (eH (bj (cO (jG (bA (aa 1) ad) (jF (cy (aa 2)))))) (am (aC 3 sc__law_lay.nd (BZ Lp.2 hx hr (ae (aa 0))))) (am (aC 3 sc__law_lay.nd (aP (CalMth.one Lp.1) hx hr (ae (aa 0)) (ar (ac (aa 1) af)))))))) (λ_=>(rF ek (λe=>(au (aB 4 sc__law_lay.nd br))) jQ)))
   (am (az (ae (bV (ac (aa 4) (ac (aa 3) af)))))))))),λds M R RX d3 h=>?_⟩)
 .obtain⟨_,_,_,_,_,rfl,_⟩:=h;rfl
 .obtain⟨a,q,f,n,b,rfl,ne,rfl,ok,n1,n2,hX,hR⟩:=h;refine#[λd M'=>d=.non/\M'=f.M a q,#[rfl,rfl],?_];rintro _ _⟨rfl,rfl⟩;k_places;refine#[λd M'=>d=.bl false/\M'=f.M a q,#[rfl,rfl],?_];rintro _ _⟨rfl,rfl⟩;k_places;refine#[λz M' x fs=>z=[be (.ptr a),be (.int n),be (.bl b),be .non,be (.bl false)]/\M'=f.M a q/\x="NoRow"/\f.h-f.l<n,λJ hJ=>?_,?_]
  .let P:D->MS->Prop:=λd M'=>n<=f.h-f.l/\∃q',a≠q'/\d=.lst (ay f.p f.w f.l n.toNat)/\M'=(f.lay n).M a q'
   have lay:S_Floor_lay [.ptr a,.int n] (f.M a q) P (λx fs M'=>J.RM [be (.ptr a),be (.int n),be (.bl b),be .non,be (.bl false)] M' x fs):=
    #[a,q,f,n,rfl,ne,rfl,ok,n1,n2,λc=>by rw[hJ];exact#[rfl,rfl,rfl,c],λc q' d5=>#[c,q',d5,rfl,rfl]]
   refine#[λz M'=>n<=f.h-f.l/\∃q',a≠q'/\z=[be (.ptr a),be (.int n),be (.bl b),be (.lst (ay f.p f.w f.l n.toNat)),be (.bl false)]/\M'=(f.lay n).M a q',ite2 (λc=>ite2 (λ_=>?_) (λ_=>?_)) (λ_=>?_),λz M' ⟨c,q',d5,e1,e2⟩=>?_]
   .have c':n=1:=of_decide_eq_true c;subst c';exact#[P,#[_,Fl.ma ne,rfl,lay],λd M' ⟨c,q',d5,e1,e2⟩=>#[c,q',d5,by rw[e1];rfl,e2]]
   .exact#[P,#[_,E6.mpr rfl,_,Fl.ma ne,rfl,lay],λd M' ⟨c,q',d5,e1,e2⟩=>#[c,q',d5,by rw[e1];rfl,e2]]
   .exact#[P,#[_,E6.mpr rfl,_,Fl.ma ne,rfl,lay],λd M' ⟨c,q',d5,e1,e2⟩=>#[c,q',d5,by rw[e1];rfl,e2]]
   .subst e1 e2;exact#[LS,hR c q' d5]
  .rintro z M' x fs⟨rfl,rfl,rfl,c⟩;k_places;refine#[#[J4,J4],?_];rw[if_pos Je];exact#[λd=>d=.bl true,rfl,λd e=>by subst e;exact#[#[LS,hX c],NoOwn.of rfl]]
abbrev db(V:Bx):Prop:=V.Q 1 "Reading" "may_take" lC AT
def Dy(T:V.Tm "Reading" "may_take" "Reading.may_take" lB lC)(uA:V.m "len")(IY:V.a "Reading" "text")(uN:V.a "Reading" "place"):db V:=by
 refine Txm.okM T Cq (λds M R RX h=>?_) (λf cdv A outer s H E J hr hx=>⟨_,((ai (aW (mt_w (dA (fz (ax uN (ae (aa 0))) (rS uA (av (ax IY (ae (aa 0))) aT))) (eF (yQ (jT (ax IY (ae (aa 0))) (ax uN (ae (aa 0)))) (ae (aa 1)))))) (am (az (ae aA))) aQ)
   (ai (bF uN (ae (aa 0)) (gC (ax uN (ae (aa 0))) (ae ad)))
   (am (az (jT (ax IY (ae (aa 0))) (cR (ax uN (ae (aa 0))) (ae ad)))))))),λds M R RX d3 h=>?_⟩)
 .obtain⟨_,_,_,_,_,rfl,_⟩:=h;rfl
 .obtain⟨a,t,k,l,al,rfl,rfl,c8,hR⟩:=h;refine#[_,aV,_,eJ,_,aV,_,ky,Fg c8.sz Ji,?_];cases l with
  |nil=>
   refine ifdT (by rw[c8.nil]) (ifT rfl ?_);exact hR
  |cons c l=>
   have lt:=c8.lt;refine ifdF Jb ?_;refine#[_,aV,_,ky,_,aV,_,eJ,c,#[Fg c8.sz Ji,cw c8.get],?_];refine ite2 (λe=>?_) (λe=>?_)
   .have e2:(!(!(Builtin.Str.occurrences al #[[c].toArray] 0 al.length 1).isEmpty))=true:=e;rw[sU]at e2;have nc:c∉cs al:=by simpa using e2
    rw[dF nc,dG nc]at hR;exact hR
   .have e2:¬(!(!(Builtin.Str.occurrences al #[[c].toArray] 0 al.length 1).isEmpty))=true:=e;rw[sU]at e2;have nc:c∈cs al:=by simpa using e2
    rw[eK nc,eL nc]at hR;refine#[_,aV,_,eJ,_,aV,by show(2:Nat)<1000;decide,?_];rw[show mput (RdM a t k) a (.ins "Reading" (putD ("place":E_) (.int ((k:Int)+1)) (rdF t k)))=RdM a t (k+1)by rw[AR];exact gM];refine#[_,aV,_,ky,_,aV,_,eJ,c,#[Fg c8.sz Ji,?_],hR];rw[show((k+1:Nat):Int)-1=(k:Int)by lia];exact cw c8.get
abbrev cF(V:Bx):Prop:=V.Q 2 "Reading" "take" lF AU
def Dz(T:V.Tm "Reading" "take" "Reading.take" lD lF)(uJ:db V):cF V:=by
 refine Txm.okM T sc_Reading_take (λds M R RX h=>?_) (λf cdv A outer s H E J hr hx=>⟨_,((ai (aC 2 sc_Reading_take.nd (aP (CalMth.one uJ) hx hr (ae (aa 0)) (ar (ac (aa 1) af))))
   (ai (aW (bj (bA (aa 2) aA)) (am gL) aQ)
   (am (az (ae (aa 2))))))),λds M R RX d3 h=>?_⟩)
 .obtain⟨_,_,_,_,_,_,rfl,_⟩:=h;rfl
 .obtain⟨a,t,k,c,l,al,rfl,rfl,c8,hc,hR⟩:=h;refine#[λd M'=>d=.str #[[c].toArray]/\M'=RdM a t (k+1),#[_,E6.mpr rfl,_,aV,cW,a,t,k,_,al,rfl,rfl,c8,by rw[eK hc,eL hc];exact#[rfl,rfl]],?_];rintro _ _⟨rfl,rfl⟩;k_places;exact hR
abbrev oz(V:Bx):Prop:=V.MM 3 "line_from" lH S_line_from
def DB(T:V.T "line_from" lG lH)(uB:V.m "range")(uR:V.gs "SIGNS" ".123456")(uC:cF V)(uJ:db V):oz V:=by
 refine Tx.okM T sc_line_from (λds M R RX h=>?_) (λf cdv A outer s H E J hr hx=>⟨_,((ai (aC 3 sc_line_from.nd (ae aA))
   (ai (zn 4 PassesOwn.leaving rfl sc_line_from.nd uB (ae (aa 2)) (am (aC 3 sc_line_from.nd (gC (ae (aa 3)) (fA (bj (fq (aa 4) (aa 1))) (aP (CalMth.one uC) hx hr (ae (aa 0)) (ar (ac (eD uR) af))) (aP (CalMth.one uJ) hx hr (ae (aa 0)) (ar (ac (eD uR) af))))))))
   (am (az (ae (aa 3))))))),λds M R RX d3 h=>?_⟩)
 .obtain⟨_,_,_,_,_,_,_,rfl,_⟩:=h;rfl
 .obtain⟨a,t,k,n,m,x,l,rfl,rfl,c8,hs,hn,hm,QM,j4,hR⟩:=h;refine#[λd M'=>d=.str ""/\M'=RdM a t k,#[rfl,rfl],?_];rintro _ _⟨rfl,rfl⟩;k_places;refine#[#[Jb,Jb],λi z M'=>i<=m/\∃col,z=[be (.ptr a),be (.int n),be (.int m),be (.str #[(x.take i).toArray]),col]/\M'=RdM a t (k+min i x.length),#[Fz _,z8,rfl,by rw[Nat.zero_min];rfl],?_,?_]
  .rintro i d z M' hi⟨QN,col,rfl,rfl⟩;k_places;obtain⟨A',rfl⟩:=cb hi;have A':i<m:=by lia
   have b8:=List.length_take_le i x;refine#[λd M'=>d=.str #[(x.take (i+1)).toArray]/\M'=RdM a t (k+min (i+1) x.length),?_,?_]
   .by_cases e_:i<x.length
    .have e1:x.take (i+1)=x.take i++[x[i]]:=List.take_succ_eq_append_getElem e_;have c9:At t (k+i) (x[i]::(x.drop (i+1)++l)):=by
      have:=c8;rw[<-List.take_append_drop i x,FX,Gk e_]at this;have:=this.app;rw[GI,Go Jb]at this;exact this
     have hc:=signs_is.mpr (AQ (hs x[i] (FQ e_)));have e2:(#[(x.take i).toArray]:E_)++#[[x[i]].toArray]=#[(x.take (i+1)).toArray]:=by rw[show(#[[x[i]].toArray]:E_)=#[[x[i]].toArray]from rfl,fH,e1]
     rw[Go Jb,Go Jb];refine ite2 (λ_=>?_) (λ_=>?_)
     .exact#[_,E6.mpr rfl,_,aV,cf,a,t,_,_,_,".123456",rfl,rfl,c9,hc,by rw[eN,show(#[[x[i]].toArray]:E_).length=1 from rfl];lia,congrArg D.str e2,rfl]
     .refine#[_,E6.mpr rfl,_,aV,cW,a,t,_,_,".123456",rfl,rfl,c9,?_];rw[eK hc,eL hc];exact#[by rw[eN,show(#[[x[i]].toArray]:E_).length=1 from rfl];lia,congrArg D.str e2,rfl]
    .obtain⟨c,l',rfl,hc⟩:=j4.resolve_left Jb;have c9:=c8.app;rw[G0 Jb,G0 Jb,Gf Jb,Gf Jb];refine ite2 (λc=>absurd (of_decide_eq_true c) Jb) (λ_=>?_);refine#[_,E6.mpr rfl,_,aV,cW,a,t,_,_,".123456",rfl,rfl,c9,?_];rw[dF (sV hc),dG (sV hc)];refine#[by rw[eN,show("":E_).length=0 from rfl];lia,?_,rfl];rw[show("":E_)=#[([]:List Nat).toArray]from rfl,fH,FE]
   .rintro _ _⟨rfl,rfl⟩;k_places;exact#[A',_,rfl,trivial]
  .intro z M' hz;rw[bN,GA]at hz;obtain⟨_,col,rfl,rfl⟩:=hz;rw[Gf hm,G0 hm];exact hR
abbrev oA(V:Bx):Prop:=V.MM 4 "lines_from" lK A1
def DC(T:V.T "lines_from" lJ lK)(uA:V.m "len")(Lq:oz V)(Lr:V.gi "LONGEST" 8)(uJ:db V):oA V:=by
 refine Tx.okM T sc_lines_from (λds M R RX h=>?_) (λf cdv A outer s H E J hr hx=>⟨_,((ai (aC 1 sc_lines_from.nd (eG (av (aF (CalMM.frame Lq) hx hr (ar (ac (aa 0) (ac ad (ac (cQ Lr) af))))) aT)))
   (ai (aC 2 sc_lines_from.nd (rS uA (av (zp (ae (aa 1)) (ae ad)) aT)))
   (ai (rY PassesOwn.leaving (mt_w (yS (rQ (gI uA (ae (aa 1))) (ae (cQ Lr))) (yR (fz (aP (CalMth.one (CalMth.frame uJ)) hx hr (ae (aa 0)) (ar (ac aA af))) (ae aA))))) (am (bE (zr (ae (aa 1)) (aF (CalMM.frame Lq) hx hr (ar (ac (aa 0) (ac (aa 2) (ac (aa 2) af)))))))))
   (rZ 1 (am (az (ae (aa 1))))))))),λds M R RX d3 h=>?_⟩)
 .obtain⟨_,_,_,_,_,_,rfl,_⟩:=h;rfl
 .obtain⟨a,t,k,L,w,l,rfl,rfl,hL,c8,hR⟩:=h;have hw:=hL.w1;have P6:=hL.w8;have y7:=hL.many;cases L with
  |nil=>exact absurd y7.1 Ji
  |cons x L=>
   obtain⟨IM,l9⟩:=hL.each x Fi;rw[sT]at c8 hR;rw[FX]at c8;rw[Fc]at y7;have stop:∀N:List (List Nat),∃c l',rowsT N++59::l=c::l'/\isSg c=false:=λN=>by
    cases N with
    |nil=>exact#[59,l,rfl,rfl]
    |cons y N=>exact#[47,_,rfl,rfl]
   refine#[λd M'=>∃p,p≠a/\d=.ptr p/\M'=(p,.lst [.str #[x.toArray]])::RdM a t (k+x.length),#[[],RdM a t k,rfl,a,t,k,1,8,x,_,rfl,rfl,c8,l9,Jb,Jb,Ji,.inr (stop L),by show 1<=1000;decide,λp hp=>#[p,λe=>hp (by rw[e];exact E6.mpr rfl),rfl,rfl]],?_];rintro _ _⟨p,P7,rfl,rfl⟩;k_places;refine#[λd M'=>d=.int w/\M'=(p,.lst [.str #[x.toArray]])::RdM a t (k+x.length),#[_,bH,_,rfl,by rw[eN];lia,by rw[eN,IM],rfl],?_];rintro _ _⟨rfl,rfl⟩;k_places;refine#[λm z M'=>∃L1 L2 k',L=L1++L2/\m=L2.length/\At t k' (rowsT L2++59::l)/\k'+(rowsT L2).length=k+(x++rowsT L).length/\z=[be (.ptr a),be (.ptr p),be (.int w)]/\M'=(p,.lst (lstD (x::L1)))::RdM a t k',#[_,[],L,_,rfl,rfl,c8.app,by rw[Fp];lia,rfl,rfl],?_];rintro m z M'⟨L1,L2,k',rfl,rfl,g_,hk,rfl,rfl⟩;k_places;rw[Fp]at y7;have KG:(lstD (x::L1)).length=L1.length+1:=by simp[lstD]
   have done:L2=[]->R (.lst (lstD (x::L1))) (RdM a t k'):=λe=>by
    subst e;rw[show k'=k+(x++rowsT (L1++[])).length from hk,show lstD (x::L1)=lstD (x::(L1++[]))by rw[FE]];exact hR
   refine#[_,bH,?_];rw[KG];refine ite2 (λc=>?_) (λc=>?_)
   .refine#[_,E6.mpr rfl,_,AZ P7,cW,[(p,_)],RdM a t _,rfl,a,t,_,_,"/",rfl,rfl,g_,?_];cases L2 with
    |nil=>
     rw[show rowsT []++59::l=59::l from rfl,dF Ji,dG Ji];refine#[_,bH,?_];rw[show mdel ([(p,MO.lst (lstD (x::L1)))]++RdM a t (k'+0)) p=RdM a t k' from kA];exact done rfl
    |cons y N=>
     have e1:rowsT (y::N)++59::l=47::(y++(rowsT N++59::l)):=by simp[rowsT]
     have OA:(47:Nat)∈cs "/":=Ji
     rw[e1]at g_ ⊢;rw[eK OA,eL OA];obtain⟨P8,P9⟩:=hL.each y (Fe _ (Fw _ Fi));have n8:=g_.next;refine#[#[_,bH],[(p,_)],RdM a t _,rfl,a,t,_,w,w,y,_,rfl,rfl,n8,P9,Jb,Jb,P6,.inl P8,?_];refine#[_,bH,by rw[KG];lia,N.length,by rw[Fc];lia,L1++[y],N,_,J4,rfl,n8.app,?_,rfl,?_]
     .rw[<-hk];simp[rowsT];lia
     .show mput ((p,MO.lst (lstD (x::L1)))::RdM a t _) p _=_;rw[kz];simp[lstD]
   .have c':L1.length+1=8:=by
     have:¬((L1.length+1:Nat):Int)<8:=λz=>c (decide_eq_true z);lia
    refine#[_,bH,?_];rw[kA];exact done (Gv Jb)
abbrev oB(V:Bx):Prop:=V.MM 3 "number_from" lM AX
def DD(T:V.T "number_from" lL lM)(uK:V.m "int")(uJ:db V)(uC:cF V):oB V:=by
  refine Tx.okM T sc_number_from (λds M R RX h=>?_) (λf cdv A outer s H E J hr hx=>⟨_,((ai (aW (fz (aP (CalMth.one uJ) hx hr (ae (aa 0)) (ar (ac aA af))) (ae aA)) (am (az (ae ad))) aQ)
      (ai (aC 1 sc_number_from.nd (gC (aP (CalMth.one uJ) hx hr (ae (aa 0)) (ar (ac aA af))) (aP (CalMth.one uC) hx hr (ae (aa 0)) (ar (ac aA af)))))
      (ai (eH (bj (cy (yL (aa 1) (ac aA af)))) (am (aC 1 sc_number_from.nd (gC (ae (aa 1)) (aP (CalMth.one uJ) hx hr (ae (aa 0)) (ar (ac aA af)))))) aQ)
      (am (az (ae (jK uK (ac (aa 1) af))))))))),λds M R RX d3 h=>?_⟩)
  . obtain⟨_,_,_,_,_,_,rfl,_⟩:=h;rfl
  . obtain⟨a,t,k,x,e,l,rfl,rfl,e_,he,c8,hR⟩:=h;have hi:=AV e_;have hl:=ca e_;rw[<-bt]at hl;change (numL x).length<=3 at hl;refine#[_,E6.mpr rfl,_,aV,cW,a,t,k,_,"0",rfl,rfl,c8,?_];rcases numS e_ with e0|⟨pre,c,y,hp,hc,ev,hy⟩
    . rw[e0]at hR hi ⊢;have e1:x=0:=Option.some.inj (hi.symm.trans Je);subst e1;have e2:(48:Nat)∈cs "0":=by decide
      rw[show([48]++e::l:List Nat)=48::e::l from rfl,eK e2,eL e2];exact hR
    rw[ev]at c8 hR hi hl ⊢;have h0:mayS "0" (pre++c::y++e::l)=""/\mayN "0" (pre++c::y++e::l)=0:=by
      have n:c∉cs "0":=λq=>by have:=E6.mp q;lia
      rcases hp with rfl|rfl
      . exact#[dF n,dG n]
      . exact#[dF Ji,dG Ji]
    have hm:mayS "-" (pre++c::y++e::l)=#[pre.toArray]/\mayN "-" (pre++c::y++e::l)=pre.length:=by
      have n:c∉cs "-":=λq=>by have:=E6.mp q;lia
      rcases hp with rfl|rfl
      . exact#[dF n,dG n]
      . exact#[rfl,rfl]
    rw[h0.1,h0.2];have c9:At t (k+pre.length) (c::(y++e::l)):=by rw[FX]at c8;exact c8.app
    have g_:=c9.next;refine#[λd M'=>d=.str #[(pre++[c]).toArray]/\M'=RdM a t (k+pre.length+1),?_,?_]
    . refine#[_,E6.mpr rfl,_,aV,cW,a,t,k,_,"-",rfl,rfl,c8,?_];rw[hm.1,hm.2];refine#[_,E6.mpr rfl,_,aV,cf,a,t,k+pre.length,c,_,"123456789",rfl,rfl,c9,digits19.mpr hc,?_,?_,rfl]
      . rcases hp with rfl|rfl<;>simp[Str.length]
      . rw[show(#[[c].toArray]:E_)=#[[c].toArray]from rfl,fH]
    . rintro _ _⟨rfl,rfl⟩;k_places;refine#[λz M'=>z=[be (.ptr a),be (.str #[(pre++c::y).toArray])]/\M'=RdM a t (k+(pre++c::y).length),?_,?_]
      . show if Txt.endswith #[(pre++[c]).toArray] "1"=true then _ else _
        rw[AW];refine ite2 (λz=>?_) (λz=>?_)
        . obtain⟨e1,e2,e3⟩:(⟨(pre++[c]).toArray⟩:E_)++mayS "012" (y++e::l)=⟨(pre++c::y).toArray⟩/\mayN "012" (y++e::l)=y.length/\(mayS "012" (y++e::l)).length<=1:=by
            rcases hy with rfl|⟨_,d,hd,rfl⟩
            . have n:e∉cs "012":=λq=>by have:=digits02.mp q;unfold endS at he;lia
              rw[List.nil_append,dF n,dG n];refine#[?_,rfl,Ji];rw[show("":E_)=#[([]:List Nat).toArray]from rfl,fH];simp
            . rw[show([d]++e::l:List Nat)=d::e::l from rfl,eK (digits02.mpr hd),eL (digits02.mpr hd)];refine#[?_,rfl,E7 1];rw[show(#[[d].toArray]:E_)=#[[d].toArray]from rfl,fH];simp
          refine#[λv M'=>v=.str #[(pre++c::y).toArray]/\M'=RdM a t (k+(pre++c::y).length),#[_,E6.mpr rfl,_,aV,cW,a,t,_,_,"012",rfl,rfl,g_,?_],?_]
          . refine#[?_,congrArg D.str e1,?_]
            . rcases hp with rfl|rfl<;>simp[Str.length]at e3 ⊢<;>lia
            . rw[e2];congr 1;simp;lia
          . rintro _ _⟨rfl,rfl⟩;k_places;exact#[rfl,trivial]
        . have LG:y=[]:=hy.resolve_right λq=>z (decide_eq_true q.1);subst LG;exact#[rfl,by rw[Fp];rfl]
      . rintro _ _⟨rfl,rfl⟩;k_places;exact#[x,#[hi,by show(pre++c::y).length<=640;lia],hR]
abbrev fQ(V:Bx):Prop:=V.MM 4 "shift_from" lP AY
def DF(T:V.T "shift_from" lN lP)(Ls:oB V)(uC:cF V):fQ V:=by
 refine Tx.okM T sc_shift_from (λds M R RX h=>?_) (λf cdv A outer s H E J hr hx=>⟨_,((ai (aC 1 sc_shift_from.nd (aF Ls hx hr (ar (ac (aa 0) af))))
   (ai (bE (aP (CalMth.one uC) hx hr (ae (aa 0)) (ar (ac aA af))))
   (am (az (rR (av (ae (aa 1)) (av (aF Ls hx hr (ar (ac (aa 0) af))) aT)))))))),λds M R RX d3 h=>?_⟩)
 .obtain⟨_,_,_,_,_,_,_,rfl,_⟩:=h;rfl
 .obtain⟨a,t,k,x,y,e,l,rfl,rfl,e_,hy,he,c8,hR⟩:=h;refine#[λd M'=>d=.int x/\M'=RdM a t (k+(numL x).length),#[a,t,k,x,44,_,rfl,rfl,e_,.inl rfl,c8,rfl,rfl],?_];rintro _ _⟨rfl,rfl⟩;k_places;have c9:=c8.app;exact#[_,E6.mpr rfl,_,aV,cf,a,t,_,44,_,",",rfl,rfl,c9,Ji,a,t,_,y,e,l,rfl,rfl,hy,he,c9.next,J4,hR]
abbrev iO(V:Bx):Prop:=V.D 1 "levelled" lR Aj
def DG(T:V.T "levelled" lQ lR):iO V:=by
 refine Tx.okDW T sc_levelled (λds R h=>?_) (λf cdv A outer s H E J hr=>⟨_,((ao (xI PassesOwn.never (cm (ah (aa 1) ad) ad) (ao (aB 2 sc_levelled.nd (xn (ah (aa 0) ad) (ah (aa 1) ad)))
    (ao (aB 3 sc_levelled.nd (aN (ac (bv (ah (aa 0) ad) (aM (aa 2) (ah (aa 1) ad))) (ac (bv (ah (aa 0) ad) (aM (aa 2) (ah (aa 1) ad))) af))))
    (ao (aB 0 sc_levelled.nd (aa 1))
    (au (aB 1 sc_levelled.nd (aa 3)))))))
   (ao (qU (fq (ah (aa 0) ad) ad) (au (aB 0 sc_levelled.nd (aN (ac (cH (ah (aa 0) ad)) (ac (cH (ah (aa 0) ad)) af))))) bx)
   (au (aH (aN (ac (aa 0) (ac (aa 1) af)))))))),λds R h=>?_⟩)
 .obtain⟨a,b,c,d,rfl,_⟩:=h;rfl
 .obtain⟨a,b,c,d,rfl,hb,hd,hR⟩:=h;refine#[λm z=>∃(f0 f1 s0 s1:Int) (t r:Option D),z=[be (.tup [.int f0,.int f1]),be (.tup [.int s0,.int s1]),t,r]/\Uni a b c d f0 f1 s0 s1/\f1.natAbs<4611686018427387904/\s1.natAbs<4611686018427387904/\m=s1.natAbs,#[_,a,b,c,d,z8,z8,rfl,Uni.refl a b c d,hb,hd,rfl],?_];rintro m z⟨f0,f1,s0,s1,t,r,rfl,hu,hf,hs,rfl⟩;k_places;refine#[_,rfl,ite2 (λcc=>?_) (λcc=>?_)]
  .have c':¬s1=0:=by simpa using cc
   obtain⟨g1,g2⟩:=fdm f1 s1 c';refine#[λd=>d=.int (f1.fdiv s1),#[_,rfl,_,rfl,#[c',hs],rfl],?_];rintro _ rfl;k_places;refine#[λd=>d=.tup [.int (f0-f1.fdiv s1*s0),.int (f1-f1.fdiv s1*s1)],#[_,rfl,_,rfl,.inl #[Jb,Jb],_,rfl,_,rfl,.inl #[Jb,Jb],J4,rfl],?_];rintro _ rfl;k_places;refine#[λd=>d=.tup [.int s0,.int s1],rfl,?_];rintro _ rfl;k_places;refine#[λd=>d=.tup [.int (f0-f1.fdiv s1*s0),.int (f1-f1.fdiv s1*s1)],rfl,?_];rintro _ rfl;k_places;exact#[_,g1,s0,s1,_,_,_,_,rfl,hu.step _,hs,Jb,rfl]
  .have c':s1=0:=by simpa using cc
   subst c';refine#[λz=>∃p0 p1:Int,z=[be (.tup [.int p0,.int p1]),be (.tup [.int s0,.int 0]),t,r]/\Lev a b c d p0 p1 s0,#[_,rfl,ite2 (λe=>?_) (λe=>?_)],?_]
   .have e':=of_decide_eq_true e;refine#[λd=>d=.tup [.int (-f0),.int (-f1)],#[_,rfl,_,rfl,J4,rfl],?_];rintro _ rfl;k_places;exact#[_,_,rfl,Jb,hu.neg]
   .have e':=of_decide_eq_false (Gp.mpr e);exact#[_,_,rfl,Jb,hu]
   .rintro _⟨p0,p1,rfl,hL⟩;k_places;exact#[J4,hR p0 p1 s0 hL]
abbrev iP(V:Bx):Prop:=V.D 2 "spread" lV Ak
def DJ(T:V.T "spread" lU lV)(Jy:V.m "abs")(JT:iO V):iP V:=by
 refine Tx.okDW T sc_spread (λds R h=>?_) (λf cdv A outer s H E J hr=>⟨_,((ao (bM (bA (aM (ah (aa 0) ad) (ah (aa 1) ad)) (aM (ah (aa 0) ad) (ah (aa 1) ad))) (au (aH bU)) bx)
   (ao (aB 2 sc_spread.nd (aI JT hr (ac (aa 0) (ac (aa 1) af))))
   (ao (aB 3 sc_spread.nd (jE Jy (ac (ah (ah (aa 2) ad) ad) af)))
   (au (aH (aN (ac (aa 3) (ac (ah (ah (aa 2) ad) ad) (ac (aJ (ah (ah (aa 2) ad) ad) (aa 3)) af)))))))))),λds R h=>?_⟩)
 .obtain⟨a,b,c,d,rfl,_⟩:=h;rfl
 .obtain⟨a,b,c,d,rfl,ha,hb,hc,hd,hN,hR⟩:=h;refine#[_,rfl,_,rfl,.inl #[Jb,Jb],_,rfl,_,rfl,.inl #[Jb,Jb],ite2 (λe=>?_) (λe=>?_)]
  .exact hN (of_decide_eq_true e)
  .have e':=of_decide_eq_false (Gp.mpr e);refine#[λx=>∃p0 p1 q0:Int,x=.tup [.tup [.int p0,.int p1],.tup [.int q0,.int 0]]/\Lev a b c d p0 p1 q0,#[a,b,c,d,rfl,hb,hd,λp0 p1 q0 hL=>#[p0,p1,q0,rfl,hL]],?_];rintro _⟨p0,p1,q0,rfl,hL⟩;k_places;have hF:=gJ e' hL;refine#[λx=>x=.int (if q0<0 then -q0 else q0),#[_,rfl,_,rfl,rfl],?_];rintro _ rfl;k_places;exact#[_,rfl,_,rfl,_,rfl,_,rfl,hF.1,J4,hR e' _ _ _ hF]
abbrev oC(V:Bx):Prop:=V.MM 2 "hues_by_home" lY A7
def DK(T:V.T "hues_by_home" lW lY)(JB:V.m "enumerate")(x_:eY V)(uR:V.gs "SIGNS" ".123456"):oC V:=by
 refine Tx.okM T sc_hues_by_home (λds M R RX h=>?_) (λf cdv A outer s H E J hr hx=>⟨_,((ai (aC 2 sc_hues_by_home.nd zH)
   (ai (zy PassesOwn.leaving rfl JB (ae (aa 0)) (dg_cons 3 sc_hues_by_home.nd (dg_cons 4 sc_hues_by_home.nd cP)) (am (zz PassesOwn.leaving rfl JB (ae (aa 4)) (dg_cons 5 sc_hues_by_home.nd (dg_cons 6 sc_hues_by_home.nd cP)) (am (eH (bj (cm (aa 6) aA)) (am (bE (zK (fk hr) (ae (aa 2)) (ar (ac (aI x_ hr (ac (aa 1) (ac (aa 5) (ac (aa 3) af)))) (ac (rN (eD uR) (ac (aa 6) af)) af)))))) aQ)))))
   (rZ 2 (am (az (ae (aa 2)))))))),λds M R RX d3 h=>?_⟩)
 .obtain⟨_,_,_,_,_,rfl,_⟩:=h;rfl
 .obtain⟨L,wd,w,h,s,rfl,hL,hw,hh,IP,hs,k_,hR⟩:=h;have P1:=hL.w8;refine#[λd M'=>∃p,p∉aq M/\d=.ptr p/\M'=(p,.dti [])::M,λp hp=>#[p,hp,rfl,rfl],?_];rintro _ _⟨p,hp,rfl,rfl⟩;k_places;refine#[λj z M'=>∃(kv:List ((Int×Int)×Int)) (x3 x4 x5 x6:Option D),hAll w h s j (L.drop j) kv=hAll w h s 0 L []/\kv.length<=8*j/\z=[be (.lst (lstD L)),be (.tup [.int w,.int h,.int s]),be (.ptr p),x3,x4,x5,x6]/\M'=(p,.dti kv)::M,#[[],z8,z8,z8,z8,rfl,J4,rfl,rfl],?_,?_]
  .rintro j d z M' hd⟨kv,x3,x4,x5,x6,e1,P',rfl,rfl⟩;k_places;obtain⟨x,e_,rfl⟩:=A5 hd;have hj:j<L.length:=(Fk.mp e_).1;have QO:=hL.many;obtain⟨xl,xs⟩:=hL.each x (GJ e_);rw[sX e_]at e1;refine#[A3 xs,λi z M'=>∃(IF:List ((Int×Int)×Int)) (x5 x6:Option D),hRow w h s j i (x.drop i) IF=hRow w h s j 0 x kv/\IF.length<=8*j+i/\i<=x.length/\z=[be (.lst (lstD L)),be (.tup [.int w,.int h,.int s]),be (.ptr p),be (.int j),be (.str #[x.toArray]),x5,x6]/\M'=(p,.dti IF)::M,#[kv,x5,x6,rfl,Jb,Fz _,rfl,rfl],?_,?_]
   .rintro i d z M' JE⟨IF,y5,y6,e2,M8,hi,rfl,rfl⟩;k_places;obtain⟨c,hc,rfl⟩:=A6 JE;have A':i<x.length:=(Fk.mp hc).1;have sc:=xs c (GJ hc);rw[sX hc,hRow]at e2;refine#[λz M'=>∃KH:List ((Int×Int)×Int),hRow w h s j (i+1) (x.drop (i+1)) KH=hRow w h s j 0 x kv/\KH.length<=8*j+(i+1)/\z=[be (.lst (lstD L)),be (.tup [.int w,.int h,.int s]),be (.ptr p),be (.int j),be (.str #[x.toArray]),be (.int i),be (.str #[[c].toArray])]/\M'=(p,.dti KH)::M,?_,?_]
    .show if(!decide ((#[[c].toArray]:E_)="."))=true then _ else _;by_cases t8:c=46
     .subst t8;rw[if_pos rfl]at e2;exact#[IF,e2,Jb,rfl,rfl]
     .rw[if_neg t8]at e2;refine ifT (by simp[one_sign,t8]) ?_;have c6:49<=c/\c<=54:=by unfold aZ at sc;lia
      obtain⟨ix,rest,ho,LV⟩:=A2 c6;refine#[#[_,bH],w,h,s,i,j,rfl,hw,hh,IP,hs,k_,ix,rest,ho,_,bH,by have:=sW IF (hmX w h s i j) ((j:Int)%h) ((c:Int)-48);lia,λv=>?_];rw[kz,LV];exact#[_,e2,by have:=sW IF (hmX w h s i j) ((j:Int)%h) ((c:Int)-48);lia,rfl,rfl]
    .rintro z M'⟨KH,e3,h3,rfl,rfl⟩;k_places;exact#[KH,_,_,e3,h3,A',rfl,rfl]
   .rintro z M' hz;rw[eE,eN]at hz;obtain⟨IF,y5,y6,e2,M8,hi,rfl,rfl⟩:=hz;rw[Io]at e2;refine#[IF,_,_,_,_,?_,Jb,rfl,rfl];rw[<-e1,hAll,<-e2];rfl
  .rintro z M' hz;rw[show(lstD L).length=L.length by simp[lstD]]at hz;obtain⟨kv,x3,x4,x5,x6,e1,P',rfl,rfl⟩:=hz;rw[Io]at e1;refine#[_,bH,?_];rw[kA];have e2:kv=hAll w h s 0 L []:=e1;rw[<-e2]at hR;exact hR
abbrev oE(V:Bx):Prop:=V.M 3 "Motif" me A8
def DL(T:V.Ti "Motif" "Motif.__init__" lZ me)(JU:iP V)(M9:oC V)(M_:V.a "Motif" "place")(uM:V.a "Motif" "shifts")(IS:V.a "Motif" "hues"):oE V:=by
 refine Txi.okIM T Cr (λds R h=>?_) (λf cdv A outer s H E J hr hx=>⟨_,((ai (bF M_ (ae (aa 0)) (ae (aa 1)))
   (ai (bF uM (ae (aa 0)) (ae (aI JU hr (ac (aa 3) (ac (aa 4) af)))))
   (am (bF IS (ae (aa 0)) (fA (jV (ax uM (ae (aa 0))) (ae bU)) zG (aF M9 hx hr (av (ae (aa 2)) (av (ax uM (ae (aa 0))) aT))))))))),λa ds R JF h=>?_⟩)
 .obtain⟨_,_,_,_,_,_,_,rfl,_⟩:=h;rfl
 .obtain⟨k,L,wd,x,y,u,v,rfl,hL,e_,hy,hu,hv,hn,h1⟩:=h;unfold B12 at e_ hy hu hv;refine#[_,dE,by show(0:Nat)<1000;decide,?_];rw[gM,A9];refine#[x,y,u,v,rfl,Jb,Jb,Jb,Jb,λe=>absurd e hn,λe w h s F=>?_];refine#[_,dE,Ob,?_];rw[gM,Ba];refine#[_,dE,_,sY,?_];obtain⟨b1,b2,b3⟩:=F.bd (N:=288) (by
   have m1:=bZ (a:=x) (d:=v) (A:=12) (B:=12) Jb Jb;have m2:=bZ (a:=y) (d:=u) (A:=12) (B:=12) Jb Jb;lia)
  refine#[_,dE,_,sY,L,wd,w,h,s,rfl,hL,F.1,F.2.1,Jb,F.2.2.1,Jb,?_];refine#[_,dE,by show(2:Nat)<1000;decide,?_];rw[gM,Bb];exact#[_,rfl,h1 w h s F]
abbrev iQ(V:Bx):Prop:=V.MM 5 "motif_from" mh Bi
def DM(T:V.T "motif_from" mf mh)(Na:oA V)(IG:fQ V)(uN:V.a "Reading" "place")(Nb:oE V)(uC:cF V):iQ V:=by
 refine Tx.okM T sc_motif_from (λds M R RX h=>?_) (λf cdv A outer s H E J hr hx=>⟨_,((ai (aC 1 sc_motif_from.nd (ax uN (ae (aa 0))))
   (ai (bE (aP (CalMth.one uC) hx hr (ae (aa 0)) (ar (ac aA af))))
   (ai (aC 2 sc_motif_from.nd (aF Na hx hr (ar (ac (aa 0) af))))
   (ai (bE (aP (CalMth.one uC) hx hr (ae (aa 0)) (ar (ac aA af))))
   (ai (aC 3 sc_motif_from.nd (aF IG hx hr (ar (ac (aa 0) af))))
   (ai (bE (aP (CalMth.one uC) hx hr (ae (aa 0)) (ar (ac aA af))))
   (ai (aC 4 sc_motif_from.nd (aF IG hx hr (ar (ac (aa 0) af))))
   (ai (bE (aP (CalMth.one uC) hx hr (ae (aa 0)) (ar (ac aA af))))
   (am (az (ae (jO Nb hr (ac (aa 1) (ac (aa 2) (ac (aa 3) (ac (aa 4) af))))))))))))))))),λds M R RX d3 h=>?_⟩)
 .obtain⟨_,_,_,_,_,_,_,_,_,rfl,_⟩:=h;rfl
 .obtain⟨g,t,k,L,a,b,c,d,l,rfl,rfl,c8,⟨KI,ha,hb,hc,hd,hn⟩,hR⟩:=h;obtain⟨w,hL⟩:=Bh KI;have c8:At t k (91::(rowsL (L.map cs)++59::(numL a++44::(numL b++59::(numL c++44::(numL d++93::l)))))):=by simpa[motL]using c8
  have b8:k+(motL (L.map cs) a b c d).length=k+1+(rowsL (L.map cs)).length+1+(numL a).length+1+(numL b).length+1+(numL c).length+1+(numL d).length+1:=by simp[motL];lia
  rw[b8]at hR;have c9:=c8.next;have g_:=c9.app;have n8:=g_.next;have KJ:At t (k+1+(rowsL (L.map cs)).length+1+(numL a).length+1+(numL b).length) _:=n8.app.next.app;have KL:=KJ.next;have Nd:At t (k+1+(rowsL (L.map cs)).length+1+(numL a).length+1+(numL b).length+1+(numL c).length+1+(numL d).length) _:=KL.app.next.app;refine#[λv M'=>v=.int k/\M'=RdM g t k,#[_,aV,_,eJ,rfl,rfl],?_];rintro _ _⟨rfl,rfl⟩;k_places;refine#[_,E6.mpr rfl,_,aV,cf,g,t,_,91,_,"[",rfl,rfl,c8,Ji,?_];refine#[λv M'=>v=.lst (lstD (L.map cs))/\M'=RdM g t (k+1+(rowsL (L.map cs)).length),#[g,t,_,_,w,_,rfl,rfl,hL,c9,rfl,rfl],?_];rintro _ _⟨rfl,rfl⟩;k_places;refine#[_,E6.mpr rfl,_,aV,cf,g,t,_,59,_,";",rfl,rfl,g_,Ji,?_];refine#[λv M'=>v=.tup [.int a,.int b]/\M'=RdM g t (k+1+(rowsL (L.map cs)).length+1+(numL a).length+1+(numL b).length),#[g,t,_,a,b,59,_,rfl,rfl,ha,hb,.inr (.inl rfl),n8,rfl,rfl],?_];rintro _ _⟨rfl,rfl⟩;k_places;refine#[_,E6.mpr rfl,_,aV,cf,g,t,_,59,_,";",rfl,rfl,KJ,Ji,?_];refine#[λv M'=>v=.tup [.int c,.int d]/\M'=RdM g t (k+1+(rowsL (L.map cs)).length+1+(numL a).length+1+(numL b).length+1+(numL c).length+1+(numL d).length),#[g,t,_,c,d,93,_,rfl,rfl,hc,hd,.inr (.inr (.inr rfl)),KL,rfl,rfl],?_];rintro _ _⟨rfl,rfl⟩;k_places;exact#[_,E6.mpr rfl,_,aV,cf,g,t,_,93,_,"]",rfl,rfl,Nd,Ji,k,_,w,a,b,c,d,rfl,hL,ha,hb,hc,hd,hn,λw h s F=>hR _ #[k,w,h,s,rfl,F]]
abbrev iR(V:Bx):Prop:=V.M 1 "Mirror" mj Be
def DN(T:V.Ti "Mirror" "Mirror.__init__" mi mj)(uS:V.a "Mirror" "form"):iR V:=by
 refine Txi.okI T Cs (λds R h=>?_) (λf cdv A outer s H E J hr=>#[_,((bB uS (aa 1) dq)),λds R h=>?_])
 .obtain⟨_,_,rfl,_⟩:=h;rfl
 .obtain⟨x,fs,rfl,hR⟩:=h;exact#[Ji,hR]
abbrev iS(V:Bx):Prop:=V.M 1 "Turn" mn Bf
def DO(T:V.Ti "Turn" "Turn.__init__" ml mn)(uX:V.a "Turn" "form"):iS V:=by
 refine Txi.okI T Ct (λds R h=>?_) (λf cdv A outer s H E J hr=>#[_,((bB uX (aa 1) dq)),λds R h=>?_])
 .obtain⟨_,_,rfl,_⟩:=h;rfl
 .obtain⟨x,fs,rfl,hR⟩:=h;exact#[Ji,hR]
abbrev iT(V:Bx):Prop:=V.M 1 "Over" ms Bc
def DP(T:V.Ti "Over" "Over.__init__" mo ms)(uT:V.a "Over" "above")(uY:V.a "Over" "below"):iT V:=by
 refine Txi.okI T Cu (λds R h=>?_) (λf cdv A outer s H E J hr=>#[_,((bB uT (aa 1) (bB uY (aa 2) dq))),λds R h=>?_])
 .obtain⟨_,_,_,_,rfl,_⟩:=h;rfl
 .obtain⟨x,y,fs,gs,rfl,hR⟩:=h;refine#[Ji,Ob,?_];show R (putD _ _ (putD _ _ []));rw[putD,putD,if_neg Je];exact hR
abbrev iU(V:Bx):Prop:=V.M 1 "Shifted" mw Bd
def DQ(T:V.Ti "Shifted" "Shifted.__init__" mv mw)(uU:V.a "Shifted" "form")(IU:V.a "Shifted" "x")(IT:V.a "Shifted" "y"):iU V:=by
 refine Txi.okI T Cw (λds R h=>?_) (λf cdv A outer s H E J hr=>#[_,((bB uU (aa 1) (bB IU (aa 2) (bB IT (aa 3) dq)))),λds R h=>?_])
 .obtain⟨_,_,_,_,rfl,_⟩:=h;rfl
 .obtain⟨x,fs,a,b,rfl,hR⟩:=h;refine#[Ji,Ob,by show(2:Nat)<1000;decide,?_];show R (putD _ _ (putD _ _ (putD _ _ [])));rw[show putD ("x":E_) (.int a) (putD ("form":E_) (.obj x fs) [])=([("form",.obj x fs),("x",.int a)]:List (E_×D))by rw[putD,putD,if_neg Je];rfl,putD,if_neg Je,putD,if_neg Je];exact hR
abbrev iV(V:Bx):Prop:=V.M 1 "Rehue" my Bg
def DR(T:V.Ti "Rehue" "Rehue.__init__" mx my)(uW:V.a "Rehue" "form")(IV:V.a "Rehue" "old")(IW:V.a "Rehue" "new"):iV V:=by
 refine Txi.okI T Cy (λds R h=>?_) (λf cdv A outer s H E J hr=>#[_,((bB uW (aa 1) (bB IV (aa 2) (bB IW (aa 3) dq)))),λds R h=>?_])
 .obtain⟨_,_,_,_,rfl,_⟩:=h;rfl
 .obtain⟨x,fs,a,b,rfl,hR⟩:=h;refine#[Ji,Ob,by show(2:Nat)<1000;decide,?_];show R (putD _ _ (putD _ _ (putD _ _ [])));rw[show putD ("old":E_) (.int a) (putD ("form":E_) (.obj x fs) [])=([("form",.obj x fs),("old",.int a)]:List (E_×D))by rw[putD,putD,if_neg Je];rfl,putD,if_neg Je,putD,if_neg Je];exact hR
def DU(hL:5<=n)(T:V.T "over_from" ig fM)(uH:V.MM n "form_from" cD (cX j))(KN:iT V)(uC:cF V):V.MM (n+1) "over_from" fM (tf j):=by
 refine Tx.okM T sc_over_from (λds M R RX h=>?_) (λf cdv A outer s H E J hr hx=>⟨_,((ai (aC 2 sc_over_from.nd (aF (hn:=Jj) uH hx hr (ar (ac (aa 0) (ac (aa 1) af)))))
   (ai (bE (aP (hn:=Jj) (CalMth.one uC) hx hr (ae (aa 0)) (ar (ac aA af))))
   (ai (aC 3 sc_over_from.nd (aF (hn:=Jj) uH hx hr (ar (ac (aa 0) (ac (aa 1) af)))))
   (ai (bE (aP (hn:=Jj) (CalMth.one uC) hx hr (ae (aa 0)) (ar (ac aA af))))
   (am (az (ae (jO (hn:=Jj) KN hr (ac (aa 2) (ac (aa 3) af))))))))))),λds M R RX d3 h=>?_⟩)
 .obtain⟨_,_,_,_,_,_,_,rfl,_⟩:=h;rfl
 .obtain⟨a,t,k,p,q,l,d,rfl,rfl,c8,JC,JD,hp,hq,u6,P_,hR⟩:=h;have c9:=c8.app;have g_:=c9.next;have n8:=g_.app;refine#[λv M'=>FormOf p v/\M'=RdM a t (k+p.tl.length),#[a,t,k,p,_,d,rfl,rfl,c8,JC,JD,hp,u6,λv h=>#[h,rfl]],?_];rintro v _⟨hv,rfl⟩;k_places;obtain⟨fs,rfl,_⟩:=hv.objm;refine#[_,E6.mpr rfl,_,aV,cf,a,t,_,124,_,"|",rfl,rfl,c9,Ji,?_];refine#[λv M'=>FormOf q v/\M'=RdM a t (k+p.tl.length+1+q.tl.length),#[a,t,_,q,_,d,rfl,rfl,g_,JC,JD,hq,P_,λv h=>#[h,rfl]],?_];rintro v _⟨OB,rfl⟩;k_places;obtain⟨gs,rfl,_⟩:=OB.objm;exact#[_,E6.mpr rfl,_,aV,cf,a,t,_,41,_,")",rfl,rfl,n8,Ji,_,_,_,_,rfl,hR _ _ hv OB]
def DV(hL:5<=n)(T:V.T "shifted_from" ii fN)(IG:fQ V)(uH:V.MM n "form_from" cD (cX j))(KO:iU V)(uC:cF V):V.MM (n+1) "shifted_from" fN (tm j):=by
 refine Tx.okM T sc_shifted_from (λds M R RX h=>?_) (λf cdv A outer s H E J hr hx=>⟨_,((ai (aC 2 sc_shifted_from.nd (aF (hn:=Jj) IG hx hr (ar (ac (aa 0) af))))
   (ai (bE (aP (hn:=Jj) (CalMth.one uC) hx hr (ae (aa 0)) (ar (ac aA af))))
   (am (az (gG (hn:=Jj) KO hr (av (aF (hn:=Jj) uH hx hr (ar (ac (aa 0) (ac (aa 1) af)))) (av (ae (ah (aa 2) ad)) (av (ae (ah (aa 2) ad)) aT))))))))),λds M R RX d3 h=>?_⟩)
 .obtain⟨_,_,_,_,_,_,_,_,rfl,_⟩:=h;rfl
 .obtain⟨a,t,k,x,y,p,l,d,rfl,rfl,c8,JC,JD,e_,hy,hp,u6,hR⟩:=h;have c9:At t (k+(numL x).length+1+(numL y).length) _:=c8.app.next.app;refine#[λv M'=>v=.tup [.int x,.int y]/\M'=RdM a t (k+(numL x).length+1+(numL y).length),#[a,t,_,x,y,58,_,rfl,rfl,e_,hy,.inr (.inr (.inl rfl)),c8,rfl,rfl],?_];rintro _ _⟨rfl,rfl⟩;k_places;refine#[_,E6.mpr rfl,_,aV,cf,a,t,_,58,_,":",rfl,rfl,c9,Ji,?_];refine#[a,t,_,p,l,d,rfl,rfl,c9.next,JC,JD,hp,u6,λv h=>?_];obtain⟨fs,rfl,_⟩:=h.objm;exact#[_,rfl,_,rfl,_,_,_,_,rfl,hR _ h]
def DY(hL:5<=n)(T:V.T "rehue_from" ij fO)(uK:V.m "int")(uH:V.MM n "form_from" cD (cX j))(KP:iV V)(uC:cF V):V.MM (n+1) "rehue_from" fO (tw j):=by
 refine Tx.okM T sc_rehue_from (λds M R RX h=>?_) (λf cdv A outer s H E J hr hx=>⟨_,((ai (aC 2 sc_rehue_from.nd (rT uK (av (aP (hn:=Jj) (CalMth.one uC) hx hr (ae (aa 0)) (ar (ac aA af))) aT)))
   (ai (aC 3 sc_rehue_from.nd (rT uK (av (aP (hn:=Jj) (CalMth.one uC) hx hr (ae (aa 0)) (ar (ac aA af))) aT)))
   (am (az (gG (hn:=Jj) KP hr (av (aF (hn:=Jj) uH hx hr (ar (ac (aa 0) (ac (aa 1) af)))) (av (ae (aa 2)) (av (ae (aa 3)) aT))))))))),λds M R RX d3 h=>?_⟩)
 .obtain⟨_,_,_,_,_,_,_,_,rfl,_⟩:=h;rfl
 .obtain⟨a,t,k,f,g,p,l,d,rfl,rfl,c8,JC,JD,hf,hg,hp,u6,hR⟩:=h;have OC:∀{f:Int},1<=f/\f<=6->PySem.intText? (#[[(48+f).toNat].toArray]:E_)=be f:=λ{f} h=>by
   have:=digit_of (c:=(48+f).toNat) Jb;rw[show(((48+f).toNat:Nat):Int)-48=f by lia]at this;exact this
  refine#[λv M'=>v=.int f/\M'=RdM a t (k+1),#[_,E6.mpr rfl,_,aV,cf,a,t,_,_,_,"123456",rfl,rfl,c8,sZ hf,_,#[OC hf,by show(1:Nat)<=640;decide],rfl,rfl],?_];rintro _ _⟨rfl,rfl⟩;k_places;refine#[λv M'=>v=.int g/\M'=RdM a t (k+2),#[_,E6.mpr rfl,_,aV,cf,a,t,_,_,_,"123456",rfl,rfl,c8.next,sZ hg,_,#[OC hg,by show(1:Nat)<=640;decide],rfl,rfl],?_];rintro _ _⟨rfl,rfl⟩;k_places;refine#[a,t,_,p,l,d,rfl,rfl,c8.next.next,JC,JD,hp,u6,λv h=>?_];obtain⟨fs,rfl,_⟩:=h.objm;exact#[_,_,_,_,rfl,hR _ h]
def DZ(hL:5<=n)(T:V.T "form_from" ik cD)(Qa:V.MM n "over_from" fM (tf j))(Qb:V.MM n "shifted_from" fN (tm j))(uH:V.MM n "form_from" cD (cX j))(Qc:V.MM n "rehue_from" fO (tw j))(KQ:iQ V)(KR:V.gi "DEEP" 5)(KS:iR V)(KU:iS V)(uJ:db V):V.MM (n+1) "form_from" cD (cX (j+1)):=by
 refine Tx.okM T sc_form_from (λds M R RX h=>?_) (λf cdv A outer s H E J hr hx=>⟨_,((ai (aC 2 sc_form_from.nd (fA (bj (fq (aa 1) (cQ KR))) (aP (hn:=Jj) (CalMth.one uJ) hx hr (ae (aa 0)) (ar (ac aA af))) (ae aA)))
   (ai (aW (bj (bA (aa 2) aA)) (am (az (aF (hn:=Jj) Qa hx hr (ar (ac (aa 0) (ac (aD (aa 1) ad) af)))))) aQ)
   (ai (aW (bj (bA (aa 2) aA)) (am (az (aF (hn:=Jj) Qb hx hr (ar (ac (aa 0) (ac (aD (aa 1) ad) af)))))) aQ)
   (ai (aW (bj (bA (aa 2) aA)) (am (az (gG (hn:=Jj) KS hr (av (aF (hn:=Jj) uH hx hr (ar (ac (aa 0) (ac (aD (aa 1) ad) af)))) aT)))) aQ)
   (ai (aW (bj (bA (aa 2) aA)) (am (az (gG (hn:=Jj) KU hr (av (aF (hn:=Jj) uH hx hr (ar (ac (aa 0) (ac (aD (aa 1) ad) af)))) aT)))) aQ)
   (ai (aW (bj (bA (aa 2) aA)) (am (az (aF (hn:=Jj) Qc hx hr (ar (ac (aa 0) (ac (aD (aa 1) ad) af)))))) aQ)
   (am (az (aF (hn:=Jj) KQ hx hr (ar (ac (aa 0) af)))))))))))),λds M R RX d3 h=>?_⟩)
 .obtain⟨_,_,_,_,_,_,rfl,_⟩:=h;rfl
 .obtain⟨a,t,k,p,l,d,rfl,rfl,c8,JC,JD,hp,u6,hR⟩:=h;refine#[λv M'=>v=.str (mayS "(smth" (p.tl++l))/\M'=RdM a t (k+mayN "(smth" (p.tl++l)),?_,?_]
  .show if decide ((d:Int)<5)=true then _ else _
   refine ite2 (λc=>?_) (λc=>?_)
   .exact#[_,E6.mpr rfl,_,aV,cW,a,t,_,_,"(smth",rfl,rfl,c8,rfl,rfl]
   .have c':¬((d:Int)<5):=λz=>c (decide_eq_true z);cases p with
    |mot L a b c d=>exact#[rfl,rfl]
    |_=>rw[Pat.depth]at u6;lia
  rintro _ _⟨rfl,rfl⟩;k_places;cases p with
  |mot L x y u v=>exact#[a,t,k,L,x,y,u,v,l,rfl,rfl,c8,hp,hR]
  |over p q=>
   rw[Pat.depth]at u6;have e:k+(Pat.over p q).tl.length=k+1+p.tl.length+1+q.tl.length+1:=by rw[Pat.tl];simp;lia
   have c9:At t (k+1) (p.tl++124::(q.tl++41::l)):=by have:=c8.next;simpa using this
   rw[e]at hR;exact#[a,t,k+1,p,q,l,d+1,rfl,rfl,c9,Jb,Jb,hp.1,hp.2,Jb,Jb,λu u' h1 h2=>hR _ #[u,u',rfl,h1,h2]]
  |sh x y p=>
   rw[Pat.depth]at u6;have e:k+(Pat.sh x y p).tl.length=k+1+(numL x).length+1+(numL y).length+1+p.tl.length:=by rw[Pat.tl];simp;lia
   have c9:At t (k+1) (numL x++44::(numL y++58::(p.tl++l))):=by have:=c8.next;simpa using this
   rw[e]at hR;exact#[a,t,k+1,x,y,p,l,d+1,rfl,rfl,c9,Jb,Jb,hp.1,hp.2.1,hp.2.2,Jb,λu h1=>hR _ #[u,rfl,h1]]
  |mir p=>
   rw[Pat.depth]at u6;have e:k+(Pat.mir p).tl.length=k+1+p.tl.length:=by rw[Pat.tl];simp;lia
   rw[e]at hR;refine#[a,t,k+1,p,l,d+1,rfl,rfl,c8.next,Jb,Jb,hp,Jb,λu h1=>?_];obtain⟨fs,rfl,_⟩:=h1.objm;exact#[_,_,rfl,hR _ #[_,rfl,h1]]
  |tur p=>
   rw[Pat.depth]at u6;have e:k+(Pat.tur p).tl.length=k+1+p.tl.length:=by rw[Pat.tl];simp;lia
   rw[e]at hR;refine#[a,t,k+1,p,l,d+1,rfl,rfl,c8.next,Jb,Jb,hp,Jb,λu h1=>?_];obtain⟨fs,rfl,_⟩:=h1.objm;exact#[_,_,rfl,hR _ #[_,rfl,h1]]
  |hue f g p=>
   rw[Pat.depth]at u6;have e:k+(Pat.hue f g p).tl.length=k+1+2+p.tl.length:=by rw[Pat.tl,hueL hp.1,hueL hp.2.1];simp;lia
   have c9:At t (k+1) ((48+f).toNat::(48+g).toNat::(p.tl++l)):=by
    have:=c8.next;rw[hueL hp.1,hueL hp.2.1]at this;simpa using this
   rw[e]at hR;exact#[a,t,k+1,f,g,p,l,d+1,rfl,rfl,c9,Jb,Jb,hp.1,hp.2.1,hp.2.2,Jb,λu h1=>hR _ #[u,rfl,h1]]
def D0(Qe:V.T "over_from" ig fM)(Qf:V.T "shifted_from" ii fN)(Qg:V.T "rehue_from" ij fO)(OD:V.T "form_from" ik cD)(KN:iT V)(uC:cF V)(IG:fQ V)(KO:iU V)(uK:V.m "int")(KP:iV V)(KQ:iQ V)(KR:V.gi "DEEP" 5)(KS:iR V)(KU:iS V)(uJ:db V):∀j,V.MM (5+2*j) "form_from" cD (cX j):=by
 intro j;induction j with
 |zero=>exact CalMM.never OD (λds M R RX=>Bj)
 |succ j ih=>
  have KW:=ih;have Nf:=DU (n:=5+2*j) (j:=j) Jj Qe KW KN uC;have Ng:=DV (n:=5+2*j) (j:=j) Jj Qf IG KW KO uC;have Nh:=DY (n:=5+2*j) (j:=j) Jj Qg uK KW KP uC;have KW:=Cal.mono ih (F4 _);exact DZ (n:=5+2*j+1) (j:=j) Jj OD Nf Ng KW Nh KQ KR KS KU uJ
abbrev oF(V:Bx):Prop:=V.M 1 "Reading" mB AS
def D1(T:V.Ti "Reading" "Reading.__init__" mz mB)(IY:V.a "Reading" "text")(uN:V.a "Reading" "place"):oF V:=by
 refine Txi.okI T Cz (λds R h=>?_) (λf cdv A outer s H E J hr=>#[_,((bB IY (aa 1) (bB uN ad dq))),λds R h=>?_])
 .obtain⟨_,rfl,_⟩:=h;rfl
 .obtain⟨t,rfl,hR⟩:=h;refine#[Ji,Ob,?_];show R (putD _ _ (putD _ _ []));rw[putD,putD,if_neg Je];exact hR
abbrev oG(V:Bx):Prop:=V.M 1 "Pattern" mD Bp
def D2(T:V.Ti "Pattern" "Pattern.__init__" mC mD)(JV:V.a "Pattern" "text")(A_:V.a "Pattern" "shifts")(JP:V.a "Pattern" "form"):oG V:=by
 refine Txi.okI T CA (λds R h=>?_) (λf cdv A outer s H E J hr=>#[_,((bB JV (aa 1) (bB A_ (aa 2) (bB JP (aa 3) dq)))),λds R h=>?_])
 .obtain⟨_,_,_,_,_,_,rfl,_⟩:=h;rfl
 .obtain⟨t,w,h,s,x,fs,rfl,hR⟩:=h;refine#[Ji,Ob,by show(2:Nat)<1000;decide,?_];show R (putD _ _ (putD _ _ (putD _ _ [])));rw[show putD ("shifts":E_) (.tup [.int w,.int h,.int s]) (putD ("text":E_) (.str t) [])=([("text",.str t),("shifts",.tup [.int w,.int h,.int s])]:List (E_×D))by rw[putD,putD,if_neg Je];rfl,putD,if_neg Je,putD,if_neg Je];exact hR
abbrev oH(V:Bx):Prop:=V.D 2 "measure" mG An
def D3(T:V.T "measure" mF mG)(JT:iO V):oH V:=by
 refine Tx.okDW T sc_measure (λds R h=>?_) (λf cdv A outer s H E J hr=>⟨_,((ao (aB 2 sc_measure.nd (ah (aI JT hr (ac (aN (ac ad (ac (aa 0) af))) (ac (aN (ac ad (ac (aa 1) af))) af))) ad))
   (au (aH (aN (ac (ah (aa 2) ad) (ac (ah (aa 2) ad) af))))))),λds R h=>?_⟩)
 .obtain⟨x,y,rfl,_⟩:=h;rfl
 .obtain⟨x,y,rfl,hx,hy,hR⟩:=h;refine#[λd=>∃p0 p1:Int,d=.tup [.int p0,.int p1]/\Meas x y p1 p0,#[J4,J4,1,x,0,y,rfl,hx,hy,λp0 p1 q0 hL=>#[_,rfl,p0,p1,rfl,sB #[hL.1,hL.2]]],?_];rintro _⟨p0,p1,rfl,hM⟩;k_places;exact#[_,rfl,_,rfl,J4,hR p1 p0 hM]
abbrev iW(V:Bx):Prop:=V.D 3 "met" mI Ao
def D4(T:V.T "met" mH mI)(KY:oH V):iW V:=by
 refine Tx.okDW T sc_met (λds R h=>?_) (λf cdv A outer s H E J hr=>⟨_,((ao (aB 2 sc_met.nd (aI KY hr (ac (ah (aa 0) ad) (ac (ah (aa 1) ad) af))))
   (ao (aB 3 sc_met.nd (bL (aM (ah (aa 0) ad) (ah (aa 1) ad)) (ah (aa 2) ad)))
   (ao (aB 4 sc_met.nd (bL (aM (ah (aa 0) ad) (ah (aa 1) ad)) (ah (aI KY hr (ac (ah (aa 0) ad) (ac (ah (aa 1) ad) af))) ad)))
   (ao (aB 5 sc_met.nd (aM (bL (aa 4) (ah (aa 0) ad)) (ah (aa 0) ad)))
   (ao (aB 6 sc_met.nd (bv (aM (bL (aa 4) (ah (aa 1) ad)) (ah (aa 1) ad)) (aa 5)))
   (ao (aB 7 sc_met.nd (bL (ah (aa 2) ad) (ah (aI KY hr (ac (ah (aa 2) ad) (ac (aa 6) af))) ad)))
   (ao (aB 8 sc_met.nd (aM (bL (aM (aa 7) (aa 6)) (ah (aa 2) ad)) (ah (aa 2) ad)))
   (au (aH (aN (ac (aa 3) (ac (aM (aa 4) (aa 7)) (ac (aJ (aD (aM (aa 7) (aa 5)) (aM (aa 8) (ah (aa 0) ad))) (aa 3)) af)))))))))))))),λds R h=>?_⟩)
 .obtain⟨_,_,_,_,_,_,rfl,_⟩:=h;rfl
 .obtain⟨w1,h1,s1,w2,h2,s2,rfl,a1,a2,a3,a4,a5,a6,b1,b2,b3,b4,b5,b6,hR⟩:=h;refine#[λd=>∃g u:Int,d=.tup [.int g,.int u]/\Meas w1 w2 g u,#[_,rfl,_,rfl,w1,w2,rfl,Jj,Jj,λg u M=>#[g,u,rfl,M]],?_];rintro _⟨g,u,rfl,M1⟩;k_places;have hg:=M1.pos a1;have OE:=M1.le a1;refine#[λd=>d=.int (w1*w2/g),#[_,rfl,_,rfl,.inl (b64B a1 a2),_,rfl,d30B hg (GB OE a2),rfl],?_];rintro _ rfl;k_places;refine#[λd=>∃k u':Int,d=.int (h1*h2/k)/\Meas h1 h2 k u',#[_,rfl,_,rfl,.inl (b64B a3 a4),_,rfl,_,rfl,h1,h2,rfl,Jj,Jj,λk u' M=>#[_,rfl,d30B (M.pos a3) (GB (M.le a3) a4),k,u',rfl,M]],?_];rintro _⟨k,u',rfl,M2⟩;k_places;obtain⟨r0,r1,r2,r3,r4,r5⟩:=sD a3 b3 M2;have Qh:h1*h2<=1125899906842624:=by
   have:=bZ (a:=h1) (d:=h2) (A:=33554432) (B:=33554432) Jj Jj;omega
  refine#[λd=>d=.int (h1*h2/k/h1*s1),#[_,rfl,d30B a3 a4,_,rfl,.inr (s64B a5 a6 a2),rfl],?_];rintro _ rfl;k_places;refine#[λd=>d=.int (h1*h2/k/h2*s2-h1*h2/k/h1*s1),#[_,rfl,d30B b3 b4,_,rfl,.inr (s64B b5 b6 b2),rfl],?_];rintro _ rfl;k_places;have t1:=bZ (a:=h1*h2/k/h1) (d:=s1) (A:=33554432) (B:=33554432) Jj Jj;have t2:=bZ (a:=h1*h2/k/h2) (d:=s2) (A:=33554432) (B:=33554432) Jj Jj;refine#[λd=>∃gg w9:Int,d=.int (g/gg)/\Meas g (h1*h2/k/h2*s2-h1*h2/k/h1*s1) gg w9,#[_,rfl,_,rfl,g,_,rfl,Jj,Jj,λgg w9 M=>#[_,rfl,d30B (M.pos hg) (GB (M.le hg) (GB OE a2)),gg,w9,rfl,M]],?_];rintro _⟨gg,w9,rfl,M3⟩;k_places;have IC:=M3.pos hg;have c1:0<=g/gg:=Hr Jj Jj;have c2:g/gg<=g:=Hs _ Jj;have c4:=Ab (c:=g/gg) (gap:=h1*h2/k/h2*s2-h1*h2/k/h1*s1) (N:=2251799813685248) hg c1 c2 Jj;have mr:=sC a1 b1 a3 b3 M1 M2 M3;refine#[λd=>d=.int (g/gg*(h1*h2/k/h2*s2-h1*h2/k/h1*s1)/g*u),#[.inl #[Jj,Jj],_,rfl,#[Jj,Jj],_,rfl,.inl #[Jj,Jj],rfl],?_];rintro _ rfl;k_places;obtain⟨w0,w3,_⟩:=sD a1 b1 M1;have Qi:w1*w2<=1125899906842624:=by
   have:=bZ (a:=w1) (d:=w2) (A:=33554432) (B:=33554432) Jj Jj;omega
  have Oh:=bZ (a:=h1*h2/k) (d:=g/gg) (A:=1125899906842624) (B:=33554432) Jj Jj;exact#[.inl #[Jj,Jj],.inl #[Jj,Jj],_,rfl,.inr #[Jj,Jj],w0,J4,hR _ _ _ _ mr]
abbrev iX(V:Bx):Prop:=V.D 1 "mirrored" mK Al
def D5(T:V.T "mirrored" mJ mK):iX V:=by
 refine Tx.okDW T CB (λds R h=>?_) (λf cdv A outer s H E J hr=>#[_,((au (aH (aN (ac (ah (aa 0) ad) (ac (ah (aa 0) ad) (ac (aJ (cH (ah (aa 0) ad)) (ah (aa 0) ad)) af))))))),λds R h=>?_])
 .obtain⟨w,h,s,rfl,_⟩:=h;rfl
 .obtain⟨w,h,s,rfl,hw,hR⟩:=h;exact#[_,rfl,_,rfl,_,rfl,_,rfl,hw,J4,hR]
abbrev iY(V:Bx):Prop:=V.D 3 "turned" mM Am
def D6(T:V.T "turned" mL mM)(JU:iP V):iY V:=by
 refine Tx.okDW T CC (λds R h=>?_) (λf cdv A outer s H E J hr=>#[_,((au (aH (aI JU hr (ac (aN (ac ad (ac (ah (aa 0) ad) af))) (ac (aN (ac (cH (ah (aa 0) ad)) (ac (ah (aa 0) ad) af))) af)))))),λds R h=>?_])
 .obtain⟨w,h,s,rfl,_⟩:=h;rfl
 .obtain⟨w,h,s,rfl,hw,hh,Ky,IP,hs,k_,hR⟩:=h;have hp:0<w*h:=Fu hw hh;have hn:¬0*s=w* -h:=by rw[FW];lia
  exact#[_,rfl,J4,_,rfl,_,rfl,J4,0,w,-h,s,rfl,Jb,Jb,Jb,Jb,λe=>absurd e hn,λ_ w' h' s' f=>hR w' h' s' f]
def ok_Motif_family(hL:3<=n)(T:V.Tm "Motif" "family" "Motif.family" il cu)(uM:V.a "Motif" "shifts"):V.Q (n+1) "Motif" "family" cu (ofX (bO (j+1) "Motif")):=by
 refine Txm.okM T CD (λds M R RX h=>?_) (λf cdv A outer s H E J hr hx=>⟨_,((ai (aW (jV (ax uM (ae (aa 0))) (ae bU)) (am gL) aQ)
   (am (az (ax uM (ae (aa 0))))))),λds M R RX d3 h=>?_⟩)
 .obtain⟨_,_,rfl,_⟩:=h;rfl
 .obtain⟨p,v,rfl,hv,hp,hd,hc,hf,hR⟩:=h;cases p<;>simp only[Pat.cls]at hc<;>try exact absurd hc Je
  obtain⟨k,w,h,s,rfl,F⟩:=hv;exact#[_,#[rfl,rfl],_,mo_shifts,_,#[rfl,rfl],_,mo_shifts,hR w h s (Pat.Fam.mot F)]
def D7(hL:3<=n)(T:V.Tm "Over" "family" "Over.family" im io)(KZ:iW V)(uT:V.a "Over" "above")(uY:V.a "Over" "below")(uF:∀x,x∈(["Motif","Over","Shifted","Mirror","Turn","Rehue"]:List E_)->V.Q n x "family" cu (ofX (bO j x))):V.Q (n+1) "Over" "family" io (ofX (bO (j+1) "Over")):=by
 refine Txm.okM T sc_Over_family (λds M R RX h=>?_) (λf cdv A outer s H E J hr hx=>⟨_,((ai (aC 1 sc_Over_family.nd (bR (hn:=Jj) uF hx hr (ax uT (ae (aa 0)))))
   (am (az (aF (hn:=Jj) (CalD.toM KZ) hx hr (av (ae (aa 1)) (av (bR (hn:=Jj) uF hx hr (ax uY (ae (aa 0)))) aT))))))),λds M R RX d3 h=>?_⟩)
 .obtain⟨_,_,rfl,_⟩:=h;rfl
 .obtain⟨p,v,rfl,hv,hp,hd,hc,hf,hR⟩:=h;cases p<;>simp only[Pat.cls]at hc<;>try exact absurd hc Je
  rename_i p q;obtain⟨u,u',rfl,hu,KD⟩:=hv;obtain⟨fs,rfl,o1⟩:=hu.objm;obtain⟨gs,rfl,o2⟩:=KD.objm;obtain⟨f1,f2⟩:=Pat.Fits.over_parts hp.1 hp.2 hf;rw[Pat.depth]at hd;refine#[λd M'=>(∃w h s,p.Fam w h s/\d=.tup [.int w,.int h,.int s])/\M'=M,#[_,#[rfl,rfl],_,rfl,p.cls,p.cls_mem,fs,#[rfl,rfl],o1.fam,p,_,rfl,hu,hp.1,Jb,rfl,f1,λw h s F=>#[#[w,h,s,F,rfl],rfl]],?_];rintro _ _⟨⟨w1,h1,s1,F1,rfl⟩,rfl⟩;k_places;refine#[_,#[rfl,rfl],_,eO Je,q.cls,q.cls_mem,gs,#[rfl,rfl],o2.fam,q,_,rfl,KD,hp.2,Jb,rfl,f2,λw2 h2 s2 F2=>?_];obtain⟨a1,a2,a3,a4,a5,a6⟩:=f1.small F1;obtain⟨b1,b2,b3,b4,b5,b6⟩:=f2.small F2;exact#[w1,h1,s1,w2,h2,s2,rfl,a1,Jb,a3,Jb,a5,a6,b1,Jb,b3,Jb,b5,b6,λw h s A MR=>hR w h s (Pat.Fam.over F1 F2 MR)]
def D8(hL:3<=n)(T:V.Tm "Shifted" "family" "Shifted.family" ip iq)(uU:V.a "Shifted" "form")(uF:∀x,x∈(["Motif","Over","Shifted","Mirror","Turn","Rehue"]:List E_)->V.Q n x "family" cu (ofX (bO j x))):V.Q (n+1) "Shifted" "family" iq (ofX (bO (j+1) "Shifted")):=by
 refine Txm.okM T CF (λds M R RX h=>?_) (λf cdv A outer s H E J hr hx=>#[_,((am (az (bR (hn:=Jj) uF hx hr (ax uU (ae (aa 0))))))),λds M R RX d3 h=>?_])
 .obtain⟨_,_,rfl,_⟩:=h;rfl
 .obtain⟨p,v,rfl,hv,hp,hd,hc,hf,hR⟩:=h;cases p<;>simp only[Pat.cls]at hc<;>try exact absurd hc Je
  rename_i a b p;obtain⟨u,rfl,hu⟩:=hv;obtain⟨fs,rfl,o1⟩:=hu.objm;rw[Pat.depth]at hd;refine#[_,#[rfl,rfl],_,rfl,p.cls,p.cls_mem,fs,#[rfl,rfl],o1.fam,p,_,rfl,hu,hp.2.2,Jb,rfl,hf.of_sh,λw h s F=>?_];exact hR w h s (F.sh a b)
def D9(hL:3<=n)(T:V.Tm "Mirror" "family" "Mirror.family" ir iu)(K0:iX V)(uS:V.a "Mirror" "form")(uF:∀x,x∈(["Motif","Over","Shifted","Mirror","Turn","Rehue"]:List E_)->V.Q n x "family" cu (ofX (bO j x))):V.Q (n+1) "Mirror" "family" iu (ofX (bO (j+1) "Mirror")):=by
 refine Txm.okM T CG (λds M R RX h=>?_) (λf cdv A outer s H E J hr hx=>#[_,((am (az (aF (hn:=Jj) (CalD.toM K0) hx hr (av (bR (hn:=Jj) uF hx hr (ax uS (ae (aa 0)))) aT))))),λds M R RX d3 h=>?_])
 .obtain⟨_,_,rfl,_⟩:=h;rfl
 .obtain⟨p,v,rfl,hv,hp,hd,hc,hf,hR⟩:=h;cases p<;>simp only[Pat.cls]at hc<;>try exact absurd hc Je
  rename_i p;obtain⟨u,rfl,hu⟩:=hv;obtain⟨fs,rfl,o1⟩:=hu.objm;rw[Pat.depth]at hd;refine#[_,#[rfl,rfl],_,rfl,p.cls,p.cls_mem,fs,#[rfl,rfl],o1.fam,p,_,rfl,hu,hp,Jb,rfl,Pat.Fits.of_mir (p:=p) hp hf,λw h s F=>?_];exact#[w,h,s,rfl,F.f.w0,hR w h _ F.mir]
def Ea(hL:3<=n)(T:V.Tm "Turn" "family" "Turn.family" iw iy)(K1:iY V)(uX:V.a "Turn" "form")(uF:∀x,x∈(["Motif","Over","Shifted","Mirror","Turn","Rehue"]:List E_)->V.Q n x "family" cu (ofX (bO j x))):V.Q (n+1) "Turn" "family" iy (ofX (bO (j+1) "Turn")):=by
 refine Txm.okM T CH (λds M R RX h=>?_) (λf cdv A outer s H E J hr hx=>#[_,((am (az (aF (hn:=Jj) (CalD.toM K1) hx hr (av (bR (hn:=Jj) uF hx hr (ax uX (ae (aa 0)))) aT))))),λds M R RX d3 h=>?_])
 .obtain⟨_,_,rfl,_⟩:=h;rfl
 .obtain⟨p,v,rfl,hv,hp,hd,hc,hf,hR⟩:=h;cases p<;>simp only[Pat.cls]at hc<;>try exact absurd hc Je
  rename_i p;obtain⟨u,rfl,hu⟩:=hv;obtain⟨fs,rfl,o1⟩:=hu.objm;rw[Pat.depth]at hd;refine#[_,#[rfl,rfl],_,rfl,p.cls,p.cls_mem,fs,#[rfl,rfl],o1.fam,p,_,rfl,hu,hp,Jb,rfl,Pat.Fits.of_tur (p:=p) hp hf,λw h s F=>?_];obtain⟨a1,a2,a3,a4,a5,a6⟩:=(Pat.Fits.of_tur (p:=p) hp hf).small F;exact#[w,h,s,rfl,a1,a3,Jb,Jb,a5,Jb,λw' h' s' F'=>hR w' h' s' (F.tur F')]
def Eb(hL:3<=n)(T:V.Tm "Rehue" "family" "Rehue.family" iz iA)(uW:V.a "Rehue" "form")(uF:∀x,x∈(["Motif","Over","Shifted","Mirror","Turn","Rehue"]:List E_)->V.Q n x "family" cu (ofX (bO j x))):V.Q (n+1) "Rehue" "family" iA (ofX (bO (j+1) "Rehue")):=by
 refine Txm.okM T CI (λds M R RX h=>?_) (λf cdv A outer s H E J hr hx=>#[_,((am (az (bR (hn:=Jj) uF hx hr (ax uW (ae (aa 0))))))),λds M R RX d3 h=>?_])
 .obtain⟨_,_,rfl,_⟩:=h;rfl
 .obtain⟨p,v,rfl,hv,hp,hd,hc,hf,hR⟩:=h;cases p<;>simp only[Pat.cls]at hc<;>try exact absurd hc Je
  rename_i f g p;obtain⟨u,rfl,hu⟩:=hv;obtain⟨fs,rfl,o1⟩:=hu.objm;rw[Pat.depth]at hd;refine#[_,#[rfl,rfl],_,rfl,p.cls,p.cls_mem,fs,#[rfl,rfl],o1.fam,p,_,rfl,hu,hp.2.2,Jb,rfl,hf.of_hue,λw h s F=>?_];exact hR w h s (F.hue f g)
def Ec(OF:V.Tm "Motif" "family" "Motif.family" il cu)(OG:V.Tm "Over" "family" "Over.family" im io)(OH:V.Tm "Shifted" "family" "Shifted.family" ip iq)(OI:V.Tm "Mirror" "family" "Mirror.family" ir iu)(OJ:V.Tm "Turn" "family" "Turn.family" iw iy)(OK:V.Tm "Rehue" "family" "Rehue.family" iz iA)(uM:V.a "Motif" "shifts")(KZ:iW V)(uT:V.a "Over" "above")(uY:V.a "Over" "below")(uU:V.a "Shifted" "form")(K0:iX V)(uS:V.a "Mirror" "form")(K1:iY V)(uX:V.a "Turn" "form")(uW:V.a "Rehue" "form"):∀j x,x∈(["Motif","Over","Shifted","Mirror","Turn","Rehue"]:List E_)->V.Q (3+j) x "family" cu (ofX (bO j x)):=by
 intro j;induction j with
 |zero=>
  intro x hx;simp only[Fb,Gy,or_false]at hx;rcases hx with rfl|rfl|rfl|rfl|rfl|rfl
  .exact CalMth.never OF (λds M R RX=>eQ)
  .exact CalMth.never OG (λds M R RX=>eQ)
  .exact CalMth.never OH (λds M R RX=>eQ)
  .exact CalMth.never OI (λds M R RX=>eQ)
  .exact CalMth.never OJ (λds M R RX=>eQ)
  .exact CalMth.never OK (λds M R RX=>eQ)
 |succ j K2=>
  intro x hx;simp only[Fb,Gy,or_false]at hx;rcases hx with rfl|rfl|rfl|rfl|rfl|rfl
  .exact ok_Motif_family (n:=3+j) (j:=j) Jj OF uM
  .exact D7 (n:=3+j) (j:=j) Jj OG KZ uT uY K2
  .exact D8 (n:=3+j) (j:=j) Jj OH uU K2
  .exact D9 (n:=3+j) (j:=j) Jj OI K0 uS K2
  .exact Ea (n:=3+j) (j:=j) Jj OJ K1 uX K2
  .exact Eb (n:=3+j) (j:=j) Jj OK uW K2
abbrev uf(V:Bx):Prop:=V.MM 17 "form_from" cD (cX 6)
abbrev uh(V:Bx):Prop:=∀x,x∈(["Motif","Over","Shifted","Mirror","Turn","Rehue"]:List E_)->V.Q 9 x "family" cu (ofX (bO 6 x))
abbrev iZ(V:Bx):Prop:=V.X 18 "read" mQ S_read
def Ed(T:V.T "read" mN mQ)(uA:V.m "len")(uH:uf V)(Ni:V.gi "MOST" 720)(uN:V.a "Reading" "place")(Nj:oF V)(Nk:oG V)(uF:uh V):iZ V:=by
 refine CalMM.nilX (Tx.okM T sc_read (λds M R RX h=>?_) (λf cdv A outer s H E J hr hx=>⟨_,((ai (aC 1 sc_read.nd (zd Nj hr (ar (ac (aa 0) af))))
   (ai (aC 2 sc_read.nd (aF uH hx hr (ar (ac (aa 1) (ac ad af)))))
   (ai (aW (rQ (ax uN (ae (aa 1))) (ae (ck uA (ac (aa 0) af)))) (am gL) aQ)
   (ai (aC 3 sc_read.nd (bR uF hx hr (ae (aa 2))))
   (ai (aW (bj (gf (aM (ah (aa 3) ad) (ah (aa 3) ad)) (cQ Ni))) (am gL) aQ)
   (am (az (ae (jO Nk hr (ac (aa 0) (ac (aa 3) (ac (aa 2) af))))))))))))),λds M R RX d3 h=>?_⟩))
 .obtain⟨_,R0,IB,⟨_,rfl,_⟩,_⟩:=h;rfl
 .obtain⟨rfl,R0,IB,⟨p,rfl,ok,hG⟩,hR,hX⟩:=h;have b8:=Pat.text_short ok.wf ok.deep;have c8:At p.text 0 (p.tl++[]):=#[by rw[FE];exact cV p,Fz _,Jb];have P5:=ok.deep;have hl:p.text.length=p.tl.length:=by rw[<-bt,cV]
  refine#[λd M'=>∃a,d=.ptr a/\M'=RdM a p.text 0,#[_,rfl,λa _=>#[a,rfl,rfl]],?_];rintro _ _⟨a,rfl,rfl⟩;k_places;refine#[λv M'=>FormOf p v/\M'=RdM a p.text p.tl.length,#[a,p.text,0,p,[],0,rfl,rfl,c8,rfl,Ji,ok.wf,Jb,λv h=>#[h,by rw[Ie]]],?_];rintro v _⟨hv,rfl⟩;k_places;refine#[_,aV,_,eJ,Jb,ite2 (λc=>absurd (of_decide_eq_true c) Jb) (λ_=>?_)];obtain⟨fs,rfl,o1⟩:=hv.objm;refine#[λd M'=>∃w h s,p.Fam w h s/\d=.tup [.int w,.int h,.int s],#[p.cls,p.cls_mem,fs,#[rfl,rfl],o1.fam,p,_,rfl,hv,ok.wf,Jb,rfl,ok.fits,λw h s F=>#[w,h,s,F,rfl]],?_];rintro _ M'⟨w,h,s,F,rfl⟩;k_places;have a1:=ok.fits.small F;obtain⟨w',h',s',F',hb⟩:=ok.fits;obtain⟨rfl,rfl,_⟩:=F.uniq F';refine#[_,rfl,_,rfl,.inl #[Jb,Jb],ite2 (λc=>absurd (of_decide_eq_true c) Jb) (λ_=>?_)];exact#[_,_,_,_,_,_,rfl,hR _ _ (hG _ #[_,_,s,_,rfl,rfl,eO Je,#[F,#[_,kB Je Je,hv],by simp[noLF,noL,noLs,o1.nl]]])]
def Ee:SpD:=λds R=>∃(p q:Pat) (d e:D) (w h:Int),ds=[d,e,.int w,.int h]/\bf p d/\bf q e/\p.Ok/\q.Ok/\0<=w/\w<=720/\0<=h/\h<=720/\((∀x y:Int,0<=x->x<w->0<=y->y<h->p.show x y=q.show x y)->R .non)/\∀x y:Int,0<=x->x<w->0<=y->y<h->p.show x y≠q.show x y->(∀x' y':Int,0<=x'->x'<w->0<=y'->(y'<y\/(y'=y/\x'<x))->p.show x' y'=q.show x' y')->R (.tup [.int x,.int y])
abbrev oI(V:Bx):Prop:=V.D 9 "first_unlike" mU Ee
def Ef(T:V.T "first_unlike" mR mU)(uB:V.m "range")(JA:iK V):oI V:=by
 refine Tx.okDW T sc_first_unlike (λds R h=>?_) (λf cdv A outer s H E J hr=>⟨_,((ao (cn 4 PassesOwn.never rfl sc_first_unlike.nd uB (aa 3) (au (cn 5 PassesOwn.never rfl sc_first_unlike.nd uB (aa 2) (au (bM (cm (aI (CalX.no JA) hr (ac (aa 0) (ac (aa 5) (ac (aa 4) af)))) (aI (CalX.no JA) hr (ac (aa 1) (ac (aa 5) (ac (aa 4) af))))) (au (aH (aN (ac (aa 5) (ac (aa 4) af))))) bx)))))
   (au (aH bU)))),λds R h=>?_⟩)
 .obtain⟨_,_,_,_,_,_,rfl,_⟩:=h;rfl
 .obtain⟨p,q,d,e,w,h,rfl,hd,he,n6,Qj,w0,w7,h0,h7,hN,hS⟩:=h;obtain⟨wd,d8,sd,fs,rfl,q1,q2,fam⟩:=hd;have hd:bf p (.obj "Pattern" fs):=#[wd,d8,sd,fs,rfl,q1,q2,fam];obtain⟨Qk,JE,Ql,Lu,rfl,q3,q4,Nl⟩:=he;have he:bf q (.obj "Pattern" Lu):=#[Qk,JE,Ql,Lu,rfl,q3,q4,Nl];refine#[#[Jj,Jj],λk z=>∃o4 o5,z=[be (.obj "Pattern" fs),be (.obj "Pattern" Lu),be (.int w),be (.int h),o4,o5]/\∀x y:Int,0<=x->x<w->0<=y->y<k->p.show x y=q.show x y,#[_,_,rfl,λx y _ _ a b=>Jj],?_,?_]
  .rintro k v z hk⟨o4,o5,rfl,hj⟩;k_places;obtain⟨t9,rfl⟩:=cb hk;refine#[#[Jj,Jj],λi z=>∃o5,z=[be (.obj "Pattern" fs),be (.obj "Pattern" Lu),be (.int w),be (.int h),be (.int k),o5]/\∀x:Int,0<=x->x<i->p.show x k=q.show x k,#[_,rfl,λx a b=>Jj],?_,?_]
   .rintro i v z hi⟨o5,rfl,l_⟩;k_places;obtain⟨A',rfl⟩:=cb hi;have nn:aX (i:Int)/\aX (k:Int):=#[#[Jj,Jj],Jj,Jj];refine#[p,_,i,k,rfl,hd,n6,λ_=>#[q,_,i,k,rfl,he,Qj,λ_=>?_,λn=>n nn],λn=>n nn];refine ite2 (λc=>?_) (λc=>?_)
    .refine#[LS,hS i k Jj Jj Jj Jj (λz=>by simp[z]at c) λx' y' a b c d=>?_];rcases d with d|⟨rfl,d⟩
     .exact hj x' y' a b c Jj
     .exact l_ x' a Jj
    .have c':p.show i k=q.show i k:=by simpa using c
     refine#[_,rfl,λx a b=>?_];by_cases e:x=i
     .rw[e];exact c'
     .exact l_ x a Jj
   .rintro z⟨o5,rfl,l_⟩;k_places;rw[bN]at l_;refine#[_,_,rfl,λx y a b c d=>?_];by_cases e:y=k
    .rw[e];exact l_ x a Jj
    .exact hj x y a b c Jj
  .rintro z⟨o4,o5,rfl,hj⟩;k_places;rw[bN]at hj;exact hN λx y a b c d=>hj x y a b c Jj
def Eg:SiD:=λds R=>∃x y:Int,ds=[.int x,.int y]/\R [("y",.int y),("x",.int x)]
abbrev oJ(V:Bx):Prop:=V.E 1 "Parted" mW Eg
def Eh(T:V.Te "Parted" "Parted.__init__" mV mW)(Nm:V.b "MotifError")(uAE:V.ea "Parted")(Nn:V.xf "Parted" "x")(No:V.xf "Parted" "y"):oJ V:=by
 refine Txe.okE T CJ (λds R h=>?_) (λf cdv A outer s H E J hr=>#[_,((ym Nm uAE (ac (aa 1) (ac (aa 2) af)) (yo uAE Nn (aa 1) (BW uAE No (aa 2) yk)))),λds R h=>?_])
 .obtain⟨_,_,rfl,_⟩:=h;rfl
 .obtain⟨x,y,rfl,hR⟩:=h;exact#[LS,rfl,#[(λz=>nomatch z),by show(1:Nat)<=100;decide],hR]
def Ei:SpM:=λds M R _=>∃a q f p d,ds=[.ptr a,d]/\a≠q/\M=Fl.M f a q/\bf p d/\R .non ((f.stand p d).M a q)
abbrev ja(V:Bx):Prop:=V.Q 1 "Floor" "stand" mZ Ei
def Ej(T:V.Tm "Floor" "stand" "Floor.stand" mY mZ)(uE:V.a "Floor" "pattern")(B_:V.a "Floor" "text")(JV:V.a "Pattern" "text"):ja V:=by
 refine CalMth.drop (Txm.okM T CK (λds M R RX h=>?_) (λf cdv A outer s H E J hr hx=>⟨_,((ai (bF uE (ae (aa 0)) (ae (aa 1)))
   (am (bF B_ (ae (aa 0)) (ax JV (ae (aa 1))))))),λds M R RX d3 h=>?_⟩))
 .obtain⟨_,_,⟨_,_,_,_,_,rfl,_⟩,_⟩:=h;rfl
 .obtain⟨R,RX,⟨a,q,f,p,d,rfl,ne,rfl,⟨wd,d8,sd,fs,rfl,e1,e2,fam⟩,hR⟩,rfl,rfl⟩:=h;refine#[_,Fl.ma ne,by show(6:Nat)<1000;decide,?_];rw[Fl.put ne];refine#[fs,#[rfl,rfl],_,e1,_,(da (Ne.symm ne)).trans cv,by show(6:Nat)<1000;decide,_,?_,hR];rw[dJ (Ne.symm ne),cE];exact Fl.sub (f:=f.stand p _) ne
def Fl.chg(f:Fl)(a:Addr)(R:D->MS->Prop)(RX:XDM)(M:MS):D->Prop:=λd=>∃p,bf p d/\p.Ok/\(eX f.p p f.w f.l->∀q',a≠q'->R .non (((f.keep "change").stand p d).M a q'))/\∀x y,First2 f.p p f.w f.l x y->RX "Parted" [("y",.int y),("x",.int x)] M
def El:SpM:=λds M R RX=>∃a q f t,ds=[.ptr a,.str t]/\a≠q/\M=Fl.M f a q/\f.Ok/\S_read [.str t] (f.chg a R RX M) (λx fs=>RX x fs M)
abbrev oK(V:Bx):Prop:=V.Q 19 "Floor" "change" nh El
def Em(T:V.Tm "Floor" "change" "Floor.change" ng nh)(JW:iZ V)(Np:oI V)(uD:V.a "Floor" "laid")(uI:V.a "Floor" "width")(uE:V.a "Floor" "pattern")(JR:iI V)(JX:ja V)(uAO:oJ V):oK V:=by
 refine CalMth.drop (Txm.okM T sc_Floor_change (λds M R RX h=>?_) (λf cdv A outer s H E J hr hx=>⟨_,((ai (aC 2 sc_Floor_change.nd (aF (CalX.toM JW) hx hr (ar (ac (aa 1) af))))
   (ai (aC 3 sc_Floor_change.nd (aF (CalD.toM Np) hx hr (av (ax uE (ae (aa 0))) (av (ae (aa 2)) (av (ax uI (ae (aa 0))) (av (ax uD (ae (aa 0))) aT))))))
   (ai (aW (bj (xz (aa 3) bU)) (am (zh uAO hr hx rfl (ar (ac (ah (aa 3) ad) (ac (ah (aa 3) ad) af))))) aQ)
   (ai (bE (aP (CalMth.one JR) hx hr (ae (aa 0)) (ar (ac aA af))))
   (am (bE (aP (CalMth.one JX) hx hr (ae (aa 0)) (ar (ac (aa 2) af)))))))))),λds M R RX d3 h=>?_⟩))
 .obtain⟨_,_,⟨_,_,_,_,rfl,_⟩,_⟩:=h;rfl
 .obtain⟨R,RX,⟨a,q,f,t,rfl,ne,rfl,ok,hR⟩,rfl,rfl⟩:=h;have w1:=ok.w1;have w2:=ok.w2;have l0:=ok.l0;have l1:=ok.l1;have h2:=ok.h2;refine#[λd M'=>M'=f.M a q/\f.chg a R RX (f.M a q) d,S_read.mono (RX':=λ_ _=>True) hR (λd h=>#[rfl,h]),?_];rintro d _⟨rfl,p,hd,n6,hS,hP⟩;k_places;obtain⟨wd,d8,sd,fs,rfl,e1,e2,fam⟩:=hd;have hd:bf p (.obj "Pattern" fs):=#[wd,d8,sd,fs,rfl,e1,e2,fam];refine#[λc M'=>M'=f.M a q/\((c=.non/\eX f.p p f.w f.l)\/∃x y,c=.tup [.int x,.int y]/\First2 f.p p f.w f.l x y),?_,?_]
  .exact#[_,Fl.ma ne,_,fP,_,Fl.ma ne,_,eV,_,Fl.ma ne,_,dL,f.p,p,f.d,_,f.w,f.l,rfl,ok.is,hd,ok.ok,n6,Jb,Jb,l0,Jb,λh=>#[rfl,.inl #[rfl,h]],λx y h1 h2 h3 h4 h5 h6=>#[rfl,.inr #[x,y,rfl,#[h1,h2,h3,h4],h5,h6]]]
  rintro c _⟨rfl,⟨rfl,Sf⟩|⟨x,y,rfl,hf⟩⟩;k_places
  .refine#[_,E6.mpr rfl,_,Fl.ma ne,rfl,a,q,f,"change",rfl,ne,rfl,ok.de,λq' d5=>?_];exact#[_,E6.mpr rfl,_,Fl.ma d5,rfl,a,q',_,p,_,rfl,d5,rfl,hd,_,Fl.sub d5,hS Sf q' d5]
  .refine#[_,rfl,_,rfl,LS,x,y,rfl,?_];rw[d3];exact#[_,Fl.sub ne,hP x y hf]
def En:SpM:=λds M R _=>∃a q f p,ds=[.ptr a,.str (Pat.text p)]/\a≠q/\M=Fl.M f a q/\f.Ok/\p.Ok/\(eX f.p p f.w f.l->∀q' d,bf p d->a≠q'->R (.tup [.str "let in"]) (((f.keep "change").stand p d).M a q'))/\∀x y,First2 f.p p f.w f.l x y->R (.tup [.str "parted",.int x,.int y]) (f.M a q)
abbrev oM(V:Bx):Prop:=V.MM 20 "_law_change" nq En
def Eo(T:V.T "_law_change" nj nq)(Nq:oK V)(Nr:V.x "y" ["Parted"])(Nt:V.x "x" ["Parted"])(ek:iN V):oM V:=by
 refine Tx.okM T sc__law_change (λds M R RX h=>?_) (λf cdv A outer s H E J hr hx=>⟨_,((ai (aC 2 sc__law_change.nd (ae bU))
   (ai (kj (λpn xe J hp hx=>(am (eH (jV (aP (CalMth.one Nq) hx hr (ae (aa 0)) (ar (ac (aa 1) af))) (ae bU)) (am (aC 2 sc__law_change.nd (ae (aN (ac aA af))))) aQ))) (λ_=>(yr 3 ek sc__law_change.nd (λe=>(au (aB 2 sc__law_change.nd (aN (ac aA (ac (rG Nt (aa 3)) (ac (rG Nr (aa 3)) af))))))) jQ)))
   (am (az (ae (aa 2))))))),λds M R RX d3 h=>?_⟩)
 .obtain⟨_,_,_,_,rfl,_⟩:=h;rfl
 .obtain⟨a,q,f,p,rfl,ne,rfl,ok,n6,hS,hP⟩:=h;refine#[λd M'=>d=.non/\M'=f.M a q,#[rfl,rfl],?_];rintro _ _⟨rfl,rfl⟩;k_places;refine#[λz M' x fs=>z=[be (.ptr a),be (.str p.text),be .non,z8]/\M'=f.M a q/\x="Parted"/\∃x y,fs=([("y",.int y),("x",.int x)]:List (E_×D))/\First2 f.p p f.w f.l x y,λJ hJ=>?_,?_]
  .refine#[λz M'=>eX f.p p f.w f.l/\∃q' d,bf p d/\a≠q'/\z=[be (.ptr a),be (.str p.text),be (.tup [.str "let in"]),z8]/\M'=((f.keep "change").stand p d).M a q',?_,λz M' ⟨c,q',d,hd,d5,e1,e2⟩=>?_]
   .refine#[_,E6.mpr rfl,_,Fl.ma ne,rfl,a,q,f,p.text,rfl,ne,rfl,ok,tF (RX:=λ_ _=>True) n6 λd hd=>#[p,hd,n6,λc q' d5=>?_,λx y hf=>by rw[hJ];exact#[rfl,rfl,rfl,x,y,rfl,hf]]];dsimp only[mP,dC,rdIs,jD,id];rw[if_pos rfl];refine#[λe M'=>e=.tup [.str "let in"]/\M'=((f.keep "change").stand p d).M a q',#[NU,rfl,rfl],?_];rintro _ _⟨rfl,rfl⟩;k_places;exact#[c,q',d,hd,d5,rfl,rfl]
   .subst e1 e2;exact hS c q' d hd d5
  .rintro z M' x fs⟨rfl,rfl,rfl,x,y,rfl,hf⟩;k_places;refine#[#[J4,J4],?_];rw[if_pos Je];refine#[λd=>d=.tup [.str "parted",.int x,.int y],#[E6.mpr rfl,_,rfl,E6.mpr rfl,_,rfl,by show(3:Nat)<=1000;decide,rfl],?_];rintro _ rfl;k_places;exact#[hP x y hf,NoOwn.of rfl]
def St3(f r:Pat)(l:Int):D:=.tup [.str f.text,.int l,.str r.text]
def bJ(e:Deed):D:=.tup [.str e.w,St3 e.p (oth e.p) e.l]
def Ep:SpM:=λds M R _=>∃(a q:Addr) (f:Fl) (b:Bool) (r:Pat),ds=[.ptr a,.bl b,St3 f.p r f.l,.int f.h]/\a≠q/\M=Fl.M f a q/\f.Ok/\r.Ok/\eX f.p r f.w f.l/\
 (f.l<f.h->∀q',a≠q'->R (.lst [.str "lay",St3 f.p r (f.l+1)]) ((f.lay 1).M a q'))/\∀d q',bf r d->a≠q'->R (.lst [.str "change",St3 r f.p f.l]) (((f.keep "change").stand r d).M a q')
abbrev oN(V:Bx):Prop:=V.MM 21 "_law_deed" nt Ep
def Er(T:V.T "_law_deed" nr nt)(Nu:oy V)(Nv:oM V):oN V:=by
 refine Tx.okM T sc__law_deed (λds M R RX h=>?_) (λf cdv A outer s H E J hr hx=>⟨_,((ai (ki (λ_=>(jJ rfl (aa 2) (dg_cons 4 sc__law_deed.nd (dg_cons 5 sc__law_deed.nd (dg_cons 6 sc__law_deed.nd cP))))))
   (ai (aW (bj (cO (jG (cy (aa 1)) (jF (fq (aa 5) (aa 3)))))) (ai (aW (cZ (jT (aF Nu hx hr (ar (ac (aa 0) (ac ad (ac br af))))) (ae ad))) (am (az (ae bU))) aQ)
    (am (az (ae (bV (ac aA (ac (aN (ac (aa 4) (ac (aD (aa 5) ad) (ac (aa 6) af)))) af))))))) aQ)
   (ai (aW (tX (fk hr) (aF Nv hx hr (ar (ac (aa 0) (ac (aa 6) af)))) (ae (aN (ac aA af)))) (am (az (ae bU))) aQ)
   (am (az (ae (bV (ac aA (ac (aN (ac (aa 6) (ac (aa 5) (ac (aa 4) af)))) af)))))))))),λds M R RX d3 h=>?_⟩)
 .obtain⟨_,_,_,_,_,rfl,_⟩:=h;rfl
 .obtain⟨a,q,f,b,r,rfl,ne,rfl,ok,Lv,sm,hL,hC⟩:=h;have l0:=ok.l0;have l1:=ok.l1;refine#[rfl,?_,NoOwn.of rfl];cases b
  rotate_left
  focus
   refine ite2 (λc=>?_) (λ_=>?_)
   .have c':f.l<f.h:=of_decide_eq_true c;refine#[a,q,f,1,true,rfl,ne,rfl,ok,Ji,Ji,λc=>absurd c Jb,λ_ q' d5=>?_];exact#[_,rfl,by show(3:Nat)<=1000;decide,LS,hL c' q' d5]
  all_goals
   refine#[a,q,f,r,rfl,ne,rfl,ok,Lv,λ_ q' d is d5=>?_,λx y f2=>(First2.not f2 sm).elim];exact#[NU,#[rfl,rfl],by show(3:Nat)<=1000;decide,LS,hC d q' is d5]
def Fl.undone(f:Fl)(e:Deed)(es:List Deed):Fl:={f with p:=e.p,d:=e.d,l:=e.l,ds:=es}
def Es:SpM:=λds M R RX=>∃a q f,ds=[.ptr a]/\a≠q/\M=Fl.M f a q/\(f.ds=[]->RX "NothingKept" [] (f.M a q))/\∀es e,f.ds=es++[e]->bf e.p e.d/\R (.str e.w) ((f.undone e es).M a q)
abbrev oO(V:Bx):Prop:=V.Q 2 "Floor" "undo" nv Es
def Et(T:V.Tm "Floor" "undo" "Floor.undo" nu nv)(uA:V.m "len")(uQ:V.a "Floor" "deeds")(uD:V.a "Floor" "laid")(JX:ja V)(Nw:V.n "NothingKept"):oO V:=by
 refine CalMth.drop (Txm.okM T sc_Floor_undo (λds M R RX h=>?_) (λf cdv A outer s H E J hr hx=>⟨_,((ai (aW (fz (gI uA (ax uQ (ae (aa 0)))) (ae ad)) (am (rX Nw hx rfl (ar (ac aA af)))) aQ)
   (ai (aC 1 sc_Floor_undo.nd (tW (ax uQ (ae (aa 0)))))
   (ai (bE (aP (CalMth.one JX) hx hr (ae (aa 0)) (ar (ac (ah (aa 1) ad) af))))
   (ai (bF uD (ae (aa 0)) (ae (ah (aa 1) ad)))
   (am (az (ae (ah (aa 1) ad))))))))),λds M R RX d3 h=>?_⟩))
 .obtain⟨_,_,⟨_,_,_,rfl,_⟩,_⟩:=h;rfl
 .obtain⟨R,RX,⟨a,q,f,rfl,ne,rfl,hX,hR⟩,rfl,rfl⟩:=h;refine#[_,Fl.ma ne,_,iF,_,Fl.mq,ite2 (λc=>?_) (λc=>?_)]
  .have c':=of_decide_eq_true c;rw[Fs]at c';refine#[NU,?_];rw[d3];exact#[_,Fl.sub ne,hX (Gv Jb)]
  have c':f.ds≠[]:=λz=>c (decide_eq_true (by rw[z];rfl));obtain⟨es,e,he⟩:∃es e,f.ds=es++[e]:=#[_,_,(Ip c').symm];obtain⟨hi,hR⟩:=hR es e he;have q1:f.ds.map Deed.D=es.map Deed.D++[e.D]:=by rw[he,FG];rfl
  refine#[λd M'=>d=e.D/\M'=Fl.M {f with ds:=es} a q,#[_,Fl.ma ne,_,iF,_,e.D,Fl.mq,by rw[q1];simp,rfl,?_],?_]
  .rw[show f.M a q=[(q,.lst (f.ds.map Deed.D)),(a,.ins "Floor" (f.fs q))]from rfl,cE,q1,List.dropLast_concat];rfl
  rintro _ _⟨rfl,rfl⟩;k_places;refine#[_,E6.mpr rfl,_,Fl.ma ne,rfl,_,rfl,a,q,_,e.p,e.d,rfl,ne,rfl,hi,?_];refine#[_,rfl,_,Fl.ma ne,by show(6:Nat)<1000;decide,_,rfl,_,?_,hR];rw[Fl.put ne];exact Fl.sub (f:=f.undone e es) ne
def Eu:SpM:=λds M R _=>∃a q f,ds=[.ptr a]/\a≠q/\M=Fl.M f a q/\(f.ds=[]->R (.tup [.str "nothing"]) (f.M a q))/\∀es e,f.ds=es++[e]->bf e.p e.d/\R (.str e.w) ((f.undone e es).M a q)
abbrev oP(V:Bx):Prop:=V.MM 3 "_law_undo" ny Eu
def Ev(T:V.T "_law_undo" nw ny)(Ny:oO V)(ek:iN V):oP V:=by
 refine Tx.okM T sc__law_undo (λds M R RX h=>?_) (λf cdv A outer s H E J hr hx=>⟨_,((ai (aC 1 sc__law_undo.nd (ae bU))
   (ai (kj (λpn xe J hp hx=>(am (aC 1 sc__law_undo.nd (bR (CalMth.one Ny) hx hr (ae (aa 0)))))) (λ_=>(rF ek (λe=>(au (aB 1 sc__law_undo.nd (aN (ac aA af))))) jQ)))
   (am (az (ae (aa 1))))))),λds M R RX d3 h=>?_⟩)
 .obtain⟨_,_,_,rfl,_⟩:=h;rfl
 .obtain⟨a,q,f,rfl,ne,rfl,hX,hR⟩:=h;refine#[λd M'=>d=.non/\M'=f.M a q,#[rfl,rfl],?_];rintro _ _⟨rfl,rfl⟩;k_places;refine#[λz M' x fs=>z=[be (.ptr a),be .non]/\M'=f.M a q/\x="NothingKept"/\f.ds=[],λJ hJ=>?_,?_]
  .refine#[λd M'=>∃es e,f.ds=es++[e]/\d=.str e.w/\M'=(f.undone e es).M a q,#[_,E6.mpr rfl,_,Fl.ma ne,rfl,a,q,f,rfl,ne,rfl,λc=>by rw[hJ];exact#[rfl,rfl,rfl,c],λes e h=>#[(hR es e h).1,es,e,h,rfl,rfl]],?_];rintro _ _⟨es,e,h,rfl,rfl⟩;k_places;exact(hR es e h).2
  .rintro z M' x fs⟨rfl,rfl,rfl,c⟩;k_places;refine#[#[J4,J4],?_];rw[if_pos Je];refine#[λd=>d=.tup [.str "nothing"],#[NU,rfl],?_];rintro _ rfl;k_places;exact#[hX c,NoOwn.of rfl]
abbrev fR(V:Bx):Prop:=V.D 1 "_law_whole" nA Ag
def Ew(T:V.T "_law_whole" nz nA)(uL:V.m "isinstance")(Nz:V.m "bool")(uK:V.m "int"):fR V:=by
 refine Tx.okDW T CL (λds R h=>?_) (λf cdv A outer s H E J hr=>#[_,((au (aH (gj (dY uL uK (aa 0) PyProof.Rows.boot_int xD) (gh (xC (dY uL Nz (aa 0) PyProof.Rows.boot_bool kit_bool))))))),λds R h=>?_])
 .obtain⟨i,rfl,_⟩:=h;rfl
 .obtain⟨i,rfl,hR⟩:=h;exact hR
def Ey:SpD:=λds R=>∃(p:Pat) (w lo:Int) (n:Nat),ds=[.lst (ay p w lo n),.lst (ay p w lo n)]/\n<=1000/\R (.bl true)
abbrev oQ(V:Bx):Prop:=V.D 1 "_law_texts" nC Ey
def Ez(T:V.T "_law_texts" nB nC)(uA:V.m "len")(uL:V.m "isinstance")(JY:V.m "list")(uB:V.m "range")(uP:V.m "str"):oQ V:=by
 refine Tx.okDW T sc__law_texts (λds R h=>?_) (λf cdv A outer s H E J hr=>⟨_,((ao (bM (cO (fu (dX (cy (dY uL JY (aa 0) PyProof.Rows.boot_list kit_list))) (ft (cm (ck uA (ac (aa 0) af)) (ck uA (ac (aa 1) af)))))) (au (aH br)) bx)
   (ao (cn 2 PassesOwn.never rfl sc__law_texts.nd uB (ck uA (ac (aa 1) af)) (au (bM (cO (fu (dX (cy (dY uL uP (ah (aa 0) (aa 2)) PyProof.Rows.boot_str kit_str))) (ft (cm (ah (aa 0) (aa 2)) (ah (aa 1) (aa 2)))))) (au (aH br)) bx)))
   (au (aH br))))),λds R h=>?_⟩)
 .obtain⟨_,_,_,_,rfl,_⟩:=h;rfl
 .obtain⟨p,w,lo,n,rfl,n7,hR⟩:=h;have lp:(ay p w lo n).length=n:=by unfold ay;simp
  refine ite2 (λc=>absurd c J4) λ_=>?_;refine#[#[Jb,by rw[lp];lia],λk z=>∃o,z=[be (.lst (ay p w lo n)),be (.lst (ay p w lo n)),o],#[_,rfl],?_,?_]
  .rintro k v z hk⟨o,rfl⟩;k_places;obtain⟨t9,rfl⟩:=cb hk;rw[lp]at t9;have ak:=C4 (p:=p) (w:=w) (lo:=lo) (show k<n by lia);exact#[_,ak,_,ak,_,ak,ite2 (λc=>absurd c J4) λ_=>#[_,rfl]]
  .rintro z⟨o,rfl⟩;k_places;exact hR
def EA:SpD:=λds R=>∃xs:List Int,ds=[.lst (xs.map D.int),.lst (xs.map D.int)]/\xs.length=7/\R (.bl true)
abbrev oR(V:Bx):Prop:=V.D 2 "_law_seven" nE EA
def EB(T:V.T "_law_seven" nD nE)(uA:V.m "len")(uL:V.m "isinstance")(JY:V.m "list")(uB:V.m "range")(uZ:fR V):oR V:=by
 refine Tx.okDW T sc__law_seven (λds R h=>?_) (λf cdv A outer s H E J hr=>⟨_,((ao (bM (cO (fu (dX (cy (dY uL JY (aa 0) PyProof.Rows.boot_list kit_list))) (ft (cm (ck uA (ac (aa 0) af)) ad)))) (au (aH br)) bx)
   (ao (cn 2 PassesOwn.never rfl sc__law_seven.nd uB ad (au (bM (cO (fu (dX (cy (aI uZ hr (ac (ah (aa 0) (aa 2)) af)))) (ft (cm (ah (aa 0) (aa 2)) (ah (aa 1) (aa 2)))))) (au (aH br)) bx)))
   (au (aH br))))),λds R h=>?_⟩)
 .obtain⟨_,rfl,_⟩:=h;rfl
 .obtain⟨xs,rfl,x7,hR⟩:=h;refine ite2 (λc=>absurd c (by simp[x7])) λ_=>?_;refine#[#[Ji,Ji],λk z=>∃o,z=[be (.lst (xs.map D.int)),be (.lst (xs.map D.int)),o],#[_,rfl],?_,?_]
  .rintro k v z hk⟨o,rfl⟩;k_places;obtain⟨t9,rfl⟩:=cb hk;have k7:k<7:=t9;have ak:atI (xs.map D.int) (k:Int)=be (.int (xs[k]' Jj)):=cw (by rw[Fo,Fy Jj];rfl);exact#[_,ak,_,rfl,_,ak,_,ak,ite2 (λc=>absurd c J4) λ_=>#[_,rfl]]
  .rintro z⟨o,rfl⟩;k_places;exact hR
def EC:SpD:=λds R=>∃(p:Pat) (w lo:Int) (n:Nat),ds=[.lst (ay p w lo n)]/\p.Ok/\0<=w/\w<=30/\n<=30/\R (.lst ((cC p 0 lo w.toNat n).map D.int))
abbrev oS(V:Bx):Prop:=V.D 1 "_law_counts" nG EC
def EE(T:V.T "_law_counts" nF nG):oS V:=by
 refine Tx.okDW T sc__law_counts (λds R h=>?_) (λf cdv A outer s H E J hr=>⟨_,((ao (gl 1 sc__law_counts.nd (ac ad (ac ad (ac ad (ac ad (ac ad (ac ad (ac ad af))))))))
   (ao (qV 2 PassesOwn.never rfl sc__law_counts.nd (aa 0) (au (yJ 3 PassesOwn.never rfl sc__law_counts.nd (aa 2) (au (zX 1 (rN aA (ac (aa 3) af)) ad)))))
   (eg 1 (au (aH (aa 1))))))),λds R h=>?_⟩)
 .obtain⟨_,_,_,_,rfl,_⟩:=h;rfl
 .obtain⟨p,w,lo,n,rfl,ok,w0,w7,n7,hR⟩:=h;have e0:([.int 0,.int 0,.int 0,.int 0,.int 0,.int 0,.int 0]:List D)=(due7 p 0 lo w.toNat 0 0).map D.int:=rfl;refine#[Ji,?_];refine#[λk z=>∃o1 o2,z=[be (.lst (ay p w lo n)),be (.own ((due7 p 0 lo w.toNat k 0).map D.int)),o1,o2],#[_,_,rfl],?_,?_]
  .rintro k v z hk⟨o1,o2,rfl⟩;k_places;obtain⟨t9,rfl⟩:=CY hk;refine#[C0 ok 0 (lo+k) w.toNat,λi z=>∃o2,z=[be (.lst (ay p w lo n)),be (.own ((due7 p 0 lo w.toNat k i).map D.int)),be (.str (aG p 0 (lo+k) w.toNat)),o2],#[_,rfl],?_,?_]
   .rintro i v z hi⟨o2,rfl⟩;k_places;obtain⟨A',rfl⟩:=C1 hi;obtain⟨u,u7,eu,e3,e4⟩:=CU ok 0 lo w.toNat k i;obtain⟨rest,ho⟩:=C3 u7;rw[eu];refine#[u,rest,ho,_,Jb,by rw[Fo,GA,e3];rfl,?_];rw[GA];exact#[_,by rw[<-e4];rfl]
   .rintro z⟨o2,rfl⟩;k_places;refine#[be (.str (aG p 0 (lo+k) w.toNat)),o2,?_];rw[eE,gN,CV]
  .rintro z⟨o1,o2,rfl⟩;k_places;rw[show(ay p w lo n).length=n by unfold ay;simp,CW];exact hR
abbrev oU(V:Bx):Prop:=V.D 10 "field_rows" nH BA
def EF(T:V.T "field_rows" iB nH)(uB:V.m "range")(JQ:iL V)(A_:V.a "Pattern" "shifts"):oU V:=by
 refine Tx.okDW T CM (λds R h=>?_) (λf cdv A outer s H E J hr=>#[_,((au (aH (gv rfl (compScope (by change dm _ (ag iB) ["pattern"] _=true;decide+kernel)) uB (ah (eB A_ (aa 0)) ad) (λcl s0 H0 fp=>(aI JQ hr (ac (aa 0) (ac ad (ac (aa 1) (ac (ah (eB A_ (aa 0)) ad) af)))))))))),λds R h=>?_])
 .obtain⟨_,_,rfl,_⟩:=h;rfl
 .obtain⟨p,d,rfl,hd,ok,hR⟩:=h;obtain⟨w,h,s,fs,rfl,e1,e2,hp⟩:=id hd;have F:=hp.toFam;have sm:=ok.fits.small F;have wh:w*h<=720:=by
   obtain⟨w',h',s',f',hb⟩:=ok.fits;obtain⟨rfl,rfl,_⟩:=F.uniq f';exact hb
  refine#[rfl,_,e2,_,rfl,#[Jb,Jb],by rw[bN];lia,λk ys=>ys=(E8 k).map λ(y:Nat)=>D.str (aG p 0 (y:Int) w.toNat),rfl,?_,?_]
  .rintro k v ys hk hl rfl;obtain⟨t9,rfl⟩:=cb hk;refine#[rfl,_,e2,_,rfl,p,.obj "Pattern" fs,0,k,w.toNat,by rw[FC Jb],hd,ok,Jb,#[Jb,Jb],#[Jb,Jb],#[Jb,Jb],?_];show _=GP _ (E8 (k+1));rw[Gr,FG];rfl
  .rintro ys hl rfl;rw[bN];exact hR w h s F wh sm.2.1 sm.2.2.2.1
abbrev C_round_row(V:Bx):Prop:=V.D 2 "round_row" nJ BB
def EG(T:V.T "round_row" nI nJ)(x_:eY V):C_round_row V:=by
 refine Tx.okDW T sc_round_row (λds R h=>?_) (λf cdv A outer s H E J hr=>⟨_,((ao (aB 4 sc_round_row.nd (aI x_ hr (ac (aa 0) (ac (aa 2) (ac (aa 3) af)))))
   (ao (aB 5 sc_round_row.nd (ah (aa 1) (ah (aa 4) ad)))
   (au (aH (aD (dw (aa 5) (dv (ah (aa 4) ad)) du) (dw (aa 5) du (dv (ah (aa 4) ad))))))))),λds R h=>?_⟩)
 .obtain⟨_,_,_,_,_,_,rfl,_⟩:=h;rfl
 .obtain⟨p,w,h,s,x,y,rfl,F,w7,h7,hR⟩:=h;have f:=F.f;have y0:=Gh y (show h≠0 by have:=f.h0;lia);have y1:=Gi y f.h0;refine#[λd=>d=.tup [.int (hmX w h s x y),.int (y%h)],#[w,h,s,x,y,rfl,f.w0,f.h0,Jb,f.s0,by have:=f.sw;lia,rfl],?_];rintro _ rfl;k_places;refine#[λd=>d=.str (aG p 0 (y%h) w.toNat),#[_,rfl,_,?_,rfl],?_]
  .have e:y%h=(((y%h).toNat:Nat):Int):=by lia
   rw[e];exact cw (by rw[Fo,FT Jb];simp)
  rintro _ rfl;k_places;have l:=gN p 0 (y%h) w.toNat;refine#[_,rfl,Jb,_,rfl,Jb,?_];have e:=Bz f.w0 f.h0 (λ_ _ q=>F.keeps q) x y;refine#[?_,?_]
  .rw[<-bt,<-bt,<-Fp,<-bu,e,cY];simp;lia
  .rw[e];exact hR
abbrev oV(V:Bx):Prop:=V.D 1 "count_sign" nM BJ
def EH(T:V.T "count_sign" nK nM)(uA:V.m "len"):oV V:=by
 refine Tx.okDW T CN (λds R h=>?_) (λf cdv A outer s H E J hr=>#[_,((au (aH (aD (aM (bL (aa 2) (ck uA (ac (aa 0) af))) (sy (aa 0) (ac (aa 1) af))) (sy (dw (aa 0) du (dv (aJ (aa 2) (ck uA (ac (aa 0) af))))) (ac (aa 1) af)))))),λds R h=>?_])
 .obtain⟨_,_,_,_,_,_,rfl,_⟩:=h;rfl
 .obtain⟨p,x,y,v,m,w,rfl,ok,v0,v6,w0,w7,m0,m1,kw,hR⟩:=h;have l:=gN p x y w;have q0:0<=m/(w:Int):=Hr m0 Jb;have q1:m/(w:Int)<=m:=Hs _ m0;have r0:=Gh m (show(w:Int)≠0 by lia);have r1:=Gi m (show 0<(w:Int)by lia);have er:m%(w:Int)=(((m%(w:Int)).toNat:Nat):Int):=by lia
  have e2:Txt.slice (aG p x y w) z8 (be (m%(w:Int)))=aG p x y (m%(w:Int)).toNat:=by
   rw[er,BI p x y Jb];rfl
  refine#[Jb,#[by rw[l];lia,by rw[l];lia],.inl #[by rw[l];lia,by rw[l];lia],Jb,by rw[l];lia,Jb,?_];show R (.int (m/((aG p x y w).length:Int)*occC (aG p x y w) (aY v)+occC (Txt.slice (aG p x y w) z8 (be (m%((aG p x y w).length:Int)))) (aY v)));rw[l,e2,tL ok x y v0 v6,tL ok x y v0 v6];have JK:∀k:Nat,(λk:Nat=>p.show (x+k) y) (k+w)=(λk:Nat=>p.show (x+k) y) k:=λk=>by
   have:=kw (x+k) y;rw[FS]at this;show p.show (x+((k+w:Nat):Int)) y=p.show (x+(k:Int)) y;rw[<-this,Gm,Gz]
  have:=BF (f:=λk:Nat=>p.show (x+k) y) w0 JK v m.toNat;have d1:m/(w:Int)=((m.toNat/w:Nat):Int):=by rw[Int.natCast_ediv,FC m0]
  have d2:(m%(w:Int)).toNat=m.toNat%w:=by
   have:m%(w:Int)=((m.toNat%w:Nat):Int):=by rw[Ia,FC m0]
   lia
  rw[d1,d2,this];exact hR
abbrev jb(V:Bx):Prop:=V.X 11 "count_all" nN BQ
def EI(T:V.T "count_all" iC nN)(IE:V.m "max")(uB:V.m "range")(NA:V.m "min")(JB:V.m "enumerate")(Jz:iJ V)(NB:oU V)(NC:C_round_row V)(ND:oV V)(uR:V.gs "SIGNS" ".123456")(A_:V.a "Pattern" "shifts"):jb V:=by
  refine Tx.okXW T sc_count_all (λds R RX h=>?_) (λf cdv A outer s H E J hr hx=>⟨_,((ao (qS (rB Jz hx hr (ac (aa 1) (ac (aa 2) af))))
      (ao (qS (rB Jz hx hr (ac (aa 3) (ac (aa 4) af))))
      (ao (aB 5 sc_count_all.nd (eB A_ (aa 0)))
      (ao (aB 6 sc_count_all.nd (aI NB hr (ac (aa 0) af)))
      (ao (aB 7 sc_count_all.nd (jL rfl IE (ac (aD (bv (aa 3) (aa 1)) ad) (ac ad af))))
      (ao (aB 8 sc_count_all.nd (aM (ah (aa 5) ad) (ah (aa 5) ad)))
      (ao (zQ 9 rfl (compScope (by change dm _ (ag iC) ["pattern","left","top","right","bottom","family","rows","many","again","counts","y","times","row","hue","sign"] _=true;decide+kernel)) sc_count_all.nd (eD uR) (λcl s0 H0 fp=>ad))
      (ao (ye 10 PassesOwn.leaving rfl sc_count_all.nd uB (aa 2) (xN rfl NA (ac (aD (aa 4) ad) (ac (aD (aa 2) (aa 8)) af))) (ao (aB 11 sc_count_all.nd (aD (bL (bv (aa 4) (aa 10)) (aa 8)) ad))
        (ao (aB 12 sc_count_all.nd (aI NC hr (ac (aa 5) (ac (aa 6) (ac (aa 1) (ac (aa 10) af))))))
        (au (zU PassesOwn.leaving rfl JB (eD uR) (dg_cons 13 sc_count_all.nd (dg_cons 14 sc_count_all.nd cP)) (au (yf 9 (aD (xR 9 (aa 13)) (aM (aa 11) (aI ND hr (ac (aa 12) (ac (aa 14) (ac (aa 7) af)))))) (aa 13))))))))
      (eg 9 (au (aH (aa 9))))))))))))),λds R RX d3 h=>?_⟩)
  . obtain⟨_,_,_,_,_,_,rfl,_⟩:=h;rfl
  . obtain⟨p,d,left,top,right,a_,rfl,hd,ok,hR,hX⟩:=h;obtain⟨w,h,s,fs,rfl,e1,e2,hp⟩:=id hd;have F:=hp.toFam;have sm:=ok.fits.small F;refine#[left,top,rfl,λn1=>?_,λn1=>by rw[d3];exact hX λz=>n1 #[z.1,z.2.1]];refine#[right,a_,rfl,λn2=>?_,λn2=>by rw[d3];exact hX λz=>n2 #[z.2.2.1,z.2.2.2]];have hR:=hR #[n1.1,n1.2,n2.1,n2.2];unfold aX at n1 n2;refine#[λd=>d=.tup [.int w,.int h,.int s],#[rfl,_,e2,rfl],?_];rintro _ rfl;k_places;refine#[λd=>d=fK p w h/\w*h<=720,#[p,_,rfl,hd,ok,λw' h' s' F' hb _ _=>by obtain⟨rfl,rfl,rfl⟩:=F.uniq F';exact#[rfl,hb]],?_];rintro _⟨rfl,hb⟩;k_places;refine#[λd=>d=.int ((right-left+1).toNat:Nat),congrArg D.int (BP _),?_];rintro _ rfl;k_places;have Qm:0<w*h:=Fu F.f.w0 F.f.h0;refine#[λd=>d=.int (w*h),#[_,rfl,_,rfl,.inl #[Jb,Jb],rfl],?_];rintro _ rfl;k_places;generalize hm:(right-left+1).toNat=m at*;generalize hn:(a_-top+1).toNat=n at*;generalize hN:(w*h).toNat=N at*;refine#[Je,Je,λk ys=>ys=FD k (D.int 0),rfl,?_,?_]
    . rintro k v ys hk hl rfl;show _=FD (k+1) _;rw[List.replicate_succ']
    rintro ys hl rfl;have wN:w*h=(N:Int):=Jb
    have A':=BM (top:=top) hn wN;have QP:=tN n1.1 n2.1 hm;have QQ:=tN n1.2 n2.2 hn;refine#[BN #[n1.2.1,n1.2.2] #[n2.2.1,n2.2.2] Qm hb,λk z=>∃NE NF JZ y8 y9,z=[be (.obj "Pattern" fs),be (.int left),be (.int top),be (.int right),be (.int a_),be (.tup [.int w,.int h,.int s]),be (fK p w h),be (.int m),be (.int (w*h)),be (.own ((E8 7).map λ(v:Nat)=>D.int (bS p left top m n N k v))),NE,NF,JZ,y8,y9],#[z8,z8,z8,z8,z8,?_],?_,?_]
    . have e7:(bC (".123456":E_)).length=7:=by decide+kernel
      rw[e7];rfl
    . rintro k v z hk⟨NE,NF,JZ,y8,y9,rfl⟩;k_places;obtain⟨t9,rfl⟩:=range2_int hk;rw[A']at t9;refine#[λd=>d=.int (((n:Int)-1-k)/N+1),#[#[Jb,Jb],?_],?_]
      . rw[wN];congr 3;exact BO hn t9
      rintro _ rfl;k_places;refine#[λd=>d=.str (aG p left (top+k) w.toNat),#[p,w,h,s,left,top+k,rfl,F,sm.2.1,sm.2.2.2.1,rfl],?_];rintro _ rfl;k_places;refine#[Je,λi z=>∃y8 y9,z=[be (.obj "Pattern" fs),be (.int left),be (.int top),be (.int right),be (.int a_),be (.tup [.int w,.int h,.int s]),be (fK p w h),be (.int m),be (.int (w*h)),be (.own ((E8 7).map λ(v:Nat)=>D.int (if v<i then bS p left top m n N (k+1) v else bS p left top m n N k v))),be (.int (top+k)),be (.int (((n:Int)-1-k)/N+1)),be (.str (aG p left (top+k) w.toNat)),y8,y9],#[_,_,rfl],?_,?_]
      . rintro i v z hi⟨y8,y9,rfl⟩;k_places;rw[BL]at hi;have i7:i<7:=by simpa using(Fk.mp hi).1
        have ev:v=.str #[[aY (i:Int)].toArray]:=by
          rw[Fo,FT i7]at hi;exact(Option.some.inj hi).symm
        subst ev;have ci:=tJ (λk'=>p.show (left+k') (top+k)) i m;have tq:0<=((n:Int)-1-k)/N/\((n:Int)-1-k)/N<=(n:Int)-1-k:=#[Hr Jb Jb,Hs _ Jb];refine#[_,cw (by rw[Fo,FT i7];rfl),p,left,top+k,i,m,w.toNat,rfl,ok,Jb,Jb,Jb,Jb,Jb,Jb,by rw[FC Jb];exact F.across,?_];refine#[.inl #[Jb,Jb],i,?_,?_]
        . unfold ixN;rw[if_pos Jb,if_pos Qv];simp
        refine#[be (.int i),be (.str #[[aY (i:Int)].toArray]),?_];rw[GA,if_neg (FY i)];have e:bS p left top m n N k i+(((n:Int)-1-k)/N+1)*cntN (λk'=>p.show (left+k') (top+k)) i m=bS p left top m n N (k+1) i:=rfl;rw[e];have q:=tM (n:=7) (i:=i) (λ(v:Nat)=>D.int (if v<i then bS p left top m n N (k+1) v else bS p left top m n N k v)) (λ(v:Nat)=>D.int (if v<i+1 then bS p left top m n N (k+1) v else bS p left top m n N k v)) (λv hv ne=>by
          by_cases c:v<i
          . rw[if_pos c,if_pos Jb]
          . rw[if_neg c,if_neg Jb])
        rw[if_pos (show i<i+1 by lia)]at q;rw[q];rfl
      . rintro z⟨y8,y9,rfl⟩;k_places;refine#[be (.int (top+k)),be (.int (((n:Int)-1-k)/N+1)),be (.str (aG p left (top+k) w.toNat)),y8,y9,?_];have:∀v∈E8 7,D.int (if v<(bC (".123456":E_)).length then bS p left top m n N (k+1) v else bS p left top m n N k v)=D.int (bS p left top m n N (k+1) v):=λv hv=>by
          rw[if_pos (by  have e7:(bC (".123456":E_)).length=7:=by decide+kernel
                         rw[e7];simpa using hv)]
        rw[Gs this]
    . rintro z⟨NE,NF,JZ,y8,y9,rfl⟩;k_places;have e:((E8 ((if top+w*h<a_+1 then top+w*h else a_+1)-top).toNat).map λ(k:Nat)=>D.int (top+(k:Int))).length=min n N:=by simp[A']
      rw[e];have fold:∀v:Nat,bS p left top m n N (min n N) v=cB p v left top m n:=λv=>BK Jb (by rw[<-wN];exact F.down) v left top m n;simp only[fold];have e2:((E8 7).map λ(v:Nat)=>D.int (cB p v left top m n))=(cC p left top m n).map D.int:=by unfold cC;rw[Gx];rfl
      rw[e2];exact hR
def EJ:SpM:=λds M R _=>∃a q f,ds=[.ptr a]/\a≠q/\M=Fl.M f a q/\f.Ok/\R (.lst ((cC f.p 0 0 f.w.toNat f.l.toNat).map D.int)) (f.M a q)
abbrev oW(V:Bx):Prop:=V.Q 12 "Floor" "lies" nP EJ
def EK(T:V.Tm "Floor" "lies" "Floor.lies" nO nP)(J0:jb V)(uD:V.a "Floor" "laid")(uI:V.a "Floor" "width")(uE:V.a "Floor" "pattern"):oW V:=by
 refine Txm.okM T CO (λds M R RX h=>?_) (λf cdv A outer s H E J hr hx=>#[_,((am (az (aF (CalX.toM J0) hx hr (av (ax uE (ae (aa 0))) (av (ae ad) (av (ae ad) (av (cR (ax uI (ae (aa 0))) (ae ad)) (av (cR (ax uD (ae (aa 0))) (ae ad)) aT))))))))),λds M R RX d3 h=>?_])
 .obtain⟨_,_,_,rfl,_⟩:=h;rfl
 .obtain⟨a,q,f,rfl,ne,rfl,ok,hR⟩:=h;have w1:=ok.w1;have w2:=ok.w2;have l0:=ok.l0;have l1:=ok.l1;have h2:=ok.h2;refine#[_,Fl.ma ne,_,fP,_,Fl.ma ne,_,eV,_,Fl.ma ne,_,dL,f.p,f.d,0,0,f.w-1,f.l-1,rfl,ok.is,ok.ok,λ_=>?_,λz=>absurd #[#[Jb,Jb],#[Jb,Jb],#[Jb,Jb],Jb,Jb] z];rw[show(f.w-1-0+1).toNat=f.w.toNat by lia,show(f.l-1-0+1).toNat=f.l.toNat by lia];exact hR
def EL:SpM:=λds M R _=>∃a q f,ds=[.ptr a]/\a≠q/\M=Fl.M f a q/\f.Ok/\R (.lst ((cC f.p 0 f.l f.w.toNat (f.h-f.l).toNat).map D.int)) (f.M a q)
abbrev oX(V:Bx):Prop:=V.Q 12 "Floor" "still" nR EL
def EM(T:V.Tm "Floor" "still" "Floor.still" nQ nR)(J0:jb V)(uV:V.a "Floor" "height")(uI:V.a "Floor" "width")(uD:V.a "Floor" "laid")(uE:V.a "Floor" "pattern"):oX V:=by
 refine Txm.okM T CP (λds M R RX h=>?_) (λf cdv A outer s H E J hr hx=>#[_,((am (az (aF (CalX.toM J0) hx hr (av (ax uE (ae (aa 0))) (av (ae ad) (av (ax uD (ae (aa 0))) (av (cR (ax uI (ae (aa 0))) (ae ad)) (av (cR (ax uV (ae (aa 0))) (ae ad)) aT))))))))),λds M R RX d3 h=>?_])
 .obtain⟨_,_,_,rfl,_⟩:=h;rfl
 .obtain⟨a,q,f,rfl,ne,rfl,ok,hR⟩:=h;have w1:=ok.w1;have w2:=ok.w2;have l0:=ok.l0;have l1:=ok.l1;have h2:=ok.h2;refine#[_,Fl.ma ne,_,fP,_,Fl.ma ne,_,dL,_,Fl.ma ne,_,eV,_,Fl.ma ne,_,iE,f.p,f.d,0,f.l,f.w-1,f.h-1,rfl,ok.is,ok.ok,λ_=>?_,λz=>absurd #[#[Jb,Jb],#[Jb,Jb],#[Jb,Jb],Jb,Jb] z];rw[show(f.w-1-0+1).toNat=f.w.toNat by lia,show(f.h-1-f.l+1).toNat=(f.h-f.l).toNat by lia];exact hR
def EN:SpM:=λds M R _=>∃a q f,ds=[.ptr a]/\a≠q/\M=Fl.M f a q/\R (.int f.ds.length) (f.M a q)
abbrev oY(V:Bx):Prop:=V.Q 1 "Floor" "kept" nU EN
def EO(T:V.Tm "Floor" "kept" "Floor.kept" nS nU)(uA:V.m "len")(uQ:V.a "Floor" "deeds"):oY V:=by
 refine Txm.okM T CQ (λds M R RX h=>?_) (λf cdv A outer s H E J hr hx=>#[_,((am (az (gI uA (ax uQ (ae (aa 0))))))),λds M R RX d3 h=>?_])
 .obtain⟨_,_,_,rfl,_⟩:=h;rfl
 .obtain⟨a,q,f,rfl,ne,rfl,hR⟩:=h;refine#[_,Fl.ma ne,_,iF,_,Fl.mq,?_];rw[Fs];exact hR
def EQ:SpM:=λds M R _=>∃a q f,ds=[.ptr a,.str f.p.text,.tup [.int f.w,.int f.h],.lst (ay f.p f.w 0 f.l.toNat),.lst (ay f.p f.w f.l (f.h-f.l).toNat),.int f.ds.length]/\a≠q/\M=Fl.M f a q/\f.Ok/\R (.bl true) (f.M a q)
abbrev oZ(V:Bx):Prop:=V.MM 13 "_law_view" nW EQ
def ER(T:V.T "_law_view" nV nW)(uL:V.m "isinstance")(uP:V.m "str")(uZ:fR V)(NG:oQ V)(Lw:oR V)(Lx:oS V)(B_:V.a "Floor" "text")(uI:V.a "Floor" "width")(uV:V.a "Floor" "height")(JS:iM V)(NH:oW V)(NI:oX V)(NJ:oY V):oZ V:=by
 refine Tx.okM T sc__law_view (λds M R RX h=>?_) (λf cdv A outer s H E J hr hx=>⟨_,((ai (aW (mt_w (dA (dI (cZ (B6 uL uP (ax B_ (ae (aa 0))) PyProof.Rows.boot_str kit_str))) (eF (jU (ax B_ (ae (aa 0))) (ae (aa 1)))))) (am (az (ae br))) aQ)
   (ai (aW (mt_w (dA (dI (cZ (aF (CalD.toM uZ) hx hr (av (ax uI (ae (aa 0))) aT)))) (eF (jU (ax uI (ae (aa 0))) (ae (ah (aa 2) ad)))))) (am (az (ae br))) aQ)
   (ai (aW (mt_w (dA (dI (cZ (aF (CalD.toM uZ) hx hr (av (ax uV (ae (aa 0))) aT)))) (eF (jU (ax uV (ae (aa 0))) (ae (ah (aa 2) ad)))))) (am (az (ae br))) aQ)
   (ai (aW (dI (cZ (aF (CalD.toM NG) hx hr (av (bR (CalMth.one (CalMth.lendD JS)) hx hr (ae (aa 0))) (av (ae (aa 3)) aT))))) (am (az (ae br))) aQ)
   (ai (aW (dI (cZ (aF (CalD.toM Lw) hx hr (av (bR (CalMth.one NH) hx hr (ae (aa 0))) (av (ae (aI Lx hr (ac (aa 3) af))) aT))))) (am (az (ae br))) aQ)
   (ai (aW (dI (cZ (aF (CalD.toM Lw) hx hr (av (bR (CalMth.one NI) hx hr (ae (aa 0))) (av (ae (aI Lx hr (ac (aa 4) af))) aT))))) (am (az (ae br))) aQ)
   (ai (aC 6 sc__law_view.nd (bR (CalMth.one NJ) hx hr (ae (aa 0))))
   (am (az (ae (gj (aI uZ hr (ac (aa 6) af)) (gh (fo (aa 6) (aa 5))))))))))))))),λds M R RX d3 h=>?_⟩)
 .obtain⟨_,_,_,rfl,_⟩:=h;rfl
 .obtain⟨a,q,f,rfl,ne,rfl,ok,hR⟩:=h;have w1:=ok.w1;have w2:=ok.w2;have l0:=ok.l0;have l1:=ok.l1;have h2:=ok.h2;have ec:∀lo n,(cC f.p 0 lo f.w.toNat n).length=7:=λlo n=>by unfold cC;simp
  refine#[_,Fl.ma ne,_,tY,?_];dsimp only[jH];refine ite2 (λc=>nomatch c) λ_=>#[_,Fl.ma ne,_,tY,ite2 (λc=>absurd c J4) λ_=>?_];refine#[_,Fl.ma ne,_,eV,_,rfl,ite2 (λc=>nomatch c) λ_=>#[_,Fl.ma ne,_,eV,_,rfl,ite2 (λc=>absurd c J4) λ_=>?_]];refine#[_,Fl.ma ne,_,iE,_,rfl,ite2 (λc=>nomatch c) λ_=>#[_,Fl.ma ne,_,iE,_,rfl,ite2 (λc=>absurd c J4) λ_=>?_]];refine#[_,E6.mpr rfl,_,Fl.ma ne,rfl,?_];dsimp only[mNil];refine ue ne ok #[f.p,f.w,0,_,rfl,Jb,ite2 (λc=>nomatch c) λ_=>?_];refine#[_,E6.mpr rfl,_,Fl.ma ne,rfl,a,q,f,rfl,ne,rfl,ok,f.p,f.w,0,_,rfl,ok.ok,Jb,w2,Jb,_,rfl,ec _ _,ite2 (λc=>nomatch c) λ_=>?_];refine#[_,E6.mpr rfl,_,Fl.ma ne,rfl,a,q,f,rfl,ne,rfl,ok,f.p,f.w,f.l,_,rfl,ok.ok,Jb,w2,Jb,_,rfl,ec _ _,ite2 (λc=>nomatch c) λ_=>?_];refine#[λd M'=>d=.int f.ds.length/\M'=f.M a q,#[_,E6.mpr rfl,_,Fl.ma ne,rfl,a,q,f,rfl,ne,rfl,rfl,rfl],?_];rintro _ _⟨rfl,rfl⟩;k_places;refine#[_,rfl,?_];show R (.bl (decide ((f.ds.length:Int)=f.ds.length))) (f.M a q);rw[decide_eq_true rfl];exact hR
def ES:SiM:=λa ds R=>∃p w h,ds=[.str (Pat.text p),.int w,.int h]/\p.Ok/\∀d q,bf p d->a≠q->R (Fl.M #[p,d,w,h,0,[]] a q)
abbrev pd(V:Bx):Prop:=V.N 19 "Floor" nY ES
def ET(T:V.Ti "Floor" "Floor.__init__" nX nY)(JW:iZ V)(uE:V.a "Floor" "pattern")(B_:V.a "Floor" "text")(uI:V.a "Floor" "width")(uV:V.a "Floor" "height")(uD:V.a "Floor" "laid")(uQ:V.a "Floor" "deeds"):pd V:=by
 refine Txi.okIN T CS (λa ds R h=>?_) (λf cdv A outer s H E J hr hx=>⟨_,((ai (bF uE (ae (aa 0)) (aF (CalX.toM JW) hx hr (ar (ac (aa 1) af))))
   (ai (bF B_ (ae (aa 0)) (ae (aa 1)))
   (ai (bF uI (ae (aa 0)) (ae (aa 2)))
   (ai (bF uV (ae (aa 0)) (ae (aa 3)))
   (ai (bF uD (ae (aa 0)) (ae ad))
   (am (bF uQ (ae (aa 0)) (eG (ar af)))))))))),λa ds R JF h=>?_⟩)
 .obtain⟨_,_,_,rfl,_⟩:=h;rfl
 .obtain⟨p,w,h,rfl,ok,hR⟩:=h;refine tF (RX:=λ_ _=>True) ok λd hd=>?_;refine#[_,cv,by show(0:Nat)<1000;decide,?_];rw[cE];refine#[_,cv,Ob,?_];rw[cE];refine#[_,cv,by show(2:Nat)<1000;decide,?_];rw[cE];refine#[_,cv,by show(3:Nat)<1000;decide,?_];rw[cE];refine#[_,cv,by show(4:Nat)<1000;decide,?_];rw[cE];refine#[by show(0:Nat)<=1000;decide,λq hq=>?_];have ne:a≠q:=λe=>hq (e ▸ Fi);refine#[_,(da (Ne.symm ne)).trans cv,by show(5:Nat)<1000;decide,?_];rw[dJ (Ne.symm ne),cE];exact hR d q hd ne
def ui{g:Fl}(ok:g.Ok)(sh:g.p.show=p.show):cutD (ay p g.w 0 g.h.toNat) z8 (be g.l)=ay g.p g.w 0 g.l.toNat/\cutD (ay p g.w 0 g.h.toNat) (be g.l) z8=ay g.p g.w g.l (g.h-g.l).toNat:=by
 have q0:=ok.l0;have q1:=ok.l1;have e1:=C5 (p:=g.p) (w:=g.w) (lo:=0) (n:=g.h.toNat) (k:=g.l.toNat) Jb;have e2:=ub g.p g.w (g.h-g.l).toNat q0;rw[show g.l.toNat+(g.h-g.l).toNat=g.h.toNat by lia]at e2;rw[FC q0]at e1;rw[<-rowsD_show sh];exact#[e1,e2]
def NoOwn.set{z:SD}(h:NoOwn z)(i:Nat)(hd:nown [be d]=true):NoOwn (z.set i (be d)):=λj ds e=>by
 by_cases hj:i=j
 .subst hj;rw[List.getElem?_set_self']at e;cases q:z[i]? with
  |none=>rw[q]at e;cases e
  |some x=>rw[q]at e;cases e;cases hd
 .rw[Fj hj]at e;exact h j ds e
def Fl.Ok.undone{e:Deed}{es:List Deed}(ok:f.Ok)(h:f.ds=es++[e]):(f.undone e es).Ok:=by
 have hl:=ok.de;rw[h,Fp]at hl;obtain⟨i,o,a,b⟩:=ok.dd e (by rw[h];exact Fw _ (E6.mpr rfl));exact#[i,o,ok.w1,ok.w2,ok.h1,ok.h2,a,b,Fg (Nat.le_add_right _ _) hl,λx hx=>ok.dd x (by rw[h];exact Ga _ hx)]
def EU{fa:Addr}{fd:Q8}(F:Fun V.K "law" "law" iD fa fd)(uL:V.m "isinstance")(uP:V.m "str")(uA:V.m "len")(NK:ol V)(w_:iG V)(NL:ou V)(JM:iH V)(NM:oN V)(Ly:oP V)(Lz:oZ V)(uZ:fR V)(Jw:V.gi "KEPT" 20)(NN:pd V):FnOk V.P V.w V.K V.mg V.base (Exc.CX1 V.P V.w) 22 fa fd nZ (lSp V.K et):=by
 refine B5 (Fun.okM F sc_law (λds M R RX h=>?_) (λcdv A outer s H E J hr hx=>⟨_,((ai (aC 1 sc_law.nd (ae (aI NK hr (ac (aa 0) (ac ad af)))))
   (ai (aC 2 sc_law.nd (ae (aD ad (aJ (aI w_ hr (ac (aa 0) (ac ad af))) ad))))
   (ai (aC 3 sc_law.nd (ae (aD ad (aJ (aI w_ hr (ac (aa 0) (ac ad af))) ad))))
   (ai (aC 4 sc_law.nd (ae (aI NL hr (ac (ah (aa 1) ad) (ac (aa 2) (ac (aa 3) af))))))
   (ai (aC 5 sc_law.nd (B3 NN hr (ar (ac (ah (aa 1) ad) (ac (aa 2) (ac (aa 3) af))))))
   (ai (aC 6 sc_law.nd (ae (aN (ac (ah (aa 1) ad) (ac ad (ac (aD aA (ah (aa 1) ad)) af))))))
   (ai (aC 7 sc_law.nd (eG (ar af)))
   (ai (aC 8 sc_law.nd (ae (aI JM hr (ac (aa 0) (ac ad (ac ad af))))))
   (ai (aC 9 sc_law.nd (ae (aJ (aI w_ hr (ac (aa 0) (ac ad af))) ad)))
   (ai (aC 10 sc_law.nd (ae (aM ad (aJ (aI w_ hr (ac (aa 0) (ac ad af))) ad))))
   (ai (aC 11 sc_law.nd (ae ad))
   (ai (rY PassesOwn.leaving (mt_w (dA (bj (gf (aa 9) ad)) (eF (Cf (fk hr) (ae (aa 7)))))) (ai (eH (bj (gf (aa 9) ad)) (ai (aC 9 sc_law.nd (ae (bv (aa 9) ad)))
     (ai (aC 12 sc_law.nd (aF (CalMM.frame NM) hx hr (ar (ac (aa 5) (ac (xq (aJ (ah (aa 8) (aa 9)) ad) ad) (ac (aa 6) (ac (aa 3) af)))))))
     (ai (aW (bj (xy (aa 12) bU)) (am (az (ae br))) aQ)
     (ai (aC 7 sc_law.nd (tV (tU (ae (aa 7)) (eG (ar (ac (aN (ac (ah (aa 12) ad) (ac (aa 6) af))) af)))) (kD (ae (cH ad))) kC))
     (am (aC 6 sc_law.nd (ae (ah (aa 12) ad)))))))) (ai (B8 rfl (tW (ae (aa 7))) (dg_cons 13 sc_law.nd (dg_cons 6 sc_law.nd cP)))
     (ai (aC 14 sc_law.nd (aF (CalMM.frame Ly) hx hr (ar (ac (aa 5) af))))
     (ai (aW (bj (cO (fu (dX (cy (dY uL uP (aa 14) PyProof.Rows.boot_str kit_str))) (ft (cm (aa 14) (aa 13)))))) (am (az (ae br))) aQ)
     (ai (aC 11 sc_law.nd (ae (aD (aa 11) ad)))
     (am (eH (bj (bA (aa 11) ad)) (am (aC 9 sc_law.nd (ae (aa 10)))) aQ)))))))
    (ai (ki (λ_=>(jJ rfl (aa 6) (dg_cons 15 sc_law.nd (dg_cons 16 sc_law.nd (dg_cons 17 sc_law.nd cP))))))
    (am (aW (dI (cZ (aF (CalMM.frame Lz) hx hr (av (ae (aa 5)) (av (ae (aa 15)) (av (ae (aN (ac (aa 2) (ac (aa 3) af)))) (av (ae (dw (aa 4) du (dv (aa 16)))) (av (ae (dw (aa 4) (dv (aa 16)) du)) (av (gI uA (ae (aa 7))) aT))))))))) (am (az (ae br))) aQ)))))
   (ai (ki (λ_=>(jJ rfl (aa 6) (dg_cons 15 sc_law.nd (dg_cons 16 sc_law.nd (dg_cons 17 sc_law.nd cP))))))
   (ai (aW (mt_w (dA (tX (fk hr) (aF (CalMM.frame Ly) hx hr (ar (ac (aa 5) af))) (ae (aN (ac aA af)))) (dA (bj (dX (cy (aI uZ hr (ac (cQ Jw) af))))) (eF (bj (cm (cQ Jw) ad)))))) (am (az (ae br))) aQ)
   (am (az (aF (CalMM.frame Lz) hx hr (ar (ac (aa 5) (ac (aa 15) (ac (aN (ac (aa 2) (ac (aa 3) af))) (ac (dw (aa 4) du (dv (aa 16))) (ac (dw (aa 4) (dv (aa 16)) du) (ac ad af))))))))))))))))))))))))),λds M R RX d3 h=>?_⟩))
 .obtain⟨rfl,_,⟨ns,rfl,_⟩,rfl⟩:=h;rfl
 .obtain⟨rfl,R0,⟨ns,rfl,hl,hR⟩,rfl⟩:=h;refine#[λd M'=>M'=[]/\∃p:Pat,d=p.D/\p.Ok/\p.depth=0,#[ns,6,rfl,Ji,λL a b c d h1 h2 h3 h4 h5 h6=>#[rfl,.mot L a b c d,rfl,#[#[h1,h2,h3,h4,h5,h6],by simp[Pat.depth],Pat.fits_mot h2 h3 h4 h5 h6],by simp[Pat.depth]]],?_];rintro _ _⟨rfl,p,rfl,n6,p0⟩;k_places;refine#[λd M'=>M'=[]/\∃w:Int,d=.int w/\1<=w/\w<=4,#[ns,0,rfl,Ji,Ji,rfl,_,rfl,Jb,Jb],?_];rintro _ _⟨rfl,w,rfl,w1,w2⟩;k_places;refine#[λd M'=>M'=[]/\∃w:Int,d=.int w/\1<=w/\w<=30,#[ns,1,rfl,Ji,Ji,rfl,_,rfl,Jb,Jb],?_];rintro _ _⟨rfl,h,rfl,h1,h2⟩;k_places;refine#[λd M'=>M'=[]/\d=.lst (ay p w 0 h.toNat),#[_,rfl,p,w,h,rfl,n6,Jb,Jb,Jb,Jb,rfl,rfl],?_];rintro _ _⟨rfl,rfl⟩;k_places;refine#[λd M'=>∃a qa d0,d=.ptr a/\a≠qa/\bf p d0/\M'=Fl.M #[p,d0,w,h,0,[]] a qa,#[_,rfl,λa _=>#[p,w,h,rfl,n6,λd0 qa is ne=>#[a,qa,d0,rfl,ne,is,rfl]]],?_];rintro _ _⟨a,qa,d0,rfl,ne,is,rfl⟩;k_places;have OL:=Fl.ok_new is n6 w1 Jb h1 h2;refine#[λd M'=>d=St3 p (oth p) 0/\M'=Fl.M #[p,d0,w,h,0,[]] a qa,#[_,rfl,_,rfl,?_,by show(3:Nat)<=1000;decide,?_,rfl],?_]
  .have:=Pat.text_short n6.wf n6.deep;show 2+p.text.length<=_;lia
  .show D.tup [D.str p.text,D.int 0,D.str (("mm":E_)++p.text)]=_;rw[C6,St3,og p0]
  rintro _ _⟨rfl,rfl⟩;k_places;refine#[λd M'=>∃pp,d=.ptr pp/\M'=(pp,.lst [])::Fl.M #[p,d0,w,h,0,[]] a qa,#[Ji,λpb _=>#[pb,rfl,rfl]],?_];rintro _ _⟨pp,rfl,rfl⟩;k_places;refine#[λd M'=>M'=(pp,.lst [])::Fl.M #[p,d0,w,h,0,[]] a qa/\∃xs:List Int,d=.lst (xs.map D.int)/\xs.length=50,#[ns,3,50,rfl,Ji,Ji,λxs xl _=>#[rfl,xs,rfl,xl]],?_];rintro _ _⟨rfl,xs,rfl,xl⟩;k_places;refine#[λd M'=>M'=(pp,.lst [])::Fl.M #[p,d0,w,h,0,[]] a qa/\∃n:Nat,d=.int n/\n<=45,#[ns,2,rfl,Ji,Ji,rfl,(cell ns 2%46).toNat,by rw[FC Jb],Jb],?_];rintro _ _⟨rfl,left,rfl,y_⟩;k_places;refine#[λd M'=>M'=(pp,.lst [])::Fl.M #[p,d0,w,h,0,[]] a qa/\∃n:Nat,d=.int n/\n<=2,#[ns,5,rfl,Ji,Ji,.inl #[Ji,Ji],rfl,(2*(cell ns 5%2)).toNat,by rw[FC Jb],Jb],?_];rintro _ _⟨rfl,more,rfl,OM⟩;k_places;refine#[λd M'=>d=.int (0:Nat)/\M'=(pp,.lst [])::Fl.M #[p,d0,w,h,0,[]] a qa,#[rfl,rfl],?_];rintro _ _⟨rfl,rfl⟩;k_places
  let W:Nat->SD->MS->Prop:=λk z M=>∃(f:Fl) (q pp:Addr) (G:MS) (left un:Nat) (JZ y8 y9 ON OO OP:Option D),z=[be (.rol (ns.map D.int)),be p.D,be (.int w),be (.int h),be (.lst (ay p w 0 h.toNat)),be (.ptr a),be (St3 f.p (oth f.p) f.l),be (.ptr pp),be (.lst (xs.map D.int)),be (.int left),be (.int more),be (.int un),JZ,y8,y9,ON,OO,OP]/\M=(pp,.lst (f.ds.map bJ))::(G++f.M a q)/\a≠q/\f.Ok/\f.w=w/\f.h=h/\Spelt p f.p/\(∀e∈f.ds,Spelt p e.p)/\left<=45/\k=2*left+f.ds.length+(if un<3 then 10 else 0)/\NoOwn z
  refine#[W,#[_,_,qa,pp,[],left,0,_,_,_,_,_,_,rfl,rfl,ne,OL,rfl,rfl,.inl rfl,(λ_ h=>nomatch h),y_,rfl,NoOwn.of rfl],?_];clear OL ne is y_ left;rintro m z M'⟨f,q,pp,G,left,un,JZ,y8,y9,ON,OO,OP,rfl,rfl,ne,IH,rfl,rfl,sf,sd,y_,rfl,hn⟩;k_places;have Lv:(oth f.p).Ok:=Spelt.ok p0 n6 (Spelt.oth p0 sf).1;have Qn:=(Spelt.oth p0 sf).2;have Qo:(oth f.p).show=f.p.show:=by rw[Spelt.shw (Spelt.oth p0 sf).1,Spelt.shw sf]
  have de:=IH.de;refine ite2 (λc=>?_) (λc=>?_)
  focus
   have c':0<left:=by have:=of_decide_eq_true c;lia
   refine#[λz M=>∃k,k<2*left+f.ds.length+(if un<3 then 10 else 0)/\W k z M,ite2 (λ_=>?_) (λz=>absurd c z),?_]
   .refine#[λd M'=>d=.int (left-1:Nat)/\M'=(pp,.lst (f.ds.map bJ))::(G++f.M a q),#[congrArg D.int Jb,rfl],?_];rintro _ _⟨rfl,rfl⟩;k_places;refine#[λd M'=>∃(g:Fl) (q':Addr) (wd:E_),d=.lst [.str wd,St3 g.p (oth g.p) g.l]/\M'=(pp,.lst (f.ds.map bJ))::(G++g.M a q')/\a≠q'/\g.Ok/\g.w=f.w/\g.h=f.h/\Spelt p g.p/\g.ds=(f.keep wd).ds,#[_,kq Jb Jb,Ji,(pp,_)::G,f.M a q,rfl,a,q,f,_,oth f.p,rfl,ne,rfl,IH,Lv,λx y _ _ _ _=>by rw[Qo],λhh q' d5=>?_,λd q' is d5=>?_],?_]
    .exact#[f.lay 1,q',"lay",rfl,rfl,d5,IH.lay Ji Jb,rfl,rfl,sf,rfl]
    .refine#[(f.keep "change").stand (oth f.p) d,q',"change",?_,rfl,d5,(IH.keep _).stand is Lv,rfl,rfl,(Spelt.oth p0 sf).1,rfl];show _=D.lst [.str "change",St3 (oth f.p) (oth (oth f.p)) f.l];rw[Qn]
    rintro _ _⟨g,q',wd,rfl,rfl,d5,K3,ew,eh,sg,IL⟩;k_places;have NO:cutD (f.ds.map bJ++[.tup [.str wd,St3 f.p (oth f.p) f.l]]) (be (-20)) z8=g.ds.map bJ:=by
     rw[tZ,IL];show _=GP bJ ((f.ds++[_]).drop _);rw[Il,FG,Fp,Fs];rfl
    refine#[λd M'=>∃p2 G',d=.ptr p2/\M'=(p2,.lst (g.ds.map bJ))::(G'++g.M a q'),#[_,rfl,LS,NU,λpb hb=>#[_,_,(da λe=>hb (by rw[e];exact Fi)).trans bH,bH,by rw[Fs];show _+1<=100000;lia,λp1 h1=>#[_,bH,λp2 h2=>#[p2,(p1,_)::(pb,_)::(pp,_)::G,rfl,by rw[<-NO];rfl]]]],?_];rintro _ _⟨p2,G',rfl,rfl⟩;k_places;refine#[λd M'=>d=St3 g.p (oth g.p) g.l/\M'=(p2,.lst (g.ds.map bJ))::(G'++g.M a q'),#[_,rfl,rfl,rfl],?_];rintro _ _⟨rfl,rfl⟩;k_places;have b8:g.ds.length<=f.ds.length+1:=by
     rw[IL];show((f.ds++[_]).drop _).length<=_;rw[F6,Fp];exact Nat.sub_le _ _
    refine#[_,Jb,g,q',p2,G',left-1,un,_,_,_,_,_,_,rfl,rfl,d5,K3,ew,eh,sg,λe he=>?_,Jb,rfl,((((hn.set 9 (d:=.int (left-1:Nat)) rfl).set 12 (d:=.lst [.str wd,St3 g.p (oth g.p) g.l]) rfl).set 7 (d:=.ptr p2) rfl).set 6 (d:=St3 g.p (oth g.p) g.l) rfl)];rw[IL]at he;rcases FH.mp (Im he)with z|z
    .exact sd e z
    .rw[E6.mp z];exact sf
  rotate_left
  focus
   have c':left=0:=by
    have:¬(0:Int)<left:=λz=>c (decide_eq_true z);lia
   subst c';refine#[_,bH,?_];by_cases q8:f.ds=[]
   .rw[show(!(f.ds.map bJ).isEmpty)=false by rw[q8];rfl];have r_:=((hn.set 15 (d:=.str f.p.text) rfl).set 16 (d:=.int f.l) rfl).set 17 (d:=.str (oth f.p).text) rfl;refine#[rfl,?_,r_];refine#[(pp,_)::G,f.M a q,rfl,a,q,f,rfl,ne,rfl,λ_=>?_,λes e he=>absurd (q8.symm.trans he) J4];refine#[NU,#[rfl,rfl],?_];refine#[_,rfl,LS,(pp,_)::G,f.M a q,rfl,a,q,f,?_,ne,rfl,IH,hR];have e1:=ui IH (Spelt.shw sf);show[D.ptr a,D.str f.p.text,D.tup [D.int f.w,D.int f.h],D.lst (cutD (ay p f.w 0 f.h.toNat) z8 (be f.l)),D.lst (cutD (ay p f.w 0 f.h.toNat) (be f.l) z8),D.int 0]=_;rw[e1.1,e1.2,q8];rfl
   rw[show(!(f.ds.map bJ).isEmpty)=true by cases q:f.ds<;>first|exact absurd q q8|rfl];obtain⟨es,e,he⟩:∃es e,f.ds=es++[e]:=#[_,_,(Ip q8).symm];have QR:f.ds.length=es.length+1:=by rw[he,Fp];rfl
   refine#[λz M=>∃k,k<2*0+f.ds.length+(if un<3 then 10 else 0)/\W k z M,?_,?_]
   .refine#[_,bJ e,bH,by rw[he];simp,rfl,?_];rw[kz];refine#[λd M'=>d=.str e.w/\M'=(pp,.lst (es.map bJ))::(G++(f.undone e es).M a q),#[(pp,_)::G,f.M a q,rfl,a,q,f,rfl,ne,rfl,λh=>absurd h q8,λK6 e' Ks=>?_],?_]
    .have h1:=he.symm.trans Ks;obtain⟨rfl,h2⟩:=List.append_inj' h1 rfl;cases h2;exact#[(IH.dd e (by rw[he];exact Fw _ (E6.mpr rfl))).1,rfl,by rw[he,FG];simp]
    rintro _ _⟨rfl,rfl⟩;k_places;refine ite2 (λc=>absurd c J4) (λ_=>?_);refine#[λd M'=>d=.int (un+1:Nat)/\M'=(pp,.lst (es.map bJ))::(G++(f.undone e es).M a q),#[rfl,rfl],?_];rintro _ _⟨rfl,rfl⟩;k_places;have OQ:=(((hn.set 13 (d:=.str e.w) rfl).set 6 (d:=St3 e.p (oth e.p) e.l) rfl).set 14 (d:=.str e.w) rfl).set 11 (d:=.int (un+1:Nat)) rfl;have se:Spelt p e.p:=sd e (by rw[he];exact Fw _ (E6.mpr rfl));have OR:∀x∈es,Spelt p x.p:=λx hx=>sd x (by rw[he];exact Ga _ hx);refine#[λz M=>∃k,k<2*0+f.ds.length+(if un<3 then 10 else 0)/\W k z M,ite2 (λc=>?_) (λc=>?_),λz M h=>h]
    .have c2:un=2:=by have:=of_decide_eq_true c;lia
     subst c2;refine#[λd M'=>d=.int more/\M'=(pp,.lst (es.map bJ))::(G++(f.undone e es).M a q),#[rfl,rfl],?_];rintro _ _⟨rfl,rfl⟩;k_places;exact#[_,by show 2*more+es.length+0<2*0+f.ds.length+10;lia,f.undone e es,q,pp,G,more,3,_,_,_,_,_,_,rfl,rfl,ne,IH.undone he,rfl,rfl,se,OR,Jb,rfl,OQ.set 9 (d:=.int more) rfl]
    .have c2:¬un=2:=λz=>c (decide_eq_true (by rw[z];rfl));exact#[_,by show 2*0+es.length+(if un+1<3 then 10 else 0)<_;split<;>split<;>lia,f.undone e es,q,pp,G,0,un+1,_,_,_,_,_,_,rfl,rfl,ne,IH.undone he,rfl,rfl,se,OR,Jb,rfl,OQ]
  all_goals
   rintro _ _⟨k,hk,g,q',OS,G',K4,Qp,QS,QT,QU,QV,QW,QX,rfl,rfl,d5,K3,ew,eh,sg,Qq,Kh,rfl,f8⟩;k_places;have r_:=((f8.set 15 (d:=.str g.p.text) rfl).set 16 (d:=.int g.l) rfl).set 17 (d:=.str (oth g.p).text) rfl;refine#[rfl,?_,r_];refine#[LS,_,bH,(OS,_)::G',g.M a q',rfl,a,q',g,?_,d5,rfl,K3,?_]
   .have e1:=ui K3 (Spelt.shw sg);show[D.ptr a,D.str g.p.text,D.tup [D.int f.w,D.int f.h],D.lst (cutD (ay p f.w 0 f.h.toNat) z8 (be g.l)),D.lst (cutD (ay p f.w 0 f.h.toNat) (be g.l) z8),D.int (g.ds.map bJ).length]=_;rw[Fs,<-ew,<-eh,e1.1,e1.2]
   .exact#[_,hk,g,q',OS,G',K4,Qp,_,_,_,_,_,_,rfl,rfl,d5,K3,ew,eh,sg,Qq,Kh,rfl,r_]
end
abbrev EV:Q0:=aL (top 2) 0
abbrev EW:Q0:=aL (top 3) 0
local macro_rules | `(tactic| walk_at "b1") => `(tactic| exact zN λ_ _ _ _ _ _ _ => rfl)
local macro_rules | `(tactic| walk_at "b2") => `(tactic| exact bind2 λ_ _ _ _ _ _ _ _ => rfl)
local macro_rules | `(tactic| walk_at "b3") => `(tactic| exact bind3 λ_ _ _ _ _ _ _ _ _ => rfl)
local macro_rules | `(tactic| walk_at "b4") => `(tactic| exact bind4 λ_ _ _ _ _ _ _ _ _ _ => rfl)
local macro_rules | `(tactic| walk_at "b5") => `(tactic| exact bind5 λ_ _ _ _ _ _ _ _ _ _ _ => rfl)
local macro_rules | `(tactic| walk_at "b6") => `(tactic| exact bind6 λ_ _ _ _ _ _ _ _ _ _ _ _ => rfl)
local macro_rules | `(tactic| walk_at "bd") => `(tactic| exact λ_ _ _ _ _ _ _ _ _ _ _ _ _ _ h hs => ⟨.of_defaults rfl h hs rfl rfl, .of_defaults rfl h hs rfl rfl⟩)
structure TopIn(K:Ex):Prop where
 uLS:FnIn K "_law_at" kF
 uGC:FnIn K "_law_draws" kH
 uJP:FnIn K "_law_lines" kJ
 uEO:FnIn K "_law_shift_pair" kL
 uJI:FnIn K "_law_motif_text" kN
 uGB:FnIn K "_law_motif" kP
 uJS:FnIn K "_law_on" kR
 uFE:FnIn K "_law_leaf_shows" kT
 uFV:FnIn K "_law_shows" kW
 uGK:FnIn K "_law_floor_rows" gR
 uKU:FnIn K "refuse_far" lh
 uGA:FnIn K "home" lm
 uGI:FnIn K "cell_at" lr
 uIK:FnIn K "row_from" ib
 uJK:FnIn K "_law_lay" ly
 uIH:FnIn K "line_from" lG
 uKE:FnIn K "lines_from" lJ
 uLM:FnIn K "number_from" lL
 uJZ:FnIn K "shift_from" lN
 uKV:FnIn K "levelled" lQ
 uIO:FnIn K "spread" lU
 uJO:FnIn K "hues_by_home" lW
 uGY:FnIn K "motif_from" mf
 uET:FnIn K "over_from" ig
 uEZ:FnIn K "shifted_from" ii
 uGN:FnIn K "rehue_from" ij
 uKA:FnIn K "form_from" ik
 uJA:FnIn K "measure" mF
 uHH:FnIn K "met" mH
 uKL:FnIn K "mirrored" mJ
 uLC:FnIn K "turned" mL
 uJW:FnIn K "read" mN
 uGJ:FnIn K "first_unlike" mR
 uKQ:FnIn K "_law_change" nj
 uER:FnIn K "_law_deed" nr
 uGV:FnIn K "_law_undo" nw
 uIT:FnIn K "_law_whole" nz
 uGT:FnIn K "_law_texts" nB
 uFN:FnIn K "_law_seven" nD
 uIA:FnIn K "_law_counts" nF
 uFR:FnIn K "field_rows" iB
 uHA:FnIn K "round_row" nI
 uHI:FnIn K "count_sign" nK
 uGW:FnIn K "count_all" iC
 uKI:FnIn K "_law_view" nV
 uHD:FnIn K "law" iD
 uIV:NnIn K "len"
 uLB:NnIn K "range"
 uLI:NnIn K "int"
 uGS:NnIn K "str"
 uKZ:NnIn K "max"
 uFJ:NnIn K "abs"
 uGE:NnIn K "enumerate"
 uKT:NnIn K "isinstance"
 uJH:NnIn K "bool"
 uII:NnIn K "list"
 uFQ:NnIn K "min"
 uO:ClIn K "Floor"
 uBI:ClIn K "Motif"
 uBW:ClIn K "Over"
 uBR:ClIn K "Shifted"
 uCV:ClIn K "Mirror"
 uCT:ClIn K "Turn"
 uBN:ClIn K "Rehue"
 uCD:ClIn K "Pattern"
 uBY:ClIn K "Reading"
 uKW:InIn K "Motif" "Motif.__init__" lZ
 uHE:InIn K "Mirror" "Mirror.__init__" mi
 uFO:InIn K "Turn" "Turn.__init__" ml
 uKK:InIn K "Over" "Over.__init__" mo
 uIP:InIn K "Shifted" "Shifted.__init__" mv
 uHQ:InIn K "Rehue" "Rehue.__init__" mx
 uKO:InIn K "Reading" "Reading.__init__" mz
 uIE:InIn K "Pattern" "Pattern.__init__" mC
 uFF:InIn K "Floor" "Floor.__init__" nX
 uHU:MtIn K "Floor" "keep" "Floor.keep" kZ
 uLO:MtIn K "Motif" "shows" "Motif.shows" gS
 uFG:MtIn K "Over" "shows" "Over.shows" gT
 uHF:MtIn K "Shifted" "shows" "Shifted.shows" gW
 uEU:MtIn K "Mirror" "shows" "Mirror.shows" gY
 uID:MtIn K "Turn" "shows" "Turn.shows" hU
 uLL:MtIn K "Rehue" "shows" "Rehue.shows" hZ
 uHB:MtIn K "Floor" "rows" "Floor.rows" ic
 uJY:MdIn K "Floor" "lay" "Floor.lay" lx 1
 uGL:MtIn K "Reading" "may_take" "Reading.may_take" lB
 uHC:MtIn K "Reading" "take" "Reading.take" lD
 uKB:MtIn K "Motif" "family" "Motif.family" il
 uHM:MtIn K "Over" "family" "Over.family" im
 uLP:MtIn K "Shifted" "family" "Shifted.family" ip
 uJT:MtIn K "Mirror" "family" "Mirror.family" ir
 uKJ:MtIn K "Turn" "family" "Turn.family" iw
 uKS:MtIn K "Rehue" "family" "Rehue.family" iz
 uIR:MtIn K "Floor" "stand" "Floor.stand" mY
 uIX:MtIn K "Floor" "change" "Floor.change" ng
 uFH:MtIn K "Floor" "undo" "Floor.undo" nu
 uKM:MtIn K "Floor" "lies" "Floor.lies" nO
 uJU:MtIn K "Floor" "still" "Floor.still" nQ
 uLT:MtIn K "Floor" "kept" "Floor.kept" nS
 uHY:NoIn K "Floor" "deeds"
 uFW:NoIn K "Floor" "laid"
 uIS:NoIn K "Floor" "pattern"
 uIL:NoIn K "Motif" "hues"
 uIQ:NoIn K "Motif" "shifts"
 uFX:NoIn K "Over" "above"
 uEY:NoIn K "Over" "below"
 uEW:NoIn K "Shifted" "form"
 uKH:NoIn K "Shifted" "y"
 uKC:NoIn K "Shifted" "x"
 uEP:NoIn K "Mirror" "form"
 uGD:NoIn K "Turn" "form"
 uHN:NoIn K "Rehue" "form"
 uLA:NoIn K "Rehue" "old"
 uEQ:NoIn K "Rehue" "new"
 uKF:NoIn K "Pattern" "form"
 uFU:NoIn K "Floor" "width"
 uJB:NoIn K "Floor" "height"
 uHT:NoIn K "Reading" "text"
 uHL:NoIn K "Reading" "place"
 uHG:NoIn K "Motif" "place"
 uLG:NoIn K "Pattern" "text"
 uFT:NoIn K "Pattern" "shifts"
 uFC:NoIn K "Floor" "text"
 uEX:CiIn K "KEPT" 20
 uLD:CiIn K "FAR" 1000000000000
 uFY:CsIn K "SIGNS" ".123456"
 uJC:CiIn K "LONGEST" 8
 uEV:CiIn K "DEEP" 5
 uIU:CiIn K "MOST" 720
 eb:EbIn K
 uJN:E1In K "WrongSign" "WrongSign.__init__" EV
 uHO:E1In K "OneLine" "OneLine.__init__" EW
 uGG:E0In K "TooGreat"
 uEM:E0In K "TooFar"
 uEN:E0In K "NoRow"
 uAO:E1In K "Parted" "Parted.__init__" mV
 uAE:EaIn K "Parted"
 uEB:NoIn K "Parted" "x"
 uDY:NoIn K "Parted" "y"
 uDZ:EgIn K "Parted"
 uDV:E0In K "NothingKept"
 uKY:EiIn K "MotifError"
 uHX:EmIn K "MotifError" "MotifError"
 uLE:EmIn K "MotifError" "WrongSign"
 uGF:EmIn K "MotifError" "OneLine"
 uGM:EmIn K "MotifError" "TooGreat"
 uJG:EmIn K "MotifError" "TooFar"
 uFZ:EmIn K "MotifError" "NoRow"
 uGZ:EmIn K "MotifError" "Parted"
 uFD:EmIn K "MotifError" "NothingKept"
 uKG:EmIn K "WrongSign" "MotifError"
 uLF:EmIn K "WrongSign" "WrongSign"
 uJX:EmIn K "WrongSign" "OneLine"
 uFA:EmIn K "WrongSign" "TooGreat"
 uFB:EmIn K "WrongSign" "TooFar"
 uJD:EmIn K "WrongSign" "NoRow"
 uHK:EmIn K "WrongSign" "Parted"
 uHZ:EmIn K "WrongSign" "NothingKept"
 uHR:EmIn K "OneLine" "MotifError"
 uLV:EmIn K "OneLine" "WrongSign"
 uLN:EmIn K "OneLine" "OneLine"
 uIW:EmIn K "OneLine" "TooGreat"
 uLR:EmIn K "OneLine" "TooFar"
 uJL:EmIn K "OneLine" "NoRow"
 uJQ:EmIn K "OneLine" "Parted"
 uHP:EmIn K "OneLine" "NothingKept"
 uIY:EmIn K "TooGreat" "MotifError"
 uFM:EmIn K "TooGreat" "WrongSign"
 uLQ:EmIn K "TooGreat" "OneLine"
 uKD:EmIn K "TooGreat" "TooGreat"
 uJM:EmIn K "TooGreat" "TooFar"
 uLK:EmIn K "TooGreat" "NoRow"
 uHJ:EmIn K "TooGreat" "Parted"
 uIF:EmIn K "TooGreat" "NothingKept"
 uFP:EmIn K "TooFar" "MotifError"
 uGX:EmIn K "TooFar" "WrongSign"
 uFK:EmIn K "TooFar" "OneLine"
 uIG:EmIn K "TooFar" "TooGreat"
 uGQ:EmIn K "TooFar" "TooFar"
 uGP:EmIn K "TooFar" "NoRow"
 uJF:EmIn K "TooFar" "Parted"
 uGO:EmIn K "TooFar" "NothingKept"
 uLU:EmIn K "NoRow" "MotifError"
 uLJ:EmIn K "NoRow" "WrongSign"
 uFL:EmIn K "NoRow" "OneLine"
 uJE:EmIn K "NoRow" "TooGreat"
 uHS:EmIn K "NoRow" "TooFar"
 uHV:EmIn K "NoRow" "NoRow"
 uGH:EmIn K "NoRow" "Parted"
 uIZ:EmIn K "NoRow" "NothingKept"
 uGR:EmIn K "Parted" "MotifError"
 uKR:EmIn K "Parted" "WrongSign"
 uIB:EmIn K "Parted" "OneLine"
 uJV:EmIn K "Parted" "TooGreat"
 uLH:EmIn K "Parted" "TooFar"
 uKX:EmIn K "Parted" "NoRow"
 uFS:EmIn K "Parted" "Parted"
 uGU:EmIn K "Parted" "NothingKept"
 uKN:EmIn K "NothingKept" "MotifError"
 uIJ:EmIn K "NothingKept" "WrongSign"
 uJR:EmIn K "NothingKept" "OneLine"
 uIN:EmIn K "NothingKept" "TooGreat"
 uKP:EmIn K "NothingKept" "TooFar"
 uJJ:EmIn K "NothingKept" "NoRow"
 uFI:EmIn K "NothingKept" "Parted"
 uIM:EmIn K "NothingKept" "NothingKept"
def EY{V:Bx}{h:Heap}(t:TopIn V.K)(X:V.K.In h)(G:h.Ns Os V.mg){fa:Addr}{fd:Q8}(F:Fun V.K "law" "law" iD fa fd):FnOk V.P V.w V.K V.mg V.base (Exc.CX1 V.P V.w) 22 fa fd nZ (lSp V.K et):=by
 have uA:=mg_none_of X G t.uIV;have uB:=mg_none_of X G t.uLB;have uK:=mg_none_of X G t.uLI;have uP:=mg_none_of X G t.uGS;have IE:=mg_none_of X G t.uKZ;have Jy:=mg_none_of X G t.uFJ;have JB:=mg_none_of X G t.uGE;have uL:=mg_none_of X G t.uKT;have Nz:=mg_none_of X G t.uJH;have JY:=mg_none_of X G t.uII;have NA:=mg_none_of X G t.uFQ;have uQ:=t.uO.a t.uHY;have uD:=t.uO.a t.uFW;have uE:=t.uO.a t.uIS;have IS:=t.uBI.a t.uIL;have uM:=t.uBI.a t.uIQ;have uT:=t.uBW.a t.uFX;have uY:=t.uBW.a t.uEY;have uU:=t.uBR.a t.uEW;have IT:=t.uBR.a t.uKH;have IU:=t.uBR.a t.uKC;have uS:=t.uCV.a t.uEP;have uX:=t.uCT.a t.uGD;have uW:=t.uBN.a t.uHN;have IV:=t.uBN.a t.uLA;have IW:=t.uBN.a t.uEQ;have JP:=t.uCD.a t.uKF;have uI:=t.uO.a t.uFU;have uV:=t.uO.a t.uJB;have IY:=t.uBY.a t.uHT;have uN:=t.uBY.a t.uHL;have M_:=t.uBI.a t.uHG;have JV:=t.uCD.a t.uLG;have A_:=t.uCD.a t.uFT;have B_:=t.uO.a t.uFC;have Jw:=t.uEX.g X G;have M5:=t.uLD.g X G;have uR:=t.uFY.g X G;have Lr:=t.uJC.g X G;have KR:=t.uEV.g X G;have Ni:=t.uIU.g X G;have M6:=t.uEM.k t.eb X G;have M7:=t.uEN.k t.eb X G;have uAE:=t.uAO.a t.eb t.uAE X G;have Nn:=t.uEB.all;have No:=t.uDY.all;have Nw:=t.uDV.k t.eb X G;have Nm:=t.uKY.b X G;have Nr:V.x "y" ["Parted"]:=AllP.mem #[t.uDZ.g uAE t.uDY,trivial];have Nt:V.x "x" ["Parted"]:=AllP.mem #[t.uDZ.g uAE t.uEB,trivial];have ek:iN V:=zO #[(let ⟨C,N,bm,k,_⟩:=t.eb.k X G;#[C,N,bm,k]),(t.uJN.c t.eb X G),(t.uHO.c t.eb X G),(let ⟨C,N,bm,k,_⟩:=t.uGG.k t.eb X G;#[C,N,bm,k]),(let ⟨C,N,bm,k,_⟩:=t.uEM.k t.eb X G;#[C,N,bm,k]),(let ⟨C,N,bm,k,_⟩:=t.uEN.k t.eb X G;#[C,N,bm,k]),(t.uAO.c t.eb X G),(let ⟨C,N,bm,k,_⟩:=t.uDV.k t.eb X G;#[C,N,bm,k]),trivial] #[#[t.uHX,t.uLE,t.uGF,t.uGM,t.uJG,t.uFZ,t.uGZ,t.uFD,trivial],#[t.uKG,t.uLF,t.uJX,t.uFA,t.uFB,t.uJD,t.uHK,t.uHZ,trivial],#[t.uHR,t.uLV,t.uLN,t.uIW,t.uLR,t.uJL,t.uJQ,t.uHP,trivial],#[t.uIY,t.uFM,t.uLQ,t.uKD,t.uJM,t.uLK,t.uHJ,t.uIF,trivial],#[t.uFP,t.uGX,t.uFK,t.uIG,t.uGQ,t.uGP,t.uJF,t.uGO,trivial],#[t.uLU,t.uLJ,t.uFL,t.uJE,t.uHS,t.uHV,t.uGH,t.uIZ,trivial],#[t.uGR,t.uKR,t.uIB,t.uJV,t.uLH,t.uKX,t.uFS,t.uGU,trivial],#[t.uKN,t.uIJ,t.uJR,t.uIN,t.uKP,t.uJJ,t.uFI,t.uIM,trivial],trivial];have w_:iG V:=C7 (t.uLS.tx X G KK) uA;have JM:iH V:=C8 (t.uGC.tx X G N5) uB w_;have MQ:oh V:=C9 (t.uJP.tx X G Kl) uB uA;have MU:oi V:=Da (t.uEO.tx X G Kl) uK;have MV:oj V:=Db (t.uJI.tx X G N5) uP;have NK:ol V:=Dc (t.uGB.tx X G KK) JM MQ MU MV;have MX:om V:=Dd (t.uJS.tx X G (by walk_at "b4"));have M0:oq V:=De (t.uFE.tx X G N5) uB uA uK MX;have M4:ot V:=Df (t.uFV.tx X G N5) M0;have NL:ou V:=Dh (t.uGK.tx X G N5) uB M4;have JR:iI V:=Dj (t.uHU.txm t.uO KK) Jw uQ uD uE;have Jz:iJ V:=Dk (t.uKU.tx X G KK) IE Jy M5 M6;have x_:eY V:=Dl (t.uGA.tx X G N5);have uG:uc V:=Dr (t.uLO.txm t.uBI N5) (t.uFG.txm t.uBW N5) (t.uHF.txm t.uBR N5) (t.uEU.txm t.uCV N5) (t.uID.txm t.uCT N5) (t.uLL.txm t.uBN N5) x_ IS uM uT uY uU IT IU uS uX uW IV IW 6;have JA:iK V:=Ds (t.uGI.tx X G N5) Jz JP uG;have JQ:iL V:=Dt (t.uIK.tx X G (by walk_at "b4")) uB JA uR;have JS:iM V:=Du (t.uHB.txm t.uO Kl) uB JQ uD uI uE;have Lp:ow V:=Dv (t.uJY.txd t.uO (by walk_at "bd")) IE uV uD JR JS M7;have Nu:oy V:=Dx (t.uJK.tx X G N5) Lp ek;have uJ:db V:=Dy (t.uGL.txm t.uBY KK) uA IY uN;have uC:cF V:=Dz (t.uHC.txm t.uBY KK) uJ;have Lq:oz V:=DB (t.uIH.tx X G N5) uB uR uC uJ;have Na:oA V:=DC (t.uKE.tx X G Kl) uA Lq Lr uJ;have Ls:oB V:=DD (t.uLM.tx X G Kl) uK uJ uC;have IG:fQ V:=DF (t.uJZ.tx X G Kl) Ls uC;have JT:iO V:=DG (t.uKV.tx X G KK);have JU:iP V:=DJ (t.uIO.tx X G KK) Jy JT;have M9:oC V:=DK (t.uJO.tx X G KK) JB x_ uR;have Nb:oE V:=DL (t.uKW.txi X G (by walk_at "b5")) JU M9 M_ uM IS;have KQ:iQ V:=DM (t.uGY.tx X G Kl) Na IG uN Nb uC;have KS:iR V:=DN (t.uHE.txi X G KK) uS;have KU:iS V:=DO (t.uFO.txi X G KK) uX;have KN:iT V:=DP (t.uKK.txi X G N5) uT uY;have KO:iU V:=DQ (t.uIP.txi X G (by walk_at "b4")) uU IU IT;have KP:iV V:=DR (t.uHQ.txi X G (by walk_at "b4")) uW IV IW;have uH:uf V:=D0 (t.uET.tx X G KK) (t.uEZ.tx X G KK) (t.uGN.tx X G KK) (t.uKA.tx X G KK) KN uC IG KO uK KP KQ KR KS KU uJ 6;have Nj:oF V:=D1 (t.uKO.txi X G KK) IY uN;have Nk:oG V:=D2 (t.uIE.txi X G (by walk_at "b4")) JV A_ JP;have KY:oH V:=D3 (t.uJA.tx X G KK) JT;have KZ:iW V:=D4 (t.uHH.tx X G KK) KY;have K0:iX V:=D5 (t.uKL.tx X G Kl);have K1:iY V:=D6 (t.uLC.tx X G Kl) JU;have uF:uh V:=Ec (t.uKB.txm t.uBI Kl) (t.uHM.txm t.uBW Kl) (t.uLP.txm t.uBR Kl) (t.uJT.txm t.uCV Kl) (t.uKJ.txm t.uCT Kl) (t.uKS.txm t.uBN Kl) uM KZ uT uY uU K0 uS K1 uX uW 6;have JW:iZ V:=Ed (t.uJW.tx X G Kl) uA uH Ni uN Nj Nk uF;have Np:oI V:=Ef (t.uGJ.tx X G (by walk_at "b4")) uB JA;have uAO:oJ V:=Eh (t.uAO.txe t.eb X G N5) Nm uAE Nn No;have JX:ja V:=Ej (t.uIR.txm t.uO KK) uE B_ JV;have Nq:oK V:=Em (t.uIX.txm t.uO KK) JW Np uD uI uE JR JX uAO;have Nv:oM V:=Eo (t.uKQ.tx X G KK) Nq Nr Nt ek;have NM:oN V:=Er (t.uER.tx X G (by walk_at "b4")) Nu Nv;have Ny:oO V:=Et (t.uFH.txm t.uO Kl) uA uQ uD JX Nw;have Ly:oP V:=Ev (t.uGV.tx X G Kl) Ny ek;have uZ:fR V:=Ew (t.uIT.tx X G Kl) uL Nz uK;have NG:oQ V:=Ez (t.uGT.tx X G KK) uA uL JY uB uP;have Lw:oR V:=EB (t.uFN.tx X G KK) uA uL JY uB uZ;have Lx:oS V:=EE (t.uIA.tx X G Kl);have NB:oU V:=EF (t.uFR.tx X G Kl) uB JQ A_;have NC:C_round_row V:=EG (t.uHA.tx X G (by walk_at "b4")) x_;have ND:oV V:=EH (t.uHI.tx X G N5) uA;have J0:jb V:=EI (t.uGW.tx X G (by walk_at "b5")) IE uB NA JB Jz NB NC ND uR A_;have NH:oW V:=EK (t.uKM.txm t.uO Kl) J0 uD uI uE;have NI:oX V:=EM (t.uJU.txm t.uO Kl) J0 uV uI uD uE;have NJ:oY V:=EO (t.uLT.txm t.uO Kl) uA uQ;have Lz:oZ V:=ER (t.uKI.tx X G (by walk_at "b6")) uL uP uZ NG Lw Lx B_ uI uV JS NH NI NJ;have NN:pd V:=ET (t.uFF.txi X G (by walk_at "b4")) JW uE B_ uI uV uD uQ;exact EU F uL uP uA NK w_ NL JM NM Ly Lz uZ Jw NN
def all_mk{l:G6}{w:Q2}{K:Ex}{h:Heap}{mg:E_->Option KB}{fa:Addr}(X:K.In h)(G:h.Ns Os mg)(Jq:mg "law"=be (.ref fa))(t:TopIn K):
  ∃fd:Q8,(∀(s:KF) (v:KB),RW s fd #[[v],[]] [("_law_script",v)])/\∀base:Heap,K.In base->base.Ns Os mg->FnOk l.prog w K mg base (Exc.CX1 l.prog w) 22 fa fd ["_law_script"] (lSp K et):=by
 obtain⟨fd,b,F⟩:=t.uHD.law X G Jq (λ_ _ _ _ _ _ _=>rfl);exact#[fd,b,λbase _ _=>EY (V:=#[l.prog,w,K,mg,base]) t X G F]
def law_walk{l:G6}{q:Pi}{i_:List E_}{XP:(E_->Option KB)->Heap->Prop}{YP:Q2->Heap->Prop}{d:DefRec}{K:Params->Ex}(hn:l.most=be 63)(Kb:d.params.defaults=[])
  (hY:∀(w:Q2) (h:Heap),YP w h->(K w.params).In h)
  (F:∀(w:Q2) (mg:E_->Option KB) (fa:Addr) (h:Heap),(K w.params).In h->h.Ns Os mg->mg d.name=be (.ref fa)->
   ∃fd:Q8,(∀(s:KF) (u:KB),RW s fd #[[u],[]] [("_law_script",u)])/\∀base:Heap,(K w.params).In base->base.Ns Os mg->FnOk l.prog w (K w.params) mg base (Exc.CX1 l.prog w) 22 fa fd ["_law_script"] (lSp (K w.params) et)):
  HB q i_ XP YP l.row.toRowW d [] (λf vs=>PySem.call f vs):=
 L2.walk_of (n:=63) (k:=22) (x:="_law_script") (CX:=λw=>Exc.CX1 l.prog w) (sp:=λw=>lSp (K w.params) et) hn Ji Kb #[rfl,Ji,Ji] hY F (λ_ _ a ns hl _ hS=>xJ hl hS) λ_ _ _ _ _ h=>by obtain⟨_,_,_,_,_,_,_,_,_,_,_,_,_,_,_,z⟩:=h;exact z
end My
open PySem PySem.W PyProof.Rows
set_option maxRecDepth 100000 in
set_option maxHeartbeats 0 in
theorem PySem.Challenge.cw_motiffield_k33_kept_holds : PySem.Challenge.rw_motiffield_k33_kept.Holds := by
  w_on;o_law;k_head;(case hw =>w_witness2)
  k_fill
  refine My.law_walk (l :=PySem.Challenge.rw_motiffield_k33_kept) rfl rfl (λw h Y =>kIn_of Y) ?F
  case F =>
    intro w mg fa h KX G i8;refine My.all_mk KX G i8 ?_;constructor
    all_goals first|((with_reducible refine' My.fnIn_mk ?a ?l ?c ?k);(case a =>k_is);(case l =>k_is);(case c =>k_is);(case k =>k_is))|((with_reducible refine' My.nnIn_mk ?a);(case a =>k_is))|((with_reducible refine' My.noIn_mk ?a ?b);(case a =>k_is);(case b =>k_is))|((with_reducible refine' My.mtIn_mk ?a ?b ?i ?l ?c ?k);(case a =>k_is);(case b =>k_is);(case i =>k_is);(case l =>k_is);(case c =>k_is);(case k =>k_is))|((with_reducible refine' My.mdIn_mk ?a ?b ?i' ?l ?c ?k ?d);(case a =>k_is);(case b =>k_is);(case i' =>k_is);(case l =>k_is);(case c =>k_is);(case k =>k_is);(case d =>k_is))|((with_reducible refine' My.inIn_mk ?a ?mk ?b ?i ?kp ?l ?c ?k);(case a =>k_is);(case mk =>k_is);(case b =>k_is);(case i =>k_is);(case kp =>k_is);(case l =>k_is);(case c =>k_is);(case k =>k_is))|((with_reducible refine' My.clIn_mk ?a ?pg ?hd ?po ?sa ?ha ?hn ?ht ?hm);(case a =>k_is);(case pg =>k_is);(case hd =>k_is);(case po =>k_is);(case sa =>k_is);(case ha =>k_is);(case hn =>k_is);(case ht =>k_is);(case hm =>k_is))|((with_reducible refine' My.ciIn_mk ?a);(case a =>k_is))|((with_reducible refine' My.csIn_mk ?a);(case a =>k_is))|((with_reducible refine' My.ebIn_mk ?a ?kp ?o ?nk ?al ?ni);(case a =>k_is);(case kp =>k_is);(case o =>k_is);(case nk =>k_is);(case al =>rfl);(case ni =>k_is))|((with_reducible refine' My.e0In_mk ?b ?a ?kp ?o ?nk ?al ?ni);(case b =>k_is);(case a =>k_is);(case kp =>k_is);(case o =>k_is);(case nk =>k_is);(case al =>rfl);(case ni =>k_is))|((with_reducible refine' My.e1In_mk ?b ?a ?kp ?o ?j ?i ?l ?c ?k);(case b =>k_is);(case a =>k_is);(case kp =>k_is);(case o =>k_is);(case j =>k_is);(case i =>k_is);(case l =>k_is);(case c =>k_is);(case k =>k_is))|((with_reducible refine' My.eaIn_mk ?a ?b);(case a =>k_is);(case b =>k_is))|((with_reducible refine' My.egIn_mk ?a ?b ?c);(case a =>k_is);(case b =>k_is);(case c =>k_is))|((with_reducible refine' My.eiIn_mk ?a ?b ?c ?d);(case a =>k_is);(case b =>k_is);(case c =>k_is);(case d =>k_is))|((with_reducible refine' My.emIn_mkT ?e ?a ?c ?d);(case e =>decide);(case a =>k_is);(case c =>k_is);(case d =>k_is))|((with_reducible refine' My.emIn_mkF ?e ?a ?c ?d);(case e =>decide);(case a =>k_is);(case c =>k_is);(case d =>k_is))
end
