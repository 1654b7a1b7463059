import PyProof.Rows.All
import Wide.All
import OpenK.AllK
import Wide.FinOn
import Lean
import PyProof.EqAt
import PyProof.EqKinds
import PyProof.TupleCall
import PySem.Challenge.RW_motiffield_k31_lone_wrong_tile
set_option compiler.extract_closed false
set_option Elab.async false
set_option linter.all false
set_option maxRecDepth 100000
set_option maxHeartbeats 4000000
local macro_rules|`(command|def $x:declId $s:optDeclSig $v:declVal)=>`(command|noncomputable def $x:declId $s:optDeclSig $v:declVal)
local macro_rules|`(command|abbrev $x:declId $s:optDeclSig $v:declVal)=>`(command|noncomputable abbrev $x:declId $s:optDeclSig $v:declVal)
local macro_rules|`(#[$x,*])=>`(⟨$x,*⟩)
theorem Ko{p:Prop}(h:p:=by lia):p:=h
theorem Ks{p:Prop}(h:p:=by decide):p:=h
theorem Kv{p:Prop}(h:p:=by decide+kernel):p:=h
theorem Kw{p:Prop}(h:p:=by omega):p:=h
theorem KK{p:Prop}(h:p:=by simp):p:=h
theorem Lh{p:Prop}(h:p:=by k_memK):p:=h
theorem Lr{p:Prop}(h:p:=by show(2:Nat)<=1000;decide):p:=h
theorem Lu{p:Prop}(h:p:=by unfold B12;lia):p:=h
theorem Lz{p:Prop}(h:p:=by grind):p:=h
theorem Mj{p:Prop}(h:p:=by walk_at "b2"):p:=h
theorem Nd{p:Prop}(h:p:=by cases d<;>first|exact#[_,rfl,h]|exact False.elim h):p:=h
theorem OZ{p:Prop}(h:p:=by cases q:cd.mro with|nil=>rw[q]at hm;simp[aJ]at hm|cons _ _=>rfl):p:=h
theorem O_{p:Prop}(h:p:=by walk_at "b1"):p:=h
theorem Pg{p:Prop}(h:p:=by rw[e]at nd;simp at nd):p:=h
theorem Rw{p:Prop}(h:p:=by intro x no;cases x<;>first|rfl|cases no):p:=h
theorem Rx{p:Prop}(h:p:=by show(1:Nat)<=1000;decide):p:=h
theorem Sc{p:Prop}(h:p:=by walk_at "b3"):p:=h
theorem Tk{p:Prop}(h:p:=by show(1:Nat)<1000;decide):p:=h
theorem Tl{p:Prop}(h:p:=by simp;lia):p:=h
theorem Ty{p:Prop}(h:p:=by rw[<-hY];rfl):p:=h
theorem TW{p:Prop}(h:p:=by unfold mroIn;rw[hc,GT,if_neg (by rw[ne];decide),dU Kv hm]):p:=h
open PySem renaming Str->JM
open Option renaming some->be,none->G_
open PySem renaming Value->KB,Addr->KF,Shared->KM,wpAny_bind->Os,mainGlobals->Pi,Program->P3,wpAny_pure->RY,Expr->RZ,model->R1,Stmt->R3,wpAny->R4,World->R5,Around->R6,assignEach->R7,starEach->R8,attributeBase->R9,FuncData->R_,eval->Sa,Pos->Sb,wpAny_Call_Name_kw->Sd,wpAny_mono->Sf,swapsWith->Sg,compareOp->Sh,bootBuiltins->Si,Obj->Sj,wpAny_newObj_type->Sk,wpAny_loadPart_at->Sl,excClassObj->Sm,binaryOp->Sn,wpAny_holding->So,PassesOwn->Sq,wpAny_passesOwn->Sr,behindInMarks->Ss,sysModules->Su,holding->Sv,Scope->Sw,ExceptHandler->Sx,wpAny_getItem_str_slice->Sy,wpAny_truthy_bool->Sz,codeAny_mono->SA,assign->SB,plainObj_wpAny_Assign_Attribute->SE,wpAny_call->SG,wpAny_standAt->SH,swapsWithSole->SI,swappedStores->SJ,wpAny_field->SK,sliceBounds->SL,codeAny_call_builtin->SM,bindArgs->SN,NameKind->SO,wpAny_execs_nil->SQ,wpAny_isSubtype_exc->SR,standAt->SS,Env->SU,wpAny_pyIter_enum->SV,sizeLine_eq->SW,keywordEach->SX,backTo->SZ,tupleKind->S2,noteFrame->S3,rawInt->S4,BindsTo->S5,post_val_or_str->S6,letOwnedTupleGo->S7,wpAny_setField->S9,getMethod->S',codeAny->S_,cLine->Ta,isInstance->Tb,wpAny_assign_Name->Tc,callerA->Tf,backToKw->Tg,wpAny_lookBehind->Th,setFlight->Tj,pastItsLine_dict->Tn,IsPart->To,atKey->Tp,valueAt->Tq,getItem->Tr,wpAny_loadPart->Ts,wpAny_letOwnedTupleGo_enum->Tt,handleBy->Tu,dictSetDefault->Tv,call_meets->Tw,Operator->Tz,wpAny_comprehension_free->TB,bindL->TC,bindC->TF,ClassData->TJ,wpAny_nsSet1->TK,setItem->TM,seqIndex_neg->TN,leaving->TQ,getAttr->TR,codeAny_compStart_list->TU,call_meetsIn->TV,Sem->TX,codeAny_handlers_test->TZ,wpAny_of_eq->T1,wpAny_newFunctionEnv->T3,seqIndex_of->T4,callWith->T5,Model->T6,GenState->T7,wpAny_handleBy_cons->T8,wpAny_call_exc_subT->T9,wpAny_entryPlaceOf->T_,wpAny_Name->Ua,typeIs_str->Ub,typeIs_int->Uc,tupleKind_room_in1->Ud,builtinsNs->Ue,wpAny_frameOf_fun->Ug,setAttr->Uh,release->Ui,relabel->Uj,foldedSetIterable->Uk,Tok->Ul,Keyword->Um,CmpOp->Uo
open PyProof.Rows renaming envOfC->Se,AllBare->SY,subscriptTail_builtinR->TL,IntsAre->TY
open PySem.W renaming Frag->Ex,findIn->FZ,mroIn->GP,OpenLaw->HZ,clsIn->Ie,handedIn->IB,WalkO->II
open List renaming mem_singleton->FW,range->FY,replicate->F4,mem_cons->F5,length_cons->F7,mem_cons_of_mem->F8,size_toArray->F9,length_map->Gb,length_append->Gc,mem_cons_self->Gd,getElem?_map->Gf,getElem?_set_ne->Gg,getElem?_eq_some_iff->Gh,lookup_cons->Gi,map_append->Gm,mem_append_right->Gn,mem_map->Gp,map_cons->Gs,getElem?_eq_getElem->Gv,append_nil->Gw,append_assoc->Gx,mem_append->GA,getElem?_range->GB,nodup_cons->GC,getElem?_set_self->GD,getElem?_append_left->GE,replicate_succ->GF,getD->GH,getElem?_eq_none->GI,getElem?_append_right->GK,all_eq_true->GL,length_set->GQ,flatten_cons->GR,nil_append->GS,cons_append->GU,lookup->GX,getElem?_set->GZ,ext_getElem?->G0,mem_append_left->G4,length_drop->G5,all_cons->G6,find?_cons->G7,range_succ->G8,take_of_length_le->G9,nodup_append->Ha,map_map->Hb,getElem?_replicate->Hg,length_singleton->Hh,getElem_mem->Hk,map_congr_left->Hl,drop->Hm,eq_nil_of_length_eq_zero->Hn,not_mem_nil->Ho,filterMap_cons->Hv,length->Hy,length_take->Hz,getElem?_take_of_lt->HA,mem_of_getElem?->HB,any_cons->HC,map_nil->HE,of_mem_zip->HW,foldl->HX,contains_cons->H8,map->H9,forIn_cons->Ia,drop_eq_getElem_cons->Il,length_range->Im,getElem?_drop->Io,drop_zero->Ip,drop_of_length_le->Ir,dropLast_concat->Iy,mem_filter->Iz,mem_filterMap->IA,length_replicate->ID,filterMap_map->IE,foldl_cons->IG,nodup_nil->IL,dropLast_cons₂->IU,map_take->Jr,take_range->Js,mem_replicate->JB,replicate_succ'->JC,drop_length->JE,dropLast_concat_getLast->JF
open Nat renaming le_refl->FX,ne_of_lt->F6,le_trans->Ga,lt_of_lt_of_le->Gk,zero_le->Go,ne_of_gt->GO,lt_irrefl->GV,le_succ->GY,min_eq_left->Hd,add_comm->Hj,not_lt_zero->Hq,le_of_lt->Hu,le_of_eq->Hx,succ_mul->HD,le_of_not_lt->HF,mul_le_mul->HJ,pow_pos->HN,pow_succ->HP,min_eq_right->HU,mul_comm->HY,lt_or_ge->Ib,lt_succ_of_lt->Ic,pow_le_pow_right->Ik,zero_add->Iq,lt_succ_self->IC,lt_of_le_of_lt->IJ,lt_trans->IK,log2_lt->IM,add_sub_add_right->IN,mul_le_mul_left->IS,succ_ne_self->IV,add_le_add->Je,mod_eq_of_lt->Jl,mul_succ->Jp,sub_zero->Jq,add_zero->Jt
open Bool renaming false_ne_true->Ge,and_eq_true->Gu,eq_iff_iff->GW,or_true->HG,eq_false_iff->Iv,or_eq_true_iff->IP
open Int renaming mul_comm->Gj,mul_pos->Gq,toNat_of_nonneg->Gr,emod_nonneg->Gy,emod_lt_of_pos->Gz,le_trans->GJ,mul_ediv_cancel->GM,add_zero->GN,emod_def->G1,mul_le_mul_of_nonneg_right->G2,toNat_natCast->G3,zero_add->Hc,mul_zero->Hf,natCast_add->Hr,one_dvd->Hs,dvd_trans->Ht,natAbs_mul->HI,mul_nonpos_of_nonpos_of_nonneg->HK,eq_of_mul_eq_mul_right->HL,emod_add_mul_ediv->HQ,sub_mul->HR,add_mul->HS,fmod_eq_zero_of_dvd->Ih,eq_of_mul_eq_mul_left->Ii,mul_neg->Ij,add_assoc->Iu,ediv_nonneg->Iw,ediv_le_self->Ix,le_ediv_of_mul_le->IR,fmod_nonneg_of_pos->IW,fmod_lt_of_pos->IY,neg_mul->IZ,le_natAbs->Ja,ofNat_le->Jb,natAbs_neg->Jc,natAbs_add_le->Jd,mul_fdiv_cancel_of_fmod_eq_zero->Jf,add_mul_emod_self_right->Jh,add_mul_ediv_right->Ji,dvd_add_left->Jj,dvd_mul_right->Jk,natCast_emod->Jn,ediv_eq_zero_of_lt->Jo,natCast_zero->Ju,sub_zero->Jv,mul_assoc->Jw,le_of_dvd->Jy,dvd_of_emod_eq_zero->Jz,emod_eq_zero_of_dvd->JA,one_mul->JD
open Option renaming bind_some->GT,bind->HV,getD_none->IF
open Array renaming length_toList->Hw,getElem?_eq_some_iff->HH,all_toList->Ig,getElem?_toList->IH,eq_empty_of_size_eq_zero->IQ,getElem?_eq_getElem->IT,toList_inj->Jg
open PySem.W (InitBack any_some callWith_K callWith_K0 cellsFrom_some cls_value codeIn codeRec_of emptyDict eq_bytes findCls findObj_own fnOf get_value hasDictIn hideAll hideAll_get hideAll_none hideAll_size instObj isFn isNs_of_in kIn_of keepIn ki_setAt ki_setBack kia_one kitOne kitx_bool kitx_dict kitx_float kitx_int kitx_list kitx_none kitx_own kitx_str kitx_tuple kun_itemsOf len_bytes lookIn make_core makesIn makes_of methodCall_KW methodObj method_cls method_fn mg_none_of mg_of ne_bytes nsIn nsMap_none_of_in nsOkIn of_hideAll osa_open plainGet plainGet_of plainOver readsIn specialIn tailIn tail_of_in takerIn takesIn truthy_bytes)
def qZ0(_:0=0:=by rfl):=0
nonrec def zA0:=qZ0._auto_1
def qZ1(_:0=0:=by decide):=0
nonrec def zA1:=qZ1._auto_1
def qZ2(_:0=0:=by first|exact .inl rfl|exact .inr rfl|assumption):=0
nonrec def zA2:=qZ2._auto_1
def qZ3(_:0=0:=by exact λ_=>rfl):=0
nonrec def zA3:=qZ3._auto_1
def qZ4(_:0=0:=by first|exact Or.inl rfl|exact Or.inr rfl):=0
nonrec def zA4:=qZ4._auto_1
def qZ5(_:0=0:=by first|exact Or.inl rfl|exact Or.inr (Or.inl rfl)|exact Or.inr (Or.inr rfl)):=0
nonrec def zA5:=qZ5._auto_1
def qZ6(_:0=0:=by exact λ_ _=>rfl):=0
nonrec def zA6:=qZ6._auto_1
def qZ7(_:0=0:=by intros;rfl):=0
nonrec def zA7:=qZ7._auto_1
namespace PySem.W.Fast
def tw11456818527294442672:=Nat
def tw5561995886422140697:=Nat
def tw6627189851536605538:=Nat
def tw4720778162670683666:=Nat
def tw4575928583347350297:=Nat
def tw17067616334723964515:=Nat
def tw16729575443190125587:=Nat
def tw14286551656462870973:=Nat
def tw11779754155848910477:=Nat
def tw10819520321046049483:=Nat
def tw8195815523181717200:=Nat
def tw8868218734392182409:=Nat
def tw2443774644451620820:=Nat
def tw10765444242864798566:=Nat
def tw14742738463985861133:=Nat
def tw8507550340765165610:=Nat
def tw161673739564352925:=Nat
def tw14515461441097121176:=Nat
def tw7395724110034459602:=Nat
def tw6833064198327152963:=Nat
def tw1578613288282169147:=Nat
def tw6795186613810854698:=Nat
def tw11784745865919333203:=Nat
def tw4215116199903050061:=Nat
def tw13689358113338504455:=Nat
def tw16771589041055554176:=Nat
def tw5511459887248528650:=Nat
def tw6900394150761417476:=Nat
def tw6562436117894223309:=Nat
def tw17889620494777198491:=Nat
def tw473366059130888697:=Nat
def tw4152134854179475450:=Nat
def tw11468644134957403026:=Nat
def tw2803737856541101273:=Nat
def tw16999687122088778144:=Nat
def tw6547320681945735283:=Nat
def tw6631945106129350954:=Nat
def tw16839322831468336221:=Nat
def tw11786601110772616483:=Nat
def tw17641498060720269742:=Nat
def tw7113238265081730676:=Nat
def tw1381745458718259721:=Nat
def tw14204573116750404662:=Nat
def tw5095932101629384531:=Nat
def tw15756085551695917270:=Nat
def tw10441630451929580676:=Nat
def tw6526140401763962228:=Nat
def tw257019347487342003:=Nat
def tw15840138411908012673:=Nat
def tw18041214445333324254:=Nat
def tw397444722741107374:=Nat
def tw5098023833022325198:=Nat
def tw703514808458768603:=Nat
def tw3672063252666909715:=Nat
def tw11839480872745798100:=Nat
def tw11693694822329256168:=Nat
def tw7947326098085748792:=Nat
def tw13706899190292442666:=Nat
def tw8202569959076014493:=Nat
def tw14777955535872755989:=Nat
def tw3320721626837146575:=Nat
def tw1070871226036634233:=Nat
def tw18155215827847315837:=Nat
def tw4694575998398548672:=Nat
def tw3721116455109238573:=Nat
def tw10710104034724448823:=Nat
def tw9080964084675092310:=Nat
def tw17673111815445446212:=Nat
def tw15535938907536711959:=Nat
def tw3019033976215086759:=Nat
def tw12341633321963672060:=Nat
def tw11834607760011710695:=Nat
def tw6280358104919860614:=Nat
def tw12376105744029117633:=Nat
def tw14123200085697578141:=Nat
def tw8191730002495971875:=Nat
def tw5178283293234626567:=Nat
def tw617845867721401521:=Nat
def tw17165122758164377909:=Nat
def tw12400821751602933346:=Nat
def tw313926771462563379:=Nat
def tw5136278272728060745:=Nat
def tw11988262927689916900:=Nat
def tw6483860236100546300:=Nat
def tw3805759753472225621:=Nat
def tw17602357644180195001:=Nat
def tw3649961723738598067:=Nat
def tw8383362093068992524:=Nat
def tw1236049879565273714:=Nat
def tw12413147969920381148:=Nat
def tw17083964858141279463:=Nat
def tw6863808028315822280:=Nat
def tw2885808657484807010:=Nat
def tw15040683190625222881:=Nat
def tw11664074961185778427:=Nat
def tw16565476797211029211:=Nat
def tw4229763858861644036:=Nat
def tw506929647445660713:=Nat
def tw3180297121881228282:=Nat
def tw14563833617322873034:=Nat
def tw4370191035918849092:=Nat
def tw2023793831907428987:=Nat
def tw14773974697134848236:=Nat
def tw17907896443299334928:=Nat
def tw13596079366768135134:=Nat
def tw10210664458580472347:=Nat
def tw12628795752455503405:=Nat
def tw6290874503887084532:=Nat
def tw13277110374169442715:=Nat
def tw1820150495699089264:=Nat
def tw6860759850721571292:=Nat
def tw4367674093809463692:=Nat
def tw4755496414875233146:=Nat
def tw4776795092723597234:=Nat
def tw7076767367382916618:=Nat
def tw12602305670158639113:=Nat
def tw16357183373794430747:=Nat
def tw17593531651629178285:=Nat
def tw2917620124331221354:=Nat
def tw4933147134439333037:=Nat
def tw17460145477031357097:=Nat
def tw6789551606433410758:=Nat
def tw10589349729083368463:=Nat
def tw4004712674519581221:=Nat
def tw988986863593823978:=Nat
def tw721351319402834300:=Nat
def tw17747272971064455426:=Nat
def tw6901476577385075180:=Nat
def tw10615923655551651064:=Nat
def tw6606121367375761934:=Nat
def tw3606731164112067674:=Nat
def tw4808957499385748837:=Nat
def tw5675175324146233381:=Nat
def tw3838462936686187739:=Nat
def tw15599588555710644661:=Nat
def tw6435691770150121510:=Nat
def tw14617663968246641165:=Nat
def tw7227127860869802754:=Nat
def tw12905550227845338946:=Nat
def tw758817620356842179:=Nat
def tw14429748388137698704:=Nat
def tw12949839539801016566:=Nat
def tw747046735099708135:=Nat
def tw300549192619612809:=Nat
def tw7443337258749183855:=Nat
def tw14922729075760606937:=Nat
def tw12084278663779642744:=Nat
def tw8560713985497212493:=Nat
def tw7149473036375620386:=Nat
def tw16616350254148543074:=Nat
def tw8603995241989997453:=Nat
def tw15428438203741159361:=Nat
def tw16603517774467193513:=Nat
def tw1619334207050975440:=Nat
def tw2206723813175714274:=Nat
def tw10771060956804125042:=Nat
def tw4983594063410416:=Nat
def tw8292254437206832125:=Nat
def tw9878676778386069771:=Nat
def tw9374857351632725338:=Nat
def tw6410360188945275699:=Nat
def tw13680473569433400082:=Nat
def tw15135092905875793338:=Nat
def tw17163280069275184367:=Nat
def tw15333860275309874449:=Nat
def tw7744222430347715415:=Nat
def tw13801592413703074543:=Nat
def tw13405512679788715261:=Nat
def tw6607724715586170253:=Nat
def tw10897528077717451182:=Nat
def tw1439016716148016757:=Nat
def tw4023897673040943693:=Nat
def tw7454737630278705318:=Nat
def tw12587189436169781812:=Nat
def tw17790014932580606361:=Nat
def tw15863180713461480355:=Nat
def tw13076447455927038651:=Nat
def tw14102227443797875852:=Nat
def tw12282552069098076136:=Nat
def tw1277850545724636859:=Nat
def tw16974439735546441379:=Nat
def tw17311147271252841798:=Nat
def tw18405677964760169331:=Nat
def tw7108573328941332235:=Nat
def tw15556702695111217796:=Nat
def tw16817442599748034235:=Nat
def tw9478141548732580446:=Nat
def tw5174895540799312852:=Nat
def tw13387844948191449300:=Nat
def tw1473441427069127799:=Nat
def tw18437470886074652411:=Nat
def tw4522585698736607967:=Nat
def tw13695197773800592537:=Nat
def tw1445129714053712834:=Nat
def tw14152066271602282722:=Nat
def tw11136618658830914164:=Nat
def tw301609292135783468:=Nat
def tw662129464012913992:=Nat
def tw1672640014175380199:=Nat
def tw14104456590971358879:=Nat
def tw2587459766715158501:=Nat
def tw7409491844178426894:=Nat
def tw7609714831408252232:=Nat
def tw2826338800635914973:=Nat
def tw5843572082093893483:=Nat
def tw11584843000221073370:=Nat
def tw11010505654422128465:=Nat
def tw17860203590941552757:=Nat
def tw5067113247878679564:=Nat
def tw6682557497591937494:=Nat
def tw1149696436136973932:=Nat
def tw9218430879057303323:=Nat
def tw5857429685233074298:=Nat
def tw4075075806934551123:=Nat
def tw1522787704918476585:=Nat
def tw4983650692739209030:=Nat
def tw3210168378768836534:=Nat
def tw9040787513091981700:=Nat
def tw1484821674814844420:=Nat
def tw14752418631298315187:=Nat
def tw13146730160297797446:=Nat
def tw12576775574819822410:=Nat
def tw11290052202220597355:=Nat
def tw726722887617100707:=Nat
def tw16380736326496352322:=Nat
def tw10770511407898893426:=Nat
def tw9703897329712206450:=Nat
def tw14255791972548908053:=Nat
def tw18038635024960773245:=Nat
def tw15523208552454056414:=Nat
def tw2233568989670051347:=Nat
def tw5995639803122646392:=Nat
def tw3917475083663100636:=Nat
def tw17157035442529724740:=Nat
def tw13851981695585296076:=Nat
def tw2081010497828187396:=Nat
def tw11784411874623284861:=Nat
def tw17874399524357275815:=Nat
def tw7136719708751213059:=Nat
def tw12231914948175758649:=Nat
def tw12131763002801989853:=Nat
def tw10574587360911830452:=Nat
def tw17792777133205488588:=Nat
def tw5953489240325965337:=Nat
def tw7333674473443239411:=Nat
def tw10681669229589765554:=Nat
def tw188556980346505630:=Nat
def tw12803511014090524432:=Nat
def tw13047947287079477434:=Nat
def tw17018458693940130999:=Nat
def tw2652314796916685026:=Nat
def tw7122034646905421402:=Nat
def tw13016046447779624095:=Nat
def tw17006970334675173361:=Nat
def tw13489677913671998768:=Nat
def tw11789339033910707540:=Nat
def tw3267790135888460967:=Nat
def tw13122399439504256336:=Nat
def tw11970150298408223761:=Nat
def tw4592044242077683081:=Nat
def tw8605190565206014667:=Nat
def tw15362625264625701625:=Nat
def tw18027404301955527500:=Nat
def tw14670267859781758996:=Nat
def tw14167087946349077404:=Nat
def tw9147300178372430012:=Nat
def tw17470842283515312699:=Nat
def tw3490620052920842277:=Nat
def tw14983010115999767:=Nat
def tw14786800375039203903:=Nat
def tw10080962452620298099:=Nat
def tw11069808589119985961:=Nat
def tw9568921886273377857:=Nat
def tw5127527684575232300:=Nat
def tw3767705687034404002:=Nat
def tw8275844269820787997:=Nat
def tw13423153570090310088:=Nat
def tw15964259346991800308:=Nat
def tw3312149808376134835:=Nat
def tw140443052468485015:=Nat
def tw13360570116689558820:=Nat
def tw1302502679842695150:=Nat
def tw2132913599483702198:=Nat
def tw10694791301147755647:=Nat
def tw834981767806599805:=Nat
def tw1859228473327184231:=Nat
def tw18313249971836516536:=Nat
def tw14252530020826407568:=Nat
def tw10512177687698922021:=Nat
def tw1962304670705164637:=Nat
def tw15304840301469673380:=Nat
def tw13625427640806175777:=Nat
def tw14189096239356506831:=Nat
def tw3530956850691558506:=Nat
def tw12960754076381731803:=Nat
def tw11376006710229772886:=Nat
def tw5709911922783301420:=Nat
def tw12538887936090409228:=Nat
def tw8279296598487820736:=Nat
def tw2181262481451501012:=Nat
def tw3987919509017222305:=Nat
def tw2814445905508964368:=Nat
def tw1203118343504056508:=Nat
def tw2174781708598560658:=Nat
def tw7965410825898160065:=Nat
def tw9726668394070033583:=Nat
def tw5003810053616783802:=Nat
def tw12904645946488663320:=Nat
def tw9455602660452055060:=Nat
def tw7152738819904484359:=Nat
def tw12752646703283241957:=Nat
def tw10749012388305280686:=Nat
def tw14318640294771653627:=Nat
def tw18164369555927759144:=Nat
def tw8875608603439516239:=Nat
def tw16185437716114575792:=Nat
def tw638449071048436047:=Nat
def tw6044922542634018306:=Nat
def tw14417830121714417304:=Nat
def tw15663304220212519026:=Nat
def tw14465044210606170372:=Nat
def tw7069532728348588228:=Nat
def tw9128501771263892086:=Nat
def tw17685865400970374436:=Nat
def tw10407007755155672073:=Nat
def tw14124173513434453554:=Nat
def tw17585697006326725018:=Nat
def tw15325777628161576956:=Nat
def tw5753082310414168713:=Nat
def tw3714293031838691800:=Nat
def tw9705810659488361147:=Nat
def tw11626752971745936875:=Nat
def tw3858139196082591739:=Nat
def tw16598129719893750836:=Nat
def tw3845777149578536327:=Nat
def tw920252679838146897:=Nat
def tw331363742535772456:=Nat
def tw15419151079734513622:=Nat
def tw5894069755786411643:=Nat
def tw6198181776192357753:=Nat
def tw1061075638436804988:=Nat
def tw3446924501357737169:=Nat
def tw11812830548297142513:=Nat
def tw11834438194988171027:=Nat
def tw3515392921866633328:=Nat
def tw18389766850967477266:=Nat
def tw6014841052983481608:=Nat
def tw18121672187300238112:=Nat
def tw1440759664684608595:=Nat
def tw6430195069241846077:=Nat
def tw9257669080374286802:=Nat
def tw8433502370957008620:=Nat
def tw18218832403006955849:=Nat
def tw12304325377965870425:=Nat
def tw12112288564836327765:=Nat
def tw17814329826774495781:=Nat
def tw4268847322189893594:=Nat
def tw8414331280403239106:=Nat
def tw4727981280537352829:=Nat
def tw3252446979227541524:=Nat
def tw8600384673590852966:=Nat
def tw11575815701637171214:=Nat
def tw3702806811265659787:=Nat
def tw11207444840302864724:=Nat
def tw9764888672767119039:=Nat
def tw9044467992623629737:=Nat
def tw15834980952995563807:=Nat
def tw1549728134943415919:=Nat
def tw718466487339535483:=Nat
def tw1342830418034431653:=Nat
def tw9173596216595934104:=Nat
def tw16277466107315025919:=Nat
def tw5951964562831693100:=Nat
def tw13780833613651633642:=Nat
def tw12759548875100491969:=Nat
def tw12273907081020662333:=Nat
def tw9836065465885834145:=Nat
def tw8646509506713887645:=Nat
def tw17846019928882042821:=Nat
def tw1668067263221749268:=Nat
def tw17930678432247651812:=Nat
def tw1010304652041339055:=Nat
def tw7396678901750670942:=Nat
def tw18065684499486572107:=Nat
def tw3018607349935020081:=Nat
def tw5242351892399902875:=Nat
def tw8190764979242234839:=Nat
def tw17558287267909490570:=Nat
def tw15428275082053341275:=Nat
def tw15237899294395110475:=Nat
def tw16661029169290156103:=Nat
def tw3923446713309422769:=Nat
def tw17428650079956989045:=Nat
def tw13239864181671675104:=Nat
def tw6610613085774134790:=Nat
def tw1619223064320545254:=Nat
def tw7208059942764837382:=Nat
def tw8994327480116479133:=Nat
def tw17850676678620648061:=Nat
def tw17689738316551493333:=Nat
def tw11832799977827805915:=Nat
def tw10205488050657121180:=Nat
def tw2579531071322244753:=Nat
def tw18077657648932746471:=Nat
def tw16517764920792306201:=Nat
def tw9266186571994993331:=Nat
def tw3247432936607793926:=Nat
def tw2439171250931309811:=Nat
def tw10806712365692472632:=Nat
def tw1028892849271022821:=Nat
def tw11423260403491419697:=Nat
def tw13693883736207998004:=Nat
def tw5135962077548530355:=Nat
def tw3894720359290897936:=Nat
def tw14182852521201939210:=Nat
def tw18350352926658325964:=Nat
def tw12807128746481509236:=Nat
def tw8220752036614565306:=Nat
def tw17468414814039153016:=Nat
def tw5953465762973461684:=Nat
def tw6981887770103646103:=Nat
def tw3714132475538955087:=Nat
def tw855002691770576258:=Nat
def tw16406136376389786273:=Nat
def tw873148366882185190:=Nat
def tw16278336714768816462:=Nat
def tw1983987371033527332:=Nat
def tw14997155951124657191:=Nat
def tw18150720794855238934:=Nat
def tw7445994513290588866:=Nat
def tw16703406097060246099:=Nat
def tw1751582593161395297:=Nat
def tw13564521648917935749:=Nat
def tw14584085146718345818:=Nat
def tw7922037382052011337:=Nat
def tw16963749407786280531:=Nat
def tw9960490292962311397:=Nat
def tw15876050203444856895:=Nat
def tw13877370710501816963:=Nat
def tw7534051340497745591:=Nat
def tw1876621938973559830:=Nat
def tw11275178462085795970:=Nat
def tw2200225906374941591:=Nat
def tw16298371862071987534:=Nat
def tw564840682872058843:=Nat
def tw10542532900398392478:=Nat
def tw1125895144319573061:=Nat
def tw16507373380666344728:=Nat
def tw9041092202744585068:=Nat
def tw354341834042005344:=Nat
def tw12898740211258635371:=Nat
end PySem.W.Fast
section
namespace L2
open PySem PySem.Spec PyProof.Rows
abbrev Key:=Sum Int JM
def dN:Key->KB->Bool
 |.inl k,v=>Value.isInt k v
 |.inr x,v=>Value.isStrOf x v
def keyH(w:R5):Key->Int
 |.inl k=>hashInt k
 |.inr x=>hashStr w x
def keyIs_shape:∀{k:Key} {v:KB},dN k v=true->(∃i t,k=Sum.inl i/\v=Value.int i t)\/(∃x t,k=Sum.inr x/\v=Value.str x t)
 |.inl i,v,h=>by
  obtain⟨t,e⟩:=Value.isInt_shape (k:=i) (v:=v) h;exact .inl #[i,t,rfl,e]
 |.inr x,v,h=>by
  obtain⟨t,e⟩:=Value.isStrOf_shape (x:=x) (v:=v) h;exact .inr #[x,t,rfl,e]
def vB(i:Int)(t:Ul):dN (.inl i) (.int i t)=true:=by simp[dN,Value.isInt]
def vC(x:JM)(t:Ul):dN (.inr x) (.str x t)=true:=by simp[dN,Value.isStrOf]
def vD(a b:Int):decide ((Sum.inl a:Key)=Sum.inl b)=(a==b):=by
 by_cases e:a=b
 .subst e;simp
 .have h:¬(Sum.inl a:Key)=Sum.inl b:=λq=>e (Sum.inl.inj q);rw[decide_eq_false h];exact(beq_eq_false_iff_ne.mpr e).symm
def vE(a b:JM):decide ((Sum.inr a:Key)=Sum.inr b)=decide (a=b):=by
 by_cases e:a=b
 .subst e;simp
 .have h:¬(Sum.inr a:Key)=Sum.inr b:=λq=>e (Sum.inr.inj q);rw[decide_eq_false h,decide_eq_false e]
def vF(a:Int)(b:JM):decide ((Sum.inl a:Key)=Sum.inr b)=false:=decide_eq_false (λq=>nomatch q)
def vG(a:JM)(b:Int):decide ((Sum.inr a:Key)=Sum.inl b)=false:=decide_eq_false (λq=>nomatch q)
def bD(prog:P3)(w:R5):PySem.KeyKind prog w Key where
 is:=dN
 hash:=keyH w
 inj:=λv a b ha hb=>by
  rcases keyIs_shape ha with⟨i,t,rfl,rfl⟩|⟨x,t,rfl,rfl⟩
  .rcases keyIs_shape hb with⟨j,u,rfl,e⟩|⟨y,u,rfl,e⟩
   .injection e with e1 _;rw[e1]
   .exact nomatch e
  .rcases keyIs_shape hb with⟨j,u,rfl,e⟩|⟨y,u,rfl,e⟩
   .exact nomatch e
   .injection e with e1 _;rw[e1]
 byValue:=λk v h=>by
  rcases keyIs_shape h with⟨i,t,rfl,rfl⟩|⟨x,t,rfl,rfl⟩<;>rfl
 pyHash:=λhv h=>by
  rcases keyIs_shape hv with⟨i,t,rfl,rfl⟩|⟨x,t,rfl,rfl⟩
  .exact wpAny_pyHash_int h
  .exact wpAny_pyHash_str h
 eqBool:=λhu hv h=>by
  rcases keyIs_shape hu with⟨i,t,rfl,rfl⟩|⟨x,t,rfl,rfl⟩
  .rcases keyIs_shape hv with⟨j,u,rfl,rfl⟩|⟨y,u,rfl,rfl⟩
   .rw[vD]at h;exact wpAny_eqBool_int h
   .rw[vF]at h;exact SeqAt.EqAt.int_str i t y u _ _ _ _ h
  .rcases keyIs_shape hv with⟨j,u,rfl,rfl⟩|⟨y,u,rfl,rfl⟩
   .rw[vG]at h;exact SeqAt.EqAt.str_int x t j u _ _ _ _ h
   .rw[vE]at h;exact wpAny_eqBool_str h
 «strs»:=λk x t v h=>by
  rcases keyIs_shape h with⟨i,u,rfl,e⟩|⟨y,u,rfl,e⟩
  .exact nomatch e
  .injection e with e1 _;subst e1;cases v<;>rfl
def mixKind_int(prog:P3)(w:R5)(i:Int)(t:Ul):(bD prog w).is (.inl i) (.int i t)=true:=vB i t
def vH(prog:P3)(w:R5)(x:JM)(t:Ul):(bD prog w).is (.inr x) (.str x t)=true:=vC x t
inductive V where
 |non|bl (b:Bool)|int (i:Int)|str (x:Str)|byt (b:Array UInt8)|flt (b:UInt64)|ref (a:KF)|ty (n:String)
 deriving DecidableEq
def RelV:V->KB->Prop
 |.non,u=>u=Value.none
 |.bl b,u=>u=Value.bool b
 |.int i,u=>∃t,u=Value.int i t
 |.str x,u=>∃t,u=Value.str x t
 |.byt b,u=>∃t,u=Value.bytes b t
 |.flt b,u=>∃t,u=Value.float b t
 |.ref a,u=>u=Value.ref a
 |.ty n,u=>u=Value.type n
abbrev Vals:List V->List KB->Prop:=Paired RelV
variable{xs:List V}{us:List KB}
def Vals.length(r:Vals xs us):xs.length=us.length:=Paired.length r
def Vals.get:∀{xs:List V} {us:List KB} {i:Nat} {x:V},Vals xs us->xs[i]?=be x->∃u,us[i]?=be u/\RelV x u
 |_,_,_,_,.nil,e=>by simp at e
 |_,_,0,_,.cons r _,e=>by simp at e;subst e;exact#[_,rfl,r]
 |_,_,i+1,x,.cons _ t,e=>by
  obtain⟨u,h1,h2⟩:=Vals.get (i:=i) (x:=x) t (by simpa using e);exact#[u,by simpa using h1,h2]
def Vals.set{x:V}{u:KB}(r:RelV x u):∀{xs:List V} {us:List KB} (i:Nat),Vals xs us->Vals (xs.set i x) (us.set i u)
 |_,_,_,.nil=>.nil
 |_,_,0,.cons _ t=>.cons r t
 |_,_,i+1,.cons q t=>.cons q (Vals.set r i t)
def Vals.append:∀{xs ys:List V} {us ws:List KB},Vals xs us->Vals ys ws->Vals (xs++ys) (us++ws):=by
 intro xs ys us ws h s;induction h with
 |nil=>exact s
 |cons r _ e=>exact .cons r e
def Vals.take:∀{xs:List V} {us:List KB} (n:Nat),Vals xs us->Vals (xs.take n) (us.take n)
 |_,_,0,_=>.nil
 |_,_,_+1,.nil=>.nil
 |_,_,n+1,.cons r t=>.cons r (Vals.take n t)
def Vals.drop:∀{xs:List V} {us:List KB} (n:Nat),Vals xs us->Vals (xs.drop n) (us.drop n)
 |_,_,0,r=>r
 |_,_,_+1,.nil=>.nil
 |_,_,n+1,.cons _ t=>Vals.drop n t
def RelO:Option V->Option KB->Prop
 |some v,be u=>RelV v u
 |none,G_=>True
 |_,_=>False
def KV{κ:Type}:List (κ×V)->List (κ×KB)->Prop:=Paired λ(p:κ×V) (q:κ×KB)=>p.1=q.1/\RelV p.2 q.2
def kV:Key->V
 |.inl i=>.int i
 |.inr x=>.str x
inductive HO where
  |lst (xs:List V)
  |tup (xs:List V)
  |dK (b7:List (Key×V))|dT (b7:List (List Key×V))
  |set (S:Int->Bool) (n:Nat)
  |ins (C dx:KF) (fs:List (JM×V))
  |own (x:KF)
  |xd (fs:List (JM×V))
  |met (f x:KF)
  |rng (lo hi:Int)
  |frz (o:Sj) (u:HO)
  |tbl (ps:Array KB)
  |ext (φ:Heap->Prop)
abbrev Hp:=KF->Option HO
def upd(H:Hp)(a:KF)(o:HO):Hp:=λb=>if b=a then be o else H b
variable{H:Hp}{a:KF}{o:HO}
def av:upd H a o a=be o:=by unfold upd;rw[if_pos rfl]
variable{b:KF}
def aj(h:b≠a):upd H a o b=H b:=by unfold upd;rw[if_neg h]
def vI{u:HO}(h:H a=be o)(h':H b=be u)(d:o≠u):a≠b:=by
 intro e;subst e;rw[h]at h';exact d (Option.some.inj h')
def bx(h:H a=be o)(h':H b=G_):a≠b:=by
 intro e;subst e;rw[h]at h';cases h'
section
variable (P:P3)(w:R5)
def ObjOk(H:Hp)(h:Heap)(a:KF):HO->Prop
 |.lst xs=>xs.length<=sizeLine/\∃(its:List KB) (n:Nat),Vals xs its/\h.get? a=be {cls:=.type "list",data:=.seq its.toArray n}
 |.tup xs=>xs.length<=sizeLine/\∃its:List KB,Vals xs its/\IsTup h a its.toArray
 |.dK b7=>b7.length<=sizeLine/\(a==Su)=false/\∃vs,KV b7 vs/\h.DictOf (bD P w) a vs
 | .dT b7=>b7.length<=sizeLine/\(a==Su)=false/\∃xs:List (List Key×KF×KB),
   Paired (λ(p:List Key×V) (q:List Key×KF×KB)=>p.1=q.1/\H q.2.1=be (.tup (p.1.map kV))/\RelV p.2 q.2.2) b7 xs/\
   ∃o es ep,h.get? a=be o/\o.ExactDict/\o.data=.dict es ep/\es.toList=xs.map (entryOfKey (S2 (bD P w)))/\(xs.map (·.1)).Nodup
 |.set S n=>h.SetOf (intKind P w) a S n
 | .ins C dx fs=>H dx=be (.own a)/\fs.length<=1000/\dx≠a/\h.get? a=be (instObj C dx)/\
   ∃mA,h.Ns1 dx mA/\(∀f,RelO (fs.lookup f) (mA f))/\PySem.Within mA (fs.map (·.1))
 |.own _=>∃o,h.get? a=be o
 |.xd fs=>∃mA,h.Ns1 a mA/\∀f,RelO (fs.lookup f) (mA f)
 |.rng lo hi=>∃t u v,h.get? a=be {cls:=.type "range",data:=.fields [.int lo t,.int hi u,.int 1 v].toArray}
 |.frz o u=>h.get? a=be o/\ObjOk H h a u
 |.tbl ps=>h.get? a=be {cls:=.none,data:=.fields ps}
 |.met f x=>h.get? a=be (methodObj (.ref f) (.ref x))
 |.ext φ=>φ h/\(∃o,h.get? a=be o)/\∀h1 h2:Heap,φ h1->(∀o,h1.get? a=be o->h2.get? a=be o)->φ h2
def HOk(H:Hp)(h:Heap):Prop:=∀a o,H a=be o->ObjOk P w H h a o
end
section
variable {P:P3}{w:R5}{H H':Hp}{h h':Heap}{a:KF}{o:HO}
def ObjOk.lt(x:ObjOk P w H h a o):a<h.objs.size:=by
 cases o with
 |lst xs=>obtain⟨_,_,_,_,e⟩:=x;exact Heap.lt_size e
 |tup xs=>obtain⟨_,_,_,p⟩:=x;exact p.lt
 |dK b7=>obtain⟨_,_,_,_,o,_,_,e,_⟩:=x;exact Heap.lt_size e
 |dT b7=>obtain⟨_,_,_,_,o,_,_,e,_⟩:=x;exact Heap.lt_size e
 |set S n=>obtain⟨o,_,_,_,e,_⟩:=x;exact Heap.lt_size e
 |ins C dx fs=>obtain⟨_,_,_,e,_⟩:=x;exact Heap.lt_size e
 |own y=>obtain⟨_,e⟩:=x;exact Heap.lt_size e
 |xd fs=>obtain⟨_,⟨_,_,_,e,_⟩,_⟩:=x;exact Heap.lt_size e
 |rng lo hi=>obtain⟨_,_,_,e⟩:=x;exact Heap.lt_size e
 |frz ob u=>obtain⟨e,_⟩:=x;exact Heap.lt_size e
 |tbl ps=>exact Heap.lt_size (show h.get? a=be _ from x)
 |met f y=>exact Heap.lt_size (show h.get? a=be _ from x)
 |ext φ=>obtain⟨_,⟨_,e⟩,_⟩:=x;exact Heap.lt_size e
def Paired.mapP{α β:Type}{F G:α->β->Prop}:∀{l₁:List α} {l₂:List β},Paired F l₁ l₂->(∀a b,F a b->G a b)->Paired G l₁ l₂:=by
 intro l₁ l₂ h f;induction h with
 |nil=>exact .nil
 |cons r _ e=>exact .cons (f _ _ r) e
def ObjOk.stay(x:ObjOk P w H h a o)(k:∀b u,(b=a\/H b=be (.own a))->h.get? b=be u->h'.get? b=be u)
  (ho:∀b,H b=be (.own a)->H' b=be (.own a)) (ht:∀b xs,H b=be (.tup xs)->H' b=be (.tup xs)):ObjOk P w H' h' a o:=by
 induction o with
 |lst xs=>obtain⟨z,its,n,r,e⟩:=x;exact#[z,its,n,r,k _ _ (.inl rfl) e]
 |tup xs=>obtain⟨z,its,r,ob,e,c⟩:=x;exact#[z,its,r,ob,k _ _ (.inl rfl) e,c]
 |dK b7=>obtain⟨z,y,vs,r,ob,es,ep,e,c⟩:=x;exact#[z,y,vs,r,ob,es,ep,k _ _ (.inl rfl) e,c]
 |dT b7=>
  obtain⟨z,y,xs,r,ob,es,ep,e,c⟩:=x;exact#[z,y,xs,Paired.mapP r λp q z=>#[z.1,ht _ _ z.2.1,z.2.2],ob,es,ep,k _ _ (.inl rfl) e,c]
 |set S n=>obtain⟨ob,es,ep,t,e,c⟩:=x;exact#[ob,es,ep,t,k _ _ (.inl rfl) e,c]
 |ins C dx fs=>
  obtain⟨d,z,ne,e,mA,⟨od,es,ep,e2,c⟩,r⟩:=x;exact#[ho _ d,z,ne,k _ _ (.inl rfl) e,mA,#[od,es,ep,k _ _ (.inr d) e2,c],r]
 |own y=>obtain⟨ob,e⟩:=x;exact#[ob,k _ _ (.inl rfl) e]
 |xd fs=>obtain⟨mA,⟨od,es,ep,e,c⟩,r⟩:=x;exact#[mA,#[od,es,ep,k _ _ (.inl rfl) e,c],r]
 |rng lo hi=>obtain⟨t,u,v,e⟩:=x;exact#[t,u,v,k _ _ (.inl rfl) e]
 |frz ob u ih=>obtain⟨e,q⟩:=x;exact#[k _ _ (.inl rfl) e,ih q]
 |tbl ps=>
  have e:h.get? a=be {cls:=.none,data:=.fields ps}:=x;show h'.get? a=be {cls:=.none,data:=.fields ps};exact k a _ (.inl rfl) e
 |met f y=>
  have e:h.get? a=be (methodObj (.ref f) (.ref y)):=x;show h'.get? a=be (methodObj (.ref f) (.ref y));exact k a _ (.inl rfl) e
 |ext φ=>obtain⟨p,⟨o,e⟩,st⟩:=x;exact#[st _ _ p λo q=>k _ _ (.inl rfl) q,#[o,k _ _ (.inl rfl) e],st]
def HOk.lt(x:HOk P w H h)(e:H a=be o):a<h.objs.size:=(x a o e).lt
def HOk.fresh(x:HOk P w H h)(e:h.objs.size<=a):H a=none:=by
 cases q:H a with
 |none=>rfl
 |some u=>exact absurd (Gk (x.lt q) e) (GV _)
def HOk.kept(x:HOk P w H h)(k:∀b u,h.get? b=be u->h'.get? b=be u):HOk P w H h':=λa o e=>
 (x a o e).stay (λb u _ q=>k b u q) (λ_ q=>q) λ_ _ q=>q
def HOk.laid(x:HOk P w H h)(k:∀b u,h.get? b=be u->h'.get? b=be u)(hp:h.objs.size<=a)(new:ObjOk P w (upd H a o) h' a o):HOk P w (upd H a o) h':=λb u e=>by
 have hn:=x.fresh hp;by_cases hb:b=a
 .subst hb;rw[av]at e;cases e;exact new
 .rw[aj hb]at e;exact(x b u e).stay (λc v _ q=>k c v q) (λc q=>by rw[aj (bx q hn)];exact q) λc xs q=>by rw[aj (bx q hn)];exact q
end
def Rd(H:Hp)(a:KF)(u:HO):Prop:=H a=be u\/∃o,H a=be (.frz o u)
variable{P:P3}{w:R5}{h:Heap}
def Rd.ok{u:HO}(r:Rd H a u)(x:HOk P w H h):ObjOk P w H h a u:=by
 rcases r with r|⟨o,r⟩
 .exact x a u r
 .obtain⟨_,q⟩:=x a _ r;exact q
def Mut:Option HO->Prop
 |some (.lst _)=>True
 |some (.dK _)=>True
 |some (.dT _)=>True
 |some (.set _ _)=>True
 |some (.ins _ _ _)=>True
 |some (.ext _)=>True
 |_=>False
section
variable {P:P3}{w:R5}{H:Hp}{h h':Heap}{x e:KF}{o':HO}
def HOk.write(ok:HOk P w H h)(mu:Mut (H x))(he:e=x\/H e=be (.own x))(k:∀b u,b≠e->h.get? b=be u->h'.get? b=be u)(F_:∃u,h'.get? e=be u)
  (new:ObjOk P w (upd H x o') h' x o'):HOk P w (upd H x o') h':=λb u q=>by
 have nown:∀c y,H c=be (.own y)->c≠x:=λc y r z=>by subst z;rw[r]at mu;exact mu
 have MH:∀c xs,H c=be (.tup xs)->c≠x:=λc xs r z=>by subst z;rw[r]at mu;exact mu
 by_cases hb:b=x
 .subst hb;rw[av]at q;cases q;exact new
 .rw[aj hb]at q;by_cases Kl:b=e
  .have q':H b=be (.own x):=by
    rcases he with z|z
    .exact absurd (Kl.trans z) hb
    .rw[Kl];exact z
   rw[q]at q';cases q';obtain⟨v,hv⟩:=F_;exact#[v,by rw[Kl];exact hv]
  .refine(ok b u q).stay (λc v hc r=>k c v ?_ r) (λc r=>by rw[aj (nown c b r)];exact r) λc xs r=>by rw[aj (MH c xs r)];exact r
   rcases hc with rfl|hc
   .exact Kl
   .rintro rfl;rcases he with z|z
    .exact nown c b hc z
    .rw[hc]at z;cases z;exact hb rfl
end
structure Un(fs ex:List KF)(H H':Hp)(h h':Heap):Prop where
 keep:∀b o,h.get? b=be o->H b=G_->b∉fs->b∉ex->h'.get? b=be o
 slot:∀b o,h.get? b=be o->H b=G_->b∈fs->b∉ex->∃sl,h'.get? b=be {o with slots:=sl}
 free:∀b o,h.get? b=be o->H b=G_->b∉ex->H' b=G_
 there:∀b o,h.get? b=be o->b∉ex->∃o',h'.get? b=be o'
 tups:∀b xs,H b=be (.tup xs)->H' b=be (.tup xs)
 frzs:∀b o u,H b=be (.frz o u)->H' b=be (.frz o u)
 tbls:∀b ps,H b=be (.tbl ps)->∃more,H' b=be (.tbl (ps++more))
section
variable {fs l9 ex OU:List KF}{H H1 H2:Hp}{h h1 h2 h':Heap}{a x e:KF}{o:HO}
def Un.any(u:Un fs ex H H1 h h1){b:KF}{ob:Sj}(q:h.get? b=be ob)(n:H b=G_)(hx:b∉ex):∃sl,h1.get? b=be {ob with slots:=sl}:=by
 by_cases hb:b∈fs
 .exact u.slot b ob q n hb hx
 .exact#[ob.slots,u.keep b ob q n hb hx]
def Un.kept(k:∀b u,h.get? b=be u->h'.get? b=be u):Un fs ex H H h h':=
 #[λb ob q _ _ _=>k b ob q,λb ob q _ _ _=>#[ob.slots,k b ob q],λ_ _ _ n _=>n,λb ob q _=>#[ob,k b ob q],λ_ _ q=>q,λ_ _ _ q=>q,λ_ ps q=>#[[].toArray,by rw[q];simp]]
def Un.refl:Un fs ex H H h h:=Un.kept λ_ _ q=>q
def Un.laid(k:∀b u,h.get? b=be u->h'.get? b=be u)(hp:h.objs.size<=a)(hn:H a=G_):Un fs ex H (upd H a o) h h' where
 keep:=λb u q _ _ _=>k b u q
 slot:=λb u q _ _ _=>#[u.slots,k b u q]
 free:=λb u q n _=>by rw[aj (F6 (Gk (Heap.lt_size q) hp))];exact n
 there:=λb u q _=>#[u,k b u q]
 tups:=λb xs q=>by rw[aj (bx q hn)];exact q
 frzs:=λb u xs q=>by rw[aj (bx q hn)];exact q
 tbls:=λb ps q=>#[[].toArray,by rw[aj (bx q hn),q];simp]
def Un.write(mu:Mut (H x))(he:e=x\/H e=be (.own x))(k:∀b u,b≠e->h.get? b=be u->h'.get? b=be u)(F_:∃u,h'.get? e=be u):Un fs ex H (upd H x o) h h':=by
 have hx:∀b,H b=G_->b≠x:=λb n z=>by subst z;rw[n]at mu;exact mu
 have hb:∀b,H b=G_->b≠e:=λb n z=>by
  subst z;rcases he with r|r
  .exact hx b n r
  .rw[n]at r;cases r
 have hm:∀b u,H b=be u->¬Mut (be u)->b≠x:=λb u q nm z=>by subst z;rw[q]at mu;exact nm mu
 refine⟨λb u q n _ _=>k b u (hb b n) q,λb u q n _ _=>#[u.slots,k b u (hb b n) q],λb u q n _=>by rw[aj (hx b n)];exact n,λb u q _=>?_,
  λb xs q=>by rw[aj (hm b _ q λz=>z)];exact q,λb u xs q=>by rw[aj (hm b _ q λz=>z)];exact q,λb ps q=>#[[].toArray,by rw[aj (hm b _ q λz=>z),q];simp]⟩
 by_cases Kl:b=e
 .subst Kl;exact F_
 .exact#[u,k b u Kl q]
end
def trk(h:Heap)(H:Hp):List KF:=(FY h.objs.size).filter λa=>(H a).isSome
def hidT(h:Heap)(H:Hp):Heap:=hideAll h (trk h H)
def vJ(h:Heap)(H:Hp):(hidT h H).objs.size=h.objs.size:=hideAll_size _ _
def vK{o:Sj}(e:h.get? b=be o)(n:H b=G_):(hidT h H).get? b=be o:=
 hideAll_get _ e λhm=>by
  have q:(H b).isSome=true:=(Iz.mp hm).2;rw[n]at q;simp at q
def vL{o:Sj}(e:(hidT h H).get? b=be o):h.get? b=be o/\H b=none:=by
 have e':h.get? b=be o:=of_hideAll (trk h H) e;refine#[e',?_];cases q:H b with
 |none=>rfl
 |some x=>
  have hm:b∈trk h H:=Iz.mpr #[List.mem_range.mpr (Heap.lt_size e'),by simp[q]];have z:(hidT h H).get? b=none:=hideAll_none (trk h H) hm;rw[z]at e;cases e
structure Mod(K:Ex)(mg:Str->Option KB)(base:Heap):Prop where
 kin:K.In base
 glob:base.Ns Pi mg
 blt:∃mb,base.Ns Ue mb/\∀x:JM,x≠"__name__"->mb x=Si x
 nolimit:base.NoLimit
structure Cx where
 prog:P3
 w:R5
 K:Ex
 mg:JM->Option KB
 base:Heap
 A:R6
 N:List JM
 s₀:KM
 H₀:Hp
 env:SU
 outer:List SU
 stack:List SU
 ex:List KF
 fn:JM->Bool
 calm:Bool
 pn:List (KF×Sj)
 xe:KB->KM->Prop
abbrev zSE(X:Cx)(e:RZ)(es:List RZ):Prop:=R8 (e::es) X.env=(false,Sa e X.env)::R8 es X.env
abbrev zPL(X:Cx)(p:Sb)(es:List RZ):Prop:=(SZ p (R8 es X.env)).any (·.1)=false
abbrev zHF(X:Cx)(p:Sb)(es:List RZ):Prop:=((SZ p (R8 es X.env)).all (λx=>!x.1)&&(Tg p (SX [] X.env)).all (λx=>x.1.isSome)&&decide (es.length+([]:List Um).length+(if([]:List Um).isEmpty then 0 else 1)<30))=true
abbrev zFN(X:Cx)(x:JM):Prop:=X.fn x=true\/X.env.scope.names.lookup x=be .local
abbrev zND(x:JM):Prop:=(x==("__debug__":JM))=false
abbrev zNC(x:JM):Prop:=(x==("__classdict__":JM))=false
abbrev zFS(X:Cx)(e:RZ)(y:KB):Prop:=Uk e X.env y=pure y
def frs(l:List SU):List KF:=l.filterMap (·.frame)
abbrev Cx.fs(X:Cx):List KF:=frs X.outer
def Vis(sc:Sw)(x:JM):Prop:=sc.names.lookup x=be .local\/sc.names.lookup x=be .cell\/sc.names.lookup x=be .free
def Loc(sc:Sw)(x:JM):Prop:=sc.names.lookup x=be .local\/sc.names.lookup x=be .cell
def Look(env:SU)(h:Heap)(m:JM->Option KB)(x:JM)(u:KB):Prop:=
 (env.kindOf x=be .local/\m x=be u)\/((env.kindOf x=be .cell\/env.kindOf x=be .free)/\∃c,env.cells.lookup x=be c/\h.IsCell c (be u))
structure Cx.Ok(X:Cx):Prop where
 mod:Mod X.K X.mg X.base
 kind:X.env.scope.kind=.function
 glob:X.env.globals=Pi
 blt:X.env.builtins=Ue
 above:X.s₀.heap.objs.size<=X.env.locals
 inj:∀x y c,X.env.cells.lookup x=be c->X.env.cells.lookup y=be c->x=y
 has:∀x,(X.env.kindOf x=be .cell\/X.env.kindOf x=be .free)->∃c,X.env.cells.lookup x=be c
 cab:∀x c,X.fn x=true->X.env.cells.lookup x=be c->X.s₀.heap.objs.size<=c
 hd:X.calm=true->X.A.handled=G_
 frames:X.A.frames=be X.stack
 stk:X.stack=X.outer\/(X.stack=X.env::X.outer/\X.env.frame=be X.env.locals)
 exf:∀b∈X.ex,b≠X.env.locals/\∀x c,X.env.cells.lookup x=be c->c≠b
 bs:∀b o,X.base.get? b=be o->X.s₀.heap.get? b=be o/\X.H₀ b=G_
 bsz:X.base.objs.size<=X.s₀.heap.objs.size
 noex:∀b o,X.base.get? b=be o->b∉X.ex
 exfs:∀b∈X.ex,b∉X.fs
 funs:X.s₀.heap.FunFrames X.base X.outer
 frf:∀b∈X.fs,X.H₀ b=G_
structure Inv(X:Cx)(pins:List (KF×Sj))(σ:List (Option V))(H:Hp)(s:KM):Prop where
 ok:X.Ok
 os:s.os=X.s₀.os
 bare:SY s.gens
 base:Un X.fs X.ex X.H₀ H X.s₀.heap s.heap
 loc:∃m,s.heap.Ns X.env.locals m/\∀(i:Nat) (x:JM) (v:V),X.N[i]?=be x->σ[i]?=be (be v)->Vis X.env.scope x->∃u,RelV v u/\Look X.env s.heap m x u
 cell:∀x c,X.env.cells.lookup x=be c->∃v,s.heap.IsCell c v
 free:H X.env.locals=G_
 freeC:∀x c,X.env.cells.lookup x=be c->H c=G_
 pin:∀p∈X.pn++pins,s.heap.get? p.1=be p.2/\H p.1=G_/\p.1≠X.env.locals/\p.1∉X.fs/\∀v,p.2.data≠.cell v
 hok:HOk X.prog X.w H s.heap
 len:σ.length=X.N.length
section
variable {X:Cx}{pins:List (KF×Sj)}{σ:List (Option V)}{H H':Hp}{s:KM}{h':Heap}
def Cx.Ok.nofr(ok:X.Ok){b:KF}{o:Sj}(e:X.base.get? b=be o):b∉X.fs:=λhb=>by
 have:=(ok.funs.mem hb).1;rw[e]at this;cases this
def Inv.bs(I:Inv X pins σ H s):∀b o,X.base.get? b=be o->s.heap.get? b=be o/\H b=none:=λb o e=>
 #[I.base.keep b o (I.ok.bs b o e).1 (I.ok.bs b o e).2 (I.ok.nofr e) (I.ok.noex b o e),I.base.free b o (I.ok.bs b o e).1 (I.ok.bs b o e).2 (I.ok.noex b o e)]
def Inv.bk(I:Inv X pins σ H s):∀b o,X.base.get? b=be o->s.heap.get? b=be o:=λb o e=>(I.bs b o e).1
def Inv.mod(I:Inv X pins σ H s):Mod X.K X.mg X.base:=I.ok.mod
def Inv.kIn(I:Inv X pins σ H s):X.K.In s.heap:=I.ok.mod.kin.keeps I.bk
def Inv.lt(I:Inv X pins σ H s):X.env.locals<s.heap.objs.size:=let ⟨_,hn,_⟩:=I.loc;hn.lt
def Inv.sz(I:Inv X pins σ H s):X.s₀.heap.objs.size<=s.heap.objs.size:=Ga I.ok.above (Hu I.lt)
def Inv.nofs(I:Inv X pins σ H s){a:KF}(h:s.heap.objs.size<=a):a∉X.fs:=λhb=>by
 obtain⟨_,o,ho,_⟩:=I.ok.funs.mem hb;exact absurd (Gk (Heap.lt_size ho) (Ga I.sz h)) (GV _)
def Inv.cne(I:Inv X pins σ H s):∀x c,X.env.cells.lookup x=be c->c≠X.env.locals:=λx c e z=>by
 obtain⟨v,o,ho,hd⟩:=I.cell x c e;obtain⟨m,⟨o',es,ep,Km,g7,_⟩,_⟩:=I.loc;rw[z,Km]at ho;cases ho;rw[g7]at hd;cases hd
def Inv.funs(I:Inv X pins σ H s):s.heap.FunFrames X.base X.outer:=by
 have all:∀(l:List SU),(∀b∈frs l,b∈X.fs)->X.s₀.heap.FunFrames X.base l->s.heap.FunFrames X.base l:=by
  intro l;induction l with
  |nil=>intro _ _;trivial
  |cons env r ih=>
   intro hs hl;obtain⟨hk,⟨L,o,hf,hn,ho,hd⟩,hr⟩:=hl;have hL:L∈X.fs:=hs L (by unfold frs;rw[Hv,hf];exact Gd);obtain⟨sl,e⟩:=I.base.slot L o ho (I.ok.frf L hL) hL λz=>I.ok.exfs L z hL;exact#[hk,#[L,_,hf,hn,e,hd],ih (λb hb=>hs b (by unfold frs;rw[Hv,hf];exact F8 _ hb)) hr]
 exact all X.outer (λ_ hb=>hb) I.ok.funs
def Inv.stack(I:Inv X pins σ H s):s.heap.FunFrames X.base X.stack:=by
 rcases I.ok.stk with e|⟨e,hf⟩
 .rw[e];exact I.funs
 .rw[e];obtain⟨m,hn,_⟩:=I.loc;refine .cons (by rw[I.ok.kind];decide) hf hn ?_ I.funs;exact Heap.get?_none_of_le (Ga I.ok.bsz I.ok.above)
def Inv.stkSub(I:Inv X pins σ H s):∀b∈frs X.stack,b∈X.env.locals::X.fs:=λb hb=>by
 rcases I.ok.stk with e|⟨e,hf⟩
 .rw[e]at hb;exact F8 _ hb
 .rw[e]at hb;unfold frs at hb;rw[Hv,hf]at hb;exact hb
def Inv.stkFree(I:Inv X pins σ H s):∀b∈frs X.stack,H b=none:=λb hb=>by
 rcases F5.mp (I.stkSub b hb)with e|hb
 .rw[e];exact I.free
 .obtain⟨_,o,ho,_⟩:=I.ok.funs.mem hb;exact I.base.free b o ho (I.ok.frf b hb) λz=>I.ok.exfs b z hb
variable{g':Array T7}{ch:List KF}
def Inv.step{t':Nat}{d':Drawn}(I:Inv X pins σ H s)
  (G':∀b∈ch,(b∈X.ex\/X.s₀.heap.objs.size<=b)/\b≠X.env.locals/\(∀x c,X.env.cells.lookup x=be c->c≠b)/\∀p∈X.pn++pins,p.1≠b)
  (keep:∀b o,b≠X.env.locals->b∉X.fs->b∉ch->s.heap.get? b=be o->H b=G_->h'.get? b=be o)
  (slot:∀b o,b≠X.env.locals->b∈X.fs->b∉ch->s.heap.get? b=be o->H b=G_->∃sl,h'.get? b=be {o with slots:=sl}) (free:∀b o,b∉ch->s.heap.get? b=be o->H b=G_->H' b=G_)
  (there:∀b o,b∉ch->s.heap.get? b=be o->∃o',h'.get? b=be o')
  (tups:∀b xs,H b=be (.tup xs)->H' b=be (.tup xs)) (frzs:∀b o u,H b=be (.frz o u)->H' b=be (.frz o u)) (tbls:∀b ps,H b=be (.tbl ps)->∃more,H' b=be (.tbl (ps++more)))
  (ns:∀m,s.heap.Ns X.env.locals m->h'.Ns X.env.locals m) (hok:HOk X.prog X.w H' h') (hg:SY g'):
  Inv X pins σ H' {s with heap:=h',gens:=g',drawn:=d',toks:=t'}:=by
 have OV:∀b o,X.s₀.heap.get? b=be o->b≠X.env.locals:=λb o e=>F6 (Gk (Heap.lt_size e) I.ok.above);have Me:∀b o,X.s₀.heap.get? b=be o->b∉X.ex->b∉ch:=λb o e hx hb=>by
  rcases(G' b hb).1 with z|z
  .exact hx z
  .exact absurd (Gk (Heap.lt_size e) z) (GV _)
 have m8:∀x c,X.env.cells.lookup x=be c->∀v,s.heap.IsCell c v->h'.IsCell c v:=λx c e v ⟨o,ho,hd⟩=>by
  have Le:c∉ch:=λz=>(G' c z).2.2.1 x c e rfl;by_cases hc:c∈X.fs
  .obtain⟨sl,q⟩:=slot c o (I.cne x c e) hc Le ho (I.freeC x c e);exact#[_,q,hd]
  .exact#[o,keep c o (I.cne x c e) hc Le ho (I.freeC x c e),hd]
 refine#[I.ok,I.os,hg,#[λb o e n hb hx=>?_,λb o e n hb hx=>?_,λb o e n hx=>?_,λb o e hx=>?_,λb xs e=>tups b xs (I.base.tups b xs e),λb o xs e=>frzs b o xs (I.base.frzs b o xs e),λb ps e=>?_],?_,λx c e=>?_,?_,λx c e=>?_,λp hp=>?_,hok,I.len]
 .exact keep b o (OV b o e) hb (Me b o e hx) (I.base.keep b o e n hb hx) (I.base.free b o e n hx)
 .obtain⟨sl,e1⟩:=I.base.slot b o e n hb hx;obtain⟨v9,e2⟩:=slot b _ (OV b o e) hb (Me b o e hx) e1 (I.base.free b o e n hx);exact#[v9,e2]
 .obtain⟨o',e1⟩:=I.base.there b o e hx;exact free b o' (Me b o e hx) e1 (I.base.free b o e n hx)
 .obtain⟨o',e1⟩:=I.base.there b o e hx;exact there b o' (Me b o e hx) e1
 .obtain⟨m1,e1⟩:=I.base.tbls b ps e;obtain⟨m2,e2⟩:=tbls b _ e1;exact#[m1++m2,by rw[e2,Array.append_assoc]]
 .obtain⟨m,hn,hl⟩:=I.loc;refine#[m,ns m hn,λi x v e1 e2 e3=>?_];obtain⟨u,r,l⟩:=hl i x v e1 e2 e3;refine#[u,r,?_];rcases l with l|⟨k,c,e,z⟩
  .exact .inl l
  .exact .inr #[k,c,e,m8 x c e _ z]
 .obtain⟨v,z⟩:=I.cell x c e;exact#[v,m8 x c e v z]
 .obtain⟨m,⟨o,_,_,ho,_⟩,_⟩:=I.loc;exact free _ o (λz=>(G' _ z).2.1 rfl) ho I.free
 .obtain⟨v,o,ho,hd⟩:=I.cell x c e;exact free c o (λz=>(G' c z).2.2.1 x c e rfl) ho (I.freeC x c e)
 .obtain⟨e,n,ne,nf,d⟩:=I.pin p hp;have Le:p.1∉ch:=λz=>(G' p.1 z).2.2.2 p hp rfl;exact#[keep p.1 p.2 ne nf Le e n,free p.1 p.2 Le e n,ne,nf,d]
def Inv.un{t':Nat}(I:Inv X pins σ H s)(u:Un X.fs [] H H' s.heap h')(hok:HOk X.prog X.w H' h'):Inv X pins σ H' {s with heap:=h',toks:=t'}:=by
 obtain⟨m,⟨o,es,ep,ho,r⟩,_⟩:=id I.loc;obtain⟨sl,hL⟩:=u.any ho I.free KK;exact I.step (g':=s.gens) (d':=s.drawn) (ch:=[]) (λ_ z=>nomatch z) (λb o _ hb _ e n=>u.keep b o e n hb KK) (λb o _ hb _ e n=>u.slot b o e n hb KK) (λb o _ e n=>u.free b o e n KK) (λb o _ e=>u.there b o e KK) u.tups u.frzs u.tbls (λm' hm=>by
  obtain⟨o',MI,MJ,Km,r'⟩:=hm;rw[ho]at Km;cases Km;exact#[_,MI,MJ,hL,r']) hok I.bare
def Inv.call{t':Nat}{d':Drawn}(I:Inv X pins σ H s)(u:Un (frs X.stack) ch H H' s.heap h')(hok:HOk X.prog X.w H' h')(hg:SY g')
  (G':∀b∈ch,(b∈X.ex\/X.s₀.heap.objs.size<=b)/\b≠X.env.locals/\(∀x c,X.env.cells.lookup x=be c->c≠b)/\∀p∈X.pn++pins,p.1≠b):
  Inv X pins σ H' {s with heap:=h',gens:=g',drawn:=d',toks:=t'}:=by
 obtain⟨m,⟨o,es,ep,ho,r⟩,_⟩:=id I.loc;obtain⟨sl,hL⟩:=u.any ho I.free λz=>(G' _ z).2.1 rfl;exact I.step (ch:=ch) G' (λb o hL hb hc e n=>u.keep b o e n (λz=>(F5.mp (I.stkSub b z)).elim hL hb) hc) (λb o _ _ hc e n=>u.any e n hc) (λb o hc e n=>u.free b o e n hc) (λb o hc e=>u.there b o e hc) u.tups u.frzs u.tbls (λm' hm=>by
  obtain⟨o',MI,MJ,Km,r'⟩:=hm;rw[ho]at Km;cases Km;exact#[_,MI,MJ,hL,r']) hok hg
def Inv.turned{t':Nat}{it:KF}(I:Inv X pins σ H s)(k:∀b o,b≠it->s.heap.get? b=be o->h'.get? b=be o)(hn:H it=G_)(hL:it≠X.env.locals)
  (h1:it∈X.ex\/X.s₀.heap.objs.size<=it) (h2:∀x c,X.env.cells.lookup x=be c->c≠it) (h3:∀p∈X.pn++pins,p.1≠it):Inv X pins σ H {s with heap:=h',toks:=t'}:=by
 have Kn:∀b u,H b=be u->b≠it:=λb u e z=>by rw[z,hn]at e;cases e
 refine I.step (g':=s.gens) (d':=s.drawn) (ch:=[it]) (λb hb=>?_) (λb o _ _ hc e _=>k b o (λz=>hc (by simp[z])) e) (λb o _ _ hc e _=>#[o.slots,k b o (λz=>hc (by simp[z])) e]) (λ_ _ _ _ n=>n)
  (λb o hc e=>#[o,k b o (λz=>hc (by simp[z])) e]) (λ_ _ e=>e) (λ_ _ _ e=>e) (λb ps e=>#[[].toArray,by rw[e];simp]) (λm hm=>?_) (λb u e=>?_) I.bare
 .have e:b=it:=by simpa using hb
  subst e;exact#[h1,hL,h2,h3]
 .obtain⟨o,es,ep,ho,r⟩:=hm;exact#[o,es,ep,k _ o (Ne.symm hL) ho,r]
 .refine(I.hok b u e).stay (λc v hc q=>k c v ?_ q) (λ_ q=>q) λ_ _ q=>q;rcases hc with z|z
  .rw[z];exact Kn b u e
  .exact Kn c _ z
def Inv.tok(I:Inv X pins σ H s)(t:Nat):Inv X pins σ H {s with toks:=t}:=I.un (h':=s.heap) (t':=t) Un.refl I.hok
def Inv.kept{t':Nat}(I:Inv X pins σ H s)(k:∀b u,s.heap.get? b=be u->h'.get? b=be u):Inv X pins σ H {s with heap:=h',toks:=t'}:=I.un (Un.kept k) (I.hok.kept k)
def Inv.laid{a:KF}{o:HO}{t':Nat}(I:Inv X pins σ H s)(k:∀b u,s.heap.get? b=be u->h'.get? b=be u)(hp:s.heap.objs.size<=a)(new:ObjOk X.prog X.w (upd H a o) h' a o):
  Inv X pins σ (upd H a o) {s with heap:=h',toks:=t'}:=I.un (Un.laid k hp (I.hok.fresh hp)) (I.hok.laid k hp new)
def Inv.write{x e:KF}{o:HO}{t':Nat}(I:Inv X pins σ H s)(mu:Mut (H x))(he:e=x\/H e=be (.own x))(k:∀b u,b≠e->s.heap.get? b=be u->h'.get? b=be u)(F_:∃u,h'.get? e=be u)
  (new:ObjOk X.prog X.w (upd H x o) h' x o):Inv X pins σ (upd H x o) {s with heap:=h',toks:=t'}:=I.un (Un.write mu he k F_) (I.hok.write mu he k F_ new)
def Inv.pins_of{J7:List (KF×Sj)}(I:Inv X pins σ H s)(h:∀p∈J7,s.heap.get? p.1=be p.2/\H p.1=G_/\p.1≠X.env.locals/\p.1∉X.fs/\∀v,p.2.data≠.cell v):Inv X J7 σ H s:=
 #[I.ok,I.os,I.bare,I.base,I.loc,I.cell,I.free,I.freeC,λp hp=>(GA.mp hp).elim (λz=>I.pin p (G4 _ z)) (h p),I.hok,I.len]
variable{x:JM}{i:Nat}
def jw{N:List JM}(hN:N.Nodup){j:Nat}(a:N[i]?=be x)(b:N[j]?=be x):i=j:=by
 obtain⟨h1,e1⟩:=Gh.mp a;obtain⟨h2,e2⟩:=Gh.mp b;exact(List.getElem_inj hN).mp (e1.trans e2.symm)
variable{E:KB->KM->Prop}{Q:Unit->KM->Prop}
def pL{M:T6}{A:R6}{v:V}{u:KB}(I:Inv X pins σ H s)(hN:X.N.Nodup)(hi:X.N[i]?=be x)(hx:Loc X.env.scope x)(r:RelV v u)
  (h:∀s',Inv X pins (σ.set i (be v)) H s'->(∃a,Heap.SameBut a s.heap s'.heap/\(a=X.env.locals\/X.env.cells.lookup x=be a))->Q () s') (hf:autoParam (zFN X x) zA2):R4 M A (storeName X.env x u) Q E s:=by
 obtain⟨m,hn,hl⟩:=id I.loc;have x_:(X.env.scope.kind== .class||(X.env.scope.kind== .module&&X.env.locals !=X.env.globals))=false:=by rw[I.ok.kind];rfl
 have hiσ:i<σ.length:=by rw[I.len];exact(Gh.mp hi).1
 have cne:=I.cne;have gt:∀{a:KF} {h':Heap},(∃o,s.heap.get? a=be o/\H a=G_)->Heap.SameBut a s.heap h'->HOk X.prog X.w H h':=λ{a h'} ha hs b ob e=>by
  obtain⟨_,_,j_⟩:=ha;refine(I.hok b ob e).stay (λc w' hc q=>(hs.2 c ?_).trans q) (λ_ q=>q) λ_ _ q=>q;rintro rfl;rcases hc with rfl|hc
  .rw[j_]at e;cases e
  .rw[j_]at hc;cases hc
 rcases hx with hk|hk
 .refine wpAny_storeName_local hk hn (λh' g_ hs=>?_) x_;obtain⟨oL,_,_,OW,_⟩:=id hn;refine h _ #[I.ok,I.os,I.bare,#[λb o e n hb hx=>?_,λb o e n hb hx=>?_,I.base.free,λb o e hx=>?_,I.base.tups,I.base.frzs,I.base.tbls],#[_,g_,λj y v' e1 e2 e3=>?_],λy c e=>?_,I.free,I.freeC,λp hp=>?_,gt #[oL,OW,I.free] hs,by simpa using I.len] #[_,hs,.inl rfl]
  .exact(hs.2 b (F6 (Gk (Heap.lt_size e) I.ok.above))).trans (I.base.keep b o e n hb hx)
  .obtain⟨sl,e1⟩:=I.base.slot b o e n hb hx;exact#[sl,(hs.2 b (F6 (Gk (Heap.lt_size e) I.ok.above))).trans e1]
  .obtain⟨o',e1⟩:=I.base.there b o e hx;exact#[o',(hs.2 b (F6 (Gk (Heap.lt_size e) I.ok.above))).trans e1]
  .by_cases hj:j=i
   .subst hj;rw[hi]at e1;cases e1;rw[GD hiσ]at e2;cases e2;exact#[u,r,.inl #[hk,KK]]
   .rw[Gg (Ne.symm hj)]at e2;obtain⟨u',r',q⟩:=hl j y v' e1 e2 e3;refine#[u',r',?_];rcases q with⟨k,e⟩|⟨k,c,e,z⟩
    .refine .inl #[k,?_];have:y≠x:=λe=>hj (jw hN e1 (e ▸ hi));simp[this,e]
    .exact .inr #[k,c,e,z.sameBut hs (cne y c e)]
  .obtain⟨w',z⟩:=I.cell y c e;exact#[w',z.sameBut hs (cne y c e)]
  .obtain⟨e,n,ne,nf,d⟩:=I.pin p hp;exact#[(hs.2 p.1 ne).trans e,n,ne,nf,d]
 .have Lf:X.fn x=true:=by
   rcases hf with z|z
   .exact z
   .rw[z]at hk;cases hk
  obtain⟨c,hc⟩:=I.ok.has x (.inl hk);obtain⟨w',z⟩:=I.cell x c hc;refine wpAny_storeName_cell I.ok.kind hk hc z (λh' J8 hs=>?_);obtain⟨oc,OX,MK⟩:=id z;refine h {s with heap:=h'} #[I.ok,I.os,I.bare,#[λb o e n hb hx=>?_,λb o e n hb hx=>?_,I.base.free,λb o e hx=>?_,I.base.tups,I.base.frzs,I.base.tbls],#[m,hn.sameBut hs (Ne.symm (cne x c hc)),λj y v' e1 e2 e3=>?_],λy c' e=>?_,I.free,I.freeC,λp hp=>?_,gt #[oc,OX,I.freeC x c hc] hs,by simpa using I.len] #[c,hs,.inr hc]
  .exact(hs.2 b (F6 (Gk (Heap.lt_size e) (I.ok.cab x c Lf hc)))).trans (I.base.keep b o e n hb hx)
  .obtain⟨sl,e1⟩:=I.base.slot b o e n hb hx;exact#[sl,(hs.2 b (F6 (Gk (Heap.lt_size e) (I.ok.cab x c Lf hc)))).trans e1]
  .obtain⟨o',e1⟩:=I.base.there b o e hx;exact#[o',(hs.2 b (F6 (Gk (Heap.lt_size e) (I.ok.cab x c Lf hc)))).trans e1]
  .by_cases hj:j=i
   .subst hj;rw[hi]at e1;cases e1;rw[GD hiσ]at e2;cases e2;exact#[u,r,.inr #[.inl hk,c,hc,J8]]
   .rw[Gg (Ne.symm hj)]at e2;obtain⟨u',r',q⟩:=hl j y v' e1 e2 e3;refine#[u',r',?_];rcases q with q|⟨k,c',e,z'⟩
    .exact .inl q
    .refine .inr #[k,c',e,z'.sameBut hs ?_];rintro rfl;exact hj (jw hN e1 (I.ok.inj _ _ _ e hc ▸ hi))
  .by_cases OY:c'=c
   .subst OY;exact#[_,J8]
   .obtain⟨w2,z2⟩:=I.cell y c' e;exact#[w2,z2.sameBut hs OY]
  .obtain⟨e,n,ne,nf,d⟩:=I.pin p hp;refine#[(hs.2 p.1 ?_).trans e,n,ne,nf,d];intro q;rw[q,OX]at e;have q':oc=p.2:=Option.some.inj e;exact d w' (by rw[<-q'];exact MK)
def gm{M:T6}{A:R6}{v:V}{u:KB}(I:Inv X pins σ H s)(hN:X.N.Nodup)(hi:X.N[i]?=be x)(hx:Loc X.env.scope x)(r:RelV v u)
  (h:∀s',Inv X pins (σ.set i (be v)) H s'->Q () s') (hf:autoParam (zFN X x) zA2):R4 M A (storeName X.env x u) Q E s:=
 pL I hN hi hx r (λs' I' _=>h s' I') hf
def Inv.call'{s':KM}(I:Inv X pins σ H s)(ho:s'.os=s.os)(u:Un (frs X.stack) ch H H' s.heap s'.heap)(hok:HOk X.prog X.w H' s'.heap)(hg:SY s'.gens)
  (G':∀b∈ch,(b∈X.ex\/X.s₀.heap.objs.size<=b)/\b≠X.env.locals/\(∀x c,X.env.cells.lookup x=be c->c≠b)/\∀p∈X.pn++pins,p.1≠b):Inv X pins σ H' s':=by
 obtain⟨h',g',d',t',o'⟩:=s';have e:o'=s.os:=ho;subst e;exact I.call (g':=g') (t':=t') (d':=d') u hok hg G'
end
abbrev XK:=KB->Option KF->Hp->Prop
abbrev St:=List (Option V)
abbrev VK:=V->Hp->Prop
abbrev TE:=St->Hp->VK->Prop
abbrev TT:=St->Hp->(Bool->Hp->Prop)->Prop
abbrev TA:=St->Hp->(List V->Hp->Prop)->Prop
structure Ends where
 nx:St->Hp->Prop
 rt:VK
 bk:St->Hp->Prop:=λ_ _=>False
 ct:St->Hp->Prop:=λ_ _=>False
abbrev TS:=Ends->St->Hp->Prop
def EP(X:Cx)(pins:List (KF×Sj))(σ:St)(Q:VK)(u:KB)(s':KM):Prop:=∃v H',Inv X pins σ H' s'/\RelV v u/\Q v H'
def TP(X:Cx)(pins:List (KF×Sj))(σ:St)(Q:Bool->Hp->Prop)(b:Bool)(s':KM):Prop:=∃H',Inv X pins σ H' s'/\Q b H'
def AP(X:Cx)(pins:List (KF×Sj))(σ:St)(Q:List V->Hp->Prop)(us:List KB)(s':KM):Prop:=∃vs H',Inv X pins σ H' s'/\Vals vs us/\Q vs H'
def SP(X:Cx)(pins:List (KF×Sj))(D:Ends)(f:Flow)(s':KM):Prop:=
 match f with
 |.next=>∃σ' H',Inv X pins σ' H' s'/\D.nx σ' H'
 |.brk=>∃σ' H',Inv X pins σ' H' s'/\D.bk σ' H'
 |.cont=>∃σ' H',Inv X pins σ' H' s'/\D.ct σ' H'
 |.ret u=>∃v σ' H',Inv X pins σ' H' s'/\RelV v u/\D.rt v H'
def PE(X:Cx)(e:RZ)(t:TE):Prop:=
 ∀(pins:List (KF×Sj)) (s:KM) (σ:St) (H:Hp) (Q:VK),Inv X pins σ H s->t σ H Q->R4 (R1 X.prog X.w) X.A (Sa e X.env) (EP X pins σ Q) X.xe s
def PT(X:Cx)(e:RZ)(t:TT):Prop:=
 ∀(pins:List (KF×Sj)) (s:KM) (σ:St) (H:Hp) (Q:Bool->Hp->Prop),Inv X pins σ H s->t σ H Q->R4 (R1 X.prog X.w) X.A (isTrue e X.env (Sa e X.env)) (TP X pins σ Q) X.xe s
def PW(X:Cx)(e:RZ)(t:TT):Prop:=
 ∀(f6:TX KB) (pins:List (KF×Sj)) (s:KM) (σ:St) (H:Hp) (Q:Bool->Hp->Prop),Inv X pins σ H s->t σ H Q->R4 (R1 X.prog X.w) X.A (isTrue e X.env f6) (TP X pins σ Q) X.xe s
variable{X:Cx}
def PW.pt{e:RZ}{t:TT}(h:PW X e t):PT X e t:=h _
def PA(X:Cx)(es:List RZ)(t:TA):Prop:=
 ∀(pos:Sb) (pins:List (KF×Sj)) (s:KM) (σ:St) (H:Hp) (Q:List V->Hp->Prop),Inv X pins σ H s->t σ H Q->R4 (R1 X.prog X.w) X.A (spliced (SZ pos (R8 es X.env))) (AP X pins σ Q) X.xe s
def PS(X:Cx)(st:R3)(t:TS):Prop:=
 ∀(pins:List (KF×Sj)) (s:KM) (σ:St) (H:Hp) (D:Ends),Inv X pins σ H s->t D σ H->R4 (R1 X.prog X.w) X.A (exec st X.env) (SP X pins D) X.xe s
def PSs(X:Cx)(st:List R3)(t:TS):Prop:=
 ∀(pins:List (KF×Sj)) (s:KM) (σ:St) (H:Hp) (D:Ends),Inv X pins σ H s->t D σ H->R4 (R1 X.prog X.w) X.A (execs st X.env) (SP X pins D) X.xe s
variable{A:R6}{E:KB->KM->Prop}{s:KM}
def thn{α:Type}{t:TX α}{Q Q':α->KM->Prop}{M:T6}(h:R4 M A t Q E s)(hQ:∀a s,Q a s->Q' a s):R4 M A t Q' E s:=Sf h hQ λ_ _ x=>x
section
variable {X:Cx}
def tVar(i:Nat):TE:=λσ H Q=>∃v,σ[i]?=be (be v)/\Q v H
def tC(v:V):TE:=λ_ H Q=>Q v H
variable{x:JM}{pos:Sb}
def cJ{i:Nat}(hN:X.N[i]?=be x)(hv:Vis X.env.scope x)(hd:autoParam (zND x) zA1)(gV:autoParam (zNC x) zA1):PE X (.Name x pos) (tVar i):=by
 intro pins s σ H Q I h;obtain⟨v,e,h⟩:=h;obtain⟨m,hn,hl⟩:=I.loc;obtain⟨u,r,l⟩:=hl i x v hN e hv;have i6:EP X pins σ Q u s:=#[v,H,I,r,h];rcases l with⟨hk,hm⟩|⟨hk,c,hc,m9⟩
 .exact Ua (wpAny_loadName_local I.ok.kind hk hn hm i6) hd
 .rcases hk with hk|hk
  .exact Ua (wpAny_loadName_cell I.ok.kind hk hc m9 i6) hd
  .exact Ua (wpAny_loadName_free I.ok.kind hk hc m9 i6 gV) hd
def vM{i j pos}:PE X (.Constant (.int i) j pos) (tC (.int i)):=λ_ _ _ H _ I h=>wpAny_Constant_int #[.int i,H,I.tok _,#[_,rfl],h]
def vN{b j pos}:PE X (.Constant (.bool b) j pos) (tC (.bl b)):=λ_ _ _ H _ I h=>Constant_bool #[.bl b,H,I,rfl,h]
def vO{j pos}:PE X (.Constant .none j pos) (tC .non):=λ_ _ _ H _ I h=>Constant_none #[.non,H,I,rfl,h]
def pM{x j pos}:PE X (.Constant (.str x) j pos) (tC (.str x)):=λ_ _ _ H _ I h=>Calls.Constant_str #[.str x,H,I.tok _,#[_,rfl],h]
def Gl(X:Cx)(x:JM):Prop:=X.env.kindOf x=be .globalImplicit
variable{E Q:KB->KM->Prop}{pins:List (KF×Sj)}{u:KB}
def ce{s:KM}{σ:St}{H:Hp}(I:Inv X pins σ H s)(hg:Gl X x)(hm:X.mg x=be u)(h:Q u s)
  (hd:autoParam (zND x) zA1):R4 (R1 X.prog X.w) X.A (Sa (.Name x pos) X.env) Q E s:=
 Calls.Name_function_global I.ok.kind hg (Calls.loadGlobal_global (by rw[I.ok.glob];exact I.mod.glob.keeps I.bk) hm h) hd
def dm{s:KM}{σ:St}{H:Hp}(I:Inv X pins σ H s)(hg:Gl X x)(hm:X.mg x=G_)(hv:Si x=be u)(h:Q u s)
  (hn:autoParam (x≠"__name__") zA1) (hd:autoParam (zND x) zA1):R4 (R1 X.prog X.w) X.A (Sa (.Name x pos) X.env) Q E s:=by
 obtain⟨mb,h1,h2⟩:=I.mod.blt;exact Calls.Name_function_global I.ok.kind hg (Calls.loadGlobal_builtin (by rw[I.ok.glob];exact I.mod.glob.keeps I.bk) hm (by rw[I.ok.blt];exact h1.keeps I.bk) ((h2 x hn).trans hv) h) hd
def vP{v:V}(hg:Gl X x)(hm:X.mg x=be u)(r:RelV v u)(hd:autoParam (zND x) zA1):PE X (.Name x pos) (tC v):=
 λ_ _ _ H _ I h=>ce I hg hm #[v,H,I,r,h] hd
def pN{v:V}(hg:Gl X x)(hm:X.mg x=G_)(hv:Si x=be u)(r:RelV v u)(hn:autoParam (x≠"__name__") zA1)(hd:autoParam (zND x) zA1):PE X (.Name x pos) (tC v):=
 λ_ _ _ H _ I h=>dm I hg hm hv #[v,H,I,r,h] hn hd
variable {a b:RZ}{ta tb:TE}{pos:Sb}
variable {tA JJ:TT}{rest:List RZ}
def tAnd(t u:TT):TT:=λσ H Q=>t σ H λc H1=>if c=true then u σ H1 Q else Q false H1
def tOr(t u:TT):TT:=λσ H Q=>t σ H λc H1=>if c=true then Q true H1 else u σ H1 Q
def tNot(t:TT):TT:=λσ H Q=>t σ H λc H1=>Q (!c) H1
def pO(ha:PT X a tA):PW X (.BoolOp .And [a] pos) tA:=by
 intro wh pins s σ H Q I h;refine isTrue_and (thn (ha pins s σ H Q I h) λc s1 e=>?_);cases c with
 |true=>exact isTrue_and_nil e
 |false=>exact e
def pP(ha:PT X a tA):PW X (.BoolOp .Or [a] pos) tA:=by
 intro wh pins s σ H Q I h;refine isTrue_or (thn (ha pins s σ H Q I h) λc s1 e=>?_);cases c with
 |false=>exact isTrue_or_nil e
 |true=>exact e
def pQ(ha:PT X a tA)(hb:PW X (.BoolOp .And (b::rest) pos) JJ):PW X (.BoolOp .And (a::b::rest) pos) (tAnd tA JJ):=by
 intro wh pins s σ H Q I h;refine isTrue_and (thn (ha pins s σ H _ I h) λc s1 c7=>?_);obtain⟨H1,I1,q1⟩:=c7;cases c with
 |true=>exact hb wh pins s1 σ H1 Q I1 q1
 |false=>exact#[H1,I1,q1]
def pR(ha:PT X a tA)(hb:PW X (.BoolOp .Or (b::rest) pos) JJ):PW X (.BoolOp .Or (a::b::rest) pos) (tOr tA JJ):=by
 intro wh pins s σ H Q I h;refine isTrue_or (thn (ha pins s σ H _ I h) λc s1 c7=>?_);obtain⟨H1,I1,q1⟩:=c7;cases c with
 |true=>exact#[H1,I1,q1]
 |false=>exact hb wh pins s1 σ H1 Q I1 q1
def pS(ha:PT X a tA):PT X (.UnaryOp .Not a pos) (tNot tA):=by
 intro pins s σ H Q I h;exact isTrue_not (ha pins s σ H (λc H1=>Q (!c) H1) I h)
def vQ(ta tb:TE):TE:=λσ H Q=>ta σ H λx H1=>∃c,x=.bl c/\if c=true then tb σ H1 Q else Q (.bl false) H1
def tOrV(ta tb:TE):TE:=λσ H Q=>ta σ H λx H1=>∃c,x=.bl c/\if c=true then Q (.bl true) H1 else tb σ H1 Q
def vR(ta:TE):TE:=λσ H Q=>ta σ H λx H1=>∃c,x=.bl c/\Q (.bl (!c)) H1
def vS{op}{t:TE}(h:PE X a t):PE X (.BoolOp op [a] pos) t:=λpins s σ H Q I hw=>BoolOp_one (h pins s σ H Q I hw)
def vT(ha:PE X a ta)(hb:PE X (.BoolOp .And (b::rest) pos) tb):PE X (.BoolOp .And (a::b::rest) pos) (vQ ta tb):=by
 intro pins s σ H Q I h;refine BoolOp_and (thn (ha pins s σ H _ I h) λv s1 c7=>?_);obtain⟨x,H1,I1,r1,q1⟩:=c7;obtain⟨c,rfl,q1⟩:=q1;cases r1;refine Sz ?_;cases c with
 |true=>exact hb pins s1 σ H1 Q I1 q1
 |false=>exact#[.bl false,H1,I1,rfl,q1]
def vU(ha:PE X a ta)(hb:PE X (.BoolOp .Or (b::rest) pos) tb):PE X (.BoolOp .Or (a::b::rest) pos) (tOrV ta tb):=by
 intro pins s σ H Q I h;refine BoolOp_or (thn (ha pins s σ H _ I h) λv s1 c7=>?_);obtain⟨x,H1,I1,r1,q1⟩:=c7;obtain⟨c,rfl,q1⟩:=q1;cases r1;refine Sz ?_;cases c with
 |false=>exact hb pins s1 σ H1 Q I1 q1
 |true=>exact#[.bl true,H1,I1,rfl,q1]
def vV(ha:PE X a ta):PE X (.UnaryOp .Not a pos) (vR ta):=by
 intro pins s σ H Q I h;refine UnaryOp_ (thn (ha pins s σ H _ I h) λv s1 c7=>?_);obtain⟨x,H1,I1,r1,q1⟩:=c7;obtain⟨c,rfl,q1⟩:=q1;cases r1;exact not_of (Sz #[.bl (!c),H1,I1,rfl,q1])
def tIf(t:TT)(ta tb:TE):TE:=λσ H Q=>t σ H λc H1=>if c=true then ta σ H1 Q else tb σ H1 Q
def vW{c:RZ}(hc:PT X c tA)(ha:PE X a ta)(hb:PE X b tb):PE X (.IfExp c a b pos) (tIf tA ta tb):=by
 intro pins s σ H Q I h;refine wpAny_IfExp (thn (hc pins s σ H _ I h) λd s1 c7=>?_);obtain⟨H1,I1,q1⟩:=c7;cases d with
 |true=>exact ha pins s1 σ H1 Q I1 q1
 |false=>exact hb pins s1 σ H1 Q I1 q1
end
def SqL(K:Ex)(H:Hp)(a:KF)(xs:List V):Prop:=
 Rd H a (.lst xs)\/
  ∃(o:Sj) (its:Array KB) (n:Nat),K.lookup a=be o/\o.cls=.type "list"/\o.dict=G_/\o.data=.seq its n/\its.size<=sizeLine/\Vals xs its.toList
def SqT(K:Ex)(H:Hp)(a:KF)(xs:List V):Prop:=
 Rd H a (.tup xs)\/
  ∃(o:Sj) (its:Array KB) (n:Nat),K.lookup a=be o/\o.cls=.type "tuple"/\o.data=.seq its n/\its.size<=sizeLine/\Vals xs its.toList
def absV:KB->Option V
 |.none=>be .non
 |.bool b=>be (.bl b)
 |.int i _=>be (.int i)
 |.str x _=>be (.str x)
 |.bytes b _=>be (.byt b)
 |.float b _=>be (.flt b)
 |.ref a=>be (.ref a)
 |.type n=>be (.ty n)
 |_=>G_
variable{u:KB}
def RelV.abs{x:V}(r:RelV x u):absV u=be x:=by
 cases x with
 |non=>cases r;rfl
 |bl _=>cases r;rfl
 |int _=>obtain⟨t,rfl⟩:=r;rfl
 |str _=>obtain⟨t,rfl⟩:=r;rfl
 |byt _=>obtain⟨t,rfl⟩:=r;rfl
 |flt _=>obtain⟨t,rfl⟩:=r;rfl
 |ref _=>cases r;rfl
 |ty _=>cases r;rfl
def RelV.inj{x y:V}(r:RelV x u)(q:RelV y u):x=y:=Option.some.inj (r.abs.symm.trans q.abs)
def Vals.inj:∀{xs ys:List V} {us:List KB},Vals xs us->Vals ys us->xs=ys:=by
 intro xs ys us h;induction h generalizing ys with
 |nil=>intro g;cases g;rfl
 |cons r _ e=>
  intro g;cases g with
  |cons r' t'=>rw[r.inj r',e t']
section
variable {X:Cx}{pins:List (KF×Sj)}{σ:St}{H:Hp}{s:KM}{a:KF}{xs ys:List V}
def SqL.of{K:Ex}(h:H a=be (.lst xs)):SqL K H a xs:=.inl (.inl h)
def SqT.of{K:Ex}(h:H a=be (.tup xs)):SqT K H a xs:=.inl (.inl h)
def Inv.list(I:Inv X pins σ H s)(h:SqL X.K H a xs):∃its:List KB,Vals xs its/\PlainL s.heap a its.toArray/\xs.length<=sizeLine:=by
 rcases h with h|⟨o,its,n,hk,hc,hd,hs,hz,r⟩
 .obtain⟨z,its,n,r,e⟩:=h.ok I.hok;exact#[its,r,#[_,n,e,rfl,rfl,rfl],z]
 .refine#[its.toList,r,#[o,n,I.kIn a o hk,hc,hd,by simpa using hs],?_];have e:=r.length;simp only[Hw]at e;lia
def Inv.tuple(I:Inv X pins σ H s)(h:SqT X.K H a xs):∃its:List KB,Vals xs its/\IsTup s.heap a its.toArray/\xs.length<=sizeLine:=by
 rcases h with h|⟨o,its,n,hk,hc,hs,hz,r⟩
 .obtain⟨z,its,r,p⟩:=h.ok I.hok;exact#[its,r,p,z]
 .refine#[its.toList,r,#[o,I.kIn a o hk,hc,n,by simpa using hs],?_];have e:=r.length;simp only[Hw]at e;lia
def Inv.list_inj(I:Inv X pins σ H s)(h:SqL X.K H a xs)(h':SqL X.K H a ys):xs=ys:=by
 obtain⟨its,r,⟨o,n,e,_,_,d⟩,_⟩:=I.list h;obtain⟨its',r',⟨o',n',e',_,_,d'⟩,_⟩:=I.list h';rw[e]at e';cases e';rw[d]at d';injection d' with d1 _;have:its=its':=by simpa using congrArg Array.toList d1
 subst this;exact r.inj r'
end
abbrev Cx.wish(X:Cx)(E:KB->KM->Prop):Cx:={X with xe:=E}
abbrev Cx.nox(X:Cx):Cx:=X.wish λ_ _=>False
def Cx.Ok.wish(ok:X.Ok)(E:KB->KM->Prop):(X.wish E).Ok:=
 #[ok.mod,ok.kind,ok.glob,ok.blt,ok.above,ok.inj,ok.has,ok.cab,ok.hd,ok.frames,ok.stk,ok.exf,ok.bs,ok.bsz,ok.noex,ok.exfs,ok.funs,ok.frf]
def Cx.Ok.unwish(ok:(X.wish E).Ok):X.Ok:=
 #[ok.mod,ok.kind,ok.glob,ok.blt,ok.above,ok.inj,ok.has,ok.cab,ok.hd,ok.frames,ok.stk,ok.exf,ok.bs,ok.bsz,ok.noex,ok.exfs,ok.funs,ok.frf]
section
variable {X:Cx}{pins:List (KF×Sj)}{σ:St}{H:Hp}{s:KM}{E:KB->KM->Prop}
def Inv.wish(I:Inv X pins σ H s)(E:KB->KM->Prop):Inv (X.wish E) pins σ H s:=#[I.ok.wish E,I.os,I.bare,I.base,I.loc,I.cell,I.free,I.freeC,I.pin,I.hok,I.len]
def Inv.unwish(I:Inv (X.wish E) pins σ H s):Inv X pins σ H s:=#[I.ok.unwish,I.os,I.bare,I.base,I.loc,I.cell,I.free,I.freeC,I.pin,I.hok,I.len]
def SP.unwish{D:Ends}{f:Flow}{s':KM}(h:SP (X.wish E) pins D f s'):SP X pins D f s':=by
 cases f with
 |next=>obtain⟨σ',H',I,q⟩:=h;exact#[σ',H',I.unwish,q]
 |brk=>obtain⟨σ',H',I,q⟩:=h;exact#[σ',H',I.unwish,q]
 |cont=>obtain⟨σ',H',I,q⟩:=h;exact#[σ',H',I.unwish,q]
 |ret u=>obtain⟨v,σ',H',I,r,q⟩:=h;exact#[v,σ',H',I.unwish,r,q]
def PSs.nox{st:List R3}{t:TS}(h:PSs X.nox st t):PSs X st t:=λpins s σ H D I hw=>
 Sf (h pins s σ H D (I.wish _) hw) (λ_ _ q=>q.unwish) λ_ _ z=>False.elim z
end
section
variable {X:Cx}{st:R3}{rest:List R3}{t u:TS}{e:RZ}{te:TE}{pos:Sb}
def vX:TS:=λD σ H=>D.nx σ H
def tSeq(t u:TS):TS:=λD σ H=>t {D with nx:=u D} σ H
def pss_nil:PSs X [] vX:=λ_ _ σ H _ I h=>SQ #[σ,H,I,h]
def dO(h1:PS X st t)(h2:PSs X rest u):PSs X (st::rest) (tSeq t u):=by
 intro pins s σ H D I h;refine wpAny_execs_cons (thn (h1 pins s σ H {D with nx:=u D} I h) λf s1 q=>?_);cases f with
 |next=>
  obtain⟨σ',H',I',q⟩:=q;exact h2 pins s1 σ' H' D I' q
 |ret v=>exact q
 |brk=>exact q
 |cont=>exact q
def pT(h1:PS X st t):PSs X [st] t:=by
 intro pins s σ H D I h;refine wpAny_execs_cons (thn (h1 pins s σ H D I h) λf s1 q=>?_);cases f with
 |next=>exact SQ q
 |ret v=>exact q
 |brk=>exact q
 |cont=>exact q
def Inv.quiet{pins:List (KF×Sj)}{σ:St}{H:Hp}{s:KM}(I:Inv X pins σ H s):interactive X.env=false:=by simp[interactive,I.ok.kind]
def vY(te:TE):TS:=λD σ H=>te σ H λ_ H1=>D.nx σ H1
def jx(he:PE X e te)(hs:autoParam (Sg e G_ pos.line X.env=pure false) zA0):PS X (.Expr e pos) (vY te):=by
 intro pins s σ H D I h;exact wpAny_Expr_any (thn (he pins s σ H _ I h) λv s1 ⟨x,H1,I1,r1,q1⟩=>#[σ,H1,I1,q1]) I.quiet hs
def tRet(te:TE):TS:=λD σ H=>te σ H D.rt
def pU(he:PE X e te):PS X (.Return (be e) pos) (tRet te):=by
 intro pins s σ H D I h;exact wpAny_Return_some (thn (he pins s σ H _ I h) λv s1 ⟨x,H1,I1,r1,q1⟩=>#[x,σ,H1,I1,r1,q1])
def tIfS(c:TT)(t u:TS):TS:=λD σ H=>c σ H λb H1=>if b=true then t D σ H1 else u D σ H1
def pV{c:RZ}{a b:List R3}{tc:TT}(hc:PT X c tc)(ha:PSs X a t)(hb:PSs X b u):PS X (.If c a b pos) (tIfS tc t u):=by
 intro pins s σ H D I h;refine wpAny_If (thn (hc pins s σ H _ I h) λd s1 c7=>?_);obtain⟨H1,I1,q1⟩:=c7;cases d with
 |true=>exact ha pins s1 σ H1 D I1 q1
 |false=>exact hb pins s1 σ H1 D I1 q1
def vZ:TS:=λ_ _ _=>False
def ps_never:PS X st vZ:=λ_ _ _ _ _ _ h=>h.elim
end
abbrev TG:=V->St->Hp->(St->Hp->Prop)->Prop
abbrev TGs:=List V->St->Hp->(St->Hp->Prop)->Prop
def PG(X:Cx)(g8:RZ)(t:TG):Prop:=
 ∀(pins:List (KF×Sj)) (s:KM) (σ:St) (H:Hp) (v:V) (u:KB) (Q:St->Hp->Prop),Inv X pins σ H s->RelV v u->t v σ H Q->
  R4 (R1 X.prog X.w) X.A (SB g8 X.env u) (λ_ s'=>∃σ' H',Inv X pins σ' H' s'/\Q σ' H') X.xe s
def PGs(X:Cx)(ts:List RZ)(t:TGs):Prop:=
 ∀(pins:List (KF×Sj)) (s:KM) (σ:St) (H:Hp) (vs:List V) (us:List KB) (Q:St->Hp->Prop),Inv X pins σ H s->Vals vs us->t vs σ H Q->
  R4 (R1 X.prog X.w) X.A (assignInOrder ((R7 ts X.env).map (·.2)) us) (λ_ s'=>∃σ' H',Inv X pins σ' H' s'/\Q σ' H') X.xe s
abbrev TSet:=V->V->V->Hp->(Hp->Prop)->Prop
def PSet(X:Cx)(t:TSet):Prop:=
 ∀(pins:List (KF×Sj)) (s:KM) (σ:St) (H:Hp) (o i v:V) (ov iv u:KB) (Q:Hp->Prop),Inv X pins σ H s->RelV o ov->RelV i iv->RelV v u->t o i v H Q->
  R4 (R1 X.prog X.w) X.A (TM ov iv u) (λ_ s'=>∃H',Inv X pins σ H' s'/\Q H') X.xe s
abbrev TIp:=V->V->Hp->VK->Prop
def PIp(X:Cx)(op:Tz)(t:TIp):Prop:=
 ∀(pins:List (KF×Sj)) (s:KM) (σ:St) (H:Hp) (x y:V) (v u:KB) (Q:VK),Inv X pins σ H s->RelV x v->RelV y u->t x y H Q->
  R4 (R1 X.prog X.w) X.A (inplaceOp op v u) (EP X pins σ Q) X.xe s
section
variable {X:Cx}{pos:Sb}
def gp(i:Nat):TG:=λv σ H Q=>Q (σ.set i (be v)) H
def dP{i:Nat}{x:JM}(hN:X.N.Nodup)(hi:X.N[i]?=be x)(hx:Loc X.env.scope x)(hf:autoParam (zFN X x) zA2):PG X (.Name x pos) (gp i):=by
 intro pins s σ H v u Q I r h;exact Tc (gm I hN hi hx r (λs' I'=>#[_,H,I',h]) hf)
def gNil:TGs:=λvs σ H Q=>vs=[]/\Q σ H
def wa(t:TG)(u:TGs):TGs:=λvs σ H Q=>∃v r,vs=v::r/\t v σ H λσ' H'=>u r σ' H' Q
def wb:PGs X [] gNil:=by
 intro pins s σ H vs us Q I r h;obtain⟨e,h⟩:=h;subst e;cases r;exact assignInOrder_nil #[σ,H,I,h]
variable{e:RZ}{es:List RZ}
def wc{t:TG}{u:TGs}(h1:PG X e t)(h2:PGs X es u)
  (hs:autoParam ((R7 (e::es) X.env).map (·.2)=SB e X.env::(R7 es X.env).map (·.2)) zA0):PGs X (e::es) (wa t u):=by
 intro pins s σ H vs us Q I r h;obtain⟨v,vr,e1,h⟩:=h;subst e1;cases r with
 |cons r rr=>
  rw[hs];refine assignInOrder_cons (thn (h1 pins s σ H _ _ _ I r h) λ_ s1 c7=>?_);obtain⟨σ1,H1,I1,q1⟩:=c7;exact h2 pins s1 σ1 H1 _ _ Q I1 rr q1
def gTup(K:Ex)(n:Nat)(t:TGs):TG:=λv σ H Q=>∃a xs,v=.ref a/\SqT K H a xs/\xs.length=n/\t xs σ H Q
def fq{k:Nat}{t:TGs}{n:Nat}(hc:X.calm=true)(h:PGs X es t)
  (hn:autoParam ((R7 es X.env).length=n) zA0) (j8:autoParam ((R7 es X.env).findIdx? (·.1)=none) zA0):PG X (.Tuple es k pos) (gTup X.K n t):=by
 intro pins s σ H v u Q I r hw;obtain⟨a,xs,e1,hq,hl,hw⟩:=hw;subst e1;cases r;obtain⟨its,rv,ht,hz⟩:=I.tuple hq;refine assign_Tuple_tuple (I.ok.hd hc) ht (by simp[hn,<-hl,rv.length]) j8 λh' hx=>?_;have I1:Inv X pins σ H {s with heap:=h'}:=I.kept (t':=s.toks) λb o e=>hx b o (F6 (Heap.lt_size e)) e;exact h pins _ σ H xs _ Q I1 (by simpa using rv) hw
def gSub(to ti:TE)(t:TSet):TG:=λv σ H Q=>to σ H λo H1=>ti σ H1 λi H2=>t o i v H2 λH3=>Q σ H3
def we{o i:RZ}{to ti:TE}{t:TSet}(ho:PE X o to)(hi:PE X i ti)(hs:PSet X t)
  (ha:∀v,SB (.Subscript o i pos) X.env v=(do
   let ov <-Sv [v] (Sa o X.env)
   let iv <-Sv [v,ov] (Sa i X.env)
   SS pos
   Sv [v,ov,iv] (TM ov iv v)
   Ui [v,ov,iv] []):=by intro _;rfl):PG X (.Subscript o i pos) (gSub to ti t):=by
 intro pins s σ H v u Q I r h;rw[ha];refine Os (So (thn (ho pins s σ H _ I h) λov s1 c7=>?_));obtain⟨x,H1,I1,r1,q1⟩:=c7;refine Os (So (thn (hi pins s1 σ H1 _ I1 q1) λiv s2 c7=>?_));obtain⟨y,H2,I2,r2,q2⟩:=c7;refine Os (SH (Os (So (thn (hs pins s2 σ H2 x y v ov iv u _ I2 r1 r2 r q2) λ_ s3 c7=>?_))));obtain⟨H3,I3,q3⟩:=c7;exact wpAny_release #[σ,H3,I3,q3]
def tAsg(te:TE)(g:TG):TS:=λD σ H=>te σ H λx H1=>g x σ H1 D.nx
variable{te:TE}
def ft{tg:RZ}{g:TG}(he:PE X e te)(hg:PG X tg g)(hs:autoParam (SI [tg] e pos.line X.env=pure false) zA0)(hw:autoParam (SJ [tg] e X.env=pure none) zA0)
  (h1:autoParam ((R7 [tg] X.env).map (·.2)=[SB tg X.env]) zA0):PS X (.Assign [tg] e pos) (tAsg te g):=by
 intro pins s σ H D I h;refine wpAny_Assign_stores (thn (he pins s σ H _ I h) λv s1 hh=>?_) hs hw;obtain⟨x,H1,I1,r1,q1⟩:=hh;rw[h1];exact thn (hg pins s1 σ H1 x v _ I1 r1 q1) λ_ s2 q=>q
def jy{i:Nat}{x:JM}{d4:Sb}(hN:X.N.Nodup)(hi:X.N[i]?=be x)(hx:Loc X.env.scope x)(he:PE X e te)(hs:autoParam (Sg e (be (.Name x d4)) pos.line X.env=pure false) zA0)(hf:autoParam (zFN X x) zA2):
  PS X (.Assign [.Name x d4] e pos) (tAsg te (gp i)):=by
 intro pins s σ H D I h;refine wpAny_Assign_Name (thn (he pins s σ H _ I h) λv s1 hh=>?_) hs;obtain⟨y,H1,I1,r1,q1⟩:=hh;exact gm I1 hN hi hx r1 (λs2 I2=>#[_,H1,I2,q1]) hf
def wg(to ti te:TE)(JK:V->V->Hp->VK->Prop)(Mf:TIp)(JL:TSet):TS:=λD σ H=>to σ H λo H1=>ti σ H1 λi H2=>JK o i H2 λx H3=>te σ H3 λy H4=>Mf x y H4 λz H5=>JL o i z H5 λH6=>D.nx σ H6
def PGet(X:Cx)(t:V->V->Hp->VK->Prop):Prop:=
 ∀(pins:List (KF×Sj)) (s:KM) (σ:St) (H:Hp) (o i:V) (ov iv:KB) (Q:VK),Inv X pins σ H s->RelV o ov->RelV i iv->t o i H Q->
  R4 (R1 X.prog X.w) X.A (Tr ov iv) (EP X pins σ Q) X.xe s
def wj{o i:RZ}{to ti:TE}{JK:V->V->Hp->VK->Prop}{Mf:TIp}{JL:TSet}{op:Tz}{Lg:Sb}(ho:PE X o to)(hi:PE X i ti)(hg:PGet X JK)(he:PE X e te)(hp:PIp X op Mf)(hs:PSet X JL)
  (ha:autoParam (∀ov iv new,augStore i ov iv new=(do Sv [new,ov,iv] (TM ov iv new);Ui [new,ov,iv] [];pure .next)) zA7):PS X (.AugAssign (.Subscript o i Lg) op e pos) (wg to ti te JK Mf JL):=by
 intro pins s σ H D I h;refine wpAny_AugAssign_SubscriptAny (thn (ho pins s σ H _ I h) λov s1 hh=>?_) ha;obtain⟨x1,H1,I1,r1,q1⟩:=hh;refine thn (hi pins s1 σ H1 _ I1 q1) λiv s2 c7=>?_;obtain⟨x2,H2,I2,r2,q2⟩:=c7;refine thn (hg pins s2 σ H2 x1 x2 ov iv _ I2 r1 r2 q2) λm_ s3 c7=>?_;obtain⟨x3,H3,I3,r3,q3⟩:=c7;refine thn (he pins s3 σ H3 _ I3 q3) λv s4 c7=>?_;obtain⟨x4,H4,I4,r4,q4⟩:=c7;refine thn (hp pins s4 σ H4 x3 x4 m_ v _ I4 r3 r4 q4) λnew s5 c7=>?_;obtain⟨x5,H5,I5,r5,q5⟩:=c7;exact thn (hs pins s5 σ H5 x1 x2 x5 ov iv new _ I5 r1 r2 r5 q5) λ_ s6 ⟨H6,I6,q6⟩=>#[σ,H6,I6,q6]
def ipI(f:Int->Int->Int):TIp:=λx y H Q=>∃i j,x=.int i/\y=.int j/\Q (.int (f i j)) H
def wk:PIp X .Add (ipI λi j=>i+j):=by
 intro pins s σ H x y v u Q I r1 r2 h;obtain⟨i,j,e1,e2,q⟩:=h;subst e1;subst e2;obtain⟨t,rfl⟩:=r1;obtain⟨t',rfl⟩:=r2;exact iadd_int #[.int _,H,I.tok _,#[_,rfl],q]
def wl(c:TT)(tb:TS):TS:=λD σ H=>∃W:Nat->St->Hp->Prop,(∃m,W m σ H)/\∀m σ H,W m σ H->
 c σ H λb H1=>if b=true then ∃N:St->Hp->Prop,(∀σ' H',N σ' H'->∃m',m'<m/\W m' σ' H')/\tb {D with nx:=N,ct:=N,bk:=D.nx} σ H1 else D.nx σ H1
def pW{c:RZ}{body:List R3}{tc:TT}{tb:TS}(hp:Sq (R1 X.prog X.w) X.A X.env X.xe)(hc:PT X c tc)(hb:PSs X body tb):PS X (.While c body [] pos) (wl tc tb):=by
 intro pins s σ H D I h;obtain⟨W,⟨m0,w0⟩,d3⟩:=h;refine wpAny_While (codeAny_whileLoop (λn s'=>∃σ' H',Inv X pins σ' H' s'/\W n σ' H') ?_ m0 #[σ,H,I,w0]);rintro n s1⟨σ1,H1,I1,w1⟩;refine Sr hp (thn (hc pins s1 σ1 H1 _ I1 (d3 n σ1 H1 w1)) λb s2 c7=>?_);obtain⟨H2,I2,q2⟩:=c7;cases b with
 |true=>
  obtain⟨N,hN,q2⟩:=q2;rw[if_pos rfl];refine Sr hp (thn (hb pins s2 σ1 H2 _ I2 q2) λf s3 q3=>?_);cases f with
  |next=>
   obtain⟨σ3,H3,I3,n3⟩:=q3;obtain⟨m',hm,w3⟩:=hN σ3 H3 n3;exact#[m',hm,σ3,H3,I3,w3]
  |cont=>
   obtain⟨σ3,H3,I3,n3⟩:=q3;obtain⟨m',hm,w3⟩:=hN σ3 H3 n3;exact#[m',hm,σ3,H3,I3,w3]
  |brk=>exact q3
  |ret v=>exact q3
 |false=>
  rw[if_neg Ge];exact SQ #[σ1,H2,I2,q2]
end
structure It where
 go:Nat->Hp->Prop
 yld:Nat->Hp->V->Hp->Prop
 stop:Nat->Hp->Prop
def FpOk(X:Cx)(pins:List (KF×Sj))(H:Hp)(b:KF):Prop:=
 H b=G_/\b≠X.env.locals/\b∉X.fs/\(b∈X.ex\/X.s₀.heap.objs.size<=b)/\(∀x c,X.env.cells.lookup x=be c->c≠b)/\∀p∈X.pn++pins,p.1≠b
variable{σ:St}
def Inv.fpOk{pins:List (KF×Sj)}{H':Hp}(I:Inv X pins σ H s)(hb:s.heap.objs.size<=b)(hn:H' b=G_):FpOk X pins H' b:=by
 refine#[hn,GO (Gk I.lt hb),I.nofs hb,.inr (Ga I.sz hb),λx c e z=>?_,λp hp z=>?_]
 .obtain⟨v,q⟩:=I.cell x c e;exact absurd (Gk q.lt (by rw[z];exact hb)) (GV _)
 .exact absurd (Gk (Heap.lt_size (I.pin p hp).1) (by rw[z];exact hb)) (GV _)
structure Turn(P:P3)(w:R5)(K:Ex)(tg:RZ)(J:It)(fp:List KF)(it:KF)(tn:Nat->Heap->Prop):Prop where
 mem:it∈fp
 obj:∀i h,tn i h->∀b∈fp,∃o,h.get? b=be o/\∀v,o.data≠.cell v
 keep:∀i h h',tn i h->(∀b∈fp,∀o,h.get? b=be o->h'.get? b=be o)->tn i h'
 item:∀(X:Cx),X.prog=P->X.w=w->X.K=K->X.calm=true->∀(i:Nat) (pins:List (KF×Sj)) (s:KM) (σ:St) (H:Hp) (E:KB->KM->Prop),Inv X pins σ H s->(∀b∈fp,FpOk X pins H b)->tn i s.heap->J.go i H->
  R4 (R1 P w) X.A (pyNext (.ref it)) (λr s1=>∃u,r=be u/\
   R4 (R1 P w) X.A (S7 tg (.ref it) u) (λ_ s2=>∃x H',Inv X pins σ H' s2/\RelV x u/\J.yld i H x H'/\tn (i+1) s2.heap/\∀b∈fp,H' b=G_) E s1) E s
 done:∀(X:Cx),X.prog=P->X.w=w->X.K=K->X.calm=true->∀(i:Nat) (pins:List (KF×Sj)) (s:KM) (σ:St) (H:Hp) (E:KB->KM->Prop),Inv X pins σ H s->(∀b∈fp,FpOk X pins H b)->tn i s.heap->J.stop i H->
  R4 (R1 P w) X.A (pyNext (.ref it)) (λr s1=>r=G_/\Inv X pins σ H s1) E s
 self:∀(A:R6) (i:Nat) (s:KM) (Q:KB->KM->Prop) (E:KB->KM->Prop),tn i s.heap->Q (.ref it) s->R4 (R1 P w) A (pyIter (.ref it)) Q E s
abbrev TI:=St->Hp->(It->Hp->Prop)->Prop
def PIE(X:Cx)(pins:List (KF×Sj))(σ:St)(tg:RZ)(R:It->Hp->Prop)(Mg:KB)(s2:KM):Prop:=
 ∃(it:KF) (fp:List KF) (tn:Nat->Heap->Prop) (J:It) (H':Hp),Mg=.ref it/\Inv X pins σ H' s2/\Turn X.prog X.w X.K tg J fp it tn/\tn 0 s2.heap/\(∀b∈fp,FpOk X pins H' b)/\R J H'
def PI(X:Cx)(tg iter:RZ)(wi:TI):Prop:=
 ∀(pins:List (KF×Sj)) (s:KM) (σ:St) (H:Hp) (R:It->Hp->Prop),Inv X pins σ H s->wi σ H R->
  R4 (R1 X.prog X.w) X.A (Sa iter X.env) (λv s1=>R4 (R1 X.prog X.w) X.A (pyIter v) (PIE X pins σ tg R) X.xe s1) X.xe s
variable{tg:RZ}
def jz{M:T6}{it:KF}{o:Sj}{n:String}{vs:Array KB}{Q:Unit->KM->Prop}(ho:s.heap.get? it=be o)(hc:o.cls=.type n)(hd:o.data=.fields vs)
    (hn:["enumerate","zip","dict_itemiterator","dict_reverseitemiterator","odict_iterator","itertools.zip_longest","itertools.pairwise"].contains n=false) (hQ:Q () s):R4 M A (S7 tg (.ref it) u) Q E s:=by
  unfold S7;cases tg<;>first
    |exact RY hQ
    |(cases u<;>first
        |exact RY hQ
        |( refine Os (wpAny_load ho ?_)
           rw[hc,hd];show R4 M A (if(["enumerate","zip","dict_itemiterator","dict_reverseitemiterator","odict_iterator","itertools.zip_longest","itertools.pairwise"].contains n&&vs[0]?==be (S4 _))=true then _ else _) Q E s;rw[if_neg (by intro h;rw[hn,Bool.false_and]at h;cases h)];exact RY hQ))
def Itl(K:Ex)(a:KF):It:=
 #[λi H=>∃xs x,SqL K H a xs/\xs[i]?=be x,λi H x H'=>H'=H/\∀xs,SqL K H a xs->xs[i]?=be x,λi H=>∃xs,SqL K H a xs/\xs.length<=i]
def Itr(lo:Int)(n:Nat):It:=#[λi _=>i<n,λi H x H'=>H'=H/\x=.int (lo+i),λi _=>n<=i]
variable{K:Ex}
def wm(a it:KF):Turn P w K tg (Itl K a) [it] it (λi h=>h.IsListIter it a i) where
 mem:=KK
 obj:=λi h st b hb=>by
  have e:b=it:=by simpa using hb
  subst e;obtain⟨o,e,c,d⟩:=st;exact#[o,e,λv z=>by rw[d]at z;cases z]
 keep:=λi h h' st k=>st.at λo e=>k it KK o e
 item:=by
  intro X hP hw hK hc i pins s σ H E I hf st hg;subst hP hw hK;obtain⟨xs,x,hq,hx⟩:=hg;obtain⟨its,rv,p,hz⟩:=I.list hq;obtain⟨u,hu,ru⟩:=rv.get hx;obtain⟨f0,f1,f2,f3,f4,f5⟩:=hf it KK;refine wpAny_pyNext_list_item st p.isList (x:=u) (by simpa using hu) λh' v_ sb=>?_;have I1:Inv X pins σ H {s with heap:=h'}:=I.turned (t':=s.toks) (λb o hb e=>(sb.2 b hb).trans e) f0 f1 f3 f4 f5;obtain⟨o,e,c,d⟩:=id v_;exact#[u,rfl,jz (s:={s with heap:=h'}) e c d Ks #[x,H,I1,ru,#[rfl,λys hy=>by rw[I.list_inj hy hq];exact hx],v_,λb hb=>(hf b hb).1]]
 done:=by
  intro X hP hw hK hc i pins s σ H E I hf st hg;subst hP hw hK;obtain⟨xs,hq,hx⟩:=hg;obtain⟨its,rv,p,hz⟩:=I.list hq;obtain⟨f0,f1,f2,f3,f4,f5⟩:=hf it KK;have hl:=rv.length;exact wpAny_pyNext_list_end (I.ok.hd hc) st p.isList Tl λh' eb=>#[rfl,I.turned (t':=s.toks) (λb o hb e=>eb b o hb e) f0 f1 f3 f4 f5]
 self:=λ_ _ _ _ _ st h=>wpAny_pyIter_listiter st h
def wn(it:KF)(lo:Int)(n:Nat):Turn P w K tg (Itr lo n) [it] it (λi h=>IsRangeIter h it (lo+(i:Nat)*1) ((n:Int)-(i:Nat)) 1) where
 mem:=KK
 obj:=λi h st b hb=>by
  have e:b=it:=by simpa using hb
  subst e;exact⟨_,st,λv z=>by
   have z':Data.fields _=Data.cell v:=z;cases z'⟩
 keep:=λi h h' st k=>k it KK _ st
 item:=by
  intro X hP hw hK hc i pins s σ H E I hf st hg;subst hP hw hK;obtain⟨f0,f1,f2,f3,f4,f5⟩:=hf it KK;have W:=Walks.range (prog:=X.prog) (w:=X.w) (I.ok.hd hc) it lo 1 n;refine W.item i s _ _ hg st λv h' tk hv v_ kk=>?_;obtain⟨t,rfl⟩:=hv;have I1:Inv X pins σ H {s with heap:=h',toks:=tk}:=I.turned (λb o hb e=>kk b o (by simpa using hb) e) f0 f1 f3 f4 f5;refine#[_,rfl,jz (s:={s with heap:=h',toks:=tk}) (n:="range_iterator") v_ rfl rfl Ks #[.int (lo+i),H,I1,#[t,?_],#[rfl,rfl],v_,λb hb=>(hf b hb).1]];rw[Int.mul_one]
 done:=by
  intro X hP hw hK hc i pins s σ H E I hf st hg;subst hP hw hK;obtain⟨f0,f1,f2,f3,f4,f5⟩:=hf it KK;exact wpAny_pyNext_range_end (I.ok.hd hc) st (by have:n<=i:=hg;lia) λh' eb=>#[rfl,I.turned (t':=s.toks) (λb o hb e=>eb b o hb e) f0 f1 f3 f4 f5]
 self:=λ_ _ _ _ _ st h=>wpAny_pyIter_rangeiter st h
section
variable {X:Cx}{tg:RZ}
def wo(K:Ex)(tl:TE):TI:=λσ H R=>tl σ H λx H1=>∃a,x=.ref a/\(∃xs,SqL K H1 a xs)/\R (Itl K a) H1
def wp{l:RZ}{tl:TE}(hl:PE X l tl):PI X tg l (wo X.K tl):=by
 intro pins s σ H R I h;refine thn (hl pins s σ H _ I h) λv s1 c7=>?_;obtain⟨x,H1,I1,r1,q1⟩:=c7;obtain⟨a,e,⟨xs,hq⟩,q⟩:=q1;subst e;cases r1;obtain⟨its,rv,p,hz⟩:=I1.list hq;refine wpAny_pyIter_list p.isList ?_;refine#[s1.heap.objs.size,[s1.heap.objs.size],_,_,H1,rfl,I1.kept (t':=s1.toks) λb o e=>Heap.get?_push_of_some _ e,wm a _,#[_,Heap.get?_push_size _ rfl,rfl,rfl],λb hb=>?_,q];have e:b=s1.heap.objs.size:=by simpa using hb
 subst e;exact I1.fpOk (FX _) (I1.hok.fresh (FX _))
variable{pins:List (KF×Sj)}{σ:St}{H:Hp}{s:KM}
def pX{R:It->Hp->Prop}{E:KB->KM->Prop}{lo hi:Int}{t u v:Ul}{tk:Nat}(I:Inv X pins σ H s)(h1:-(2^62)<=lo)(h2:lo<2^62)(h3:-(2^62)<=hi)(h4:hi<2^62)
  (q:R (Itr lo (hi-lo).toNat) H):R4 (R1 X.prog X.w) X.A (pyIter (.ref s.heap.objs.size)) (PIE X pins σ tg R) E {s with heap:=s.heap.push {cls:=.type "range",data:=.fields [.int lo t,.int hi u,.int 1 v].toArray},toks:=tk}:=by
 refine wpAny_pyIter_range (IsRange.new ..) (small_one h1 h2 h3 h4) ?_;have I1:Inv X pins σ H {s with heap:=s.heap.push {cls:=.type "range",data:=.fields [.int lo t,.int hi u,.int 1 v].toArray},toks:=tk}:=I.kept λb o e=>Heap.get?_push_of_some _ e;refine⟨(s.heap.push {cls:=.type "range",data:=.fields [.int lo t,.int hi u,.int 1 v].toArray}).objs.size,[(s.heap.push {cls:=.type "range",data:=.fields [.int lo t,.int hi u,.int 1 v].toArray}).objs.size],_,_,H,rfl,
  I1.kept (t':=tk) λb o e=>Heap.get?_push_of_some _ e,wn _ lo (hi-lo).toNat,?_,λb hb=>?_,q⟩
 .have e1:lo+((0:Nat):Int)*1=lo:=by simp
  have e2:(((hi-lo).toNat:Nat):Int)-((0:Nat):Int)=Builtin.Range.rangeSize lo hi 1:=by rw[rangeSize_one];split<;>lia
  show IsRangeIter _ _ (lo+((0:Nat):Int)*1) ((((hi-lo).toNat:Nat):Int)-((0:Nat):Int)) 1;rw[e1,e2];exact Heap.get?_push_size _ rfl
 .have e:b=(s.heap.push {cls:=.type "range",data:=.fields [.int lo t,.int hi u,.int 1 v].toArray}).objs.size:=by simpa using hb
  subst e;exact I1.fpOk (FX _) (I1.hok.fresh (FX _))
def pY(ta:TA):TI:=λσ H R=>ta σ H λvs H1=>∃j:Int,vs=[.int j]/\-(2^62)<=j/\j<2^62/\R (Itr 0 j.toNat) H1
def wq(ta:TA):TI:=λσ H R=>ta σ H λvs H1=>∃i j:Int,vs=[.int i,.int j]/\(-(2^62)<=i/\i<2^62/\-(2^62)<=j/\j<2^62)/\R (Itr i (j-i).toNat) H1
variable{pos:Sb}
def gq{a:RZ}{ta:TA}{p:Sb}(hg:Gl X "range")(hm:X.mg "range"=G_)(ha:PA X [a] ta)(hs:autoParam (R8 [a] X.env=[(false,Sa a X.env)]) zA0):PI X tg (.Call (.Name "range" p) [a] [] pos) (pY ta):=by
 intro pins s σ H R I h;refine Call_ (dm I hg hm boot_range (PyProof.Rows.callWith_type1 (thn (ha pos pins s σ H _ I h) λus s1 hh=>?_) hs rfl));obtain⟨vs,H1,I1,r1,q1⟩:=hh;obtain⟨j,e,q1,q2,q⟩:=q1;subst e;cases r1 with
 |cons r rr=>
  cases rr;obtain⟨t,rfl⟩:=r;exact call_range_1 (pX I1 Ko Ko q1 q2 (by simpa using q))
def wr{a b:RZ}{ta:TA}{p:Sb}(hg:Gl X "range")(hm:X.mg "range"=G_)(ha:PA X [a,b] ta)(hs:autoParam (R8 [a,b] X.env=[(false,Sa a X.env),(false,Sa b X.env)]) zA0)(n4:autoParam (R8 [b] X.env=[(false,Sa b X.env)]) zA0):
  PI X tg (.Call (.Name "range" p) [a,b] [] pos) (wq ta):=by
 intro pins s σ H R I h;refine Call_ (dm I hg hm boot_range (PyProof.Rows.callWith_type1 (thn (ha pos pins s σ H _ I h) λus s1 hh=>?_) (by rw[hs,n4]) (by rw[n4];rfl)));obtain⟨vs,H1,I1,r1,q1⟩:=hh;obtain⟨i,j,e,⟨q1,q2,q3,q4⟩,q⟩:=q1;subst e;cases r1 with
 |cons r rr=>
  cases rr with
  |cons r' rr=>
   cases rr;obtain⟨t,rfl⟩:=r;obtain⟨t',rfl⟩:=r';exact call_range_2 (pX I1 q1 q2 q3 q4 q)
def tFor(wi:TI)(g:TG)(tb:TS):TS:=λD σ H=>wi σ H λJ H1=>∃W:Nat->Nat->St->Hp->Prop,(∃m,W 0 m σ H1)/\∀i m σ H,W i m σ H->
 (J.stop i H/\D.nx σ H)\/(J.go i H/\∃N:St->Hp->Prop,(∀σ' H',N σ' H'->∃m',m'<m/\W (i+1) m' σ' H')/\∀x H',J.yld i H x H'->g x σ H' λσ2 H2=>tb {D with nx:=N,ct:=N,bk:=D.nx} σ2 H2)
def gu(fp:List KF)(h:Heap):List (KF×Sj):=fp.filterMap λb=>(h.get? b).map λo=>(b,o)
variable{fp:List KF}
def dQ{h:Heap}{b:KF}{o:Sj}(hb:b∈fp)(e:h.get? b=be o):(b,o)∈gu fp h:=IA.mpr #[b,hb,by rw[e];rfl]
def wt{h:Heap}{p:KF×Sj}(hp:p∈gu fp h):p.1∈fp/\h.get? p.1=be p.2:=by
 obtain⟨b,hb,e⟩:=IA.mp hp;cases q:h.get? b with
 |none=>rw[q]at e;cases e
 |some o=>
  rw[q]at e;have e':(b,o)=p:=Option.some.inj e;subst e';exact#[hb,q]
def Inv.pinned(I:Inv X pins σ H s)(hf:∀b∈fp,FpOk X pins H b)(ho:∀b∈fp,∃o,s.heap.get? b=be o/\∀v,o.data≠.cell v):Inv X (pins++gu fp s.heap) σ H s:=
 I.pins_of λp hp=>(GA.mp hp).elim (λz=>I.pin p (Gn _ z)) λz=>by
  obtain⟨hb,e⟩:=wt z;obtain⟨f0,f1,f2,_⟩:=hf p.1 hb;obtain⟨o,e',d⟩:=ho p.1 hb;rw[e]at e';cases e';exact#[e,f0,f1,f2,d]
def Inv.unpinned{pl:List (KF×Sj)}(I:Inv X (pins++pl) σ H s):Inv X pins σ H s:=I.pins_of λp hp=>I.pin p (Gn _ (G4 _ hp))
def cS{iter:RZ}{body:List R3}{wi:TI}{g:TG}{tb:TS}(hp:Sq (R1 X.prog X.w) X.A X.env X.xe)(hc:X.calm=true)(hi:PI X tg iter wi)(hg:PG X tg g)(hb:PSs X body tb)
  (hs:∀x,Uk iter X.env x=pure x:=by intro _;rfl):PS X (.For tg iter body [] pos) (tFor wi g tb):=by
 intro pins s σ H D I h;refine wpAny_For (thn (hi pins s σ H _ I h) λv s1 h1=>thn h1 λMg s2 h2=>?_) hs;obtain⟨it,fp,tn,J,H2,e,I2,T,t_,f2,W,⟨m0,w0⟩,d3⟩:=h2;subst e;have p7:∀{H':Hp},(∀b∈fp,H' b=G_)->∀b∈fp,FpOk X pins H' b:=λhn b hb=>#[hn b hb,(f2 b hb).2];refine codeAny_forLoop_any (λn s'=>∃i σ' H',Inv X pins σ' H' s'/\tn i s'.heap/\(∀b∈fp,H' b=G_)/\W i n σ' H') ?_ m0 #[0,σ,H2,I2,t_,λb hb=>(f2 b hb).1,w0];rintro n s3⟨i,σ3,H3,I3,H_,O0,w3⟩;rcases d3 i n σ3 H3 w3 with⟨stop,qn⟩|⟨go,N,hN,step⟩
 .refine Sr hp (thn (T.done X rfl rfl rfl hc i pins s3 σ3 H3 X.xe I3 (p7 O0) H_ stop) λr s4 c7=>?_);obtain⟨hr,I4⟩:=c7;subst hr;exact SQ #[σ3,H3,I4,qn]
 .refine Sr hp (thn (T.item X rfl rfl rfl hc i pins s3 σ3 H3 X.xe I3 (p7 O0) H_ go) λr s4 c7=>?_);obtain⟨u,hr,h4⟩:=c7;subst hr;refine Sr hp (thn h4 λ_ s5 c7=>?_);obtain⟨x,H5,I5,r5,y5,JN,ML⟩:=c7;have P0:=I5.pinned (p7 ML) (T.obj _ _ JN);refine Sr hp (thn (hg _ s5 σ3 H5 x u _ P0 r5 (step x H5 y5)) λ_ s6 c7=>?_);obtain⟨σ6,H6,I6,q6⟩:=c7;refine Sr hp (thn (hb _ s6 σ6 H6 _ I6 q6) λf s7 q7=>?_);have again:∀{σ7:St} {H7:Hp},Inv X (pins++gu fp s5.heap) σ7 H7 s7->N σ7 H7->∃m,m<n/\∃i σ' H',Inv X pins σ' H' s7/\tn i s7.heap/\(∀b∈fp,H' b=G_)/\W i m σ' H':=λ{σ7 H7} I7 n7=>by
   obtain⟨m',hm,w7⟩:=hN σ7 H7 n7;refine#[m',hm,i+1,σ7,H7,I7.unpinned,T.keep _ _ _ JN λb hb o e=>(I7.pin (b,o) (Gn _ (Gn _ (dQ hb e)))).1,λb hb=>?_,w7];obtain⟨o,e,d⟩:=T.obj _ _ JN b hb;exact(I7.pin (b,o) (Gn _ (Gn _ (dQ hb e)))).2.1
  cases f with
  |next=>obtain⟨σ7,H7,I7,n7⟩:=q7;exact again I7 n7
  |cont=>obtain⟨σ7,H7,I7,n7⟩:=q7;exact again I7 n7
  |brk=>obtain⟨σ7,H7,I7,q7⟩:=q7;exact#[σ7,H7,I7.unpinned,q7]
  |ret v=>obtain⟨x7,σ7,H7,I7,r7,q7⟩:=q7;exact#[x7,σ7,H7,I7.unpinned,r7,q7]
end
def pZ{g:TG}{tb:TS}{D:Ends}(Pv:Nat->St->Hp->Prop)(h0:Pv 0 σ H)(hl:∀i σ H,i<=xs.length->Pv i σ H->SqL K H a xs)
  (hs:∀i x σ H,xs[i]?=be x->Pv i σ H->g x σ H λσ2 H2=>tb {D with nx:=Pv (i+1),ct:=Pv (i+1),bk:=D.nx} σ2 H2) (hd:∀σ H,Pv xs.length σ H->D.nx σ H):
  ∃W:Nat->Nat->St->Hp->Prop,(∃m,W 0 m σ H)/\∀i m σ H,W i m σ H->
   ((Itl K a).stop i H/\D.nx σ H)\/((Itl K a).go i H/\∃N:St->Hp->Prop,(∀σ' H',N σ' H'->∃m',m'<m/\W (i+1) m' σ' H')/\∀x H',(Itl K a).yld i H x H'->g x σ H' λσ2 H2=>tb {D with nx:=N,ct:=N,bk:=D.nx} σ2 H2):=by
 refine#[λi m σ H=>m=xs.length-i/\i<=xs.length/\Pv i σ H,#[xs.length,KK,Go _,h0],?_];rintro i m σ H ⟨rfl,hi,p⟩;have q:=hl i σ H hi p;by_cases f9:i<xs.length
 .refine .inr #[#[xs,xs[i],q,by simp[f9]],Pv (i+1),λσ' H' p'=>#[xs.length-(i+1),Ko,rfl,f9,p'],λx H' y=>?_];obtain⟨e,y⟩:=y;subst e;exact hs i x σ _ (y xs q) p
 .have e:i=xs.length:=by lia
  subst e;exact .inl #[#[xs,q,FX _],hd σ H p]
def jA{lo:Int}{n:Nat}{g:TG}{tb:TS}{D:Ends}(Pv:Nat->St->Hp->Prop)(h0:Pv 0 σ H)
  (hs:∀i σ H,i<n->Pv i σ H->g (.int (lo+i)) σ H λσ2 H2=>tb {D with nx:=Pv (i+1),ct:=Pv (i+1),bk:=D.nx} σ2 H2) (hd:∀σ H,Pv n σ H->D.nx σ H):
  ∃W:Nat->Nat->St->Hp->Prop,(∃m,W 0 m σ H)/\∀i m σ H,W i m σ H->
   ((Itr lo n).stop i H/\D.nx σ H)\/((Itr lo n).go i H/\∃N:St->Hp->Prop,(∀σ' H',N σ' H'->∃m',m'<m/\W (i+1) m' σ' H')/\∀x H',(Itr lo n).yld i H x H'->g x σ H' λσ2 H2=>tb {D with nx:=N,ct:=N,bk:=D.nx} σ2 H2):=by
 refine#[λi m σ H=>m=n-i/\i<=n/\Pv i σ H,#[n,KK,Go _,h0],?_];rintro i m σ H ⟨rfl,hi,p⟩;by_cases f9:i<n
 .refine .inr #[f9,Pv (i+1),λσ' H' p'=>#[n-(i+1),Ko,rfl,f9,p'],λx H' y=>?_];obtain⟨e,y⟩:=y;subst e y;exact hs i σ _ f9 p
 .have e:i=n:=by lia
  subst e;exact .inl #[FX _,hd σ H p]
abbrev R2:=V->V->Hp->VK->Prop
def OpR(X:Cx)(f:KB->KB->TX KB)(r:R2):Prop:=
 ∀(pins:List (KF×Sj)) (s:KM) (σ:St) (H:Hp) (x y:V) (v u:KB) (Q:VK),Inv X pins σ H s->RelV x v->RelV y u->r x y H Q->
  R4 (R1 X.prog X.w) X.A (f v u) (EP X pins σ Q) X.xe s
def UnR(X:Cx)(f:KB->TX KB)(r:V->Hp->VK->Prop):Prop:=
 ∀(pins:List (KF×Sj)) (s:KM) (σ:St) (H:Hp) (x:V) (v:KB) (Q:VK),Inv X pins σ H s->RelV x v->r x H Q->
  R4 (R1 X.prog X.w) X.A (f v) (EP X pins σ Q) X.xe s
def bE(X:Cx)(f:KB)(r:List V->Hp->VK->Prop):Prop:=
 ∀(pins:List (KF×Sj)) (s:KM) (σ:St) (H:Hp) (xs:List V) (us:List KB) (Q:VK),Inv X pins σ H s->Vals xs us->r xs H Q->
  R4 (R1 X.prog X.w) X.A (call f us) (EP X pins σ Q) X.xe s
def TruR(X:Cx)(r:V->Hp->(Bool->Hp->Prop)->Prop):Prop:=
 ∀(pins:List (KF×Sj)) (s:KM) (σ:St) (H:Hp) (x:V) (v:KB) (Q:Bool->Hp->Prop),Inv X pins σ H s->RelV x v->r x H Q->
  R4 (R1 X.prog X.w) X.A (truthy v) (TP X pins σ Q) X.xe s
def tOp(r:R2)(ta tb:TE):TE:=λσ H Q=>ta σ H λx H1=>tb σ H1 λy H2=>r x y H2 Q
def tUn(r:V->Hp->VK->Prop)(ta:TE):TE:=λσ H Q=>ta σ H λx H1=>r x H1 Q
def rI(C:Int->Int->Prop)(g:Int->Int->V):R2:=λx y H Q=>∃i j,x=.int i/\y=.int j/\C i j/\Q (g i j) H
def rI0(g:Int->Int->V):R2:=λx y H Q=>∃i j,x=.int i/\y=.int j/\Q (g i j) H
def rU(g:Int->V):V->Hp->VK->Prop:=λx H Q=>∃i,x=.int i/\Q (g i) H
section
variable {X:Cx}{a b c:RZ}{ta tb tc:TE}{pos:Sb}
variable{f:KB->KB->TX KB}
def binT(ha:PE X a ta)(hb:PE X b tb){pins:List (KF×Sj)}{s:KM}{σ:St}{H:Hp}{R:V->V->Hp->Prop}(I:Inv X pins σ H s)
  (h:ta σ H λx H1=>tb σ H1 λy H2=>R x y H2) {Q:KB->KM->Prop} 
  (hf:∀v u s2 x y H2,Inv X pins σ H2 s2->RelV x v->RelV y u->R x y H2->R4 (R1 X.prog X.w) X.A (f v u) Q X.xe s2):
  R4 (R1 X.prog X.w) X.A (Sa a X.env) (λv s₁=>R4 (R1 X.prog X.w) X.A (Sa b X.env) (λu s₂=>R4 (R1 X.prog X.w) X.A (f v u) Q X.xe s₂) X.xe s₁) X.xe s:=by
 refine thn (ha pins s σ H _ I h) λv s1 c7=>?_;obtain⟨x,H1,I1,r1,q1⟩:=c7;refine thn (hb pins s1 σ H1 _ I1 q1) λu s2 c7=>?_;obtain⟨y,H2,I2,r2,q2⟩:=c7;exact hf v u s2 x y H2 I2 r1 r2 q2
def jB{op:Tz}{r:R2}(ho:OpR X (Sn op) r)(ha:PE X a ta)(hb:PE X b tb):PE X (.BinOp a op b pos) (tOp r ta tb):=by
 intro pins s σ H Q I h;exact wpAny_BinOp (binT ha hb I h λv u s2 x y H2 I2 rx ry q=>ho pins s2 σ H2 x y v u Q I2 rx ry q)
def wu{op:UnaryOp}{r:V->Hp->VK->Prop}(ho:UnR X (unaryOp op) r)(ha:PE X a ta):PE X (.UnaryOp op a pos) (tUn r ta):=by
 intro pins s σ H Q I h;exact UnaryOp_ (thn (ha pins s σ H _ I h) λv s1 ⟨x,H1,I1,r1,q1⟩=>ho pins s1 σ H1 x v Q I1 r1 q1)
variable{g:Int->Int->Int}
def opI{C:Int->Int->Prop}
  (rule:∀(i j:Int) (t u:Ul) (s:KM) (Q:KB->KM->Prop) (E:KB->KM->Prop),C i j->Q (.int (g i j) s.toks) {s with toks:=s.toks+1}->R4 (R1 X.prog X.w) X.A (f (.int i t) (.int j u)) Q E s):
  OpR X f (rI C λi j=>.int (g i j)):=by
 intro pins s σ H x y v u Q I rx ry h;obtain⟨i,j,rfl,rfl,hc,q⟩:=h;obtain⟨t,rfl⟩:=rx;obtain⟨t',rfl⟩:=ry;exact rule i j t t' s _ _ hc #[.int (g i j),H,I.tok _,#[_,rfl],q]
def opI0
  (rule:∀(i j:Int) (t u:Ul) (s:KM) (Q:KB->KM->Prop) (E:KB->KM->Prop),Q (.int (g i j) s.toks) {s with toks:=s.toks+1}->R4 (R1 X.prog X.w) X.A (f (.int i t) (.int j u)) Q E s):
  OpR X f (rI0 λi j=>.int (g i j)):=by
 intro pins s σ H x y v u Q I rx ry h;obtain⟨i,j,rfl,rfl,q⟩:=h;obtain⟨t,rfl⟩:=rx;obtain⟨t',rfl⟩:=ry;exact rule i j t t' s _ _ #[.int (g i j),H,I.tok _,#[_,rfl],q]
def opB0{g:Int->Int->Bool}
  (rule:∀(i j:Int) (t u:Ul) (s:KM) (Q:KB->KM->Prop) (E:KB->KM->Prop),Q (.bool (g i j)) s->R4 (R1 X.prog X.w) X.A (f (.int i t) (.int j u)) Q E s):
  OpR X f (rI0 λi j=>.bl (g i j)):=by
 intro pins s σ H x y v u Q I rx ry h;obtain⟨i,j,rfl,rfl,q⟩:=h;obtain⟨t,rfl⟩:=rx;obtain⟨t',rfl⟩:=ry;exact rule i j t t' s _ _ #[.bl (g i j),H,I,rfl,q]
def CDiv(i j:Int):Prop:=0<j/\j<1073741824
def CMul(i j:Int):Prop:=(-(2^64)<i/\i<2^64)\/(-(2^64)<j/\j<2^64)
def CMul.ok{i j:Int}(h:CMul i j):IntMulOk i j:=by
 rcases h with⟨h1,h2⟩|⟨h1,h2⟩
 .exact .of_left (intBits_le_64 h1 h2)
 .exact .of_right (intBits_le_64 h1 h2)
def wv:OpR X (Sn .Add) (rI0 λi j=>.int (i+j)):=opI0 λ_ _ _ _ _ _ _ q=>add_int q
def qa:OpR X (Sn .Sub) (rI0 λi j=>.int (i-j)):=opI0 λ_ _ _ _ _ _ _ q=>sub_int q
def qc:OpR X (Sn .Mult) (rI CMul λi j=>.int (i*j)):=opI λ_ _ _ _ _ _ _ hc q=>mul_int q hc.ok
def ww:OpR X (Sn .FloorDiv) (rI CDiv λi j=>.int (i/j)):=opI λi j _ _ _ _ _ hc q=>by
 have h1:(0:Int)<j:=hc.1;have h2:j<1073741824:=hc.2;exact floordiv_int Ko (by rw[Int.fdiv_eq_ediv_of_nonneg i Ko];exact q) (.inl (PyProof.noPylong_small Ko))
def wx:OpR X (Sn .Mod) (rI (λ_ j=>0<j) λi j=>.int (i%j)):=opI λi j _ _ _ _ _ hc q=>by
 have h1:(0:Int)<j:=hc;exact mod_int' Ko (by rw[Int.fmod_eq_emod_of_nonneg i Ko];exact q)
def unI{f:KB->TX KB}{g:Int->Int}
  (rule:∀(i:Int) (t:Ul) (s:KM) (Q:KB->KM->Prop) (E:KB->KM->Prop),Q (.int (g i) s.toks) {s with toks:=s.toks+1}->R4 (R1 X.prog X.w) X.A (f (.int i t)) Q E s):
  UnR X f (rU λi=>.int (g i)):=by
 intro pins s σ H x v Q I rx h;obtain⟨i,rfl,q⟩:=h;obtain⟨t,rfl⟩:=rx;exact rule i t s _ _ #[.int (g i),H,I.tok _,#[_,rfl],q]
def wy:UnR X (unaryOp .USub) (rU λi=>.int (-i)):=unI λ_ _ _ _ _ q=>neg_int q
end
def scal:V->V->Bool
 |.non,.non=>true|.non,.int _=>true|.int _,.non=>true|.non,.bl _=>true|.bl _,.non=>true|.non,.str _=>true|.str _,.non=>true
 |.int _,.int _=>true|.bl _,.bl _=>true|.str _,.str _=>true|.byt _,.byt _=>true
 |.int _,.str _=>true|.str _,.int _=>true|.bl _,.str _=>true|.str _,.bl _=>true
 |_,_=>false
def rEq:R2:=λx y H Q=>scal x y=true/\Q (.bl (decide (x=y))) H
def rNe:R2:=λx y H Q=>scal x y=true/\Q (.bl (!decide (x=y))) H
def qd{i j:Int}:decide (V.int i=V.int j)=(i==j):=by
 rw[GW];simp
def qe{i j:Bool}:decide (V.bl i=V.bl j)=(i==j):=by
 rw[GW];simp
def qf{i j:JM}:decide (V.str i=V.str j)=(i==j):=by
 rw[GW];simp
def qg{i j:Array UInt8}:decide (V.byt i=V.byt j)=(i.toList==j.toList):=by
 rw[GW];cases i;cases j;simp
section
variable {X:Cx}{a b c:RZ}{ta tb tc:TE}{pos:Sb}
def aN{pins:List (KF×Sj)}{σ:St}{H:Hp}{s:KM}{Q:VK}{k k':Bool}(I:Inv X pins σ H s)(q:Q (.bl k) H)(e:k=k'):EP X pins σ Q (.bool k') s:=by
 subst e;exact#[.bl k,H,I,rfl,q]
def jC:OpR X (Sh .Eq) rEq:=by
 intro pins s σ H x y v u Q I rx ry h;obtain⟨hs,q⟩:=h;cases x with
 |non=>
  cases rx;cases y with
  |non=>cases ry;exact PySem.EqNone.eq_none_none (aN I q KK)
  |bl j=>cases ry;exact PySem.EqNone.eq_none_bool (aN I q KK)
  |int j=>obtain⟨t',rfl⟩:=ry;exact PySem.EqNone.eq_none_int (aN I q KK)
  |str j=>obtain⟨t',rfl⟩:=ry;exact PySem.EqNone.eq_none_str (aN I q KK)
  |_=>exact absurd (show false=true from hs) Ge
 |bl i=>
  cases rx;cases y with
  |non=>cases ry;exact PySem.EqNone.eq_bool_none (aN I q KK)
  |bl j=>cases ry;exact eq_bool (aN I q qe)
  |str j=>obtain⟨t',rfl⟩:=ry;exact PySem.EqMixed.eq_bool_str (aN I q KK)
  |_=>exact absurd (show false=true from hs) Ge
 |int i=>
  obtain⟨t,rfl⟩:=rx;cases y with
  |non=>cases ry;exact PySem.EqNone.eq_int_none (aN I q KK)
  |int j=>obtain⟨t',rfl⟩:=ry;exact eq_int (aN I q qd)
  |str j=>obtain⟨t',rfl⟩:=ry;exact PySem.EqMixed.eq_int_str (aN I q KK)
  |_=>exact absurd (show false=true from hs) Ge
 |str i=>
  obtain⟨t,rfl⟩:=rx;cases y with
  |non=>cases ry;exact PySem.EqNone.eq_str_none (aN I q KK)
  |bl j=>cases ry;exact PySem.EqMixed.eq_str_bool (aN I q KK)
  |int j=>obtain⟨t',rfl⟩:=ry;exact PySem.EqMixed.eq_str_int (aN I q KK)
  |str j=>obtain⟨t',rfl⟩:=ry;exact eq_str (aN I q qf)
  |_=>exact absurd (show false=true from hs) Ge
 |byt i=>
  obtain⟨t,rfl⟩:=rx;cases y with
  |byt j=>obtain⟨t',rfl⟩:=ry;exact eq_bytes (aN I q qg)
  |_=>exact absurd (show false=true from hs) Ge
 |_=>cases y<;>exact absurd (show false=true from hs) Ge
def qh:OpR X (Sh .NotEq) rNe:=by
 intro pins s σ H x y v u Q I rx ry h;obtain⟨hs,q⟩:=h;cases x with
 |non=>
  cases rx;cases y with
  |non=>cases ry;exact PySem.EqNone.ne_none_none (aN I q KK)
  |bl j=>cases ry;exact PySem.EqNone.ne_none_bool (aN I q KK)
  |int j=>obtain⟨t',rfl⟩:=ry;exact PySem.EqNone.ne_none_int (aN I q KK)
  |str j=>obtain⟨t',rfl⟩:=ry;exact PySem.EqNone.ne_none_str (aN I q KK)
  |_=>exact absurd (show false=true from hs) Ge
 |bl i=>
  cases rx;cases y with
  |non=>cases ry;exact PySem.EqNone.ne_bool_none (aN I q KK)
  |bl j=>cases ry;exact ne_bool (aN I q (congrArg not qe))
  |str j=>obtain⟨t',rfl⟩:=ry;exact PySem.EqMixed.ne_bool_str (aN I q KK)
  |_=>exact absurd (show false=true from hs) Ge
 |int i=>
  obtain⟨t,rfl⟩:=rx;cases y with
  |non=>cases ry;exact PySem.EqNone.ne_int_none (aN I q KK)
  |int j=>obtain⟨t',rfl⟩:=ry;exact ne_int (aN I q (congrArg not qd))
  |str j=>obtain⟨t',rfl⟩:=ry;exact PySem.EqMixed.ne_int_str (aN I q KK)
  |_=>exact absurd (show false=true from hs) Ge
 |str i=>
  obtain⟨t,rfl⟩:=rx;cases y with
  |non=>cases ry;exact PySem.EqNone.ne_str_none (aN I q KK)
  |bl j=>cases ry;exact PySem.EqMixed.ne_str_bool (aN I q KK)
  |int j=>obtain⟨t',rfl⟩:=ry;exact PySem.EqMixed.ne_str_int (aN I q KK)
  |str j=>obtain⟨t',rfl⟩:=ry;exact ne_str (aN I q (congrArg not qf))
  |_=>exact absurd (show false=true from hs) Ge
 |byt i=>
  obtain⟨t,rfl⟩:=rx;cases y with
  |byt j=>obtain⟨t',rfl⟩:=ry;exact ne_bytes (aN I q (congrArg not qg))
  |_=>exact absurd (show false=true from hs) Ge
 |_=>cases y<;>exact absurd (show false=true from hs) Ge
def qi:OpR X (Sh .Lt) (rI0 λi j=>.bl (decide (i<j))):=opB0 λ_ _ _ _ _ _ _ q=>lt_int q
def wz:OpR X (Sh .LtE) (rI0 λi j=>.bl (decide (i<=j))):=opB0 λ_ _ _ _ _ _ _ q=>le_int q
def qj:OpR X (Sh .Gt) (rI0 λi j=>.bl (decide (j<i))):=opB0 λ_ _ _ _ _ _ _ q=>gt_int q
def qk:OpR X (Sh .Is) (λx y H Q=>y=.non/\Q (.bl (decide (x=.non))) H):=by
 intro pins s σ H x y v u Q I rx ry h;obtain⟨rfl,q⟩:=h;cases ry;refine is_none_gen (aN I q ?_);cases x<;>first
  |(cases rx;rfl)
  |(obtain⟨t,rfl⟩:=rx;rfl)
def wA:OpR X (Sh .IsNot) (λx y H Q=>y=.non/\Q (.bl (!decide (x=.non))) H):=by
 intro pins s σ H x y v u Q I rx ry h;obtain⟨rfl,q⟩:=h;cases ry;refine isnot_none_gen (aN I q ?_);cases x<;>first
  |(cases rx;rfl)
  |(obtain⟨t,rfl⟩:=rx;rfl)
variable{r:R2}
def OpR.or{f:KB->KB->TX KB}{r':R2}(h:OpR X f r)(h':OpR X f r'):OpR X f (λx y H Q=>r x y H Q\/r' x y H Q):=by
 intro pins s σ H x y v u Q I rx ry q;rcases q with q|q
 .exact h pins s σ H x y v u Q I rx ry q
 .exact h' pins s σ H x y v u Q I rx ry q
variable{op:Uo}
def nomark(b:RZ)(h:autoParam (op≠.In) zA1)(h2:autoParam (op≠.NotIn) zA1):Ss op b=false:=by
 have e1:(op==CmpOp.In)=false:=by cases op<;>first|rfl|exact absurd rfl h
 have e2:(op==CmpOp.NotIn)=false:=by cases op<;>first|rfl|exact absurd rfl h2
 cases b<;>simp[Ss,e1,e2]
def wB(ho:OpR X (Sh op) r)(ha:PE X a ta)(hb:PE X b tb)(hm:Ss op b=false):PE X (.Compare a [op] [b] pos) (tOp r ta tb):=by
 intro pins s σ H Q I h;exact wpAny_Compare1 (binT ha hb I h λv u s2 x y H2 I2 rx ry q=>ho pins s2 σ H2 x y v u Q I2 rx ry q) hm
def wC(t:TE):TT:=λσ H Q=>t σ H λx H'=>∃k,x=.bl k/\Q k H'
def jD(ho:OpR X (Sh op) r)(ha:PE X a ta)(hb:PE X b tb)(hm:Ss op b=false):PT X (.Compare a [op] [b] pos) (wC (tOp r ta tb)):=by
 intro pins s σ H Q I h;refine wpAny_isTrue_Compare1 (thn (ha pins s σ H _ I h) λv s1 ⟨x,H1,I1,r1,q1⟩=>thn (hb pins s1 σ H1 _ I1 q1) λu s2 ⟨y,H2,I2,r2,q2⟩=>
  thn (ho pins s2 σ H2 x y v u _ I2 r1 r2 q2) λc s3 hh=>?_) hm
 obtain⟨z,H3,I3,r3,k,e,q3⟩:=hh;subst e;cases r3;exact Sz #[H3,I3,q3]
def TruV(K:Ex)(x:V)(H:Hp)(k:Bool):Prop:=
 match x with
 |.non=>k=false
 |.bl b=>k=b
 |.int i=>k=(i !=0)
 |.str y=>y.length<=sizeLine/\k=((y.length:Int) !=0)
 |.byt y=>y.size<=sizeLine/\k=((y.size:Int) !=0)
 |.ref p=>(∃xs,SqL K H p xs/\k=!xs.isEmpty)\/(∃xs,SqT K H p xs/\k=!xs.isEmpty)\/∃b7,H p=be (.dK b7)/\k=!b7.isEmpty
 |_=>False
def wD{κ:Type}{b7:List (κ×V)}{vs:List (κ×KB)}(r:KV b7 vs):(!vs.isEmpty)=!b7.isEmpty:=by
 cases r<;>rfl
def isEmpty_of{xs:List V}{its:List KB}(r:Vals xs its):(!its.toArray.isEmpty)=!xs.isEmpty:=by
 cases r<;>simp
def line63:(sizeLine:Nat)<2^63:=by rw[SW];decide
def wE:TruR X (λx H Q=>∃k,TruV X.K x H k/\Q k H):=by
 intro pins s σ H x v Q I rx h;obtain⟨k,e,q⟩:=h;have hl:=line63;have hs:sizeLine=16777216:=SW;cases x with
 |non=>
  cases rx;have e':k=false:=e;subst e';exact truthy_none #[H,I,q]
 |bl b=>
  cases rx;have e':k=b:=e;subst e';exact Sz #[H,I,q]
 |int i=>
  obtain⟨t,rfl⟩:=rx;have e':k=(i !=0):=e;subst e';exact PySem.P.truthy_int #[H,I,q]
 |str y=>
  obtain⟨t,rfl⟩:=rx;obtain⟨hy,e'⟩:y.length<=sizeLine/\k=((y.length:Int) !=0):=e;subst e';exact PySem.P.truthy_str Ko #[H,I.tok _,q]
 |byt y=>
  obtain⟨t,rfl⟩:=rx;obtain⟨hy,e'⟩:y.size<=sizeLine/\k=((y.size:Int) !=0):=e;subst e';exact truthy_bytes Ko #[H,I.tok _,q]
 |ref p=>
  cases rx;have e':(∃xs,SqL X.K H p xs/\k=!xs.isEmpty)\/(∃xs,SqT X.K H p xs/\k=!xs.isEmpty)\/∃b7,H p=be (.dK b7)/\k=!b7.isEmpty:=e;rcases e' with⟨xs,hx,e'⟩|⟨xs,hx,e'⟩|⟨b7,hx,e'⟩
  .subst e';obtain⟨its,r,pl,hz⟩:=I.list hx;have c5:=r.length;exact wpAny_truthy_list pl.isList (by simp only[F9];lia) #[H,I.tok _,by rw[isEmpty_of r];exact q]
  .subst e';obtain⟨its,r,pl,hz⟩:=I.tuple hx;have c5:=r.length;exact truthy_tuple pl (by simp only[F9];lia) #[H,I.tok _,by rw[isEmpty_of r];exact q]
  .subst e';obtain⟨hz,hS,vs,r,m⟩:b7.length<=sizeLine/\(p==Su)=false/\∃vs,KV b7 vs/\s.heap.DictOf (bD X.prog X.w) p vs:=I.hok p _ hx;have c5:b7.length=vs.length:=Paired.length r;exact wpAny_truthy_dict hS m Ko #[H,I.tok _,by rw[wD r];exact q]
 |_=>exact(show False from e).elim
def ql(ha:PE X a ta)(he:∀f6,isTrue a X.env f6=(do let v <-f6;SS a.pos;Sv [v] (truthy v))):
  PT X a (λσ H Q=>ta σ H λx H'=>∃k,TruV X.K x H' k/\Q k H'):=by
 intro pins s σ H Q I h;exact isTrue_plain (thn (ha pins s σ H _ I h) λv s1 ⟨x,H1,I1,r1,q1⟩=>wE pins s1 σ H1 x v Q I1 r1 q1) (he _)
def wF:OpR X (Sn .Add) (λx y H Q=>∃i j,x=.str i/\y=.str j/\i.length+j.length<=sizeLine/\Q (.str (i++j)) H):=by
 intro pins s σ H x y v u Q I rx ry h;obtain⟨i,j,rfl,rfl,hz,q⟩:=h;obtain⟨t,rfl⟩:=rx;obtain⟨t',rfl⟩:=ry;exact add_str (λt' tk=>#[.str (i++j),H,I.tok _,#[_,rfl],q]) hz
variable{us:List KB}
def bR{x:V}(r:Vals [x] us):∃u,us=[u]/\RelV x u:=by
 cases r with
 |cons r1 r2=>cases r2;exact#[_,rfl,r1]
def fu{x y:V}(r:Vals [x,y] us):∃u w',us=[u,w']/\RelV x u/\RelV y w':=by
 cases r with
 |cons r1 r2=>
  cases r2 with
  |cons r3 r4=>cases r4;exact#[_,_,rfl,r1,r3]
def wG:bE X (.builtin "abs") (λxs H Q=>∃i,xs=[.int i]/\Q (.int (if i<0 then -i else i)) H):=by
 intro pins s σ H xs us Q I r h;obtain⟨i,rfl,q⟩:=h;obtain⟨u,rfl,t,rfl⟩:=bR r;exact call_abs_int λu tk=>#[.int (if i<0 then -i else i),H,I.tok _,#[_,rfl],q]
def wH(hc:X.calm=true):bE X (.builtin "max") (λxs H Q=>∃i j,xs=[.int i,.int j]/\Q (.int (if j>i then j else i)) H):=by
 intro pins s σ H xs us Q I r h;obtain⟨i,j,rfl,q⟩:=h;obtain⟨u,w',rfl,⟨t,rfl⟩,⟨t',rfl⟩⟩:=fu r;refine max_two_ints (I.ok.hd hc) λh' tk k=>#[_,H,I.kept k,?_,q];by_cases hj:j>i
 .rw[if_pos hj,if_pos hj];exact#[_,rfl]
 .rw[if_neg hj,if_neg hj];exact#[_,rfl]
def wI(hc:X.calm=true):bE X (.builtin "min") (λxs H Q=>∃i j,xs=[.int i,.int j]/\Q (.int (if j<i then j else i)) H):=by
 intro pins s σ H xs us Q I r h;obtain⟨i,j,rfl,q⟩:=h;obtain⟨u,w',rfl,⟨t,rfl⟩,⟨t',rfl⟩⟩:=fu r;refine min_two_ints (I.ok.hd hc) λh' tk k=>#[_,H,I.kept k,?_,q];by_cases hj:j<i
 .rw[if_pos hj,if_pos hj];exact#[_,rfl]
 .rw[if_neg hj,if_neg hj];exact#[_,rfl]
def wJ:bE X (.type "int") (λxs H Q=>(∃i,xs=[.int i]/\Q (.int i) H)\/∃k,xs=[.bl k]/\Q (.int (if k then 1 else 0)) H):=by
 intro pins s σ H xs us Q I r h;rcases h with⟨i,rfl,q⟩|⟨k,rfl,q⟩
 .obtain⟨u,rfl,t,rfl⟩:=bR r;exact call_int_int #[.int i,H,I,#[_,rfl],q]
 .obtain⟨u,rfl,r1⟩:=bR r;cases r1;exact call_int_bool #[.int (if k then 1 else 0),H,I.tok _,#[_,rfl],q]
def wK:bE X (.type "str") (λxs H Q=>∃i,xs=[.int i]/\i.natAbs.log2<1920/\Q (.str (toString i)) H):=by
 intro pins s σ H xs us Q I r h;obtain⟨i,rfl,hz,q⟩:=h;obtain⟨u,rfl,t,rfl⟩:=bR r;exact PySem.P.str_of_int hz #[.str _,H,I.tok _,#[_,rfl],q]
def LenV(K:Ex)(x:V)(H:Hp)(n:Nat):Prop:=
 match x with
 |.str y=>y.length<=sizeLine/\n=y.length
 |.byt y=>y.size<=sizeLine/\n=y.size
 |.ref p=>(∃xs,SqL K H p xs/\n=xs.length)\/∃xs,SqT K H p xs/\n=xs.length
 |_=>False
def jE:bE X (.builtin "len") (λxs H Q=>∃x n,xs=[x]/\LenV X.K x H n/\Q (.int n) H):=by
 intro pins s σ H xs us Q I r h;obtain⟨x,n,rfl,e,q⟩:=h;obtain⟨u,rfl,rx⟩:=bR r;have hl:=line63;have hs:sizeLine=16777216:=SW;cases x with
 |str y=>
  obtain⟨t,rfl⟩:=rx;obtain⟨hy,e'⟩:y.length<=sizeLine/\n=y.length:=e;subst e';exact len_str Ko #[.int _,H,I.tok _,#[_,rfl],q]
 |byt y=>
  obtain⟨t,rfl⟩:=rx;obtain⟨hy,e'⟩:y.size<=sizeLine/\n=y.size:=e;subst e';exact len_bytes Ko #[.int _,H,I.tok _,#[_,rfl],q]
 |ref p=>
  cases rx;have e':(∃xs,SqL X.K H p xs/\n=xs.length)\/∃xs,SqT X.K H p xs/\n=xs.length:=e;rcases e' with⟨xs,hx,e'⟩|⟨xs,hx,e'⟩
  .subst e';obtain⟨its,r',pl,hz⟩:=I.list hx;have c5:=r'.length;exact Calls.call_len_list pl.isList (by simp only[F9];lia) #[.int xs.length,H,I.tok _,#[_,by simp only[F9];rw[c5]],q]
  .subst e';obtain⟨its,r',pl,hz⟩:=I.tuple hx;have c5:=r'.length;exact len_tuple pl (by simp only[F9];lia) #[.int xs.length,H,I.tok _,#[_,by simp only[F9];rw[c5]],q]
 |_=>exact(show False from e).elim
end
structure ObjM(h:Heap)(x dx C:KF)(mA:Str->Option KB):Prop where
 obj:h.get? x=be (instObj C dx)
 ns:h.Ns1 dx mA
 ne:dx≠x
variable{mA:JM->Option KB}
def qm{dx:KF}(n:h.Ns1 dx mA):∃od,h.get? dx=be od/\∀name,lookIn name od=be (mA name):=by
 obtain⟨o,es,ep,ho,hd,hk,_,hm⟩:=n;refine#[o,ho,λname=>?_];have e:=hm name;unfold nsFind findBy at e;rw[<-Array.find?_toList]at e;unfold lookIn;rw[hd];dsimp only;split
 .rename_i y q;rw[q]at e;exact congrArg be e
 .rename_i q;rw[q]at e;have a:es.toList.any (·.refKey)=false:=by
   rw[List.any_eq_false];intro y hy;obtain⟨z,t,p8⟩:=hk y (Array.mem_toList_iff.mp hy);simp[DictEntry.refKey,p8]
  have a':¬es.toList.any (·.refKey)=true:=by rw[a];exact Ge
  rw[if_neg a'];exact congrArg be e
variable{C:KF}
def ObjM.look{x dx:KF}(I:ObjM h x dx C mA):∃od,PySem.W.InstAt h x (instObj C dx) C (be od)/\∀name,lookIn name od=be (mA name):=
 let ⟨od,ho,hl⟩:=qm I.ns
 #[od,#[I.obj,rfl,rfl,ho],hl]
section
variable {prog:P3}{w:R5}{A:R6}{E:KB->KM->Prop}{s:KM}{K:Ex}{x dx C f:KF}{mA:JM->Option KB}{name:JM}{v:KB}
def wL{y7:Bool}{Q:KB->KM->Prop}(X:K.In s.heap)(I:ObjM s.heap x dx C mA)(hg:plainGet K C name=true)(hh:hasDictIn K C=true)
  (ha:FZ K (.ref C) name=be G_) (hv:mA name=be v) (P1:IB v=true) (h:Q v {s with toks:=s.toks+1}):
  R4 (R1 prog w) A (TR (.ref x) name y7) Q E s:=by
 obtain⟨od,J,hl⟩:=I.look;exact get_value X J (plainGet_of hg).1 (findObj_own hh ha rfl (by rw[hl,hv])) P1 h
def wM{pl:TX Bool}{Q:KB×List KB->KM->Prop}(X:K.In s.heap)(I:ObjM s.heap x dx C mA)(hg:plainGet K C name=true)
  (hf:FZ K (.ref C) name=be (be (.ref f))) (ht:isFn K (.ref f)=true) (hv:mA name=G_) (h:Q (.ref f,[.ref x]) s):
  R4 (R1 prog w) A (S' (.ref x) name pl) Q E s:=by
 obtain⟨od,J,hl⟩:=I.look;exact method_fn X J (plainGet_of hg).1 (plainGet_of hg).2 hf (beq_iff_eq.mp ht) (by show(lookIn name od).map (·.isSome)=be false;rw[hl,hv];rfl) h
def wO{ns:List JM}{Q:Unit->KM->Prop}(X:K.In s.heap)(I:ObjM s.heap x dx C mA)
  (hs:FZ K (.ref C) "__setattr__"=be (be (.builtin "object.__setattr__"))) (hp:plainOver K C=true) (ht:takerIn K C name=be G_) (hh:hasDictIn K C=true)
  (hw:PySem.Within mA ns) (k6:ns.length<=sizeLine)
  (h:∀h',ObjM h' x dx C (λy=>if y=name then be v else mA y)->Heap.SameBut dx s.heap h'->Q () {s with heap:=h',toks:=s.toks+2}):
  R4 (R1 prog w) A (Uh (.ref x) name v) Q E s:=by
 obtain⟨od,J,hl⟩:=I.look;refine PySem.W.set_plain X J hs (osa_open (s:={s with toks:=s.toks+1}) (r:=G_) X J hp ht λb=>?_);obtain⟨cd,hc,g7⟩:=any_some hh;have hx:s.heap.get? x=be #[.ref C,be dx,.plain,[].toArray]:=I.obj;refine Os (RY (Os (Os (Ts hx (Os (PySem.W.Looks.here (s:={s with toks:=s.toks+1}) (PySem.W.looks_clsIn X hc) ?_))))));rw[g7];refine RY (a:=be dx) (Os (RY (Os ?_)));refine TK (s:={s with toks:=s.toks+1}) I.ns λh' Kp n4=>?_;obtain⟨oD,O1,O2,Li,Lj,Lk⟩:=Kp.count (PySem.Within.cons name v hw);refine Os (Th Li (by rw[Lj];exact Tn (Ga Lk (by rw[F7];lia))) ?_);exact RY (h _ #[(n4.2 _ (Ne.symm I.ne)).trans I.obj,Kp,I.ne] n4)
def wP{R:Result->KM->Prop}{vs:List KB}{kw:List (JM×KB)}(X:K.In s.heap)(hm:makesIn K C=true)
  (hi:FZ K (.ref C) "__init__"=be (be (.ref f))) (hf:PySem.W.typeIn K (.ref f)=be (.type "function"))
  (h:S_ (R1 prog w) (A.under (.builtin "type.__call__" #[.ref C::vs,kw])) (.call (.ref f) #[.ref (s.heap.objs.size+1)::vs,kw]) (InitBack (s.heap.objs.size+1) R)
   {s with heap:=(s.heap.push emptyDict).push (instObj C s.heap.objs.size)}):
  S_ (R1 prog w) A (.call (.ref C) #[vs,kw]) R s:=by
 obtain⟨hh,g,d,t,os⟩:=s;exact make_core (makes_of X hm) (PySem.W.looks_findIn X hi) (λself=>PySem.W.bind_fn X self hf) (.inl rfl) h
end
def putF(f:JM)(v:V):List (JM×V)->List (JM×V)
 |[]=>[(f,v)]
 |(g,x)::r=>if g=f then(g,v)::r else(g,x)::putF f v r
def qo(f g:JM)(v:V):∀fs:List (JM×V),(putF f v fs).lookup g=if g=f then be v else fs.lookup g
 |[]=>by
  show GX g [(f,v)]=_;by_cases h:g=f
  .have hb:(g==f)=true:=beq_iff_eq.mpr h;simp only[GX,hb,if_pos h]
  .have hb:(g==f)=false:=beq_eq_false_iff_ne.mpr h;simp only[GX,hb,if_neg h]
 |(k,x)::r=>by
  have ih:=qo f g v r;rw[show putF f v ((k,x)::r)=(if k=f then(k,v)::r else(k,x)::putF f v r)from rfl];by_cases hk:k=f
  .rw[if_pos hk];by_cases h:g=k
   .have hb:(g==k)=true:=beq_iff_eq.mpr h;simp only[GX,hb,if_pos (h.trans hk)]
   .have hb:(g==k)=false:=beq_eq_false_iff_ne.mpr h;simp only[GX,hb,if_neg (λe:g=f=>h (e.trans hk.symm))]
  .rw[if_neg hk];by_cases h:g=k
   .have hb:(g==k)=true:=beq_iff_eq.mpr h;simp only[GX,hb,if_neg (λe:g=f=>hk (h.symm.trans e))]
   .have hb:(g==k)=false:=beq_eq_false_iff_ne.mpr h;simp only[GX,hb];exact ih
def jF(f:JM)(v:V):∀fs:List (JM×V),f∈(putF f v fs).map (·.1)/\∀g,g∈fs.map (·.1)->g∈(putF f v fs).map (·.1)
 |[]=>#[by simp[putF],λg h=>by simp at h]
 |(k,x)::r=>by
  obtain⟨i1,i2⟩:=jF f v r;rw[show putF f v ((k,x)::r)=(if k=f then(k,v)::r else(k,x)::putF f v r)from rfl];by_cases hk:k=f
  .rw[if_pos hk];subst hk;exact#[KK,λg h=>by simpa using h]
  .rw[if_neg hk];refine#[?_,λg h=>?_]
   .rw[Gs];exact F8 _ i1
   .rw[Gs]at h ⊢;rcases F5.mp h with e|e
    .exact F5.mpr (.inl e)
    .exact F8 _ (i2 g e)
def qp(f:JM)(v:V):∀fs:List (JM×V),(putF f v fs).length<=fs.length+1
 |[]=>by simp[putF]
 |(k,x)::r=>by
  have ih:=qp f v r;rw[show putF f v ((k,x)::r)=(if k=f then(k,v)::r else(k,x)::putF f v r)from rfl];by_cases hk:k=f
  .rw[if_pos hk,F7,F7];lia
  .rw[if_neg hk,F7,F7];lia
def RelO.some_of{v:V}{o:Option KB}(r:RelO (be v) o):∃u,o=be u/\RelV v u:=by
 cases o with
 |none=>exact(show False from r).elim
 |some u=>exact#[u,rfl,r]
def RelO.none_of{o:Option KB}(r:RelO G_ o):o=none:=by
 cases o with
 |none=>rfl
 |some u=>exact(show False from r).elim
def qq{v:V}(r:RelV v u):IB u=true:=by
 cases v with
 |non=>cases(show u=Value.none from r);rfl
 |bl b=>cases(show u=Value.bool b from r);rfl
 |int i=>obtain⟨t,e⟩:=(show ∃t,u=Value.int i t from r);cases e;rfl
 |str x=>obtain⟨t,e⟩:=(show ∃t,u=Value.str x t from r);cases e;rfl
 |byt b=>obtain⟨t,e⟩:=(show ∃t,u=Value.bytes b t from r);cases e;rfl
 |flt b=>obtain⟨t,e⟩:=(show ∃t,u=Value.float b t from r);cases e;rfl
 |ref a=>cases(show u=Value.ref a from r);rfl
 |ty n=>cases(show u=Value.type n from r);rfl
section
variable {P:P3}{w:R5}{H H':Hp}{h h':Heap}{a C dx:KF}{fs l9:List (JM×V)}
def gv(hok:HOk P w H h)(e:H a=be (.ins C dx fs)):∃mA,ObjM h a dx C mA/\(∀f,RelO (fs.lookup f) (mA f))/\PySem.Within mA (fs.map (·.1))/\fs.length<=1000/\H dx=be (.own a):=by
 obtain⟨d,z,ne,ob,mA,n,r,q⟩:=(show ObjOk P w H h a (.ins C dx fs)from hok a _ e);exact#[mA,#[ob,n,ne],r,q,z,d]
end
structure Cls(K:Ex)(C:KF):Prop where
 pg:plainGet K C Str.empty=true
 hd:hasDictIn K C=true
 po:plainOver K C=true
 sa:FZ K (.ref C) "__setattr__"=be (be (.builtin "object.__setattr__"))
def Cls.get(c:Cls K C)(f:JM):plainGet K C f=true:=c.pg
def NoAttr(K:Ex)(C:KF)(f:JM):Prop:=FZ K (.ref C) f=be G_
def NoAttr.taker{f:JM}(n:NoAttr K C f):takerIn K C f=be none:=by
 unfold takerIn;rw[show FZ K (.ref C) f=be G_ from n];rfl
structure Meth(K:Ex)(C:KF)(m:Str)(f:KF):Prop where
 at_:FZ K (.ref C) m=be (be (.ref f))
 fn:isFn K (.ref f)=true
 kp:keepIn K (.ref f)=true
section
variable {X:Cx}{pins:List (KF×Sj)}{σ:St}{H:Hp}{s:KM}{a C dx:KF}{fs:List (JM×V)}{f:JM}{v:V}{A:R6}{E:KB->KM->Prop}
variable{Q:KB->KM->Prop}
def wQ{b:Bool}(I:Inv X pins σ H s)(e:H a=be (.ins C dx fs))(c:Cls X.K C)(n:NoAttr X.K C f)(l:fs.lookup f=be v)
  (h:∀u s',Inv X pins σ H s'->RelV v u->Q u s'):R4 (R1 X.prog X.w) A (TR (.ref a) f b) Q E s:=by
 obtain⟨mA,O,r,_,_,_⟩:=gv I.hok e;obtain⟨u,hu,ru⟩:=RelO.some_of (v:=v) (o:=mA f) (by rw[<-l];exact r f);exact wL I.kIn O (c.get f) c.hd n hu (qq ru) (h u _ (I.tok _) ru)
def jG{m:JM}{g:KF}{pl:TX Bool}{Q:KB×List KB->KM->Prop}(I:Inv X pins σ H s)(e:H a=be (.ins C dx fs))(c:Cls X.K C)(k:Meth X.K C m g)(l:fs.lookup m=G_)
  (h:Q (.ref g,[.ref a]) s):R4 (R1 X.prog X.w) A (S' (.ref a) m pl) Q E s:=by
 obtain⟨mA,O,r,_,_,_⟩:=gv I.hok e;have hn:mA m=none:=RelO.none_of (by rw[<-l];exact r m);exact wM I.kIn O (c.get m) k.at_ k.fn hn h
def wR{y:V}{u:KB}{Q:Unit->KM->Prop}(I:Inv X pins σ H s)(e:H a=be (.ins C dx fs))(c:Cls X.K C)(n:NoAttr X.K C f)(hl:fs.length<1000)(ry:RelV y u)
  (h:∀s',Inv X pins σ (upd H a (.ins C dx (putF f y fs))) s'->Q () s'):R4 (R1 X.prog X.w) A (Uh (.ref a) f u) Q E s:=by
 obtain⟨mA,O,r,wi,_,ho⟩:=gv I.hok e;have hz:(fs.map (·.1)).length<=sizeLine:=by rw[Gb,SW];lia
 refine wO I.kIn O c.sa c.po n.taker c.hd wi hz λh' O' sb=>h _ ?_;have hd:∃o,h'.get? dx=be o:=let ⟨o,_,_,e',_⟩:=O'.ns;#[o,e']
 refine I.write (x:=a) (e:=dx) (by rw[e];exact True.intro) (.inr ho) (λb q hb z=>(sb.2 b hb).trans z) hd ?_;refine#[by rw[aj O.ne];exact ho,?_,O.ne,O'.obj,_,O'.ns,λg=>?_,λg hg=>?_]
 .have:=qp f y fs;lia
 .show RelO ((putF f y fs).lookup g) (if g=f then be u else mA g);rw[qo];by_cases q:g=f
  .rw[if_pos q,if_pos q];exact ry
  .rw[if_neg q,if_neg q];exact r g
 .by_cases q:g=f
  .rw[q];exact(jF f y fs).1
  .refine(jF f y fs).2 g (wi g λz=>hg ?_);show(if g=f then be u else mA g)=G_;rw[if_neg q];exact z
def Inv.made(I:Inv X pins σ H s):Inv X pins σ (upd (upd H s.heap.objs.size (.own (s.heap.objs.size+1))) (s.heap.objs.size+1) (.ins C s.heap.objs.size []))
  {s with heap:=(s.heap.push emptyDict).push (instObj C s.heap.objs.size)}:=by
 have e1:(s.heap.push emptyDict).get? s.heap.objs.size=be emptyDict:=Heap.get?_push_size s.heap rfl;have e2:((s.heap.push emptyDict).push (instObj C s.heap.objs.size)).get? (s.heap.objs.size+1)=be (instObj C s.heap.objs.size):=by
  have:=Heap.get?_push_size (s.heap.push emptyDict) (o:=instObj C s.heap.objs.size) rfl;rwa [Heap.size_push]at this
 have e3:(s.heap.push emptyDict).Ns s.heap.objs.size (λ_=>G_):=#[emptyDict,[].toArray,_,e1,rfl,(λe he=>absurd he KK),λ_=>rfl];have I1:=I.laid (a:=s.heap.objs.size) (o:=.own (s.heap.objs.size+1)) (h':=s.heap.push emptyDict) (t':=s.toks) (λb u q=>Heap.get?_push_of_some _ q) (FX _) #[_,e1];refine I1.laid (a:=s.heap.objs.size+1) (o:=.ins C s.heap.objs.size []) (t':=s.toks) (λb u q=>Heap.get?_push_of_some _ q) (Hx (Heap.size_push _ _)) ?_;have ne:s.heap.objs.size≠s.heap.objs.size+1:=F6 (IC _);refine#[by rw[aj ne,av],Go _,ne,e2,λ_=>G_,(Heap.Ns1.of_empty e3).at λo q=>Heap.get?_push_of_some _ q,λ_=>True.intro,λy hy=>absurd rfl hy]
def attr_of{prog:P3}{w:R5}{env:SU}{e:RZ}{f:JM}{pos:Sb}{s:KM}(hb:R9 e f env (Sa e env)=Sa e env)
  (h:R4 (R1 prog w) A (Sa e env) (λo s₁=>R4 (R1 prog w) A (TR o f true) Q E s₁) E s):R4 (R1 prog w) A (Sa (.Attribute e f pos) env) Q E s:=
 Attribute_any_ h (by rw[arm_eval_Attribute,hb])
end
def tFld(K:Ex)(ta:TE)(f:JM):TE:=λσ H Q=>ta σ H λx H1=>∃a C dx fs v,x=.ref a/\H1 a=be (.ins C dx fs)/\Cls K C/\NoAttr K C f/\fs.lookup f=be v/\Q v H1
def sFld(K:Ex)(ta tv:TE)(f:JM):TS:=λD σ H=>tv σ H λy H1=>ta σ H1 λx H2=>∃a C dx fs,x=.ref a/\H2 a=be (.ins C dx fs)/\Cls K C/\NoAttr K C f/\fs.length<1000/\
 D.nx σ (upd H2 a (.ins C dx (putF f y fs)))
section
variable {X:Cx}{o e value:RZ}{f:JM}{pos d4 Lg:Sb}{ta tv:TE}
def qr(he:PE X e ta)(hb:R9 e f X.env (Sa e X.env)=Sa e X.env):PE X (.Attribute e f pos) (tFld X.K ta f):=by
 intro pins s σ H Q I h;refine attr_of hb (thn (he pins s σ H _ I h) λu s1 c7=>?_);obtain⟨x,H1,I1,rx,a,C,dx,fs,v,ex,ea,c,n,l,q⟩:=c7;subst ex;obtain rfl:u=Value.ref a:=rx;exact wQ I1 ea c n l λu' s2 I2 ru=>#[v,H1,I2,ru,q]
def qt(ha:PE X o ta)(hv:PE X value tv)(hs:Sg value (be (.Attribute o f d4)) pos.line X.env=pure false):PS X (.Assign [.Attribute o f d4] value pos) (sFld X.K ta tv f):=by
 intro pins s σ H D I h;refine SE (thn (hv pins s σ H _ I h) λu s1 ⟨y,H1,I1,ry,q⟩=>thn (ha pins s1 σ H1 _ I1 q) λov s2 hh=>?_) hs;obtain⟨x,H2,I2,rx,a,C,dx,fs,ex,ea,c,n,l,q2⟩:=hh;subst ex;obtain rfl:ov=Value.ref a:=rx;exact wR I2 ea c n l ry λs3 I3=>#[σ,_,I3,q2]
end
section
variable {X:Cx}{pins:List (KF×Sj)}{σ:St}{H:Hp}{s:KM}{A:R6}{E:KB->KM->Prop}{Q:KB->KM->Prop}{c:KB}{b:Bool}
inductive TyOf(K:Ex)(H:Hp):V->KB->Prop where
 |non:TyOf K H .non (.type "NoneType")
 |bl (x:Bool):TyOf K H (.bl x) (.type "bool")
 |int (i:Int):TyOf K H (.int i) (.type "int")
 |str (x:Str):TyOf K H (.str x) (.type "str")
 |flt (x:UInt64):TyOf K H (.flt x) (.type "float")
 |lst {a:KF} {xs:List V} (e:H a=some (.lst xs)):TyOf K H (.ref a) (.type "list")
 |frz {a:KF} {o:Sj} {xs:List V} (e:H a=some (.frz o (.lst xs))):TyOf K H (.ref a) (.type "list")
 |tup {a:KF} {xs:List V} (e:H a=some (.tup xs)):TyOf K H (.ref a) (.type "tuple")
 |dK {a:KF} {b7:List (Key×V)} (e:H a=some (.dK b7)):TyOf K H (.ref a) (.type "dict")
 |dT {a:KF} {b7:List (List Key×V)} (e:H a=some (.dT b7)):TyOf K H (.ref a) (.type "dict")
 |ins {a C dx:KF} {fs:List (Str×V)} (e:H a=some (.ins C dx fs)) (cl:Cls K C) (ha:FZ K (.ref C) "__class__"=some (some (.builtin "object.__class__")))
   (hn:specialIn K (.builtin "object.__class__") "__get__"=be (be (.builtin "getset_descriptor.__get__"))) (O3:takesIn K (.builtin "object.__class__")=be true)
   (hm:GP K C (.type "object")=be true):TyOf K H (.ref a) (.ref C)
def wS{x:V}{u t:KB}(I:Inv X pins σ H s)(rx:RelV x u)(ty:TyOf X.K H x t)(e:kitOne X.K t c=be b)(h:∀tk,Q (.bool b) {s with toks:=tk}):
  R4 (R1 X.prog X.w) A (call (.builtin "isinstance") [u,c]) Q E s:=by
 cases ty with
 |non=>cases(show u=Value.none from rx);exact kia_one kitx_none I.kIn True.intro e (λz=>nomatch z) h
 |bl y=>cases(show u=Value.bool y from rx);exact kia_one kitx_bool I.kIn True.intro e (λz=>nomatch z) h
 |int i=>obtain⟨t,q⟩:=(show ∃t,u=Value.int i t from rx);cases q;exact kia_one kitx_int I.kIn True.intro e (λz=>nomatch z) h
 |str y=>obtain⟨t,q⟩:=(show ∃t,u=Value.str y t from rx);cases q;exact kia_one kitx_str I.kIn True.intro e (λz=>nomatch z) h
 |flt y=>obtain⟨t,q⟩:=(show ∃t,u=Value.float y t from rx);cases q;exact kia_one kitx_float I.kIn True.intro e (λz=>nomatch z) h
 |@lst a xs ea=>
  cases(show u=Value.ref a from rx);obtain⟨_,_,n,_,h1⟩:=(show ObjOk X.prog X.w H s.heap a (.lst xs)from I.hok a _ ea);exact kia_one kitx_list I.kIn #[_,h1,rfl] e (λz=>nomatch z) h
 |@frz a ob xs ea=>
  cases(show u=Value.ref a from rx);obtain⟨_,_,_,n,_,h1⟩:=(show ObjOk X.prog X.w H s.heap a (.frz ob (.lst xs))from I.hok a _ ea);exact kia_one kitx_list I.kIn #[_,h1,rfl] e (λz=>nomatch z) h
 |@tup a xs ea=>
  cases(show u=Value.ref a from rx);obtain⟨_,_,_,p⟩:=(show ObjOk X.prog X.w H s.heap a (.tup xs)from I.hok a _ ea);obtain⟨o,h1,h2,_⟩:=p;exact kia_one kitx_tuple I.kIn #[o,h1,h2] e (λz=>nomatch z) h
 |@dK a b7 ea=>
  cases(show u=Value.ref a from rx);obtain⟨_,_,vs,_,p⟩:=(show ObjOk X.prog X.w H s.heap a (.dK b7)from I.hok a _ ea);obtain⟨o,es,ep,h1,h2,_⟩:=p;exact kia_one kitx_dict I.kIn #[o,h1,h2.1] e (λz=>nomatch z) h
 |@dT a b7 ea=>
  cases(show u=Value.ref a from rx);obtain⟨_,_,xs,_,o,es,ep,h1,h2,_⟩:=(show ObjOk X.prog X.w H s.heap a (.dT b7)from I.hok a _ ea);exact kia_one kitx_dict I.kIn #[o,h1,h2.1] e (λz=>nomatch z) h
 |@ins a C dx fs ea cl ha hn O3 hm=>
  cases(show u=Value.ref a from rx);obtain⟨mA,O,_⟩:=gv I.hok ea;obtain⟨od,J,_⟩:=O.look;exact kia_one (kitx_own (cl.get _) cl.hd ha hn O3 hm) I.kIn J e (λz=>nomatch z) h
end
structure Room(k:Nat)(A:R6):Prop where
 hd:A.handled=G_
 dp:A.depth+3*k+5<recursionLimit
 un:A.units+16*k+200<Ta
variable{k:Nat}
def Room.mono{j:Nat}(r:Room k A)(h:j<=k):Room j A:=#[r.hd,by have:=r.dp;lia,by have:=r.un;lia]
def Room.deeper(r:Room (k+1) A)(env:SU):Room k (A.deeper env):=
 #[r.hd,by have:=r.dp;show A.depth+1+3*k+5<_;lia,by have:=r.un;show A.units+3+16*k+200<_;lia]
variable{kw:List (JM×KB)}
def wT:(A.under (.builtin "type.__call__" #[.ref C::us,kw])).depth=A.depth+1:=by
 first|rfl|simp[Around.under,Code.weight,Code.isCreation,Code.isGuard,Code.isCaller,Code.frames,Code.isFrame,guardIds]
def wU:(A.under (.builtin "type.__call__" #[.ref C::us,kw])).units=A.units+1:=by
 first|rfl|simp[Around.under,Code.cUnits,Code.frames,Code.isFrame]
def Room.make(r:Room (k+1) A)(C:KF)(us:List KB)(kw:List (JM×KB)):Room k (A.under (.builtin "type.__call__" #[.ref C::us,kw])):=
 #[r.hd,by have:=r.dp;rw[wT];lia,by have:=r.un;rw[wU];lia]
def Room.depth(r:Room k A):A.depth<recursionLimit:=by have:=r.dp;lia
def Room.units(r:Room k A):A.units+64<Ta:=by have:=r.un;lia
def tNil:TA:=λ_ H Q=>Q [] H
def qu(ta:TE)(tr:TA):TA:=λσ H Q=>ta σ H λx H1=>tr σ H1 λxs H2=>Q (x::xs) H2
section
variable {X:Cx}{e:RZ}{es:List RZ}{te:TE}{t:TA}{pos:Sb}
def pa_nil:PA X [] tNil:=λ_ _ _ _ H Q I h=>Calls.spliced_nil #[[],H,I,.nil,h]
def bo(ha:PE X e te)(hr:PA X es t)(hs:autoParam (zSE X e es) zA0):PA X (e::es) (qu te t):=by
 intro pos pins s σ H Q I h;rw[hs];show R4 _ _ (spliced ((false,Sa e X.env)::SZ pos (R8 es X.env))) _ _ s;refine Calls.spliced_cons (thn (ha pins s σ H _ I h) λu s1 c7=>?_);obtain⟨x,H1,I1,r1,q1⟩:=c7;exact thn (hr pos pins s1 σ H1 _ I1 q1) λus s2 ⟨xs,H2,I2,r2,q2⟩=>#[x::xs,H2,I2,.cons r1 r2,q2]
def tTup(t:TA):TE:=λσ H Q=>t σ H λxs H1=>xs.length<=sizeLine/\∀p,H1 p=G_->Q (.ref p) (upd H1 p (.tup xs))
def tLst(t:TA):TE:=λσ H Q=>t σ H λxs H1=>xs.length<=sizeLine/\∀p,H1 p=G_->Q (.ref p) (upd H1 p (.lst xs))
def qv{x1}(h:PA X es t):PE X (.Tuple es x1 pos) (tTup t):=by
 intro pins s σ H Q I hq;refine wpAny_Tuple_spliced (thn (h pos pins s σ H _ I hq) λus s1 ⟨xs,H1,I1,r,z,q⟩=>#[by rw[<-r.length];exact z,?_]);have hf:H1 s1.heap.objs.size=none:=I1.hok.fresh (FX _);refine#[.ref s1.heap.objs.size,upd H1 s1.heap.objs.size (.tup xs),I1.laid (t':=s1.toks) (λb u e=>Heap.get?_push_of_some _ e) (FX _) ?_,rfl,q _ hf];exact#[z,us,r,#[_,Heap.get?_push_size _ rfl,rfl,_,rfl]]
def jH(h:PA X es t):PE X (.List es pos) (tLst t):=by
 intro pins s σ H Q I hq;refine wpAny_List_spliced (thn (h pos pins s σ H _ I hq) λus s1 ⟨xs,H1,I1,r,z,q⟩=>#[by rw[<-r.length];exact z,?_]);have hf:H1 s1.heap.objs.size=none:=I1.hok.fresh (FX _);refine#[.ref s1.heap.objs.size,upd H1 s1.heap.objs.size (.lst xs),I1.laid (t':=s1.toks) (λb u e=>Heap.get?_push_of_some _ e) (FX _) ?_,rfl,q _ hf];exact#[z,us,0,r,Heap.get?_push_size _ rfl]
end
abbrev Sp:=List V->Hp->VK->XK->Prop
abbrev CXT:=List SU->Hp->KM->XK->KB->KM->Prop
structure Env0(P:P3)(w:R5)(K:Ex)(mg:Str->Option KB)(base:Heap)(A:R6)(outer:List SU)(s:KM)(H:Hp):Prop where
 frames:A.frames=be outer
 mod:Mod K mg base
 bs:∀b o,base.get? b=be o->s.heap.get? b=be o/\H b=G_
 bsz:base.objs.size<=s.heap.objs.size
 funs:s.heap.FunFrames base outer
 frf:∀b∈frs outer,H b=G_
 hok:HOk P w H s.heap
 bare:SY s.gens
def CE(outer:List SU)(P:P3)(w:R5)(H:Hp)(s:KM)(Q:VK)(u:KB)(s':KM):Prop:=
 ∃v H',s'.os=s.os/\SY s'.gens/\Un (frs outer) [] H H' s.heap s'.heap/\HOk P w H' s'.heap/\RelV v u/\Q v H'
def CR(CX:CXT)(outer:List SU)(P:P3)(w:R5)(H:Hp)(s:KM)(Q:VK)(E:XK)(r:Result)(s':KM):Prop:=
 match r with
 |.ok (.ret u)=>CE outer P w H s Q u s'
 |.ok _=>False
 |.error e=>CX outer H s E e s'
structure FnOk(P:P3)(w:R5)(K:Ex)(mg:Str->Option KB)(base:Heap)(CX:CXT)(k:Nat)(f:KF)(fd:R_)(ps:List Str)(sp:Sp):Prop where
 len:∀vs H Q E,sp vs H Q E->vs.length=ps.length
 run:∀(A:R6) (outer:List SU) (s:KM) (H:Hp) (args:Args) (us:List KB) (vs:List V) (Q:VK) (E:XK),Room k A->Env0 P w K mg base A outer s H->S5 s fd args (ps.zip us)->Vals vs us->sp vs H Q E->
  S_ (R1 P w) A (.call (.ref f) args) (CR CX outer P w H s Q E) s
variable{f:KF}{mg:JM->Option KB}{base:Heap}{CX:CXT}{fd:R_}{ps:List JM}{sp:Sp}
def FnOk.mono{j:Nat}(F:FnOk P w K mg base CX j f fd ps sp)(h:j<=k):
  FnOk P w K mg base CX k f fd ps sp:=#[F.len,λA outer s H args us vs Q E hr=>F.run A outer s H args us vs Q E (hr.mono h)]
def FnOk.imp{J9:Sp}(F:FnOk P w K mg base CX k f fd ps sp)
  (h:∀vs H Q E,J9 vs H Q E->sp vs H Q E):FnOk P w K mg base CX k f fd ps J9:=
 #[λvs H Q E q=>F.len vs H Q E (h _ _ _ _ q),λA outer s H args us vs Q E hr he hb hv hs=>F.run A outer s H args us vs Q E hr he hb hv (h _ _ _ _ hs)]
variable{outer:List SU}
def Env0.make(e:Env0 P w K mg base A outer s H)(C:KF)(us:List KB)(kw:List (JM×KB)):
  Env0 P w K mg base (A.under (.builtin "type.__call__" #[.ref C::us,kw])) outer s H:=#[by first|exact e.frames|(simpa[Around.under,Code.envs,Code.isFrame,pushEnvs]using e.frames),e.mod,e.bs,e.bsz,e.funs,e.frf,e.hok,e.bare]
section
variable {X:Cx}{pins:List (KF×Sj)}{σ:St}{H:Hp}{s s':KM}
def Inv.env0(I:Inv X pins σ H s):Env0 X.prog X.w X.K X.mg X.base X.A X.stack s H:=
 #[I.ok.frames,I.ok.mod,I.bs,Ga I.ok.bsz I.sz,I.stack,I.stkFree,I.hok,I.bare]
def Inv.after{Q:VK}{u:KB}(I:Inv X pins σ H s)(h:CE X.stack X.prog X.w H s Q u s'):EP X pins σ Q u s':=by
 obtain⟨v,H',os,bare,un,hok,r,q⟩:=h;obtain⟨hh,g,d,t,P2⟩:=s';obtain rfl:P2=s.os:=os;exact#[v,H',I.call (h':=hh) (g':=g) (d':=d) (t':=t) (ch:=[]) un hok bare (λb z=>absurd z KK),r,q]
end
def qw(sp:Sp)(f_:List V)(E:XK)(t:TA):TE:=λσ H Q=>t σ H λvs H1=>sp (vs++f_) H1 Q E
def wV(C:KF)(sp:Sp)(f_:List V)(E:XK)(t:TA):TE:=λσ H Q=>t σ H λvs H1=>∀x dx,H1 x=G_->H1 dx=G_->dx≠x->
 sp (.ref x::(vs++f_)) (upd (upd H1 dx (.own x)) x (.ins C dx [])) (λv H2=>v=.non/\Q (.ref x) H2) E
def Binds(K:Ex)(fd:R_)(ps:List JM)(ds:List KB):Prop:=
 ∀(s:KM) (us:List KB),K.In s.heap->(us++ds).length=ps.length->S5 s fd #[us,[]] (ps.zip (us++ds))
def Binds.all(h:∀us:List KB,us.length=ps.length->SN fd #[us,[]]=pure (ps.zip us)):Binds K fd ps []:=λs us _ hl=>by
 rw[Gw]at hl ⊢;exact .of_eq (h us hl)
def fv(CX:CXT)(X:Cx)(E:XK):Prop:=∀(pins:List (KF×Sj)) (σ:St) (H:Hp) (s:KM) (e:KB) (s':KM),Inv X pins σ H s->CX X.stack H s E e s'->X.xe e s'
section
variable {X:Cx}{CX:CXT}{k:Nat}{f C:KF}{fd:R_}{ps:List JM}{sp:Sp}{f_:List V}{ds:List KB}{E:XK}{x m:JM}{p pos b9:Sb}{e o:RZ}{es:List RZ}{ta:TE}{t:TA}
variable{pins:List (KF×Sj)}{us:List KB}{vs:List V}
def wW{σ:St}{H:Hp}{s:KM}{Q:VK}(F:FnOk X.prog X.w X.K X.mg X.base CX k f fd ps sp)(hr:Room k X.A)(hb:Binds X.K fd ps ds)(hd:Vals f_ ds)(hx:fv CX X E)
  (I:Inv X pins σ H s) (r:Vals vs us) (h:sp (vs++f_) H Q E):R4 (R1 X.prog X.w) X.A (call (.ref f) us) (EP X pins σ Q) X.xe s:=by
 have r2:Vals (vs++f_) (us++ds):=r.append hd;have hl:(us++ds).length=ps.length:=by rw[<-r2.length];exact F.len _ _ _ _ h
 refine SG (SA (F.run X.A X.stack s H #[us,[]] (us++ds) (vs++f_) Q E hr I.env0 (hb s us I.kIn hl) r2 h) λr s' hq=>?_);cases r with
 |error e=>exact hx pins σ H s e s' I hq
 |ok fl=>
  cases fl with
  |ret u=>exact I.after hq
  |next=>exact False.elim hq
  |brk=>exact False.elim hq
  |cont=>exact False.elim hq
def wX(F:FnOk X.prog X.w X.K X.mg X.base CX k f fd ps sp)(hr:Room k X.A)(hg:Gl X x)(hm:X.mg x=be (.ref f))(hk:keepIn X.K (.ref f)=true)(hb:Binds X.K fd ps ds)(hd:Vals f_ ds)(hx:fv CX X E)
  (ha:PA X (e::es) t) (d7:autoParam (zND x) zA1) (he:autoParam (zSE X e es) zA0) (c_:autoParam (zPL X pos es) zA0):
  PE X (.Call (.Name x p) (e::es) [] pos) (qw sp f_ E t):=by
 intro pins s σ H Q I h;refine Sd (ce I hg hm ?_ d7);refine callWith_K (h₀:=X.base) I.ok.mod.kin hk (thn (ha pos pins s σ H _ I h) λus s1 ⟨vs,H1,I1,r,q⟩=>#[I1.kIn,?_]) he c_;exact wW F hr hb hd hx I1 r q
structure Mk(K:Ex)(C f:KF):Prop where
 makes:makesIn K C=true
 init:FZ K (.ref C) "__init__"=be (be (.ref f))
 fn:isFn K (.ref f)=true
 kp:keepIn K (.ref C)=true
def wY{σ:St}{H:Hp}{s:KM}{Q:VK}(M:Mk X.K C f)(F:FnOk X.prog X.w X.K X.mg X.base CX k f fd ps sp)(hr:Room (k+1) X.A)(hb:Binds X.K fd ps ds)(hd:Vals f_ ds)
  (hx:fv CX X E) (I:Inv X pins σ H s) (r:Vals vs us)
  (h:∀x dx,H x=G_->H dx=G_->dx≠x->sp (.ref x::(vs++f_)) (upd (upd H dx (.own x)) x (.ins C dx [])) (λv H2=>v=.non/\Q (.ref x) H2) E):
  R4 (R1 X.prog X.w) X.A (call (.ref C) us) (EP X pins σ Q) X.xe s:=by
 have hq:=h (s.heap.objs.size+1) s.heap.objs.size (I.hok.fresh (GY _)) (I.hok.fresh (FX _)) (F6 (IC _));have I2:=Inv.made (C:=C) I;have r2:Vals (V.ref (s.heap.objs.size+1)::(vs++f_)) (Value.ref (s.heap.objs.size+1)::(us++ds)):=.cons rfl (r.append hd);have hl:(Value.ref (s.heap.objs.size+1)::us++ds).length=ps.length:=by
  have e:=r2.length;rw[F.len _ _ _ _ hq]at e;exact e.symm
 refine SG (wP (f:=f) I.kIn M.makes M.init (beq_iff_eq.mp M.fn) (SA (F.run _ X.stack _ _ #[Value.ref (s.heap.objs.size+1)::us,[]] (Value.ref (s.heap.objs.size+1)::(us++ds)) _ _ E (hr.make C us [])
  (I2.env0.make C us []) (hb _ (Value.ref (s.heap.objs.size+1)::us) I2.kIn hl) r2 hq) λr s' y8=>?_))
 cases r with
 |error e=>exact hx pins σ _ _ e s' I2 y8
 |ok fl=>
  cases fl with
  |ret u=>
   obtain⟨v,H',I3,rv,ev,q3⟩:=I2.after y8;subst ev;exact#[rv,#[V.ref (s.heap.objs.size+1),H',I3,rfl,q3]]
  |next=>exact False.elim y8
  |brk=>exact False.elim y8
  |cont=>exact False.elim y8
def gw(M:Mk X.K C f)(F:FnOk X.prog X.w X.K X.mg X.base CX k f fd ps sp)(hr:Room (k+1) X.A)(hg:Gl X x)(hm:X.mg x=be (.ref C))(hb:Binds X.K fd ps ds)(hd:Vals f_ ds)(hx:fv CX X E)
  (ha:PA X (e::es) t) (d7:autoParam (zND x) zA1) (he:autoParam (zSE X e es) zA0) (c_:autoParam (zPL X pos es) zA0):
  PE X (.Call (.Name x p) (e::es) [] pos) (wV C sp f_ E t):=by
 intro pins s σ H Q I h;refine Sd (ce I hg hm ?_ d7);refine callWith_K (h₀:=X.base) I.ok.mod.kin M.kp (thn (ha pos pins s σ H _ I h) λus s1 ⟨vs,H1,I1,r,q⟩=>#[I1.kIn,?_]) he c_;exact wY M F hr hb hd hx I1 r q
end
structure FnScope(N P:List Str)(sc:Sw):Prop where
 kind:sc.kind=.function
 co:sc.isCoroutine=false
 gen:sc.isGenerator=false
 nd:N.Nodup
 pre:N.take P.length=P
 par:∀x∈P,sc.names.lookup x=be .local\/sc.names.lookup x=be .cell
 nofree:∀y∈sc.names,y.2≠.free
def qy{kindOf:JM->Option SO}{x:JM}:∀{binds:List (JM×KB)} {m:JM->Option KB},(∀v,(x,v)∉binds)->TC kindOf binds m x=m x
 |[],_,_=>rfl
 |(n,v)::r,m,h=>by
  unfold TC;rw[qy λw hw=>h w (F8 _ hw)];split
  .have:x≠n:=by rintro rfl;exact h v Gd
   simp[this]
  .rfl
def bindC_out{kindOf:JM->Option SO}{x:JM}:∀{binds:List (JM×KB)} {m:JM->Option KB},(∀v,(x,v)∉binds)->TF kindOf binds m x=m x
 |[],_,_=>rfl
 |(n,v)::r,m,h=>by
  unfold TF;rw[bindC_out λw hw=>h w (F8 _ hw)];split
  .rfl
  .have:x≠n:=by rintro rfl;exact h v Gd
   simp[this]
def bindL_get{kindOf:JM->Option SO}{x:JM}{v:KB}:∀{P:List JM} {vs:List KB} {i:Nat} {m:JM->Option KB},P.Nodup->P[i]?=be x->vs[i]?=be v->kindOf x=be .local->
  TC kindOf (P.zip vs) m x=be v
 |[],_,_,_,_,h,_,_=>by simp at h
 |_::_,[],_,_,_,_,h,_=>by simp at h
 |p::P,w::vs,0,m,nd,h1,h2,hk=>by
  simp at h1 h2;subst h1;subst h2;show TC kindOf ((p,w)::P.zip vs) m p=_;unfold TC;rw[qy λv hv=>(GC.mp nd).1 (HW hv).1,if_pos hk];simp
 |p::P,w::vs,i+1,m,nd,h1,h2,hk=>by
  show TC kindOf ((p,w)::P.zip vs) m x=_;unfold TC;exact bindL_get (i:=i) (GC.mp nd).2 (by simpa using h1) (by simpa using h2) hk
def qz{kindOf:JM->Option SO}{x:JM}{v:KB}:∀{P:List JM} {vs:List KB} {i:Nat} {m:JM->Option KB},P.Nodup->P[i]?=be x->vs[i]?=be v->kindOf x≠be .local->
  TF kindOf (P.zip vs) m x=be v
 |[],_,_,_,_,h,_,_=>by simp at h
 |_::_,[],_,_,_,_,h,_=>by simp at h
 |p::P,w::vs,0,m,nd,h1,h2,hk=>by
  simp at h1 h2;subst h1;subst h2;show TF kindOf ((p,w)::P.zip vs) m p=_;unfold TF;rw[bindC_out λv hv=>(GC.mp nd).1 (HW hv).1,if_neg hk];simp
 |p::P,w::vs,i+1,m,nd,h1,h2,hk=>by
  show TF kindOf ((p,w)::P.zip vs) m x=_;unfold TF;exact qz (i:=i) (GC.mp nd).2 (by simpa using h1) (by simpa using h2) hk
def start(N:List JM)(vs:List V):St:=vs.map be++F4 (N.length-vs.length) G_
def cxOf(CX:CXT)(P:P3)(w:R5)(K:Ex)(mg:JM->Option KB)(base:Heap)(N:List JM)(qual:JM)(scope:Sw)(f:KF)(cd:KB)(A:R6)(outer:List SU)(s:KM)(H:Hp)(E:XK):Cx where
 prog:=P
 w:=w
 K:=K
 mg:=mg
 base:=base
 A:=A.deeper (Se qual scope s.heap.objs.size f cd)
 N:=N
 s₀:=s
 H₀:=H
 env:=Se qual scope s.heap.objs.size f cd
 outer:=outer
 stack:=Se qual scope s.heap.objs.size f cd::outer
 ex:=[]
 calm:=true
 fn:=λ_=>true
 pn:=[]
 xe:=λe s'=>R4 (R1 P w) (A.deeper (Se qual scope s.heap.objs.size f cd)) (TQ (Se qual scope s.heap.objs.size f cd) e) (λ_ MN=>CX outer H s E e MN) (λe' MN=>CX outer H s E e' MN) s'
def cell_has{sc:Sw}{n:Nat}{x:JM}(h:sc.names.lookup x=be .cell):∃c,(cellsFrom n sc.names []).lookup x=be c:=by
 have q:=cellsFrom_some sc.names n [] (.inl h);exact Option.isSome_iff_exists.mp q
variable{N:List JM}{scope:Sw}
def wZ{qual:JM}{cd:KB}{s1:KM}{E:XK}{vs:List V}
  (S:FnScope N ps scope) (hd:A.handled=G_) (e0:Env0 P w K mg base A outer s H) (hl:vs.length=ps.length) (r:Vals vs us)
  (x:InCallC s s.heap.objs.size (TC (Se qual scope s.heap.objs.size f cd).kindOf (ps.zip us) λ_=>G_) (cellsFrom (s.heap.objs.size+1) scope.names []) (TF (Se qual scope s.heap.objs.size f cd).kindOf (ps.zip us) λ_=>G_) s1):
  Inv (cxOf CX P w K mg base N qual scope f cd A outer s H E) [] (start N vs) H s1:=by
 have c_:ps.length<=N.length:=by have:=congrArg Hy S.pre;rw[Hz]at this;lia
 obtain⟨h1,tk,rfl,hk⟩:=x.done;have Ll:∀b:KF,b∉(cxOf CX P w K mg base N qual scope f cd A outer s H E).ex:=λb z=>absurd (show b∈([]:List KF)from z) KK;refine⟨#[e0.mod,S.kind,rfl,rfl,FX _,λy z c h1 h2=>?_,λy hy=>?_,λy c _ h=>?_,λ_=>hd,Around.frames_deeper e0.frames,.inr #[rfl,rfl],λb z=>absurd z (Ll b),e0.bs,e0.bsz,λb _ _=>Ll b,λb z=>absurd z (Ll b),e0.funs,e0.frf],
  rfl,e0.bare,Un.kept hk,#[_,x.toInCall.ns,λi y v h1 h2 h3=>?_],λy c h=>#[_,x.cell y c h],e0.hok.fresh (FX _),λy c h=>?_,λp hp=>absurd (show p∈([]:List (KF×Sj))from hp) KK,e0.hok.kept hk,?_⟩
 .exact name_of_addr x.apart (PySem.mem_of_lookup h1) (PySem.mem_of_lookup h2)
 .have hy:scope.names.lookup y=be .cell\/scope.names.lookup y=be .free:=hy;rcases hy with hy|hy
  .exact cell_has hy
  .exact absurd rfl (S.nofree _ (PySem.mem_of_lookup hy))
 .exact Hu (x.above y c (PySem.mem_of_lookup h))
 .have hi:i<vs.length:=by
   unfold start at h2;by_cases hi:i<vs.length
   .exact hi
   .rw[GK (by simpa using hi)]at h2;rw[Hg]at h2;split at h2<;>cases h2
  have ha:vs[i]?=be v:=by
   unfold start at h2;rw[GE (by simpa using hi),Gf]at h2;cases e:vs[i]? with
   |none=>rw[e]at h2;cases h2
   |some a=>rw[e]at h2;cases h2;rfl
  obtain⟨u,hu,rv⟩:=r.get ha;have hp:ps[i]?=be y:=by
   rw[<-S.pre,HA Ko];exact h1
  have O4:ps.Nodup:=by rw[<-S.pre];exact S.nd.sublist (List.take_sublist _ _)
  refine#[u,rv,?_];rcases S.par y (HB hp)with k|k
  .exact .inl #[k,bindL_get O4 hp hu k]
  .obtain⟨c,e⟩:=cell_has (n:=s.heap.objs.size+1) k;refine .inr #[.inl k,c,e,?_];have q:=x.cell y c e;rw[qz O4 hp hu (by show scope.names.lookup y≠_;rw[k];decide)]at q;exact q
 .exact e0.hok.fresh (Hu (x.above y c (PySem.mem_of_lookup h)))
 .unfold start;show _=N.length;rw[Gc,Gb,ID];lia
def xa{name qual:JM}{params:Arguments}{body:List R3}{dV kV doc pm cdv ct oc:KB}{an od:Option KF}
  {osl:Array (Option KB)}   (lk:K.lookup f=be #[oc,od,.func (fnOf name qual params body scope dV kV doc pm an cdv ct),osl]) (gV:codeIn K cdv qual=true) (S:FnScope N ps scope)
  (len:∀vs H Q E,sp vs H Q E->vs.length=ps.length)
  (a_:∀(A:R6) (outer:List SU) (s:KM) (H:Hp) (vs:List V) (Q:VK) (E:XK),Room k (A.deeper (Se qual scope s.heap.objs.size f cdv))->sp vs H Q E->
   ∃t,PSs (cxOf CX P w K mg base N qual scope f cdv A outer s H E) body t/\t {nx:=λ_ H'=>Q .non H',rt:=Q} (start N vs) H):
  FnOk P w K mg base CX (k+1) f (fnOf name qual params body scope dV kV doc pm an cdv ct) ps sp:=by
 refine#[len,λA outer s H args us vs Q E hr e0 hb r y9=>?_];have hl:=len _ _ _ _ y9;have KX:K.In s.heap:=e0.mod.kin.keeps λb o e=>(e0.bs b o e).1;have P4:s.heap.NoLimit:=e0.mod.nolimit.keeps λb o e=>(e0.bs b o e).1;have Lm:∀y∈ps.zip us,scope.names.lookup y.1=be .local\/(scope.names.lookup y.1=be .cell/\((cellsFrom (s.heap.objs.size+1) scope.names []).lookup y.1).isSome=true):=λ⟨n,v⟩ hy=>by
  rcases S.par n (HW hy).1 with q|q
  .exact .inl q
  .exact .inr #[q,cellsFrom_some _ _ _ (.inl q)]
 refine codeAny_call_function hr.depth (KX _ _ lk) rfl S.co S.gen rfl (codeRec_of KX gV) (hb _ _ _ _ ?_);refine wpAny_newFunctionEnv_cells S.kind Lm λenv he s1 x=>?_;subst he;refine#[P4.keeps x.toInCall.keep,codeAny_func ?_];obtain⟨t,ht,hq⟩:=a_ A outer s H vs Q E (hr.deeper _) y9;have I:Inv (cxOf CX P w K mg base N qual scope f cdv A outer s H E) [] (start N vs) H s1:=wZ S hr.hd e0 hl r x;refine Sf (ht [] s1 (start N vs) H _ I hq) (λfl s' hs=>?_) λe s' hs=>hs;have i6:∀{σ':St} {H':Hp} {v:V} {u:KB},Inv (cxOf CX P w K mg base N qual scope f cdv A outer s H E) [] σ' H' s'->RelV v u->Q v H'->CE outer P w H s Q u s':=
  λ{σ' H' v u} J rv q=>#[v,H',J.os,J.bare,J.base,J.hok,rv,q]
 cases fl with
 |ret u=>
  obtain⟨v,σ',H',J,rv,q⟩:=hs;exact i6 J rv q
 |next=>
  obtain⟨σ',H',J,q⟩:=hs;exact i6 (v:=V.non) (u:=Value.none) J rfl q
 |brk=>
  obtain⟨_,_,_,q⟩:=hs;exact False.elim q
 |cont=>
  obtain⟨_,_,_,q⟩:=hs;exact False.elim q
section
variable {X:Cx}{x:JM}{p pos:Sb}{e:RZ}{es:List RZ}{t:TA}{id T:String}{r:List V->Hp->VK->Prop}
def tCB(r:List V->Hp->VK->Prop)(t:TA):TE:=λσ H Q=>t σ H λvs H1=>r vs H1 Q
def fw(hc:bE X (.builtin id) r)(hg:Gl X x)(hm:X.mg x=G_)(hv:Si x=be (.builtin id))(ha:PA X (e::es) t)(hn:autoParam (x≠"__name__") zA1)(d7:autoParam (zND x) zA1)
  (he:autoParam (zSE X e es) zA0) (c_:autoParam (zPL X pos es) zA0):PE X (.Call (.Name x p) (e::es) [] pos) (tCB r t):=by
 intro pins s σ H Q I h;refine Sd (dm I hg hm hv ?_ hn d7);exact PyProof.Rows.callWith_builtin1 (thn (ha pos pins s σ H _ I h) λus s1 ⟨vs,H1,I1,r1,q1⟩=>hc pins s1 σ H1 vs us Q I1 r1 q1) he c_
def qA(hc:bE X (.type T) r)(hg:Gl X x)(hm:X.mg x=G_)(hv:Si x=be (.type T))(ha:PA X (e::es) t)(hn:autoParam (x≠"__name__") zA1)(d7:autoParam (zND x) zA1)
  (he:autoParam (zSE X e es) zA0) (c_:autoParam (zPL X pos es) zA0):PE X (.Call (.Name x p) (e::es) [] pos) (tCB r t):=by
 intro pins s σ H Q I h;refine Sd (dm I hg hm hv ?_ hn d7);exact PyProof.Rows.callWith_type1 (thn (ha pos pins s σ H _ I h) λus s1 ⟨vs,H1,I1,r1,q1⟩=>hc pins s1 σ H1 vs us Q I1 r1 q1) he c_
end
end L2
namespace HT
open PySem PyProof.Rows
section
variable {prog:P3}{w:R5}{A:R6}{E:KB->KM->Prop}{s:KM}
variable{Q:KB->KM->Prop}
def cat_tup{t b:KF}{vs ws:List KB}(ht:IsTup s.heap t vs.toArray)(hb:IsTup s.heap b ws.toArray)(hv:vs≠[])
  (h1:ws=[]->Q (.ref t) s) (h2:ws≠[]->Q (.ref s.heap.objs.size) {s with heap:=s.heap.push {cls:=.type "tuple",data:=.seq (vs++ws).toArray} })
  (k6:vs.length+ws.length<=sizeLine):R4 (R1 prog w) A (Sn .Add (.ref t) (.ref b)) Q E s:=by
 obtain⟨⟨cls,dd,data,sl⟩,ho,hc,n,hd⟩:=id ht;obtain⟨⟨P5,O5,data2,O6⟩,Mh,O7,n2,KU⟩:=id hb;simp only at hc hd O7 KU;subst hc hd O7 KU;have e:vs.toArray++ws.toArray=(vs++ws).toArray:=KK
 by_cases hw:ws=[]
 .exact concat_meets #[_,ho,rfl] #[_,Mh,rfl] noFill_tuple_add seq_tuple_add PySem.F.slot_tuple_add PySem.F.entry_tuple_add (PySem.F.args_tuple_add_2 _ _)
   (tuple_addW1 t b vs.toArray ws.toArray n n2 dd O5 sl O6 (by simpa using hv) (by simp[hw])) #[ho,Mh,h1 hw]
 .refine concat_meets #[_,ho,rfl] #[_,Mh,rfl] noFill_tuple_add seq_tuple_add PySem.F.slot_tuple_add PySem.F.entry_tuple_add (PySem.F.args_tuple_add_2 _ _)
   (tuple_addW2 t b vs.toArray ws.toArray n n2 dd O5 sl O6 (by simpa using hv) (by simpa using hw) (by rw[F9,F9];exact k6)) #[ho,Mh,?_]
  rw[e];exact h2 hw
def sIx(n d:Nat):Option Int->Nat
 |none=>d
 |some v=>if v<0 then(v+(n:Int)).toNat else min v.toNat n
def sIx_le(n d:Nat)(hd:d<=n)(o:Option Int):sIx n d o<=n:=by
 cases o with
 |none=>exact hd
 |some v=>
  show(if v<0 then(v+(n:Int)).toNat else min v.toNat n)<=n;by_cases hv:v<0
  .rw[if_pos hv];lia
  .rw[if_neg hv];exact Nat.min_le_right _ _
def qB(v:Int)(n d:Nat):(if v<0 then max (v+(n:Int)) 0 else min v (n:Int))=((sIx n d (be v):Nat):Int):=by
 show(if v<0 then max (v+(n:Int)) 0 else min v (n:Int))=(((if v<0 then(v+(n:Int)).toNat else min v.toNat n):Nat):Int);by_cases hv:v<0
 .simp only[if_pos hv];lia
 .simp only[if_neg hv];lia
def xb(lo hi:Option Int)(n:Nat):Builtin.Slice.sliceAdjust lo hi 1 (n:Int)=(((sIx n 0 lo:Nat):Int),((sIx n n hi:Nat):Int)):=by
 have h1:¬((1:Int)<0):=Ko
 unfold Builtin.Slice.sliceAdjust;simp only[h1,if_false];refine Prod.ext ?_ ?_
 .cases lo with
  |none=>rfl
  |some v=>exact qB v n 0
 .cases hi with
  |none=>rfl
  |some v=>exact qB v n n
def xc(i j:Nat):Builtin.Slice.slicePlaces (i:Int) (j:Int) 1=j-i:=by
 unfold Builtin.Slice.slicePlaces;have h1:(1:Int)>0:=Ko
 simp only[h1,if_true,Int.ediv_one];split<;>lia
def qC{v:KB}{o:Option Int}{Q:Option Int->KM->Prop}(p:To v o)(h:Q o s):R4 (R1 prog w) A (Builtin.Slice.slicePartIndex v) Q E s:=by
 cases p with
 |none=>exact slicePart_none h
 |int i t=>exact slicePart_int h
variable{lo hi:Option Int}
def xg{sl:KF}{vl vu:KB}{n:Nat}{Q:Int×Int×Nat->KM->Prop}(hs:s.heap.IsSliceOf sl vl vu .none)(pl:To vl lo)(pu:To vu hi)
  (h:Q (((sIx n 0 lo:Nat):Int),1,sIx n n hi-sIx n 0 lo) s):R4 (R1 prog w) A (Builtin.Slice.sliceApplied (.ref sl) (pure (n:Int))) Q E s:=by
 obtain⟨os,JO,O8,Mi⟩:=id hs;unfold Builtin.Slice.sliceApplied Builtin.Slice.sliceFields;refine Os (Os (SK JO Mi (x:=vl) rfl (Os (SK JO Mi (x:=vu) rfl (Os (SK JO Mi (x:=.none) rfl (RY ?_)))))));refine Os (slicePart_none ?_);show R4 _ _ (if((1:Int)==0)=true then _ else _) _ _ s;rw[if_neg Ks];refine Os (qC pl (Os (qC pu (Os (RY ?_)))));show R4 _ _ (match Builtin.Slice.sliceAdjust lo hi 1 (n:Int)with|(lo,hi)=>pure (lo,(1:Int),Builtin.Slice.slicePlaces lo hi 1)) _ _ s;rw[xb lo hi n];show R4 _ _ (pure (((sIx n 0 lo:Nat):Int),(1:Int),Builtin.Slice.slicePlaces ((sIx n 0 lo:Nat):Int) ((sIx n n hi:Nat):Int) 1)) _ _ s;rw[xc];exact RY h
def xh(xs:Array KB)(i k:Nat):((FY k).filterMap λ(m:Nat)=>xs[((i:Int)+(m:Int)*1).toNat]?).toArray=((xs.toList.drop i).take k).toArray:=by
 have e:(λ(m:Nat)=>xs[((i:Int)+(m:Int)*1).toNat]?)=λm=>xs[i+m]?:=by
  funext m;have:((i:Int)+(m:Int)*1).toNat=i+m:=Ko
  rw[this]
 rw[e];have:=pick_run xs i k;rw[IE]at this;have e2:((λx=>xs[x]?) ∘ λx=>i+x)=λm=>xs[i+m]?:=rfl;rw[e2]at this;rw[this]
def getItem_tuple_cut{t sl:KF}{items:Array KB}{vl vu:KB}(ht:IsTup s.heap t items)(hs:s.heap.IsSliceOf sl vl vu .none)(pl:To vl lo)(pu:To vu hi)
  (hw:¬(sIx items.size 0 lo=0/\sIx items.size items.size hi=items.size))
  (h:Q (.ref s.heap.objs.size) {s with heap:=s.heap.push {cls:=.type "tuple",data:=.seq ((items.toList.drop (sIx items.size 0 lo)).take (sIx items.size items.size hi-sIx items.size 0 lo)).toArray} })
  (k6:items.size<=sizeLine):R4 (R1 prog w) A (Tr (.ref t) (.ref sl)) Q E s:=by
 have t6:sizeOk (.seq ((items.toList.drop (sIx items.size 0 lo)).take (sIx items.size items.size hi-sIx items.size 0 lo)).toArray):=by
  show((items.toList.drop (sIx items.size 0 lo)).take (sIx items.size items.size hi-sIx items.size 0 lo)).toArray.size<=sizeLine;rw[F9,Hz,G5,Hw];lia
 have hj:sIx items.size items.size hi<=items.size:=sIx_le _ _ (FX _) hi;obtain⟨os,JO,O8,Mi⟩:=id hs;have P6:s.TypeIs (.ref sl) "slice":=#[os,JO,O8];unfold Tr
 try with_reducible refine So ?_
 first|refine Os (RY ?_)|skip
 refine Os (wpAny_sequenceKey ht.typeIs Ks ?_);refine Os (wpAny_callSpecial?_slot (name:=Str.ofString "__getitem__") ht.typeIs PyProof.Rows.slot_tuple_getitem
  (wpAny_call_entry PyProof.Rows.slot_tuple_getitem ht.typeIs entry_tuple_getitem ?_ (args_tuple_getitem _ _)))
 show R4 _ _ (Builtin.Tuple.tupleItemsOf (.ref t)>>=_) _ _ s;refine Os (tupleItemsOf_ ht ?_);refine Os (wpAny_typeOf P6 ?_);rw[if_pos Ks];refine Os (xg hs pl pu ?_);have KW:¬((((sIx items.size 0 lo:Nat):Int)==0&&(1:Int)==1&&(sIx items.size items.size hi-sIx items.size 0 lo)==items.size)=true):=by
  intro q;rw[Gu,Gu]at q;have q1:((sIx items.size 0 lo:Nat):Int)=0:=eq_of_beq q.1.1;have q2:sIx items.size items.size hi-sIx items.size 0 lo=items.size:=eq_of_beq q.2;exact hw #[Ko,Ko]
 show R4 _ _ (if(((sIx items.size 0 lo:Nat):Int)==0&&(1:Int)==1&&(sIx items.size items.size hi-sIx items.size 0 lo)==items.size)=true then _ else _) _ _ s;rw[if_neg KW,xh]
 first
  |exact Os (m:=Builtin.Tuple.tupleExact _) (Sk (RY ⟨_,rfl,RY h⟩) t6)
  |exact Os (m:=Builtin.Tuple.tupleExact _) (Sk (Os (RY (RY ⟨_,rfl,RY h⟩))) t6)
  |exact Os (Os (m:=Builtin.Tuple.tupleExact _) (Sk (RY (RY ⟨_,rfl,RY h⟩)) t6))
  |exact Os (Os (m:=Builtin.Tuple.tupleExact _) (Sk (RY ⟨_,rfl,RY h⟩) t6))
end
end HT
namespace L2
open PySem PySem.Spec PyProof.Rows
abbrev TO:=St->Hp->(Option Int->Hp->Prop)->Prop
def PO(X:Cx)(e:Option RZ)(t:TO):Prop:=
 ∀(pins:List (KF×Sj)) (s:KM) (σ:St) (H:Hp) (Q:Option Int->Hp->Prop),Inv X pins σ H s->t σ H Q->
  R4 (R1 X.prog X.w) X.A (evalPart e X.env) (λu s'=>∃o H',Inv X pins σ H' s'/\To u o/\Q o H') X.xe s
def xi:TO:=λ_ H Q=>Q G_ H
def xj(t:TE):TO:=λσ H Q=>t σ H λx H1=>∃i,x=.int i/\Q (be i) H1
section
variable {X:Cx}{e:RZ}{te:TE}{lo hi:Option RZ}{tl th:TO}{pos p2:Sb}
def qD:PO X G_ xi:=by
 intro pins s σ H Q I h;rw[evalPart_none];exact RY #[G_,H,I,.none,h]
def qE(h:PE X e te):PO X (be e) (xj te):=by
 intro pins s σ H Q I hw;rw[evalPart_some];refine thn (h pins s σ H _ I hw) λu s1 c7=>?_;obtain⟨x,H1,I1,r1,q1⟩:=c7;obtain⟨i,rfl,q⟩:=q1;obtain⟨t,rfl⟩:=r1;exact#[be i,H1,I1,.int i t,q]
def SlR(X:Cx)(r:V->Option Int->Option Int->Hp->VK->Prop):Prop:=
 ∀(pins:List (KF×Sj)) (s:KM) (σ:St) (H:Hp) (x:V) (v vl vu:KB) (lo hi:Option Int) (sl:KF) (Q:VK),Inv X pins σ H s->RelV x v->s.heap.IsSliceOf sl vl vu .none->To vl lo->To vu hi->r x lo hi H Q->
  ∃T id,typeLookup (.type T) "__getitem__"=pure (be (.builtin id))/\s.TypeIs v T/\R4 (R1 X.prog X.w) X.A (Tr v (.ref sl)) (EP X pins σ Q) X.xe s
variable{r:V->Option Int->Option Int->Hp->VK->Prop}
def SlR.or{r':V->Option Int->Option Int->Hp->VK->Prop}(h:SlR X r)(h':SlR X r'):SlR X (λx lo hi H Q=>r x lo hi H Q\/r' x lo hi H Q):=by
 intro pins s σ H x v vl vu lo hi sl Q I rx hs pl pu q;rcases q with q|q
 .exact h pins s σ H x v vl vu lo hi sl Q I rx hs pl pu q
 .exact h' pins s σ H x v vl vu lo hi sl Q I rx hs pl pu q
def tSl(r:V->Option Int->Option Int->Hp->VK->Prop)(te:TE)(tl th:TO):TE:=λσ H Q=>te σ H λx H1=>tl σ H1 λl H2=>th σ H2 λu H3=>r x l u H3 Q
def jI(hr:SlR X r)(he:PE X e te)(hl:PO X lo tl)(hu:PO X hi th):PE X (.Subscript e (.Slice lo hi G_ p2) pos) (tSl r te tl th):=by
 intro pins s σ H Q I h;refine Subscript_ (thn (he pins s σ H _ I h) λv s1 c7=>?_);obtain⟨x,H1,I1,r1,q1⟩:=c7;refine wpAny_Slice (thn (hl pins s1 σ H1 _ I1 q1) λvl s2 ⟨l,H2,I2,pl,q2⟩=>thn (hu pins s2 σ H2 _ I2 q2) λvu s3 c7=>?_);obtain⟨u,H3,I3,pu,q3⟩:=c7;rw[evalPart_none];refine RY ?_;have I4:Inv X pins σ H3 {s3 with heap:=s3.heap.push {cls:=.type "slice",data:=.fields [vl,vu,.none].toArray} }:=I3.kept (t':=s3.toks) λb ob q=>Heap.get?_push_of_some _ q;obtain⟨T,id,hT,ht,hg⟩:=hr pins {s3 with heap:=s3.heap.push {cls:=.type "slice",data:=.fields [vl,vu,.none].toArray} } σ H3 x v vl vu l u s3.heap.objs.size Q I4 r1 (Heap.IsSliceOf.new ..) pl pu q3;show R4 (R1 X.prog X.w) X.A (subscriptTail e (.Slice lo hi G_ p2) v (.ref s3.heap.objs.size)) (EP X pins σ Q) X.xe {s3 with heap:=s3.heap.push {cls:=.type "slice",data:=.fields [vl,vu,.none].toArray} };exact tail_any (ops:=[.ref s3.heap.objs.size,v]) ht hT hg (by with_unfolding_all rfl)
def cutV(xs:List V)(lo hi:Option Int):List V:=(xs.drop (HT.sIx xs.length 0 lo)).take (HT.sIx xs.length xs.length hi-HT.sIx xs.length 0 lo)
def qF(xs:List V)(lo hi:Option Int):(cutV xs lo hi).length<=xs.length:=by
 unfold cutV;rw[Hz,G5];lia
def rSlT(K:Ex):V->Option Int->Option Int->Hp->VK->Prop:=λx lo hi H Q=>∃a xs,x=.ref a/\SqT K H a xs/\
 ¬(HT.sIx xs.length 0 lo=0/\HT.sIx xs.length xs.length hi=xs.length)/\∀p,H p=G_->Q (.ref p) (upd H p (.tup (cutV xs lo hi)))
def qG:SlR X (rSlT X.K):=by
 intro pins s σ H x v vl vu lo hi sl Q I rx hs pl pu h;obtain⟨a,xs,rfl,hx,hw,q⟩:=h;cases rx;obtain⟨its,r,ht,hz⟩:=I.tuple hx;have c5:its.toArray.size=xs.length:=by rw[F9];exact r.length.symm
 refine#["tuple",_,PyProof.Rows.slot_tuple_getitem.lookup,ht.typeIs,?_];refine HT.getItem_tuple_cut ht hs pl pu (by rw[c5];exact hw) ?_ (by rw[c5];exact hz);rw[c5];refine#[.ref s.heap.objs.size,_,I.laid (t':=s.toks) (o:=.tup (cutV xs lo hi)) (λb ob q=>Heap.get?_push_of_some _ q) (FX _) ?_,rfl,q _ (I.hok.fresh (FX _))];exact#[Ga (qF xs lo hi) hz,_,(r.drop (HT.sIx xs.length 0 lo)).take (HT.sIx xs.length xs.length hi-HT.sIx xs.length 0 lo),IsTup.new _ _]
def qH(K:Ex):R2:=λx y H Q=>∃a b xs ys,x=.ref a/\y=.ref b/\SqT K H a xs/\SqT K H b ys/\xs≠[]/\xs.length+ys.length<=sizeLine/\
 (ys=[]->Q (.ref a) H)/\(ys≠[]->∀p,H p=G_->Q (.ref p) (upd H p (.tup (xs++ys))))
def Vals.nil_iff{xs:List V}{us:List KB}(r:Vals xs us):us=[]↔xs=[]:=by
 cases r with
 |nil=>simp
 |cons _ _=>simp
def xk:OpR X (Sn .Add) (qH X.K):=by
 intro pins s σ H x y v u Q I rx ry h;obtain⟨a,b,xs,ys,rfl,rfl,ha,hb,hx,hz,q1,q2⟩:=h;cases rx;cases ry;obtain⟨its,r1,p1,_⟩:=I.tuple ha;obtain⟨u8,r2,p2,_⟩:=I.tuple hb;refine HT.cat_tup p1 p2 (λz=>hx (r1.nil_iff.mp z)) (λz=>#[.ref a,H,I,rfl,q1 (r2.nil_iff.mp z)]) (λz=>?_) (by rw[<-r1.length,<-r2.length];exact hz);refine#[.ref s.heap.objs.size,_,I.laid (t':=s.toks) (o:=.tup (xs++ys)) (λb ob q=>Heap.get?_push_of_some _ q) (FX _) ?_,rfl,q2 (λw=>z (r2.nil_iff.mpr w)) _ (I.hok.fresh (FX _))];exact#[by rw[Gc];exact hz,_,r1.append r2,IsTup.new _ _]
end
def ixN(n:Nat)(i:Int):Option Nat:=if 0<=i then(if i<n then be i.toNat else G_)else if -(n:Int)<=i then be (i+n).toNat else G_
def atI{α:Type}(xs:List α)(i:Int):Option α:=(ixN xs.length i).bind λj=>xs[j]?
def qI{n:Nat}{i:Int}{j:Nat}(h:ixN n i=be j):seqIndex? i n=be j/\j<n/\-(n:Int)<=i/\i<n:=by
 unfold ixN at h;by_cases h0:0<=i
 .rw[if_pos h0]at h;by_cases h1:i<n
  .rw[if_pos h1]at h;have e:i.toNat=j:=Option.some.inj h;exact#[by rw[T4 h0 h1,e],Ko,Ko,h1]
  .rw[if_neg h1]at h;cases h
 .rw[if_neg h0]at h;by_cases h1:-(n:Int)<=i
  .rw[if_pos h1]at h;have e:(i+n).toNat=j:=Option.some.inj h;exact#[by rw[TN Ko h1,e],Ko,h1,Ko]
  .rw[if_neg h1]at h;cases h
def atI_get{α:Type}{xs:List α}{i:Int}{v:α}(h:atI xs i=be v):∃j,seqIndex? i xs.length=be j/\xs[j]?=be v/\j<xs.length/\-(xs.length:Int)<=i/\i<xs.length:=by
 unfold atI at h;cases e:ixN xs.length i with
 |none=>rw[e]at h;cases h
 |some j=>
  rw[e]at h;obtain⟨h1,h2,h3,h4⟩:=qI e;exact#[j,h1,h,h2,h3,h4]
def cT{α:Type}{xs:List α}{j:Nat}{v:α}(h:xs[j]?=be v):atI xs (j:Int)=be v:=by
 have hj:j<xs.length:=(Gh.mp h).1;have e:ixN xs.length (j:Int)=be j:=by
  unfold ixN;rw[if_pos Ko,if_pos Ko];simp
 unfold atI;rw[e];exact h
def dR(b:RZ):Prop:=∀o i,subscripted b false o i=operate [o,i] (Tr o i)
def IxR(X:Cx)(r:R2):Prop:=
 ∀(value slice:RZ) (pins:List (KF×Sj)) (s:KM) (σ:St) (H:Hp) (x y:V) (v u:KB) (Q:VK),Inv X pins σ H s->RelV x v->RelV y u->r x y H Q->
  subscripted slice false v u=operate [v,u] (Tr v u)->R4 (R1 X.prog X.w) X.A (subscriptTail value slice v u) (EP X pins σ Q) X.xe s
def MtR(X:Cx)(id:String)(r:V->List V->Hp->VK->Prop):Prop:=
 ∀(pins:List (KF×Sj)) (s:KM) (σ:St) (H:Hp) (x:V) (xs:List V) (v:KB) (us:List KB) (Q:VK),Inv X pins σ H s->RelV x v->Vals xs us->r x xs H Q->
  R4 (R1 X.prog X.w) X.A (call (.builtin id) (v::us)) (EP X pins σ Q) X.xe s
section
variable {X:Cx}{a b:RZ}{ta tb:TE}{pos:Sb}
def IxR.or{r r':R2}(h:IxR X r)(h':IxR X r'):IxR X (λx y H Q=>r x y H Q\/r' x y H Q):=by
 intro value slice pins s σ H x y v u Q I rx ry q hs;rcases q with q|q
 .exact h value slice pins s σ H x y v u Q I rx ry q hs
 .exact h' value slice pins s σ H x y v u Q I rx ry q hs
def pe_ix{r:R2}(hr:IxR X r)(ha:PE X a ta)(hb:PE X b tb)(hs:dR b):PE X (.Subscript a b pos) (tOp r ta tb):=by
 intro pins s σ H Q I h;exact Subscript_ (binT ha hb I h λv u s2 x y H2 I2 rx ry q=>hr a b pins s2 σ H2 x y v u Q I2 rx ry q (hs _ _))
def rIxL(K:Ex):R2:=λx y H Q=>∃p xs i v,x=.ref p/\y=.int i/\SqL K H p xs/\atI xs i=be v/\Q v H
def rIxT(K:Ex):R2:=λx y H Q=>∃p xs i v,x=.ref p/\y=.int i/\SqT K H p xs/\atI xs i=be v/\Q v H
def rIxS:R2:=λx y H Q=>∃z i c,x=.str z/\y=.int i/\z.length<=sizeLine/\atI z.cps.toList i=be c/\Q (.str #[[c].toArray]) H
def ix_list:IxR X (rIxL X.K):=by
 intro value slice pins s σ H x y v u Q I rx ry h hs;obtain⟨p,xs,i,z,rfl,rfl,hq,he,q⟩:=h;cases rx;obtain⟨t,rfl⟩:=ry;obtain⟨its,r,pl,hz⟩:=I.list hq;obtain⟨j,h1,h2,h3,h4,h5⟩:=atI_get he;obtain⟨w,ew,j3⟩:=r.get h2;have hl:=r.length;have hn:=line63;have i6:EP X pins σ Q w s:=#[z,H,I,j3,q];by_cases h0:0<=i
 .have hj:i.toNat=j:=by
   rw[T4 h0 h5]at h1;exact Option.some.inj h1
  exact item_listR pl.isList h0 Ko (by rw[hj];simpa using ew) i6 hs
 .have hj:(i+(its.toArray.size:Int)).toNat=j:=by
   rw[TN Ko h4]at h1;rw[F9,<-hl];exact Option.some.inj h1
  exact TL (x:=w) pl.isList.typeIs slot_list_getitem.lookup
   (wpAny_getItem_list_neg (Q:=λr s'=>r=w/\EP X pins σ Q r s') pl.isList Ko (by rw[F9]<;>lia) Ko (by rw[hj];simpa using ew) #[rfl,i6]) hs
def ix_tup:IxR X (rIxT X.K):=by
 intro value slice pins s σ H x y v u Q I rx ry h hs;obtain⟨p,xs,i,z,rfl,rfl,hq,he,q⟩:=h;cases rx;obtain⟨t,rfl⟩:=ry;obtain⟨its,r,pl,hz⟩:=I.tuple hq;obtain⟨j,h1,h2,h3,h4,h5⟩:=atI_get he;obtain⟨w,ew,j3⟩:=r.get h2;have hl:=r.length;have hn:=line63;have i6:EP X pins σ Q w s:=#[z,H,I,j3,q];exact TL (x:=w) pl.typeIs slot_tuple_getitem.lookup
  (getItem_tuple (j:=j) (Q:=λr s'=>r=w/\EP X pins σ Q r s') pl Ko Ko (by rw[F9,<-hl];exact h1) (by simpa using ew) #[rfl,i6]) hs
def xm:IxR X rIxS:=by
 intro value slice pins s σ H x y v u Q I rx ry h hs;obtain⟨z,i,c,rfl,rfl,hz,he,q⟩:=h;obtain⟨t,rfl⟩:=rx;obtain⟨t',rfl⟩:=ry;obtain⟨j,h1,h2,h3,h4,h5⟩:=atI_get he;have hl:z.cps.toList.length=z.length:=by simp[Str.length]
 rw[hl]at h1 h4 h5;have hn:=line63;exact tail_any (Ub s z t) slot_str_getitem.lookup (getItem_str (c:=c) (by
  have e1:decide (i< -(2^63:Int))=false:=decide_eq_false Ko;have e2:decide (i>=2^63)=false:=decide_eq_false Ko;rw[e1,e2,Bool.or_false]) (by rw[h1];simpa using h2) #[.str #[[c].toArray],H,I.tok _,#[_,rfl],q]) hs
def rIx(K:Ex):R2:=λx y H Q=>rIxL K x y H Q\/rIxT K x y H Q\/rIxS x y H Q
def qJ:IxR X (rIx X.K):=ix_list.or (ix_tup.or xm)
def xn(its:List KB)(n j:Nat)(u:KB):Obj.mapSeq (·.setIfInBounds j u) {cls:=.type "list",data:=.seq its.toArray n}={cls:=.type "list",data:=.seq (its.set j u).toArray n}:=by
 simp[Obj.mapSeq]
def Inv.lst{pins:List (KF×Sj)}{σ:St}{H:Hp}{s:KM}{p:KF}{xs:List V}(I:Inv X pins σ H s)(h:H p=be (.lst xs)):
  ∃(its:List KB) (n:Nat),Vals xs its/\s.heap.get? p=be {cls:=.type "list",data:=.seq its.toArray n}/\xs.length<=sizeLine:=by
 obtain⟨z,its,n,r,e⟩:=I.hok p _ h;exact#[its,n,r,e,z]
variable{pins:List (KF×Sj)}{s:KM}
def Inv.lstUpd{σ:St}{H:Hp}{p:KF}{xs ys:List V}{its its':List KB}{n n':Nat}{f:Sj->Sj}(I:Inv X pins σ H s)(h:H p=be (.lst xs))
  (ho:s.heap.get? p=be {cls:=.type "list",data:=.seq its.toArray n}) (hf:f {cls:=.type "list",data:=.seq its.toArray n}={cls:=.type "list",data:=.seq its'.toArray n'}) (r:Vals ys its') (hz:ys.length<=sizeLine) (t:Nat):
  Inv X pins σ (upd H p (.lst ys)) {s with heap:=s.heap.update p f,toks:=t}:=by
 have e:(s.heap.update p f).get? p=be {cls:=.type "list",data:=.seq its'.toArray n'}:=by
  rw[Heap.get?_update_self f ho (by rw[hf]<;>rfl),hf]
 refine I.write (x:=p) (e:=p) (by rw[h];trivial) (.inl rfl) (λb u hb q=>(Heap.get?_update_other _ _ (Ne.symm hb)).trans q) #[_,e] ?_;exact#[hz,its',n',r,e]
def xo:V->V->V->Hp->(Hp->Prop)->Prop:=λo i v H Q=>∃p xs k j,o=.ref p/\i=.int k/\H p=be (.lst xs)/\ixN xs.length k=be j/\Q (upd H p (.lst (xs.set j v)))
def qK:PSet X xo:=by
 intro pins s σ H o i v ov iv u Q I ro ri rv h;obtain⟨p,xs,k,j,rfl,rfl,hp,hj,q⟩:=h;cases ro;obtain⟨t,rfl⟩:=ri;obtain⟨its,n,r,ho,hz⟩:=I.lst hp;obtain⟨h1,h2,h3,h4⟩:=qI hj;have hl:=r.length;have hn:=line63;have I':Inv X pins σ (upd H p (.lst (xs.set j v))) {s with heap:=s.heap.update p (Obj.mapSeq (·.setIfInBounds j u))}:=
  I.lstUpd hp ho (xn its n j u) (r.set rv j) (by rw[GQ];exact hz) s.toks
 by_cases h0:0<=k
 .have hk:k.toNat=j:=by
   rw[T4 h0 h4]at h1;exact Option.some.inj h1
  exact ki_setAt ho h0 Ko (by rw[F9,<-hl];exact h4) (by rw[hk];exact#[_,I',q])
 .have hk:(k+(its.toArray.size:Int)).toNat=j:=by
   rw[TN Ko h3]at h1;rw[F9,<-hl];exact Option.some.inj h1
  exact ki_setBack ho Ko (by rw[F9,<-hl];exact h3) Ko (by rw[hk];exact#[_,I',q])
def xp(lo hi:Option Int)(n:Nat):(SL lo hi G_ n).1=((HT.sIx n 0 lo:Nat):Int)/\(SL lo hi G_ n).2.1=((HT.sIx n n hi:Nat):Int)/\(SL lo hi G_ n).2.2=1:=by
 refine#[?_,?_,rfl]
 .cases lo with
  |none=>simp[SL,HT.sIx]
  |some i=>
   simp only[SL,HT.sIx,IF,show(1:Int)>0 by decide,if_true];by_cases h:i<0
   .simp only[h,if_true]<;>lia
   .simp only[h,if_false]<;>lia
 .cases hi with
  |none=>simp[SL,HT.sIx]
  |some i=>
   simp only[SL,HT.sIx,IF,show(1:Int)>0 by decide,if_true];by_cases h:i<0
   .simp only[h,if_true]<;>lia
   .simp only[h,if_false]<;>lia
def xq(its:List KB)(lo hi:Option Int):slicePick its.toArray lo hi G_=((its.drop (HT.sIx its.length 0 lo)).take (HT.sIx its.length its.length hi-HT.sIx its.length 0 lo)).toArray:=by
 obtain⟨h1,h2,h3⟩:=xp lo hi its.toArray.size;unfold slicePick;rw[h1,h2,h3];simp only[sliceRange_one,pick_run,F9]<;>rfl
def rSlL(K:Ex):V->Option Int->Option Int->Hp->VK->Prop:=λx lo hi H Q=>∃a xs,x=.ref a/\SqL K H a xs/\∀p,H p=G_->Q (.ref p) (upd H p (.lst (cutV xs lo hi)))
def jJ:SlR X (rSlL X.K):=by
 intro pins s σ H x v vl vu lo hi sl Q I rx hs pl pu h;obtain⟨a,xs,rfl,hx,q⟩:=h;cases rx;obtain⟨its,r,ht,hz⟩:=I.list hx;have c5:=r.length;refine#["list",_,slot_list_getitem.lookup,ht.isList.typeIs,?_];refine wpAny_getItem_list_slice ht.isList hs pl pu .none KK ?_ (by rw[F9]<;>lia);rw[xq,<-c5];refine#[.ref s.heap.objs.size,_,I.laid (t':=s.toks) (o:=.lst (cutV xs lo hi)) (λb ob q=>Heap.get?_push_of_some _ q) (FX _) ?_,rfl,q _ (I.hok.fresh (FX _))];exact#[Ga (qF xs lo hi) hz,_,0,(r.drop (HT.sIx xs.length 0 lo)).take (HT.sIx xs.length xs.length hi-HT.sIx xs.length 0 lo),Heap.get?_push_size _ rfl]
def bF:V->Bool
 |.non=>true
 |.bl _=>true
 |.int _=>true
 |.str _=>true
 |_=>false
def eqV:V->V->Bool
 |.non,.non=>true
 |.bl a,.bl b=>a==b
 |.bl a,.int b=>(if a then 1 else 0)==b
 |.int a,.bl b=>a==(if b then 1 else 0)
 |.int a,.int b=>a==b
 |.str a,.str b=>a==b
 |_,_=>false
variable{x:V}
def eqAt_V{A:R6}{y:V}{u v:KB}(ry:RelV y u)(rx:RelV x v)(fy:bF y=true)(fx:bF x=true):SeqAt.EqAt A s u v (eqV y x):=by
 cases y with
 |non=>
  cases ry;cases x with
  |non=>cases rx;exact SeqAt.EqAt.same _
  |bl b=>cases rx;exact SeqAt.EqAt.none_bool b
  |int b=>obtain⟨t,rfl⟩:=rx;exact SeqAt.EqAt.none_int b t
  |str b=>obtain⟨t,rfl⟩:=rx;exact SeqAt.EqAt.none_str b t
  |_=>exact absurd (show false=true from fx) Ge
 |bl a=>
  cases ry;cases x with
  |non=>cases rx;exact SeqAt.EqAt.bool_none a
  |bl b=>cases rx;exact SeqAt.EqAt.bool_bool a b
  |int b=>obtain⟨t,rfl⟩:=rx;exact SeqAt.EqAt.bool_int a b t
  |str b=>obtain⟨t,rfl⟩:=rx;exact SeqAt.EqAt.bool_str a b t
  |_=>exact absurd (show false=true from fx) Ge
 |int a=>
  obtain⟨t',rfl⟩:=ry;cases x with
  |non=>cases rx;exact SeqAt.EqAt.int_none a t'
  |bl b=>cases rx;exact SeqAt.EqAt.int_bool a t' b
  |int b=>obtain⟨t,rfl⟩:=rx;exact SeqAt.EqAt.int_int a t' b t
  |str b=>obtain⟨t,rfl⟩:=rx;exact SeqAt.EqAt.int_str a t' b t
  |_=>exact absurd (show false=true from fx) Ge
 |str a=>
  obtain⟨t',rfl⟩:=ry;cases x with
  |non=>cases rx;exact SeqAt.EqAt.str_none a t'
  |bl b=>cases rx;exact SeqAt.EqAt.str_bool a t' b
  |int b=>obtain⟨t,rfl⟩:=rx;exact SeqAt.EqAt.str_int a t' b t
  |str b=>obtain⟨t,rfl⟩:=rx;exact SeqAt.EqAt.str_str a t' b t
  |_=>exact absurd (show false=true from fx) Ge
 |_=>exact absurd (show false=true from fy) Ge
def eqU(x:V)(u:KB):Bool:=match u with
 |.none=>eqV .non x
 |.bool b=>eqV (.bl b) x
 |.int i _=>eqV (.int i) x
 |.str z _=>eqV (.str z) x
 |_=>false
def qL{y:V}{u:KB}(r:RelV y u)(f:bF y=true):eqU x u=eqV y x:=by
 cases y with
 |non=>cases r;rfl
 |bl b=>cases r;rfl
 |int i=>obtain⟨t,rfl⟩:=r;rfl
 |str z=>obtain⟨t,rfl⟩:=r;rfl
 |_=>exact absurd (show false=true from f) Ge
def jK{x:V}:∀{xs:List V} {us:List KB},Vals xs us->xs.all bF=true->us.any (eqU x)=xs.any λy=>eqV y x
 |_,_,.nil,_=>rfl
 |y::xs,u::us,.cons r t,f=>by
  rw[G6,Gu]at f;rw[HC,HC,qL r f.1,jK t f.2]
def mem_eqAt{A:R6}{s:KM}{x:V}{v:KB}(rx:RelV x v)(fx:bF x=true):∀{xs:List V} {us:List KB},Vals xs us->xs.all bF=true->∀u∈us,SeqAt.EqAt A s u v (eqU x u)
 |_,_,.nil,_=>λu hu=>by cases hu
 |y::xs,u::us,.cons r t,f=>λu' hu=>by
  rw[G6,Gu]at f;rcases F5.mp hu with rfl|hu
  .rw[qL r f.1];exact eqAt_V r rx f.1 fx
  .exact mem_eqAt rx fx t f.2 u' hu
def inV(x:V)(xs:List V):Bool:=xs.any λy=>eqV y x
def rIn(K:Ex)(neg:Bool):R2:=λx y H Q=>∃p xs,y=.ref p/\(SqL K H p xs\/SqT K H p xs)/\bF x=true/\xs.all bF=true/\Q (.bl (if neg then !inV x xs else inV x xs)) H
def xr:OpR X (Sh .NotIn) (rIn X.K true):=by
 intro pins s σ H x y v u Q I rx ry h;obtain⟨p,xs,rfl,hq,fx,fs,q⟩:=h;cases ry;rcases hq with hq|hq
 .obtain⟨its,r,pl,hz⟩:=I.list hq;refine SeqAt.notIn_listAt (eqU x) pl.isList (λw hw=>mem_eqAt rx fx r fs w (by simpa using hw)) #[.bl _,H,I,rfl,?_];rw[show its.toArray.any (eqU x)=its.any (eqU x)by simp,jK r fs];exact q
 .obtain⟨its,r,pl,hz⟩:=I.tuple hq;refine SeqAt.notIn_tupleAt (eqU x) pl (λw hw=>mem_eqAt rx fx r fs w (by simpa using hw)) #[.bl _,H,I,rfl,?_];rw[show its.toArray.any (eqU x)=its.any (eqU x)by simp,jK r fs];exact q
def xt:OpR X (Sh .NotIn) (λx y H Q=>∃i j,x=.str i/\y=.str j/\Q (.bl (!(!(Builtin.Str.occurrences j i 0 j.length 1).isEmpty))) H):=by
 intro pins s σ H x y v u Q I rx ry h;obtain⟨i,j,rfl,rfl,q⟩:=h;obtain⟨t,rfl⟩:=rx;obtain⟨t',rfl⟩:=ry;exact notIn_str #[.bl _,H,I,rfl,q]
def tyV(K:Ex)(T:String)(x:V)(H:Hp):Prop:=match x with
 |.str _=>T="str"
 |.int _=>T="int"
 | .ref p=>(T="list"/\∃xs,SqL K H p xs)\/(T="tuple"/\∃o,K.lookup p=be o/\o.cls=.type "tuple"/\o.dict=G_)\/
   (T="dict"/\((∃b7,H p=be (.dK b7))\/∃b7,H p=be (.dT b7)))\/(T="set"/\∃S n,H p=be (.set S n))
 |_=>False
def qM{σ:St}{H:Hp}{T:String}{v:KB}(I:Inv X pins σ H s)(r:RelV x v)(ty:tyV X.K T x H):
  s.TypeIs v T/\∀a,v=.ref a->∃ob,s.heap.get? a=be ob/\ob.dict=none:=by
 cases x with
 |str z=>
  obtain⟨t,rfl⟩:=r;cases(show T="str" from ty);exact#[Ub s z t,λ_ e=>nomatch e]
 |int i=>
  obtain⟨t,rfl⟩:=r;cases(show T="int" from ty);exact#[Uc s i t,λ_ e=>nomatch e]
 |ref p=>
  cases r;rcases ty with⟨rfl,xs,hq⟩|⟨rfl,o,hk,hc,hd⟩|⟨rfl,hk⟩|⟨rfl,S,n,hk⟩
  .obtain⟨its,_,pl,_⟩:=I.list hq;refine#[pl.isList.typeIs,λa e=>?_];cases e;obtain⟨o,n,e,c,hd,_⟩:=pl;exact#[o,e,hd]
  .refine#[#[o,I.kIn p o hk,hc],λa e=>?_];cases e;exact#[o,I.kIn _ o hk,hd]
  .have z:∃o,s.heap.get? p=be o/\o.ExactDict:=by
    rcases hk with⟨b7,hk⟩|⟨b7,hk⟩
    .obtain⟨_,_,_,_,o,_,_,e,ex,_⟩:=I.hok p _ hk;exact#[o,e,ex]
    .obtain⟨_,_,_,_,o,_,_,e,ex,_⟩:=I.hok p _ hk;exact#[o,e,ex]
   obtain⟨o,e,ex⟩:=z;refine#[#[o,e,ex.1],λa e2=>?_];cases e2;exact#[o,e,ex.2.1]
  .obtain⟨o,_,_,_,e,ex,_⟩:=I.hok p _ hk;refine#[#[o,e,ex.1],λa e2=>?_];cases e2;exact#[o,e,ex.2.1]
 |_=>exact False.elim ty
def tBM0(K:Ex)(T:String)(r:V->List V->Hp->VK->Prop)(to:TE):TE:=λσ H Q=>to σ H λx H1=>tyV K T x H1/\r x [] H1 Q
def tBM(K:Ex)(T:String)(r:V->List V->Hp->VK->Prop)(to:TE)(t:TA):TE:=λσ H Q=>to σ H λx H1=>tyV K T x H1/\t σ H1 λxs H2=>r x xs H2 Q
variable {o e:RZ}{es:List RZ}{to:TE}{t:TA}{name:JM}{b9 a9:Sb}{T id:String}{r:V->List V->Hp->VK->Prop}
def xu(pa:PlainAttrs T)(slot:Slot T name id)(Ln:typeOf (.builtin id)=pure (.type "method_descriptor"))(hm:MtR X id r)(ho:PE X o to)
  (c3:autoParam (R9 o name X.env (Sa o X.env)=Sa o X.env) zA0) (c8:autoParam ((b9.endLine==a9.line)=true) zA0):PE X (.Call (.Attribute o name b9) [] [] a9) (tBM0 X.K T r to):=by
 intro pins s σ H Q I h;refine wpAny_Call_method0_late c3 c8 (thn (ho pins s σ H _ I h) λv s1 c7=>?_);obtain⟨x,H1,I1,r1,ty,q1⟩:=c7;obtain⟨h1,h2⟩:=qM I1 r1 ty;exact#[T,id,pa,slot,Ln,h1,h2,Calls.callWith_builtin rfl (PySem.evalArgs_none (hm pins s1 σ H1 x [] v [] Q I1 r1 .nil q1))]
def dS(pa:PlainAttrs T)(slot:Slot T name id)(Ln:typeOf (.builtin id)=pure (.type "method_descriptor"))(hm:MtR X id r)(ho:PE X o to)(ha:PA X (e::es) t)
  (c3:autoParam (R9 o name X.env (Sa o X.env)=Sa o X.env) zA0)
  (d_:((SZ a9 (R8 (e::es) X.env)).all (λx=>!x.1)&&(Tg a9 (SX [] X.env)).all (λx=>x.1.isSome)
   && decide ((e::es).length+([]:List Um).length+(if([]:List Um).isEmpty then 0 else 1)<30))=true:=by rfl)
  (c8:autoParam ((b9.endLine==a9.line)=true) zA0) (hs:autoParam (zSE X e es) zA0) (p9:autoParam (zPL X a9 es) zA0):
  PE X (.Call (.Attribute o name b9) (e::es) [] a9) (tBM X.K T r to t):=by
 intro pins s σ H Q I h;refine wpAny_Call_method_late c3 d_ c8 rfl (thn (ho pins s σ H _ I h) λv s1 c7=>?_);obtain⟨x,H1,I1,r1,ty,q1⟩:=c7;obtain⟨h1,h2⟩:=qM I1 r1 ty;refine#[T,id,pa,slot,Ln,h1,h2,?_];have hA:=ha a9 pins s1 σ H1 _ I1 q1;rw[hs]at hA ⊢;refine Calls.callWith_builtin (by show(false||(SZ a9 (R8 es X.env)).any (·.1))=false;rw[p9]<;>rfl) (Calls.evalArgs_plain ?_);exact thn hA λus s2 ⟨vs,H2,I2,r2,q2⟩=>hm pins s2 σ H2 x vs v us Q I2 r1 r2 q2
end
def MtM(X:Cx)(id:String)(r:V->List V->Hp->VK->Prop):Prop:=
 ∀(pins:List (KF×Sj)) (s:KM) (σ:St) (H:Hp) (x:V) (xs:List V) (v:KB) (us:List KB) (Q:VK),Inv X pins σ H s->RelV x v->Vals xs us->r x xs H Q->
  R4 (R1 X.prog X.w) X.A (call (.builtin id) (v::us)) (EP X pins σ Q) X.xe s
def Vals.one:∀{x:V} {us:List KB},Vals [x] us->∃u,us=[u]/\RelV x u:=by
 intro x us h;cases h with
 |cons r h=>cases h;exact#[_,rfl,r]
def Vals.zero:∀{us:List KB},Vals [] us->us=[]
 |_,.nil=>rfl
def Vals.dropLast{xs:List V}{us:List KB}(h:Vals xs us):Vals xs.dropLast us.dropLast:=by
 induction h with
 |nil=>exact .nil
 |cons r t ih=>
  cases t with
  |nil=>exact .nil
  |cons q t'=>exact .cons r ih
def Vals.rep{xs:List V}{us:List KB}(h:Vals xs us):∀k:Nat,Vals (F4 k xs).flatten (F4 k us).flatten
 |0=>.nil
 |k+1=>by
  rw[GF,GF,GR,GR];exact Vals.append h (Vals.rep h k)
def xx{α:Type}(l:List α):l.eraseIdx (l.length-1)=l.dropLast:=by
 induction l with
 |nil=>rfl
 |cons a r ih=>
  cases r with
  |nil=>rfl
  |cons b r=>
   have e:(a::b::r).length-1=((b::r).length-1)+1:=by
    have h1:(a::b::r).length=r.length+2:=rfl;have h2:(b::r).length=r.length+1:=rfl;lia
   rw[e,List.eraseIdx_cons_succ,ih]
   all_goals rfl
def qN(its:List KB):∀(k:Nat) (f7:List KB),
  HX (λx1 x2=>x1++x2) f7.toArray (F4 k its.toArray)=(f7++(F4 k its).flatten).toArray
 |0,f7=>by simp
 |k+1,f7=>by
  have e:f7.toArray++its.toArray=(f7++its).toArray:=KK
  have e2:(f7++its)++(F4 k its).flatten=f7++(F4 (k+1) its).flatten:=by
   rw[GF,GR,Gx]
  rw[<-e2,<-qN its k (f7++its),<-e,GF,IG]
section
variable {X:Cx}{pins:List (KF×Sj)}{σ:St}{H:Hp}{s:KM}{l b:KF}{xs ys zs:List V}
variable{its:List KB}
def Inv.lset{its':List KB}{n:Nat}{f:Array KB->Array KB}{t':Nat}(I:Inv X pins σ H s)(hH:H l=be (.lst xs))
  (e:s.heap.get? l=be {cls:=.type "list",data:=.seq its.toArray n}) (hf:f its.toArray=its'.toArray) (hv:Vals ys its') (hz:ys.length<=sizeLine):
  Inv X pins σ (upd H l (.lst ys)) {s with heap:=s.heap.update l (Obj.mapSeq f),toks:=t'}:=by
 have q:=PySem.IsL.update e f;rw[hf]at q;refine I.write (x:=l) (e:=l) (by rw[hH];exact trivial) (.inl rfl) (λb' u hb hu=>(Heap.get?_update_other s.heap (Obj.mapSeq f) (Ne.symm hb)).trans hu) #[_,q] ?_;exact#[hz,its',_,hv,q]
def Inv.lnew{t':Nat}(I:Inv X pins σ H s)(hv:Vals ys its)(hz:ys.length<=sizeLine):
  Inv X pins σ (upd H s.heap.objs.size (.lst ys)) {s with heap:=s.heap.push {cls:=.type "list",data:=.seq its.toArray},toks:=t'}:=
 I.laid (λ_ _ q=>Heap.get?_push_of_some _ q) (FX _) #[hz,its,0,hv,Heap.get?_push_size _ rfl]
def Inv.fresh(I:Inv X pins σ H s):H s.heap.objs.size=none:=I.hok.fresh (FX _)
def Inv.lstM(I:Inv X pins σ H s)(hH:H l=be (.lst xs)):xs.length<=sizeLine/\∃(its:List KB) (n:Nat),Vals xs its/\xs.length=its.length/\s.heap.get? l=be {cls:=.type "list",data:=.seq its.toArray n}:=by
 obtain⟨z,its,n,r,e⟩:=I.hok l _ hH;exact#[z,its,n,r,r.length,e]
def xy{n:Nat}(h:n<=sizeLine):Builtin.List.listTooLong n=false:=by
 unfold Builtin.List.listTooLong;exact decide_eq_false Ko
end
section
variable {X:Cx}
def xz:V->List V->Hp->VK->Prop:=λx vs H Q=>∃l xs y,x=.ref l/\vs=[y]/\H l=be (.lst xs)/\xs.length<sizeLine/\Q .non (upd H l (.lst (xs++[y])))
def jL:MtM X "list.append" xz:=by
 intro pins s σ H x vs v us Q I rx rv h;obtain⟨l,xs,y,rfl,rfl,hH,hz,q⟩:=h;cases rx;obtain⟨u,rfl,ru⟩:=rv.one;obtain⟨z,its,n,r,hl,e⟩:=I.lstM hH;refine Tw F.slot_list_append #[_,e,rfl] F.entry_list_append (F.args_list_append_2 _ _) (PySem.list_append l its.toArray n u (by rw[F9];lia)) #[e,?_];refine#[.non,_,I.lset (its':=its++[u]) hH e KK (r.append (.cons ru .nil)) ?_,rfl,q];rw[Gc,Hh];lia
def rPop:V->List V->Hp->VK->Prop:=λx vs H Q=>∃l xs y,x=.ref l/\vs=[]/\H l=be (.lst xs)/\xs[xs.length-1]?=be y/\Q y (upd H l (.lst xs.dropLast))
def xA:MtM X "list.pop" rPop:=by
 intro pins s σ H x vs v us Q I rx rv h;obtain⟨l,xs,y,rfl,rfl,hH,hy,q⟩:=h;cases rx;have P7:=rv.zero;subst P7;obtain⟨z,its,n,r,hl,e⟩:=I.lstM hH;obtain⟨u,hu,ru⟩:=r.get hy;have MP:its.toArray[its.toArray.size-1]?=be u:=by
  show its.toArray[its.length-1]?=be u;rw[<-IH,<-hl];exact hu
 refine Tw F.slot_list_pop #[_,e,rfl] F.entry_list_pop (F.args_list_pop_1 _) (MeetsSeq.list_pop_last l its.toArray n u MP (by rw[F9];lia)) #[e,?_];refine#[y,_,I.lset (its':=its.dropLast) hH e ?_ r.dropLast ?_,ru,q]
 .show its.toArray.eraseIdxIfInBounds (its.toArray.size-1)=its.dropLast.toArray;rw[F9,List.eraseIdxIfInBounds_toArray,xx]
 .rw[List.length_dropLast];lia
def rCat:R2:=λx y H Q=>∃l b xs zs,x=.ref l/\y=.ref b/\H l=be (.lst xs)/\H b=be (.lst zs)/\xs.length+zs.length<=sizeLine/\∀p,H p=G_->Q (.ref p) (upd H p (.lst (xs++zs)))
def qO:OpR X (Sn .Add) rCat:=by
 intro pins s σ H x y v u Q I rx ry h;obtain⟨l,b,xs,zs,rfl,rfl,hH,hB,hz,q⟩:=h;cases rx;cases ry;obtain⟨z,its,n,r,hl,e⟩:=I.lstM hH;obtain⟨z2,u8,n2,r2,MQ,e2⟩:=I.lstM hB;refine PySem.P.add_list e e2 ?_ (by rw[F9,F9];lia);have ea:its.toArray++u8.toArray=(its++u8).toArray:=KK
 rw[ea];exact#[.ref _,_,I.lnew (t':=s.toks) (r.append r2) (by rw[Gc];lia),rfl,q _ I.fresh]
def rRep:R2:=λx y H Q=>∃l k xs,x=.ref l/\y=.int k/\H l=be (.lst xs)/\-(2^63)<=k/\k<2^63/\xs.length*k.toNat<=sizeLine/\
 ∀p,H p=G_->Q (.ref p) (upd H p (.lst (F4 k.toNat xs).flatten))
def xB{α:Type}(xs:List α)(k:Nat):(F4 k xs).flatten.length=k*xs.length:=by
 induction k with
 |zero=>simp
 |succ k ih=>rw[GF,GR,Gc,ih,HD,Hj]
def xC:OpR X (Sn .Mult) rRep:=by
 intro pins s σ H x y v u Q I rx ry h;obtain⟨l,k,xs,rfl,rfl,hH,h1,h2,hz,q⟩:=h;cases rx;obtain⟨t,rfl⟩:=ry;obtain⟨z,its,n,r,hl,e⟩:=I.lstM hH;have c5:its.toArray.size*k.toNat<=sizeLine:=by rw[F9,<-hl];exact hz
 have MU:¬its.toArray.size*k.toNat>(2^63-1)/8:=by
  have:(sizeLine:Nat)<=(2^63-1)/8:=by decide
  lia
 have MV:¬(!Builtin.List.listFitsIndex k)=true:=by
  rw[fitsIndex_both h1 h2];exact Ge
 have Lo:¬Builtin.List.listTooLong (its.toArray.size*k.toNat)=true:=by
  rw[xy c5];exact Ge
 have MX:HX (λx1 x2=>x1++x2) [].toArray (F4 (if its.toArray.isEmpty=true then 0 else k.toNat) its.toArray)=(F4 k.toNat its).flatten.toArray:=by
  have f0:∀m:Nat,HX (λx1 x2=>x1++x2) [].toArray (F4 m its.toArray)=(F4 m its).flatten.toArray:=λm=>by
   have:=qN its m [];rw[GS]at this;exact this
  rw[f0];cases its with
  |nil=>simp
  |cons a r'=>rw[if_neg KK]
 refine wpAny_binaryOp_repeat_ref (T:="list") (U:="int") Ks #[_,e,rfl] (λs'=>Uc s' k t) noFill_list_mul F.fills_int_mul F.slot_int_rmul repeat_list F.slot_int_index.lookup
  (Tw F.slot_int_rmul (Uc s k t) F.entry_int_rmul (F.args_int_rmul_2 _ _) (int___rmul___int_list k t l its.toArray n)
   #[e,rfl,#[_,e,rfl],Tw F.slot_list_mul #[_,e,rfl] F.entry_list_mul (F.args_list_mul_2 _ _) (AutoListH.list___mul___list_int_3 l its.toArray n k t MV MU Lo) #[e,?_]])
 rw[MX];exact#[.ref _,_,I.lnew (t':=s.toks) (r.rep k.toNat) (by rw[xB,HY];exact hz),rfl,q _ I.fresh]
end
end L2
namespace O9
open PySem PySem.W PySem.Calls PyProof.Rows
variable{P:Params}
def xD{h:Heap}:∀(ns:List Int) (vs:List KB),WellAll P h vs (ns.map WData.int)->TY vs ns:=by
 intro ns;induction ns with
 |nil=>
  intro vs w;rw[HE]at w;cases w;exact .nil
 |cons n ns ih=>
  intro vs w;rw[Gs]at w;cases w with
  |cons a b=>
   cases a;exact .cons _ _ (ih _ b)
variable{l:OpenLaw}
def xE{n:Nat}(hn:l.most=be n){h:Heap}{args:List WData}{Kq:List KB}
  (JP:l.row.toRowW.claim.pre args=true) (MY:WellAll P h Kq args):
  ∃a vs ns,Kq=[Value.ref a]/\args=[WData.list (ns.map WData.int)]/\h.get? a=be {cls:=.type "list",data:=.seq vs.toArray}/\TY vs ns/\ns.length<=n:=by
 have P8:WShape.hasAll [] args [.list .int]=true:=(pre_splitW JP).1;have hc:l.pre.holds [] {args:=args}=true:=(pre_splitW JP).2;obtain⟨d,r,rfl,h1,h2⟩:=hasAllW_cons P8;obtain rfl:=hasAllW_nil h2;obtain⟨xs,rfl,h3⟩:=hasW_list h1;obtain⟨ns,rfl⟩:=items_int h3;have c5:ns.length<=n:=by
  unfold OpenLaw.pre at hc;have h4:(WTm.not (.lt (.lit (.int (n:Int))) (.len (.arg 0)))).holds [] {args:=[.list (ns.map .int)]}=true:=by
   have h4:=(holds_andW hc).1;rw[hn]at h4;exact h4
  have h5:=condW_of h4 (w_not (w_lt w_lit (w_len_list (w_arg rfl))));rw[Gb]at h5;refine HF λq=>?_;have q':(n:Int)<((ns.length:Nat):Int):=Ko
  first
   |(rw[decide_eq_true q']at h5;exact absurd h5 Ks)
   |(simp at h5;lia)
 cases MY with
 |cons w1 w2=>
  cases w2;cases w1 with
  |list ho MZ=>exact#[_,_,ns,rfl,rfl,ho,xD ns _ MZ,c5]
def xF(l:OpenLaw)(args:List WData):l.row.toRowW.claim.post args (.bool true) args=true:=
 postW_of (r:=l.row.toRowW) (X:=(true==true))
  (show WShape.has [] (.bool true) .bool=true by first|rfl|decide|simp[WShape.has,WShape.arms,WShape.armsAll])
  (show(WTm.eq .res (.lit (.bool true))).value [] {args:=args,res:=be (.bool true),after:=args}=be (.bool (true==true))from w_eq_bool (w_res rfl) w_lit) rfl
def attach_call{n:Nat}{q:P3}{k8:List JM}{XP:(JM->Option KB)->Heap->Prop}{YP:R5->Heap->Prop}{d:DefRec}
  (hn:l.most=be n) (Lp:d.params.defaults=[])
  (call:∀(w:R5) (s₀ s₁:KM) (mg mb:JM->Option KB) (fa:KF) (o:Sj) (pm cd doc:KB) (a:KF) (vs:List KB) (ns:List Int),
   Ground q k8 [] XP w s₀ mg mb s₁.heap->YP w s₁.heap->
   s₁.heap.get? fa=be o->o.data=.func (docDef d.name d.params d.body d.scope pm cd doc)->s₁.heap.CodeRec cd d.name->mg d.name=be (.ref fa)->
   s₁.heap.get? a=be {cls:=.type "list",data:=.seq vs.toArray}->TY vs ns->ns.length<=n->s₁.gens=[].toArray->
   S_ (R1 l.prog w) Tf (.call (.ref fa) #[[.ref a],[]]) (λr s'=>r=.ok (.ret (.bool true))/\OldK s₁.heap s'.heap/\s'.os=s₁.os/\SY s'.gens) s₁):
  WalkO q k8 XP YP l.row.toRowW d [] (λf vs=>PySem.call f vs):=by
 intro w s₀ s₁ mg mb G Y fa o pm cd doc dV kV ho hd gV hD j9 hg args Kq as JP P9 Ru MY Rv;obtain rfl:dV=.none:=Dflts.none hD Lp;obtain rfl:kV=.none:=Dflts.noKw hD;obtain⟨a,vs,ns,rfl,rfl,Kr,y_,c5⟩:=xE hn JP MY;refine enter_call (SA (call w s₀ s₁ mg mb fa o pm cd doc a vs ns G Y ho (fd_plain hd) gV j9 Kr y_ c5 hg) λr s' hq=>?_);obtain⟨rfl,h2,h3,h4⟩:=hq;exact#[.inl #[.bool true,.bool true,[],rfl,λ_=>rfl,.bool true,xF l _,λ_=>#[List.Pairwise.nil,λ_ hm=>(nomatch hm)]],h2,h3,h4]
end O9
namespace L2
open PySem PySem.Spec PyProof.Rows
def qP:∀{vs:List KB} {ns:List Int},TY vs ns->Vals (ns.map V.int) vs
 |_,_,.nil=>.nil
 |_,_,.cons n t h=>.cons #[t,rfl] (qP h)
def Only(H:Hp):Prop:=∀b,H b=G_\/∃o xs,H b=be (.frz o (.lst xs))
variable{P:P3}{w:R5}{k:Nat}{a:KF}
def xG{K:Ex}{mg mb:JM->Option KB}{CX:CXT}{fa:KF}{fd:R_}{x:JM}{sp:Sp}{s₁:KM}{vs:List KB}{ns:List Int}
  (KX:K.In s₁.heap) (hns:s₁.heap.Ns Pi mg) (hb:s₁.heap.Ns Ue mb) (P':∀x:JM,x≠"__name__"->mb x=Si x) (M0:s₁.heap.NoLimit) (hg:s₁.gens=[].toArray)
  (ha:s₁.heap.get? a=be {cls:=.type "list",data:=.seq vs.toArray}) (hi:TY vs ns) (hl:ns.length<=sizeLine) (hr:Room k Tf)
  (F:∀base:Heap,K.In base->base.Ns Pi mg->FnOk P w K mg base CX k fa fd [x] sp) (Lq:∀(s:KM) (u:KB),S5 s fd #[[u],[]] [(x,u)])
  (y9:∀H:Hp,Only H->SqL K H a (ns.map V.int)->sp [.ref a] H (λv _=>v=.bl true) λ_ _ _=>False)
  (M4:∀H e s',CX [] H s₁ (λ_ _ _=>False) e s'->False):
  S_ (R1 P w) Tf (.call (.ref fa) #[[.ref a],[]]) (λr s'=>r=.ok (.ret (.bool true))/\OldK s₁.heap s'.heap/\s'.os=s₁.os/\SY s'.gens) s₁:=by
 have rv:=qP hi;have M5:=hi.length;have Ls:∀H:Hp,Only H->SqL K H a (ns.map V.int)->HOk P w H s₁.heap->(∀b,H b≠G_->b=a)->(H a≠G_->K.lookup a=G_)->
   S_ (R1 P w) Tf (.call (.ref fa) #[[.ref a],[]]) (λr s'=>r=.ok (.ret (.bool true))/\OldK s₁.heap s'.heap/\s'.os=s₁.os/\SY s'.gens) s₁:=by
  intro H hO hS hok hA hK;have t7:∀{b:KF} {o:Sj},s₁.heap.get? b=be o->H b=G_->(hidT s₁.heap H).get? b=be o:=λe n=>vK e n;have Ll:∀{b:KF} {o:Sj} {es:Array DictEntry} {ep:Nat},s₁.heap.get? b=be o->o.data=.dict es ep->H b=none:=λ{b o es ep} e d=>by
   cases q:H b with
   |none=>rfl
   |some u=>
    have e':b=a:=hA b (by rw[q];simp);subst e';rw[ha]at e;cases e;have d':Data.seq vs.toArray _=Data.dict es ep:=d;cases d'
  have Ml:∀{b:KF} {m:JM->Option KB},s₁.heap.Ns b m->(hidT s₁.heap H).Ns b m:=λ{b m} ⟨o,es,ep,e,d,r⟩=>#[o,es,ep,t7 e (Ll e d),d,r];have Pa:K.In (hidT s₁.heap H):=λb o e=>t7 (KX b o e) (by
   cases q:H b with
   |none=>rfl
   |some u=>
    have e':b=a:=hA b (by rw[q];simp);subst e';rw[hK (by rw[q];simp)]at e;cases e)
  have hM:Mod K mg (hidT s₁.heap H):=#[Pa,Ml hns,#[mb,Ml hb,P'],let ⟨mc,h1,h2⟩:=M0;#[mc,Ml h1,h2]];have e0:Env0 P w K mg (hidT s₁.heap H) Tf [] s₁ H:=#[rfl,hM,λb o e=>vL e,Hx (vJ _ _),trivial,λb hb=>absurd (show b∈([]:List KF)from hb) KK,hok,.of_eq hg];refine SA ((F _ Pa (Ml hns)).run Tf [] s₁ H #[[.ref a],[]] [.ref a] [.ref a] _ _ hr e0 (Lq s₁ (.ref a)) (.cons rfl .nil) (y9 H hO hS)) λr s' h=>?_;cases r with
  |error e=>exact(M4 H e s' h).elim
  |ok fl=>
   cases fl with
   |next=>exact False.elim h
   |brk=>exact False.elim h
   |cont=>exact False.elim h
   |ret u=>
    obtain⟨v,H',os,bare,un,M6,r',q⟩:=h;have q':v=.bl true:=q;subst q';obtain rfl:u=Value.bool true:=r';refine#[rfl,OldK.of_keep λb o e=>?_,os,bare];cases q:H b with
    |none=>exact un.keep b o e q (by intro z;exact absurd (show b∈([]:List KF)from z) KK) KK
    |some u=>
     rcases hO b with z|⟨ob,xs,z⟩
     .rw[q]at z;cases z
     .have z2:=un.frzs b ob _ z;obtain⟨e1,_⟩:=hok b _ z;obtain⟨e2,_⟩:=M6 b _ z2;rw[e]at e1;cases e1;exact e2
 cases hk:K.lookup a with
 |some o=>
  have e:=KX a o hk;rw[ha]at e;cases e;refine Ls (λ_=>G_) (λ_=>.inl rfl) (.inr #[_,vs.toArray,_,hk,rfl,rfl,rfl,by rw[F9,M5];exact hl,by simpa using rv]) (λb u z=>by have z':(G_:Option HO)=be u:=z;cases z') (λb z=>absurd rfl z) λz=>absurd rfl z
 |none=>
  refine Ls (λb=>if b=a then be (.frz {cls:=.type "list",data:=.seq vs.toArray} (.lst (ns.map V.int)))else G_) (λb=>?_) (.inl (.inr #[{cls:=.type "list",data:=.seq vs.toArray},if_pos rfl])) (λb u z=>?_) (λb z=>?_) λ_=>hk
  .by_cases hb:b=a
   .exact .inr #[_,_,if_pos hb]
   .exact .inl (if_neg hb)
  .by_cases hb:b=a
   .have z':=(if_pos hb).symm.trans z;cases z';subst hb;exact#[ha,by rw[Gb];exact hl,vs,_,rv,ha]
   .have z':=(if_neg hb).symm.trans z;cases z'
  .by_cases hb:b=a
   .exact hb
   .exact absurd (if_neg hb) z
def walk_of{l:HZ}{n:Nat}{q:P3}{k8:List JM}{XP:(JM->Option KB)->Heap->Prop}{YP:R5->Heap->Prop}{d:DefRec}{K:Params->Ex}{CX:R5->CXT}{sp:R5->Sp}{x:JM}
  (hn:l.most=be n) (Kp:n<=sizeLine) (Lp:d.params.defaults=[]) (hr:Room k Tf)
  (hY:∀(w:R5) (h:Heap),YP w h->(K w.params).In h)
  (F:∀(w:R5) (mg:JM->Option KB) (fa:KF) (h:Heap),(K w.params).In h->h.Ns Pi mg->mg d.name=be (.ref fa)->
   ∃fd:R_,(∀(s:KM) (u:KB),S5 s fd #[[u],[]] [(x,u)])/\
    ∀base:Heap,(K w.params).In base->base.Ns Pi mg->FnOk l.prog w (K w.params) mg base (CX w) k fa fd [x] (sp w))
  (y9:∀(w:R5) (H:Hp) (a:KF) (ns:List Int),ns.length<=n->Only H->SqL (K w.params) H a (ns.map V.int)->sp w [.ref a] H (λv _=>v=.bl true) λ_ _ _=>False)
  (M4:∀(w:R5) (H:Hp) (s:KM) (e:KB) (s':KM),CX w [] H s (λ_ _ _=>False) e s'->False):
  II q k8 XP YP l.row.toRowW d [] (λf vs=>PySem.call f vs):=by
 refine O9.attach_call hn Lp λw s₀ s₁ mg mb fa o pm cd doc a vs ns G Y ho hd gV j9 Kr y_ c5 hg=>?_;have KX:=hY w _ Y;obtain⟨fd,hb,hF⟩:=F w mg fa _ KX G.T.g j9;exact xG KX G.T.g G.T.b G.T.builtins G.T.nolimit hg Kr y_ (Ga c5 Kp) hr hF hb (λH hO hS=>y9 w H a ns c5 hO hS) λH e s'=>M4 w H s₁ e s'
def aL(s:R3)(j:Nat):R3:=match s with
 |.ClassDef _ _ _ body _ _ _ _ _ _ _=>body.getD j (.Pass #[0,0,0,0])
 |_=>.Pass #[0,0,0,0]
def br(s:R3):Arguments:=match s with
 |.FunctionDef _ a _ _ _ _ _ _ _ _=>a
 |_=>{posonlyargs:=[],args:=[],vararg:=G_,kwonlyargs:=[],kw_defaults:=[],kwarg:=G_,defaults:=[]}
def aG(s:R3):List R3:=match s with
 |.FunctionDef _ _ b _ _ _ _ _ _ _=>b
 |_=>[]
def ag(s:R3):Sw:=match s with
 |.FunctionDef _ _ _ _ _ _ sc _ _ _=>sc
 |_=>{kind:=.function,names:=[],isGenerator:=false,isCoroutine:=false}
abbrev E0:XK:=λ_ _ _=>False
structure FunG(K:Ex)(dV:KB)(x qual:Str)(st:R3)(f:KF)(fd:R_):Prop where
 ex:∃(oc:KB) (od:Option KF) (kV doc pm:KB) (an:Option KF) (cdv ct:KB) (osl:Array (Option KB)),
  fd=fnOf x qual (br st) (aG st) (ag st) dV kV doc pm an cdv ct/\K.lookup f=be #[oc,od,.func fd,osl]/\codeIn K cdv qual=true
 kp:keepIn K (.ref f)=true
abbrev Fun(K:Ex):JM->JM->R3->KF->R_->Prop:=FunG K .none
section
variable {P:P3}{w:R5}{K:Ex}{mg:JM->Option KB}{base:Heap}
def Fun.binds{x qual:JM}{st:R3}{f:KF}{fd:R_}{ps:List JM}(F:Fun K x qual st f fd)
  (h:∀(kV doc pm:KB) (an:Option KF) (cdv ct:KB) (us:List KB),us.length=ps.length->SN (fnOf x qual (br st) (aG st) (ag st) .none kV doc pm an cdv ct) #[us,[]]=pure (ps.zip us)):Binds K fd ps []:=by
 obtain⟨oc,od,kV,doc,pm,an,cdv,ct,osl,rfl,lk,gV⟩:=F.ex;exact .all (h kV doc pm an cdv ct)
def gx{x qual:JM}{st:R3}{f:KF}{oc:KB}{od an:Option KF}{osl:Array (Option KB)}{kV doc pm cdv ct:KB}(l:K.lookup f=be #[oc,od,.func (fnOf x qual (br st) (aG st) (ag st) .none kV doc pm an cdv ct),osl])
  (c:codeIn K cdv qual=true) (k:keepIn K (.ref f)=true):Fun K x qual st f (fnOf x qual (br st) (aG st) (ag st) .none kV doc pm an cdv ct):=#[#[oc,od,kV,doc,pm,an,cdv,ct,osl,rfl,l,c],k]
end
def fz{A:R6}(hr:Room k A):A.units+1<Ta:=IJ (Nat.add_le_add_left (Ks:1<=64) _) hr.units
def xH{n:Nat}(h:n<=1000):n<sizeLine:=IJ h Ks
def ite2{c A B:Prop}[Decidable c](h1:c->A)(h2:¬c->B):if c then A else B:=by
 by_cases h:c
 .rw[if_pos h];exact h1 h
 .rw[if_neg h];exact h2 h
def Same(H H':Hp):Prop:=∀b o,H b=be o->H' b=be o
def Same.refl(H:Hp):Same H H:=λ_ _ h=>h
variable{H:Hp}
def Same.trans{H1 H2:Hp}(a:Same H H1)(b:Same H1 H2):Same H H2:=λc o h=>b c o (a c o h)
variable{H':Hp}
def Same.free(e:Same H H'){l:KF}(h:H' l=Option.none):H l=Option.none:=by
 cases q:H l with
 |none=>rfl
 |some o=>
  rw[e l o q]at h;cases h
def Same.seq{K:Ex}{xs:List V}(e:Same H H')(h:SqL K H a xs):SqL K H' a xs:=by
 rcases h with(h|⟨o,h⟩)|h
 .exact .inl (.inl (e _ _ h))
 .exact .inl (.inr #[o,e _ _ h])
 .exact .inr h
section
variable {κ:Type}[DecidableEq κ]
def valV(b7:List (κ×V))(k:κ):Option V:=(b7.find? λkv=>decide (kv.1=k)).map (·.2)
def jM{p:κ×V}{r:List (κ×V)}{k:κ}(e:p.1=k):valV (p::r) k=be p.2:=by simp[valV,G7,e]
def jN{p:κ×V}{r:List (κ×V)}{k:κ}(e:¬p.1=k):valV (p::r) k=valV r k:=by simp[valV,G7,e]
def RelO.getD{o:Option V}{u:Option KB}{d:V}{d':KB}(r:RelO o u)(rd:RelV d d'):RelV (o.getD d) (u.getD d'):=by
 cases o with
 |none=>cases u with
  |none=>exact rd
  |some _=>exact(show False from r).elim
 |some _=>cases u with
  |none=>exact(show False from r).elim
  |some _=>exact r
def KV.val{b7:List (κ×V)}{vs:List (κ×KB)}(r:KV b7 vs)(k:κ):RelO (valV b7 k) (Tq vs k):=by
 unfold KV at r;induction r with
 |nil=>exact True.intro
 |@cons p q ps qs h t ih=>
  obtain⟨h1,h2⟩:=h;by_cases e:p.1=k
  .have e':q.1=k:=h1.symm.trans e;have b:Tq (q::qs) k=be q.2:=by simp[Tq,G7,e']
   rw[jM e,b];exact h2
  .have e':¬q.1=k:=λz=>e (h1.trans z);have b:Tq (q::qs) k=Tq qs k:=by simp[Tq,G7,e']
   rw[jN e,b];exact ih
end
def qQ{k:Key}{u:KB}(r:RelV (kV k) u):(bD P w).is k u=true:=by
 cases k with
 |inl i=>obtain⟨t,e⟩:=(show ∃t,u=Value.int i t from r);subst e;exact mixKind_int P w i t
 |inr x=>obtain⟨t,e⟩:=(show ∃t,u=Value.str x t from r);subst e;exact vH P w x t
def qR{P:P3}{w:R5}:∀{ks:List Key} {us:List KB},Vals (ks.map kV) us->ItemsAre (bD P w) ks us
 |[],_,r=>by rw[HE]at r;cases r;exact .nil
 |k::ks,_,r=>by
  rw[Gs]at r;cases r with
  |cons h t=>exact .cons (qQ h) (qR t)
abbrev KT(H:Hp):List (List Key×V)->List (List Key×KF×KB)->Prop:=Paired λp q=>p.1=q.1/\H q.2.1=be (.tup (p.1.map kV))/\RelV p.2 q.2.2
variable{xs:List (List Key×KF×KB)}{b7:List (List Key×V)}
def KT.val(r:KT H b7 xs)(k:List Key):RelO (valV b7 k) ((Tp xs k).map (·.2)):=by
 induction r with
 |nil=>exact True.intro
 |@cons p q ps qs h t ih=>
  obtain⟨h1,_,h2⟩:=h;by_cases e:p.1=k
  .have e':q.1=k:=h1.symm.trans e;have b:Tp (q::qs) k=be q.2:=by simp[Tp,G7,e']
   rw[jM e,b];exact h2
  .have e':¬q.1=k:=λz=>e (h1.trans z);have b:Tp (q::qs) k=Tp qs k:=by simp[Tp,G7,e']
   rw[jN e,b];exact ih
def KT.keeps(r:KT H b7 xs)(ht:∀b ys,H b=be (.tup ys)->H' b=be (.tup ys)):KT H' b7 xs:=
 Paired.mapP r λ_ _ z=>#[z.1,ht _ _ z.2.1,z.2.2]
section
variable {P:P3}{w:R5}{H:Hp}{h:Heap}{a:KF}
def qS{u:HO}(ok:HOk P w H h)(e:Rd H a u):ObjOk P w H h a u:=e.ok ok
def xI{b7:List (Key×V)}(ok:HOk P w H h)(e:Rd H a (.dK b7)):b7.length<=sizeLine/\(a==Su)=false/\∃vs,KV b7 vs/\h.DictOf (bD P w) a vs:=
 show ObjOk P w H h a (.dK b7)from qS ok e
def key_of{ks:List Key}(ok:HOk P w H h)(e:H a=be (.tup (ks.map kV))):(S2 (bD P w)).is h ks a:=by
 obtain⟨_,its,r,o,h1,h2,n,h3⟩:=(show ObjOk P w H h a (.tup (ks.map kV))from ok a _ e);exact#[o,its.toArray,n,h1,h2,h3,by simpa using qR r]
variable{b7:List (List Key×V)}
def qT(ok:HOk P w H h)(e:Rd H a (.dT b7)):b7.length<=sizeLine/\(a==Su)=false/\
  ∃xs,KT H b7 xs/\h.DictOfH (S2 (bD P w)) a xs:=by
 obtain⟨z,y,xs,r,o,es,ep,h1,h2,h3,h4,h5⟩:=(show ObjOk P w H h a (.dT b7)from qS ok e);refine#[z,y,xs,r,o,es,ep,h1,h2,h3,h4,λx hx=>?_,h5];have all:∀{l:List (List Key×V)} {m:List (List Key×KF×KB)},KT H l m->∀x∈m,(S2 (bD P w)).is h x.1 x.2.1:=by
  intro l m q;induction q with
  |nil=>intro x hx;exact nomatch hx
  |@cons p q ps qs hq t ih=>
   intro x hx;rcases F5.mp hx with e|hx
   .subst e;exact key_of ok (by rw[<-hq.1];exact hq.2.1)
   .exact ih x hx
 exact all r x hx
def xJ(ok:HOk P w H h)(e:H a=be (.dT b7)):b7.length<=sizeLine/\(a==Su)=false/\
  ∃xs,KT H b7 xs/\h.DictOfH (S2 (bD P w)) a xs:=qT ok (.inl e)
end
def DGet(H:Hp)(a:KF)(y:V)(r:Option V):Prop:=
 (∃b7 k,Rd H a (.dK b7)/\y=kV k/\r=valV b7 k)\/∃b7 k b,Rd H a (.dT b7)/\y=.ref b/\H b=be (.tup (k.map kV))/\r=valV b7 k
def DGet.t{b:KF}{k:List Key}(e:H a=be (.dT b7))(eb:H b=be (.tup (k.map kV))):DGet H a (.ref b) (valV b7 k):=.inr #[b7,k,b,.inl e,rfl,eb,rfl]
section
variable {X:Cx}{pins:List (KF×Sj)}{σ:St}{H:Hp}{s:KM}{a:KF}{y v:V}{u r:KB}{o:Option V}{A:R6}{E:KB->KM->Prop}
def Inv.big(I:Inv X pins σ H s):Su<s.heap.objs.size:=by
 have h:Pi<s.heap.objs.size:=(I.mod.glob.keeps I.bk).lt;exact IK Ks h
def xK{h':Heap}{t':Nat}{ob:HO}(I:Inv X pins σ H s)(mu:Mut (H a))(hs:Heap.SameBut a s.heap h')(he:∃q,h'.get? a=be q)(new:ObjOk X.prog X.w (upd H a ob) h' a ob):
  Inv X pins σ (upd H a ob) {s with heap:=h',toks:=t'}:=
 I.write (x:=a) (e:=a) mu (.inl rfl) (λb q hb z=>(hs.2 b hb).trans z) he new
end
def xL(h:Heap)(hb:Su<h.objs.size):ObjOk P w H (h.push {cls:=.type "dict",data:=.dict [].toArray}) h.objs.size (.dT []):=
 #[Go _,beq_eq_false_iff_ne.mpr (Ne.symm (F6 hb)),[],.nil,_,[].toArray,0,Heap.get?_push_size _ rfl,#[rfl,rfl,rfl],rfl,rfl,IL]
def xM:TE:=λ_ H Q=>∀p,H p=G_->Q (.ref p) (upd H p (.dT []))
section
variable {X:Cx}{pos:Sb}
def pe_dnewT:PE X (.Dict [] [] pos) xM:=λpins s σ H Q I h=>
 wpAny_Dict_empty #[.ref s.heap.objs.size,_,I.laid (a:=s.heap.objs.size) (o:=.dT []) (t':=s.toks) (λ_ _ q=>Heap.get?_push_of_some _ q) (FX _) (xL s.heap I.big),rfl,h _ (I.hok.fresh (FX _))]
end
section
variable {X:Cx}{pins:List (KF×Sj)}{σ:St}{H:Hp}{s:KM}{a:KF}{y d:V}{u r:KB}{o:Option V}{A:R6}{E:KB->KM->Prop}
def xN{Q:KB->KM->Prop}(hu:A.units+1<Ta)(I:Inv X pins σ H s)(g:DGet H a y o)(ry:RelV y u)(rd:RelV d r)(h:∀w' s',Inv X pins σ H s'->RelV (o.getD d) w'->Q w' s'):
  R4 (R1 X.prog X.w) A (call (.builtin "dict.get") [.ref a,u,r]) Q E s:=by
 rcases g with⟨b7,k,e,ey,l⟩|⟨b7,k,b,e,ey,eb,l⟩
 .subst ey;obtain⟨z,hd,vs,w6,dd⟩:=xI I.hok e;refine TV PySem.F.slot_dict_get dd.typeIs PySem.F.entry_dict_get (PySem.F.args_dict_get_3 _ _ _) (meets_dict_get_default (bD X.prog X.w) a (qQ ry) hd r) #[_,dd.mapOf,h _ _ (I.tok _) ?_];rw[l];exact(w6.val k).getD rd
 .subst ey;cases(show u=Value.ref b from ry);obtain⟨z,hd,xs,w6,dd⟩:=qT I.hok e;refine TV PySem.F.slot_dict_get dd.typeIs PySem.F.entry_dict_get (PySem.F.args_dict_get_3 _ _ _) (meetsH_dict_get_default (S2 (bD X.prog X.w)) a b hd r) #[Ud hu,k,xs,key_of I.hok eb,dd,h _ _ (I.tok _) ?_];rw[l];exact(w6.val k).getD rd
end
end L2
end
section
open PySem PySem.Spec PyProof.Rows L2
namespace Exc
open PySem PySem.Spec PyProof.Rows PySem.W L2
def aJ:List KB->Bool
 |.ref _::r=>aJ r
 |l=>l==[.type "ValueError",.type "Exception",.type "BaseException",.type "object"]
def jO(self:KB):∀{l:List KB},aJ l=true->refuseLoop self "__setattr__" l=pure ()
 |.ref c::r,e=>by rw[refuseLoop_ref];exact jO self (by unfold aJ at e;exact e)
 |[],e=>by simp[aJ]at e
 |.type n::r,e=>by
  have e':(Value.type n::r)=[.type "ValueError",.type "Exception",.type "BaseException",.type "object"]:=by simpa[aJ]using e
  rw[e'];exact PySem.F.store_ValueError.passes self
 |.none::r,e=>by simp[aJ]at e
 |.bool _::r,e=>by simp[aJ]at e
 |.int _ _::r,e=>by simp[aJ]at e
 |.float _ _::r,e=>by simp[aJ]at e
 |.str _ _::r,e=>by simp[aJ]at e
 |.bytes _ _::r,e=>by simp[aJ]at e
 |.builtin _::r,e=>by simp[aJ]at e
def dU{T:String}(hT:[Value.type "ValueError",.type "Exception",.type "BaseException",.type "object"].contains (.type T)=true):∀{l:List KB},aJ l=true->l.contains (.type T)=true
 |.ref c::r,e=>by rw[H8,dU hT (l:=r) (by unfold aJ at e;exact e),HG]
 |[],e=>by simp[aJ]at e
 |.type n::r,e=>by
  have e':(Value.type n::r)=[.type "ValueError",.type "Exception",.type "BaseException",.type "object"]:=by simpa[aJ]using e
  rw[e'];exact hT
 |.none::r,e=>by simp[aJ]at e
 |.bool _::r,e=>by simp[aJ]at e
 |.int _ _::r,e=>by simp[aJ]at e
 |.float _ _::r,e=>by simp[aJ]at e
 |.str _ _::r,e=>by simp[aJ]at e
 |.bytes _ _::r,e=>by simp[aJ]at e
 |.builtin _::r,e=>by simp[aJ]at e
section
variable {prog:P3}{w:R5}{A:R6}{E:KB->KM->Prop}{s:KM}{K:Ex}{x C:KF}{ox:Sj}{cd:TJ}{name:JM}{v:KB}{vs:Array KB}
def xO{Q:Unit->KM->Prop}(X:K.In s.heap)(hx:s.heap.get? x=be ox)(i9:ox.cls=.ref C)(z6:ox.data=.fields vs)(hd:ox.dict=G_)(hc:clsIn K C=be cd)(hm:aJ cd.mro=true)(hh:cd.hasDict=true)
  (hs:findIn K (.ref C) "__setattr__"=be (be (.builtin "object.__setattr__"))) (hf:findIn K (.ref C) name=be G_)
  (h:∀h',h'.get? x=be {ox with dict:=be s.heap.objs.size}->h'.Ns1 s.heap.objs.size (λy=>if y=name then be v else G_)->(∀b o,b≠x->s.heap.get? b=be o->h'.get? b=be o)->∀tk,Q () {s with heap:=h',toks:=tk}):
  R4 (R1 prog w) A (Uh (.ref x) name v) Q E s:=by
 have hn:notCls ox=true:=by unfold notCls;rw[z6]
 have I:InstAt s.heap x ox C none:=#[hx,i9,hn,by rw[hd];trivial];refine set_plain X I hs ?_;have SF:=PySem.F.store_object;have ne:cd.mro.isEmpty=false:=OZ
 have sub:Looks (R1 prog w) s.heap (Tb (.ref x) (.type "object")) true:=I.type.andThen (looks_mroIn X TW);refine SM SF.slot.plain SF.entry (@check_slot (R1 prog w) _ _ _ "object.__setattr__" "object" "__setattr__" (.ref x) [.str name s.toks,v] [] _ SF.kind SF.split sub (SF.args (.ref x) (.str name s.toks) v) ?_);have Kt:Looks (R1 prog w) s.heap (mroOf (.ref C)) cd.mro:=(looks_clsIn X hc).andThen .now;rw[osa_eq,refuse_eq];refine Os (Os (I.type.here (s:={s with toks:=s.toks+1}) (Os (Kt.here (s:={s with toks:=s.toks+1}) ?_))));rw[jO _ hm];refine RY (Os (I.type.here (s:={s with toks:=s.toks+1}) (Os ((looks_findIn X hf).here (s:={s with toks:=s.toks+1}) (Os (Looks.now.here (s:={s with toks:=s.toks+1}) ?_))))));obtain⟨oc,Pb,Pc,osl⟩:=ox;dsimp only at i9 hd z6;subst i9 hd z6;refine Os (RY (Os (Os (Ts hx (Os ((looks_clsIn X hc).here (s:={s with toks:=s.toks+1}) ?_))))));rw[hh];rw[if_neg Ks];have hx₁:(s.heap.push {cls:=.type "dict",data:=.dict [].toArray}).get? x=be #[.ref C,G_,.fields vs,osl]:=Heap.get?_push_of_some _ hx;have Pd:x≠s.heap.objs.size:=F6 (Heap.lt_size hx);show R4 _ _ (do
  let d <-alloc {cls:=Value.type "dict",data:=Data.dict [].toArray}
  update x λo=>{cls:=o.cls,dict:=be d,data:=o.data,slots:=o.slots}
  dictMade (.ref C) x d) _ _ _
 refine Os (wpAny_alloc' ?_);refine Os (wpAny_update' hx₁ ?_);refine RY ?_;have P_:((s.heap.push {cls:=.type "dict",data:=.dict [].toArray}).update x λo=>{cls:=o.cls,dict:=be s.heap.objs.size,data:=o.data,slots:=o.slots}).get? s.heap.objs.size
   =be {cls:=.type "dict",data:=.dict [].toArray}:=
  (Heap.get?_update_ne _ _ _ _ Pd.symm).trans (Heap.get?_push_at rfl rfl)
 have Qa:((s.heap.push {cls:=.type "dict",data:=.dict [].toArray}).update x λo=>{cls:=o.cls,dict:=be s.heap.objs.size,data:=o.data,slots:=o.slots}).Ns s.heap.objs.size (λ_=>G_):=
  #[_,[].toArray,_,P_,rfl,λe he=>absurd he KK,λ_=>rfl]
 show R4 _ _ (Builtin.ObjectAttr.storeInDict s.heap.objs.size (.str name s.toks) name v) _ _ _;unfold Builtin.ObjectAttr.storeInDict Builtin.ObjectAttr.newKeyGuard;refine Os (RY (Os (TK (Heap.Ns1.of_empty Qa) λh' g_ hs=>?_)));obtain⟨oD,O1,O2,Li,Lj,Lk⟩:=g_.count (Within.cons name v Within.nil);refine Os (Th Li (by rw[Lj];exact Tn (Ga Lk (by rw[F7,List.length_nil,SW];lia))) ?_);refine RY (h h' ?_ g_ (λb o hb q=>?_) _)
 .exact(hs.2 x Pd).trans (Heap.get?_update_self _ hx₁ rfl)
 .exact(hs.2 b (F6 (Heap.lt_size q))).trans ((Heap.get?_update_ne _ _ _ _ hb).trans (Heap.get?_push_of_some _ q))
variable{Q:KB->KM->Prop}
def xP{od:Sj}{y7:Bool}(X:K.In s.heap)(I:InstAt s.heap x ox C (be od))(hc:clsIn K C=be cd)(hm:aJ cd.mro=true)
  (Qb:findIn K (.ref C) "__getattribute__"=be (be (.builtin "BaseException.__getattribute__"))) (Qc:findIn K (.ref C) "__getattr__"=be G_)
  (hf:findObj K C (be od) name=be (.value v)) (hh:handedIn v=true) (h:∀tk,Q v {s with toks:=tk}):R4 (R1 prog w) A (TR (.ref x) name y7) Q E s:=by
 have FB:=PySem.F.attr_ValueError;obtain⟨hp,g,d,t,os⟩:=s;have L0:=I.type (M:=R1 prog w);have L1:=looks_findIn (M:=R1 prog w) X Qb;have L2:=looks_findIn (M:=R1 prog w) X Qc;have L3:=looks_find (M:=R1 prog w) X I hf;have f3:=FB.ga.bind (.ref x);have ne:cd.mro.isEmpty=false:=OZ
 have sub:Looks (R1 prog w) hp (Tb (.ref x) (.type "BaseException")) true:=I.type.andThen (looks_mroIn X TW);unfold TR getAttrBy;refine Os (wpAny_mkText (So (Os (L0.at (Os (L1.at ?_))))));dsimp only;have J_:(onTheHeap (Value.ref C)&&Value.builtin "BaseException.__getattribute__"==Value.builtin "object.__getattribute__")=false:=by
  have o_:(Value.builtin "BaseException.__getattribute__"==Value.builtin "object.__getattribute__")=false:=Kv
  rw[o_];rfl
 have Qe:(y7&&onTheHeap (Value.builtin "BaseException.__getattribute__"))=false:=by cases y7<;>rfl
 rw[J_,if_neg Ge];unfold getAttrByItsOwn hookBefore;rw[show onTheHeap (Value.ref C)=true from rfl,if_pos rfl];refine Os (L2.at ?_);unfold callGetattribute;rw[Qe,if_neg Ge];unfold boundAndCalled;refine Os (wpAny_attempt (So (Os (T1 f3 ?_))));refine SG (SM FB.ga.plain PySem.F.entry_bexc_ga (@check_slot (R1 prog w) _ _ _ "BaseException.__getattribute__" "BaseException" "__getattribute__" (.ref x) [.str name t] [] _ Kv Kv sub (PySem.F.args_bexc_ga _ _) ?_));unfold Builtin.«object.__getattribute__»;refine Os (T1 (a:=(Value.ref x,[Value.str name t])) rfl ?_);refine Os (T1 (a:=name) rfl ?_);refine Os (L0.at (Os (L3.at ?_)));refine RY ?_;show R4 _ _ (handedOut v) _ _ _;rw[handedOut_of hh];exact RY (h _)
def xQ{rest:List KB}{t0:KF}{a1 a2 a3 a4 a5:KB}(X:K.In s.heap)(hx:s.heap.get? x=be ox)(i9:ox.cls=.ref C)(z6:ox.data=.fields [.ref t0,a1,a2,a3,a4,a5].toArray)(hc:clsIn K C=be cd)(hm:aJ cd.mro=true)(hl:rest.length<=sizeLine)
  (h:∀h',h'.get? x=be {ox with data:=.fields [.ref s.heap.objs.size,a1,a2,a3,a4,a5].toArray}->(∀b o,b≠x->s.heap.get? b=be o->h'.get? b=be o)->Q .none {s with heap:=h'}):
  R4 (R1 prog w) A (call (.builtin "ValueError.__init__") (.ref x::rest)) Q E s:=by
 have F:=PySem.F.excBase_ValueError;have hn:notCls ox=true:=by unfold notCls;rw[z6]
 have ht:Looks (R1 prog w) s.heap (typeOf (.ref x)) (.ref C):=i9 ▸ (Looks.ld hx).andThen .now;have ne:cd.mro.isEmpty=false:=OZ
 have sub:Looks (R1 prog w) s.heap (Tb (.ref x) (.type "ValueError")) true:=ht.andThen (looks_mroIn X TW);have Qf:∀{Q:Unit->KM->Prop} {E:KB->KM->Prop} {A:R6},Q () s->R4 (R1 prog w) A (checkBuiltinCall "ValueError.__init__" #[.ref x::rest,[]]) Q E s:=λ{Q E A} hq=>by
  have M7:=F.noStar;simp only[checkBuiltinCall,F.initKind,F.initSplit,F.initRow];refine Os (sub.here ?_);obtain⟨hp,g,d,t,os⟩:=s;have Lc:=looks_clsIn (M:=R1 prog w) X hc
  repeat(first|(with_reducible refine Sl hx ?_;rw[i9])|(with_reducible refine Lc.here ?_)|wp_step)
  refine wpAny_onRaise ?_;rw[show ∀(a b:String) (n:Nat),Bind.check #[.positional,"*","ValueError",.self,[#["args",.varPos,false]]] a b n (H9 (λx=>x.fst) ({pos:=Value.ref x::rest}:Args).kw)=pure ()from
   λa b n=>check_star_args _ _ _ _ _ _]
  exact RY hq
 refine SG (SM F.init.plain F.initEntry (Qf ?_));obtain⟨hp,g,d,t,os⟩:=s;obtain⟨oc,Pb,Pc,osl⟩:=ox;dsimp only at i9 z6 hx h;subst i9 z6
 wp_walk
 have hx₁:=Heap.get?_push_of_some {cls:=Value.type "tuple",data:=Data.seq rest.toArray} hx;refine h _ ?_ (λb o hb q=>?_)
 .rw[Heap.get?_update_self _ hx₁ rfl];rfl
 .rw[Heap.get?_update_other _ _ (Ne.symm hb)];exact Heap.get?_push_of_some _ q
end
abbrev veLine:List KB:=[.type "ValueError",.type "Exception",.type "BaseException",.type "object"]
section
variable {prog:P3}{w:R5}{A:R6}{E:KB->KM->Prop}{h:Heap}{g:Array T7}{d:Drawn}{t:Nat}{os:OsState}{K:Ex}
variable {nm q:JM}{C N fI:KF}{bs bm:List KB}{hdct:Bool}{sn:List JM}{sub:List KB}{ab:Bool}{col:Option Bool}{dd:Option KF}{k0 k1 k2 k3 k5:Option KB}{rest:List KB}
def xR{Q:Fin->KM->Prop}(X:K.In h)(T:OwnTail h veLine bm)(hC:h.get? C=be (Sm nm q C N bs bm hdct sn sub ab col dd k0 k1 k2 k3 k5 "ValueError.__new__"))
  (hi:findIn K (.ref C) "__init__"=be (be (.ref fI))) (hf:typeIn K (.ref fI)=be (.type "function"))
  (hq:∀h' e,Heap.MadeExcOf h h' e (.ref C) rest->R4 (R1 prog w) A (call (.ref fI) (.ref e::rest)) (λr s'=>r=.none/\Q (.done (.ret (.ref e))) s') E #[h',g,d,t,os]) (hl:rest.length<=sizeLine):
  R4 (R1 prog w) A (Builtin.«type.__call__» #[.ref C::rest,[]]) Q E #[h,g,d,t,os]:=by
 have F:=PySem.F.excBase_ValueError
 repeat(first|(with_reducible refine Sl hC ?_)|(with_reducible refine wpAny_madeBy_exc hC ?_)|wp_step)
 refine codeAny_call_builtin_code (Code.quiet_builtin _ F.quiet) (wpAny_check_new_subT F T hC (codeAny_exc_new_subT F T hC ?_ hl));have kp:∀b o,h.get? b=be o->((h.push {cls:=.type "tuple",data:=.seq rest.toArray}).push {cls:=.ref C,data:=.fields [.ref h.objs.size,.none,.none,.none,.bool false,.none].toArray}).get? b=be o:=λb o e=>Heap.get?_push_of_some _ (Heap.get?_push_of_some _ e);have Qg:=kp _ _ hC;have X1:K.In _:=X.keeps kp;have he:((h.push {cls:=.type "tuple",data:=.seq rest.toArray}).push {cls:=.ref C,data:=.fields [.ref h.objs.size,.none,.none,.none,.bool false,.none].toArray}).get? (h.objs.size+1)=be {cls:=.ref C,data:=.fields [.ref h.objs.size,.none,.none,.none,.bool false,.none].toArray}:=by heap_get
 have Qh:(Value.ref C::bm).contains (.ref C)=true:=KK
 have L1:=looks_findIn (M:=R1 prog w) X1 hi;have L2:=bind_fn (M:=R1 prog w) X1 (.ref (h.objs.size+1)) hf;show R4 _ _ _ _ _ _;unfold Tb
 repeat(first|(with_reducible refine Sl he ?_)|(with_reducible refine SR Qg ?_;rw[Qh])|wp_step)
 refine L1.at ?_;refine So (Os (L2.at ?_));refine Os (Sf (hq _ (h.objs.size+1) #[kp,Heap.get?_none_of_le (GY _),h.objs.size,he,Heap.get?_none_of_le (FX _),Heap.get?_push_of_some _ (Heap.get?_push_at rfl rfl)]) (λr s' hr=>?_) λ_ _ x=>x);obtain⟨rfl,hQ⟩:=hr;refine RY ?_;exact RY hQ
def xS{Q:KB->KM->Prop}(X:K.In h)(T:OwnTail h veLine bm)(hC:h.get? C=be (Sm nm q C N bs bm hdct sn sub ab col dd k0 k1 k2 k3 k5 "ValueError.__new__"))
  (hi:findIn K (.ref C) "__init__"=be (be (.ref fI))) (hf:typeIn K (.ref fI)=be (.type "function"))
  (hq:∀h' e,Heap.MadeExcOf h h' e (.ref C) rest->R4 (R1 prog w) (A.under (.builtin "type.__call__" #[.ref C::rest,[]])) (call (.ref fI) (.ref e::rest)) (λr s'=>r=.none/\Q (.ref e) s') E #[h',g,d,t,os]) (hl:rest.length<=sizeLine):
  R4 (R1 prog w) A (call (.ref C) rest) Q E #[h,g,d,t,os]:=by
 have f1:=tc_lookup;have f2:=tc_bind (.ref C);have hT:(#[h,g,d,t,os]:KM).TypeIs (.ref C) "type":=#[_,hC,rfl];refine SG (codeAny_of_tree ?_);show R4 _ _ (callAny (.ref C) _) _ _ _
 repeat(any_goals (first|(with_reducible refine Sl hC ?_)|assumption|wp_step))
 exact#[rfl,codeAny_call_builtin_at (Code.quiet_builtin _ Kv) entry_typeCall (wpAny_check_type_call_sub hC (xR X T hC hi hf (λh' e hm=>hq h' e hm) hl))]
end
section
variable {prog:P3}{w:R5}{A:R6}{E:KB->KM->Prop}{s:KM}{env:SU}
variable {nm q:JM}{C N:KF}{bs bm:List KB}{hdct:Bool}{sn:List JM}{sub:List KB}{ab:Bool}{col:Option Bool}{dd:Option KF}{k0 k1 k2 k3 k5:Option KB}{newId:String}
variable{Q:Flow->KM->Prop}
def xT{x:TX KB}(c3:bm.contains (.type "BaseException")=true)(hh:A.handled=G_)
  (h:R4 (R1 prog w) A x (λv s₁=>∃e t od sl,v=.ref e/\s₁.heap.get? C=be (Sm nm q C N bs bm hdct sn sub ab col dd k0 k1 k2 k3 k5 newId)/\
   s₁.heap.get? e=be #[.ref C,od,.fields [.ref t,.none,.none,.none,.bool false,.none].toArray,sl]/\E (.ref e) s₁) E s):
  R4 (R1 prog w) A (raiseStmt env (be x) G_) Q E s:=by
 have M8:(Value.ref C::bm).contains (.type "BaseException")=true:=by rw[H8,c3,HG]
 unfold raiseStmt;refine Os (Sf h (λv s₁ h₁=>?_) λ_ _ x=>x);obtain⟨e,t,od,sl,rfl,hC,he,hE⟩:=h₁;obtain⟨hp,g,d,tk,os⟩:=s₁
 repeat(first|(with_reducible refine Sl he ?_)|(with_reducible refine Sl hC ?_)|(with_reducible refine SR hC ?_;rw[M8])|wp_step)
 exact wpAny_raiseNew_none hh hE
def jP{x:RZ}{pos:Sb}(c3:bm.contains (.type "BaseException")=true)(hh:A.handled=G_)
  (h:R4 (R1 prog w) A (Sa x env) (λv s₁=>∃e t od sl,v=.ref e/\s₁.heap.get? C=be (Sm nm q C N bs bm hdct sn sub ab col dd k0 k1 k2 k3 k5 newId)/\
   s₁.heap.get? e=be #[.ref C,od,.fields [.ref t,.none,.none,.none,.bool false,.none].toArray,sl]/\E (.ref e) s₁) E s):
  R4 (R1 prog w) A (exec (.Raise (be x) G_ pos) env) Q E s:=by
 rw[arm_exec_Raise];show R4 (R1 prog w) A (do SS pos;raiseStmt env (be (do let v <-Sa x env;SS pos;pure v)) G_) Q E s;exact Os (SH (xT c3 hh (Os (Sf h (λv s₁ h₁=>Os (SH (RY h₁))) λ_ _ x=>x))))
end
def ExAt(h:Heap)(e C:KF)(od:Option KF)(T:KF)(fl:KB):Prop:=
 ∃sl vs oT ts,h.get? e=be #[.ref C,od,.fields vs,sl]/\vs[1]?=be (.ref T)/\T≠e/\h.get? T=be oT/\oT.data=.fields ts/\ts[3]?=be fl
structure Stay(fs ex:List KF)(h h':Heap):Prop where
 keep:∀b o,h.get? b=be o->b∉ex->b∉fs->h'.get? b=be o
 slot:∀b o,h.get? b=be o->b∉ex->∃sl,h'.get? b=be {o with slots:=sl}
 there:∀b o,h.get? b=be o->∃o',h'.get? b=be o'
section
variable {M:T6}{A:R6}{E:KB->KM->Prop}{s:KM}{env:SU}{outer:List SU}{base:Heap}{L e C T:KF}{od:Option KF}
variable{Q:Unit->KM->Prop}
def qU{sl:Array (Option KB)}{vs:Array KB}(l_:A.frames=be (env::outer))(hl:s.heap.FunFrames base (env::outer))(hf:env.frame=be L)
  (he:s.heap.get? e=be #[.ref C,od,.fields vs,sl]) (h1:vs[1]?=be .none)
  (h:∀h' T,ExAt h' e C od T (S4 L)->s.heap.objs.size<=T->Stay (frs (env::outer)) [e] s.heap h'->Q () {s with heap:=h'}):R4 M A (S3 (.ref e) env) Q E s:=by
 have k6:1<vs.size:=(HH.mp h1).1;have Ku:e∉(env::outer).filterMap (·.frame):=λhm=>by
  obtain⟨_,o,ho,hnf⟩:=hl.mem hm;rw[he]at ho;injection ho with ho;subst ho;exact hnf vs rfl
 unfold S3;simp only[hf];refine Os (SK he rfl h1 ?_);rw[if_neg Ks];refine Os (Ug l_ hl hf λh₁ hs₁=>Os (T_ λpl c_=>?_));unfold EntryCells.newEntry newFields;refine Os (Sk ?_ (c_.sizeOk5 _ _ _ _ _));have he₁:h₁.get? e=be #[.ref C,od,.fields vs,sl]:=(hs₁.2.1 e Ku).trans he;have fresh:h₁.get? h₁.objs.size=none:=Heap.get?_none_of_le (FX _);generalize Lv:({cls:=.type "traceback",dict:=G_,data:=.fields ([Value.none,.ref L,.none,S4 L,.none]++(if pl.isEmpty then F4 6 Value.none else pl)).toArray}:Sj)=oT;have he₂:=Heap.get?_push_of_some (h:=h₁) oT he₁;have w9:h₁.objs.size≠e:=GO (Heap.lt_size he₁);refine S9 he₂ rfl k6 (h _ h₁.objs.size ?_ ?_ ?_)
 .refine#[sl,vs.setIfInBounds 1 (.ref h₁.objs.size),oT,([Value.none,.ref L,.none,S4 L,.none]++(if pl.isEmpty then F4 6 Value.none else pl)).toArray,?_,by simp[k6],w9,?_,by rw[<-Lv],KK]
  .rw[Heap.get?_update_self _ he₂ rfl];rfl
  .rw[Heap.get?_update_other _ _ (Ne.symm w9)];exact Heap.get?_push_size h₁ (by rw[<-Lv];rfl)
 .exact Hx hs₁.1.symm
 .have kp:∀b o,b≠e->h₁.get? b=be o->((h₁.push oT).update e (Obj.mapFields (·.setIfInBounds 1 (Value.ref h₁.objs.size)))).get? b=be o:=λb o hb z=>by
   rw[Heap.get?_update_other _ _ (Ne.symm hb)];exact Heap.get?_push_of_some _ z
  refine#[λb o q n m=>kp b o (λz=>n (by simp[z])) ((hs₁.2.1 b m).trans q),λb o q n=>?_,λb o q=>?_]
  .obtain⟨v9,z⟩:=hs₁.2.2 b o q;exact#[v9,kp b _ (λz=>n (by simp[z])) z]
  .by_cases hb:b=e
   .subst hb;exact#[_,Heap.get?_update_self _ he₂ rfl]
   .obtain⟨v9,z⟩:=hs₁.2.2 b o q;exact#[_,kp b _ hb z]
def qV(l_:A.frames=be (env::outer))(hl:s.heap.FunFrames base (env::outer))(hf:env.frame=be L)(hx:ExAt s.heap e C od T .none)
  (h:∀h' T',ExAt h' e C od T' (S4 L)->s.heap.objs.size<=T'->Stay (frs (env::outer)) [T,e] s.heap h'->Q () {s with heap:=h'}):R4 M A (S3 (.ref e) env) Q E s:=by
 obtain⟨sl,vs,oT,ts,he,h1,w9,hT,k_,h3⟩:=hx;have k6:1<vs.size:=(HH.mp h1).1;have Mm:3<ts.size:=(HH.mp h3).1;have Ku:e∉(env::outer).filterMap (·.frame):=λhm=>by
  obtain⟨_,o,ho,hnf⟩:=hl.mem hm;rw[he]at ho;injection ho with ho;subst ho;exact hnf vs rfl
 unfold S3;simp only[hf];refine Os (SK he rfl h1 ?_);rw[if_pos (show(Value.ref T !=Value.none)=true from KK)];refine Os (SK hT k_ h3 ?_);rw[if_neg (show¬((Value.none==S4 L)=true)from by simp[S4])];refine Os (S9 hT k_ Mm ?_);have other:∀b,b≠T->(s.heap.update T (Obj.mapFields (·.setIfInBounds 3 Value.none))).get? b=s.heap.get? b:=λb hb=>Heap.get?_update_other _ _ (Ne.symm hb);have nT:∀b o,s.heap.get? b=be o->(∀vs,o.data≠.fields vs)->b≠T:=λb o hb hnf q=>by
  rw[q,hT]at hb;injection hb with hb;subst hb;exact hnf ts k_
 have M9:(s.heap.update T (Obj.mapFields (·.setIfInBounds 3 Value.none))).FunFrames base (env::outer):=hl.of_keeps λb o hb hnf=>#[o,(other b (nT b o hb hnf)).trans hb,rfl];have Qi:∃o',(s.heap.update T (Obj.mapFields (·.setIfInBounds 3 Value.none))).get? T=be o':=#[_,Heap.get?_update_self _ hT (Obj.isFreed_of_fields (Obj.data_mapFields k_ _))];refine Os (Ug l_ M9 hf λh₁ hs₁=>Os (T_ λpl c_=>?_));unfold EntryCells.newEntry newFields;refine Os (Sk ?_ (c_.sizeOk5 _ _ _ _ _));have he₁:h₁.get? e=be #[.ref C,od,.fields vs,sl]:=(hs₁.2.1 e Ku).trans ((other e (Ne.symm w9)).trans he);have fresh:h₁.get? h₁.objs.size=none:=Heap.get?_none_of_le (FX _);generalize Lv:({cls:=.type "traceback",dict:=G_,data:=.fields ([Value.ref T,.ref L,.none,S4 L,.none]++(if pl.isEmpty then F4 6 Value.none else pl)).toArray}:Sj)=M_;have he₂:=Heap.get?_push_of_some (h:=h₁) M_ he₁;have Lw:h₁.objs.size≠e:=GO (Heap.lt_size he₁);refine S9 he₂ rfl k6 (h _ h₁.objs.size ?_ ?_ ?_)
 .refine#[sl,vs.setIfInBounds 1 (.ref h₁.objs.size),M_,([Value.ref T,.ref L,.none,S4 L,.none]++(if pl.isEmpty then F4 6 Value.none else pl)).toArray,?_,by simp[k6],Lw,?_,by rw[<-Lv],KK]
  .rw[Heap.get?_update_self _ he₂ rfl];rfl
  .rw[Heap.get?_update_other _ _ (Ne.symm Lw)];exact Heap.get?_push_size h₁ (by rw[<-Lv];rfl)
 .exact Hx (hs₁.1.trans (Heap.size_after_update _ _ _)).symm
 .have kp:∀b o,b≠e->h₁.get? b=be o->((h₁.push M_).update e (Obj.mapFields (·.setIfInBounds 1 (Value.ref h₁.objs.size)))).get? b=be o:=λb o hb z=>by
   rw[Heap.get?_update_other _ _ (Ne.symm hb)];exact Heap.get?_push_of_some _ z
  refine#[λb o q n m=>kp b o (λz=>n (by simp[z])) ((hs₁.2.1 b m).trans ((other b (λz=>n (by simp[z]))).trans q)),λb o q n=>?_,λb o q=>?_]
  .obtain⟨v9,z⟩:=hs₁.2.2 b o ((other b (λz=>n (by simp[z]))).trans q);exact#[v9,kp b _ (λz=>n (by simp[z])) z]
  .by_cases hb:b=e
   .subst hb;exact#[_,Heap.get?_update_self _ he₂ rfl]
   .have:∃o',(s.heap.update T (Obj.mapFields (·.setIfInBounds 3 Value.none))).get? b=be o':=by
     by_cases hb:b=T
     .rw[hb];exact Qi
     .exact#[o,(other _ hb).trans q]
    obtain⟨o',q'⟩:=this;obtain⟨v9,z⟩:=hs₁.2.2 b o' q';exact#[_,kp b _ hb z]
def flight_none{fl:KB}(hx:ExAt s.heap e C od T fl)(h:∀h',ExAt h' e C od T .none->Stay [] [T] s.heap h'->Q () {s with heap:=h'}):R4 M A (Tj (.ref e) G_) Q E s:=by
 obtain⟨sl,vs,oT,ts,he,h1,w9,hT,k_,h3⟩:=hx;have Mm:3<ts.size:=(HH.mp h3).1;unfold Tj;refine Os (SK he rfl h1 ?_);rw[if_pos (show(Value.ref T !=Value.none)=true from KK)];refine S9 hT k_ Mm (h _ ?_ ?_)
 .exact#[sl,vs,_,_,(Heap.get?_update_other _ _ w9).trans he,h1,w9,Heap.get?_update_self _ hT (Obj.isFreed_of_fields (Obj.data_mapFields k_ _)),Obj.data_mapFields k_ _,by simp[Mm]]
 .have other:∀b o,b∉[T]->s.heap.get? b=be o->(s.heap.update T (Obj.mapFields (·.setIfInBounds 3 ((G_:Option KF).elim Value.none λf=>S4 f)))).get? b=be o:=λb o hb q=>(Heap.get?_update_other _ _ (λz=>hb (by simp[z]))).trans q;refine#[λb o q n _=>other b o n q,λb o q n=>#[o.slots,other b o n q],λb o q=>?_];by_cases hb:b=T
  .subst hb;exact#[_,Heap.get?_update_self _ hT (Obj.isFreed_of_fields (Obj.data_mapFields k_ _))]
  .exact#[o,other b o (by simp[hb]) q]
end
def CX1(P:P3)(w:R5):CXT:=λouter H s E ev s'=>∃e C od T H',ev=.ref e/\s'.os=s.os/\SY s'.gens/\Un (frs outer) [] H H' s.heap s'.heap/\HOk P w H' s'.heap/\ExAt s'.heap e C od T .none/\s.heap.get? e=G_/\s.heap.get? T=G_/\H' e=G_/\H' T=G_/\E (.ref C) od H'
variable{fs ex:List KF}
def fA{P:P3}{w:R5}{H:Hp}{h h':Heap}(x:HOk P w H h)(st:Stay fs ex h h')(hf:∀b∈fs,H b=G_)(he:∀b∈ex,H b=G_):HOk P w H h':=λa o q=>
 (x a o q).stay (λb u hb r=>by
  have hn:H b≠none:=by
   rcases hb with rfl|hb
   .rw[q];exact λz=>nomatch z
   .rw[hb];exact λz=>nomatch z
  exact st.keep b u r (λz=>hn (he b z)) (λz=>hn (hf b z))) (λ_ q=>q) λ_ _ q=>q
def gy{l9:List KF}{H H':Hp}{h h1 h2:Heap}(u:Un fs [] H H' h h1)(st:Stay l9 ex h1 h2)(e8:∀b∈ex,h.get? b=G_)(Mn:∀b∈l9,b∈fs\/h.get? b=G_):Un fs [] H H' h h2 where
 keep:=λb o q n hb hx=>st.keep b o (u.keep b o q n hb hx) (λz=>by rw[e8 b z]at q;cases q) (λz=>(Mn b z).elim hb λy=>by rw[y]at q;cases q)
 slot:=λb o q n hb hx=>by
  obtain⟨sl,e1⟩:=u.slot b o q n hb hx;obtain⟨v9,e2⟩:=st.slot b _ e1 (λz=>by rw[e8 b z]at q;cases q);exact#[v9,e2]
 free:=u.free
 there:=λb o q hx=>by
  obtain⟨o1,e1⟩:=u.there b o q hx;exact st.there b o1 e1
 tups:=u.tups
 frzs:=u.frzs
 tbls:=u.tbls
section
variable {P:P3}{w:R5}{K:Ex}{mg:JM->Option KB}{base:Heap}{N:List JM}{qual:JM}{scope:Sw}{f:KF}{cd:KB}{A:R6}{outer:List SU}{s:KM}{H:Hp}{E E':XK}
def qW{b:KF}(hb:b∈frs (Se qual scope s.heap.objs.size f cd::outer)):b∈frs outer\/s.heap.get? b=none:=by
 unfold frs at hb;rw[Hv]at hb;rcases F5.mp (show b∈s.heap.objs.size::outer.filterMap (·.frame)from hb)with e|e
 .rw[e];exact .inr (Heap.get?_none_of_le (FX _))
 .exact .inl e
def qX{pins:List (KF×Sj)}{σ:L2.St}{H1:Hp}{s1:KM}{e C:KF}{od:Option KF}{sl:Array (Option KB)}{vs:Array KB}(I:Inv (cxOf (CX1 P w) P w K mg base N qual scope f cd A outer s H E') pins σ H1 s1)
  (he:s1.heap.get? e=be #[.ref C,od,.fields vs,sl]) (h1:vs[1]?=be .none) (He:H1 e=G_) (ne:s.heap.get? e=G_) (hE:E' (.ref C) od H1):(cxOf (CX1 P w) P w K mg base N qual scope f cd A outer s H E').xe (.ref e) s1:=by
 show R4 _ _ (TQ _ _) _ _ _;unfold TQ;refine Os (qU I.ok.frames I.stack rfl he h1 λh2 T2 o_ z7 t_=>flight_none (s:={s1 with heap:=h2}) o_ λh3 Lx H_=>?_);have JQ:s1.heap.get? T2=none:=Heap.get?_none_of_le z7;have f1:∀b,s1.heap.get? b=G_->s.heap.get? b=none:=λb q=>by
  cases z:s.heap.get? b with
  |none=>rfl
  |some o=>
   obtain⟨o',z'⟩:=I.base.there b o z (by exact λy=>absurd (show b∈([]:List KF)from y) KK);rw[q]at z';cases z'
 have hok:HOk P w H1 s1.heap:=I.hok;have Ka:H1 T2=none:=hok.fresh z7;have u2:Un (frs outer) [] H H1 s.heap h2:=gy (show Un (frs outer) [] H H1 s.heap s1.heap from I.base) t_ (λb hb=>by rw[FW.mp hb];exact ne) λb hb=>qW hb;have u3:Un (frs outer) [] H H1 s.heap h3:=gy u2 H_ (λb hb=>by rw[FW.mp hb];exact f1 T2 JQ) λb hb=>by cases hb
 have k2:=fA hok t_ (λb hb=>I.stkFree b hb) (λb hb=>by rw[FW.mp hb];exact He);have k3:=fA k2 H_ (λb hb=>by cases hb) (λb hb=>by rw[FW.mp hb];exact Ka);exact#[e,C,od,T2,H1,rfl,I.os,I.bare,u3,k3,Lx,ne,f1 T2 JQ,He,Ka,hE]
end
end Exc
namespace L2
def Same.tup{K:Ex}{H H':Hp}{a:KF}{xs:List V}(e:Same H H')(h:SqT K H a xs):SqT K H' a xs:=by
 rcases h with(h|⟨o,h⟩)|h
 .exact .inl (.inl (e _ _ h))
 .exact .inl (.inr #[o,e _ _ h])
 .exact .inr h
end L2
namespace My
def dW{X:Cx}:fv (Exc.CX1 X.prog X.w) X E0:=λ_ _ _ _ _ _ _ h=>by
 obtain⟨e,C,od,T,H',_,_,_,_,_,_,_,_,_,_,h⟩:=h;exact h.elim
def Fun.okC{P:P3}{w:R5}{K:Ex}{mg:JM->Option KB}{base:Heap}{CX:CXT}{x qual:JM}{st:R3}{f:KF}{fd:R_}{N ps:List JM}{k:Nat}{sp:Sp}{dV:KB}(F:FunG K dV x qual st f fd)(S:FnScope N ps (ag st))(len:∀vs H Q E,sp vs H Q E->vs.length=ps.length)
  (a_:∀(cdv:KB) (A:R6) (outer:List SU) (s:KM) (H:Hp) (vs:List V) (Q:VK) (E:XK),Room k (A.deeper (Se qual (ag st) s.heap.objs.size f cdv))->sp vs H Q E->
   ∃t,PSs (cxOf CX P w K mg base N qual (ag st) f cdv A outer s H E) (aG st) t/\t {nx:=λ_ H'=>Q .non H',rt:=Q} (start N vs) H):FnOk P w K mg base CX (k+1) f fd ps sp:=by
 obtain⟨oc,od,kV,doc,pm,an,cdv,ct,osl,rfl,lk,gV⟩:=F.ex;refine xa lk gV S len λA outer s H vs Q E hr y9=>?_;exact a_ cdv A outer s H vs Q E hr y9
def Cal(P:P3)(w:R5)(K:Ex)(mg:JM->Option KB)(base:Heap)(n:Nat)(x:JM)(ps:List JM)(sp:Sp):Prop:=
 ∃f fd,FnOk P w K mg base (Exc.CX1 P w) n f fd ps sp/\Binds K fd ps []/\keepIn K (.ref f)=true/\mg x=be (.ref f)
def Tx(K:Ex)(mg:JM->Option KB)(x:JM)(st:R3)(ps:List JM):Prop:=
 ∃f fd,Fun K x x st f fd/\Binds K fd ps []/\mg x=be (.ref f)
section
variable {X:Cx}{n m:Nat}{ps:List JM}{sp:Sp}{x:JM}{p pos:Sb}{e:RZ}{es:List RZ}{t:TA}
def xU(C:Cal X.prog X.w X.K X.mg X.base n x ps sp)(hr:Room m X.A)(ha:PA X (e::es) t)(hg:autoParam (Gl X x) zA0)(hn:autoParam (n<=m) zA1)(d7:autoParam (zND x) zA1)
  (he:autoParam (zSE X e es) zA0) (c_:autoParam (zPL X pos es) zA0):
  PE X (.Call (.Name x p) (e::es) [] pos) (qw sp [] E0 t):=by
 obtain⟨f,fd,F,hb,hk,hm⟩:=C;exact wX F (hr.mono hn) hg hm hk hb .nil dW ha d7 he c_
end
def aP{H:Hp}{p:KF}(h:H p=G_)(o:HO):Same H (upd H p o):=λb u q=>by rw[aj (bx q h)];exact q
def sz{n:Nat}(h:n<=1000):n<=sizeLine:=Hu (xH h)
end My
namespace L2
section
variable {X:Cx}
variable{e:RZ}
def PE.anti{t t':TE}(h:PE X e t)(a:∀s H Q,t' s H Q->t s H Q):PE X e t':=λpins s σ H Q I q=>h pins s σ H Q I (a _ _ _ q)
def PT.anti{t t':TT}(h:PT X e t)(a:∀s H Q,t' s H Q->t s H Q):PT X e t':=λpins s σ H Q I q=>h pins s σ H Q I (a _ _ _ q)
def PW.anti{t t':TT}(h:PW X e t)(a:∀s H Q,t' s H Q->t s H Q):PW X e t':=λwh pins s σ H Q I q=>h wh pins s σ H Q I (a _ _ _ q)
def PA.anti{e:List RZ}{t t':TA}(h:PA X e t)(a:∀s H Q,t' s H Q->t s H Q):PA X e t':=λp pins s σ H Q I q=>h p pins s σ H Q I (a _ _ _ q)
def PS.anti{e:R3}{t t':TS}(h:PS X e t)(a:∀E s H,t' E s H->t E s H):PS X e t':=λpins s σ H Q I q=>h pins s σ H Q I (a _ _ _ q)
def PSs.anti{e:List R3}{t t':TS}(h:PSs X e t)(a:∀E s H,t' E s H->t E s H):PSs X e t':=λpins s σ H Q I q=>h pins s σ H Q I (a _ _ _ q)
end
end L2
namespace My
inductive D where
 |non|bl (b:Bool)|int (i:Int)|str (x:Str)|tup (xs:List D)|lst (xs:List D)
  |rol (xs:List D)
  |obj (x:JM) (fs:List (JM×D))
  |exc (x:JM) (fs:List (JM×D))
  |own (xs:List D)
  |ptr (a:KF)
  |dti (b7:List ((Int×Int)×Int))
def dtiV(b7:List ((Int×Int)×Int)):List (List Key×V):=b7.map λe=>([.inl e.1.1,.inl e.1.2],.int e.2)
def XO(e C:KF)(od:Option KF):HO:=.ext λh=>∃vs sl,h.get? e=be #[.ref C,od,.fields vs,sl]
mutual
def Rep(K:Ex)(H:Hp):D->V->Prop
 |.non,v=>v=.non
 |.bl b,v=>v=.bl b
 |.int i,v=>v=.int i
 |.str x,v=>v=.str x
 |.tup ds,v=>∃a vs,v=.ref a/\H a=be (.tup vs)/\Reps K H ds vs
 |.lst ds,v=>∃a vs,v=.ref a/\H a=be (.lst vs)/\Reps K H ds vs
 |.rol ds,v=>∃a vs,v=.ref a/\SqL K H a vs/\Reps K H ds vs
 |.obj x fs,v=>∃a C dx vs,v=.ref a/\nsIn K Pi x=be (be (.ref C))/\H a=be (.ins C dx vs)/\RepF K H fs vs
 |.exc x fs,v=>∃a C od vs,v=.ref a/\nsIn K Pi x=be (be (.ref C))/\H a=be (XO a C od)/\RepF K H fs vs/\((od=G_/\vs=[])\/∃b,od=be b/\H b=be (.xd vs))
 |.own _,_=>False
 |.ptr a,v=>v=.ref a
 |.dti b7,v=>∃a,v=.ref a/\H a=be (.dT (dtiV b7))
def RepF(K:Ex)(H:Hp):List (JM×D)->List (JM×V)->Prop
 |[],vs=>vs=[]
 |(f,d)::ds,vs=>∃v r,vs=(f,v)::r/\Rep K H d v/\RepF K H ds r
def Reps(K:Ex)(H:Hp):List D->List V->Prop
 |[],vs=>vs=[]
 |d::ds,vs=>∃v r,vs=v::r/\Rep K H d v/\Reps K H ds r
end
mutual
def Rep.mono{K:Ex}{H H':Hp}(g:Same H H'):∀(d:D) (v:V),Rep K H d v->Rep K H' d v
 |.non,v,h=>by unfold Rep at h ⊢;exact h
 |.bl b,v,h=>by unfold Rep at h ⊢;exact h
 |.int b,v,h=>by unfold Rep at h ⊢;exact h
 |.str b,v,h=>by unfold Rep at h ⊢;exact h
 |.tup ds,v,h=>by
  unfold Rep at h ⊢;obtain⟨a,vs,e,q,r⟩:=h;exact#[a,vs,e,g _ _ q,Reps.mono g ds vs r]
 |.lst ds,v,h=>by
  unfold Rep at h ⊢;obtain⟨a,vs,e,q,r⟩:=h;exact#[a,vs,e,g _ _ q,Reps.mono g ds vs r]
 |.rol ds,v,h=>by
  unfold Rep at h ⊢;obtain⟨a,vs,e,q,r⟩:=h;exact#[a,vs,e,g.seq q,Reps.mono g ds vs r]
 |.obj C fs,v,h=>by
  unfold Rep at h ⊢;obtain⟨a,C,dx,vs,e,n,q,r⟩:=h;exact#[a,C,dx,vs,e,n,g _ _ q,RepF.mono g fs vs r]
 |.exc C fs,v,h=>by
  unfold Rep at h ⊢;obtain⟨a,C,od,vs,e,n,q,r,d⟩:=h;exact#[a,C,od,vs,e,n,g _ _ q,RepF.mono g fs vs r,d.imp id λ⟨b,h1,h2⟩=>#[b,h1,g _ _ h2]]
 |.own ds,v,h=>by
  unfold Rep at h ⊢;exact h
 |.ptr a,v,h=>by unfold Rep at h ⊢;exact h
 |.dti b7,v,h=>by
  unfold Rep at h ⊢;obtain⟨a,e,q⟩:=h;exact#[a,e,g _ _ q]
def RepF.mono{K:Ex}{H H':Hp}(g:Same H H'):∀(ds:List (JM×D)) (vs:List (JM×V)),RepF K H ds vs->RepF K H' ds vs
 |[],vs,h=>by unfold RepF at h ⊢;exact h
 |(f,d)::ds,vs,h=>by
  unfold RepF at h ⊢;obtain⟨v,r,e,q1,q2⟩:=h;exact#[v,r,e,Rep.mono g d v q1,RepF.mono g ds r q2]
def Reps.mono{K:Ex}{H H':Hp}(g:Same H H'):∀(ds:List D) (vs:List V),Reps K H ds vs->Reps K H' ds vs
 |[],vs,h=>by unfold Reps at h ⊢;exact h
 |d::ds,vs,h=>by
  unfold Reps at h ⊢;obtain⟨v,r,e,q1,q2⟩:=h;exact#[v,r,e,Rep.mono g d v q1,Reps.mono g ds r q2]
end
section
variable {K:Ex}{H:Hp}
variable{v:V}
def rep_non:Rep K H .non v↔v=.non:=by unfold Rep;exact Iff.rfl
def rep_bl{b:Bool}:Rep K H (.bl b) v↔v=.bl b:=by unfold Rep;exact Iff.rfl
def rep_int{i:Int}:Rep K H (.int i) v↔v=.int i:=by unfold Rep;exact Iff.rfl
variable{x:JM}
def rep_str:Rep K H (.str x) v↔v=.str x:=by unfold Rep;exact Iff.rfl
variable{ds:List My.D}
def rep_tupS:Rep K H (.tup ds) v↔∃a vs,v=.ref a/\H a=be (.tup vs)/\Reps K H ds vs:=by
 constructor
 .intro h;unfold Rep at h;exact h
 .intro h;unfold Rep;exact h
def rep_tup_mp(h:Rep K H (.tup ds) v):∃a vs,v=.ref a/\SqT K H a vs/\Reps K H ds vs:=by
 obtain⟨a,vs,e,q,r⟩:=rep_tupS.mp h;exact#[a,vs,e,SqT.of q,r]
def rep_ptr{a:KF}:Rep K H (.ptr a) v↔v=.ref a:=by unfold Rep;exact Iff.rfl
def rep_dti{b7:List ((Int×Int)×Int)}:Rep K H (.dti b7) v↔∃a,v=.ref a/\H a=be (.dT (dtiV b7)):=by
 constructor
 .intro h;unfold Rep at h;exact h
 .intro h;unfold Rep;exact h
def rep_lst:Rep K H (.lst ds) v↔∃a vs,v=.ref a/\H a=be (.lst vs)/\Reps K H ds vs:=by
 constructor
 .intro h;unfold Rep at h;exact h
 .intro h;unfold Rep;exact h
def rep_rol:Rep K H (.rol ds) v↔∃a vs,v=.ref a/\SqL K H a vs/\Reps K H ds vs:=by
 constructor
 .intro h;unfold Rep at h;exact h
 .intro h;unfold Rep;exact h
variable{fs:List (JM×My.D)}
def rep_obj:Rep K H (.obj x fs) v↔∃a C dx vs,v=.ref a/\nsIn K Pi x=be (be (.ref C))/\H a=be (.ins C dx vs)/\RepF K H fs vs:=by
 constructor
 .intro h;unfold Rep at h;exact h
 .intro h;unfold Rep;exact h
def rep_exc:Rep K H (.exc x fs) v↔∃a C od vs,v=.ref a/\nsIn K Pi x=be (be (.ref C))/\H a=be (XO a C od)/\RepF K H fs vs/\((od=G_/\vs=[])\/∃b,od=be b/\H b=be (.xd vs)):=by
 constructor
 .intro h;unfold Rep at h;exact h
 .intro h;unfold Rep;exact h
def rep_own:¬Rep K H (.own ds) v:=by intro h;unfold Rep at h;exact h
variable{vs:List (JM×V)}
def repf_nil:RepF K H [] vs↔vs=[]:=by unfold RepF;exact Iff.rfl
def repf_cons{f:JM}{d:D}{ds:List (JM×D)}:RepF K H ((f,d)::ds) vs↔∃v r,vs=(f,v)::r/\Rep K H d v/\RepF K H ds r:=by
 constructor
 .intro h;unfold RepF at h;exact h
 .intro h;unfold RepF;exact h
def RepF.look{f:JM}{d:D}:∀{fs:List (JM×D)} {vs:List (JM×V)},RepF K H fs vs->fs.lookup f=be d->∃v,vs.lookup f=be v/\Rep K H d v
 |[],_,_,e=>by cases e
 |(g,x)::fs,vs,h,e=>by
  obtain⟨v,r,rfl,h1,h2⟩:=repf_cons.mp h;rw[Gi]at e ⊢;split at e
  .cases e;exact#[v,rfl,h1]
  .exact RepF.look h2 e
def RepF.none{f:JM}:∀{fs:List (JM×D)} {vs:List (JM×V)},RepF K H fs vs->fs.lookup f=Option.none->vs.lookup f=Option.none
 |[],vs,h,_=>by rw[repf_nil.mp h];rfl
 |(g,x)::fs,vs,h,e=>by
  obtain⟨v,r,rfl,h1,h2⟩:=repf_cons.mp h;rw[Gi]at e ⊢;split at e
  .cases e
  .exact RepF.none h2 e
def reps_nil{vs:List V}:Reps K H [] vs↔vs=[]:=by unfold Reps;exact Iff.rfl
def reps_cons{d:D}{vs:List V}:Reps K H (d::ds) vs↔∃v r,vs=v::r/\Rep K H d v/\Reps K H ds r:=by
 constructor
 .intro h;unfold Reps at h;exact h
 .intro h;unfold Reps;exact h
def Reps.length:∀{ds:List D} {vs:List V},Reps K H ds vs->vs.length=ds.length
 |[],vs,h=>by rw[reps_nil.mp h];rfl
 |d::ds,vs,h=>by
  obtain⟨v,r,rfl,_,h2⟩:=reps_cons.mp h;rw[F7,F7,Reps.length h2]
def Reps.get:∀{ds:List D} {vs:List V} {i:Nat} {d:D},Reps K H ds vs->ds[i]?=be d->∃v,vs[i]?=be v/\Rep K H d v
 |[],_,_,_,_,e=>by simp at e
 |x::ds,vs,0,d,h,e=>by
  obtain⟨v,r,rfl,h1,_⟩:=reps_cons.mp h;simp at e;subst e;exact#[v,rfl,h1]
 |x::ds,vs,i+1,d,h,e=>by
  obtain⟨v,r,rfl,_,h2⟩:=reps_cons.mp h;obtain⟨u,q1,q2⟩:=Reps.get (i:=i) h2 (by simpa using e);exact#[u,by simpa using q1,q2]
def Reps.ints:∀{ns:List Int} {vs:List V},Reps K H (ns.map D.int) vs↔vs=ns.map V.int
 |[],vs=>reps_nil
 |n::ns,vs=>by
  rw[Gs,reps_cons,Gs];constructor
  .rintro⟨v,r,rfl,h1,h2⟩;rw[rep_int.mp h1,Reps.ints.mp h2]
  .rintro rfl;exact#[_,_,rfl,rep_int.mpr rfl,Reps.ints.mpr rfl]
end
abbrev SD:=List (Option D)
def gA:D->Bool|.own _=>true|_=>false
structure RepS(K:Ex)(B F H:Hp)(t:SD)(s:L2.St):Prop where
 len:s.length=t.length
 val:∀(i:Nat) d,t[i]?=be (be d)->gA d=false->∃v,s[i]?=be (be v)/\Rep K F d v
 own:∀(i:Nat) ds,t[i]?=be (be (.own ds))->∃a vs,s[i]?=be (be (.ref a))/\H a=be (.lst vs)/\B a=G_/\F a=G_/\Reps K F ds vs
 apart:∀(i j:Nat) di dj a,t[i]?=be (be (.own di))->t[j]?=be (be (.own dj))->s[i]?=be (be (.ref a))->s[j]?=be (be (.ref a))->i=j
structure Grow(F H F' H':Hp):Prop where
 ff:Same F F'
 fh:Same F' H'
 hh:Same H H'
 out:∀b,F b=G_->H b≠G_->F' b=G_
variable{F H:Hp}
def Grow.refl(h:Same F H):Grow F H F H:=#[Same.refl F,h,Same.refl H,λ_ h _=>h]
def Grow.trans{F1 H1 F2 H2:Hp}(g:Grow F H F1 H1)(k:Grow F1 H1 F2 H2):Grow F H F2 H2:=
 ⟨g.ff.trans k.ff,k.fh,g.hh.trans k.hh,λb h1 h2=>k.out b (g.out b h1 h2) (by
  cases e:H b with
  |none=>exact absurd e h2
  |some o=>rw[g.hh b o e];exact λz=>nomatch z)⟩
def Grow.new{p:KF}(h:Same F H)(hp:H p=G_)(o:HO):Grow F H (upd F p o) (upd H p o):=by
 have fp:F p=none:=h.free hp;refine#[aP fp o,λb u e=>?_,aP hp o,λb h1 h2=>?_]
 .by_cases hb:b=p
  .subst hb;rw[av]at e ⊢;exact e
  .rw[aj hb]at e ⊢;exact h b u e
 .by_cases hb:b=p
  .subst hb;exact absurd hp h2
  .rw[aj hb];exact h1
class Jx where
 B:Hp
 F0:Hp
 RX:SD->JM->List (JM×D)->Prop
structure Kept[J:Jx](B F0 F H:Hp):Prop where
 bh:Same B H
 fh:Same F H
 f0:Same F0 F
 out:∀b,F0 b=G_->B b≠G_->F b=G_
 eb:B=J.B
 jf:Same J.F0 F0
 jo:∀b,J.F0 b=G_->B b≠G_->F0 b=G_
variable{B:Hp}
def Kept.kf[J:Jx]{F0:Hp}(k:Kept B F0 F H):Kept B J.F0 F H:=#[k.bh,k.fh,k.jf.trans k.f0,λb h1 h2=>k.out b (k.jo b h1 h2) h2,k.eb,Same.refl _,λ_ h _=>h]
def Kept.grow[Jx]{F0 F' H':Hp}(k:Kept B F0 F H)(g:Grow F H F' H'):Kept B F0 F' H':=
 ⟨k.bh.trans g.hh,g.fh,k.f0.trans g.ff,λb h1 h2=>g.out b (k.out b h1 h2) (by
  cases e:B b with
  |none=>exact absurd e h2
  |some o=>rw[k.bh b o e];exact λz=>nomatch z),k.eb,k.jf,k.jo⟩
section
variable {K:Ex}{B F H F' H':Hp}{t:SD}{s:L2.St}
def RepS.grow(g:Grow F H F' H')(h:RepS K B F H t s):RepS K B F' H' t s where
 len:=h.len
 val:=λi d e no=>let ⟨v,q1,q2⟩:=h.val i d e no;#[v,q1,q2.mono g.ff]
 own:=λi ds e=>by
  obtain⟨a,vs,q1,q2,q3,q4,q5⟩:=h.own i ds e;exact#[a,vs,q1,g.hh a _ q2,q3,g.out a q4 (by rw[q2];exact λz=>nomatch z),q5.mono g.ff]
 apart:=h.apart
variable{i:Nat}
def RepS.set{d:D}{v:V}(h:RepS K B F H t s)(r:Rep K F d v):RepS K B F H (t.set i (be d)) (s.set i (be v)):=by
 have no:gA d=false:=by
  cases d with
  |own ds=>exact absurd r rep_own
  |_=>rfl
 have get:∀{j:Nat} {x:D},(t.set i (be d))[j]?=be (be x)->(j=i/\x=d/\i<t.length)\/(j≠i/\t[j]?=be (be x)):=λ{j x} e=>by
  by_cases hj:i=j
  .subst hj;rw[GZ]at e;simp at e;exact .inl #[rfl,e.2.symm,e.1]
  .rw[Gg hj]at e;exact .inr #[λz=>hj z.symm,e]
 refine#[by rw[GQ,GQ];exact h.len,λj x e nx=>?_,λj ds e=>?_,λj k dj dk a e1 e2 e3 e4=>?_]
 .rcases get e with⟨rfl,rfl,hl⟩|⟨hj,e⟩
  .exact#[v,by rw[GD (by rw[h.len];exact hl)],r]
  .obtain⟨u,q1,q2⟩:=h.val j x e nx;exact#[u,by rw[Gg (λz=>hj z.symm)];exact q1,q2]
 .rcases get e with⟨rfl,rfl,hl⟩|⟨hj,e⟩
  .cases no
  .obtain⟨a,vs,q1,q⟩:=h.own j ds e;exact#[a,vs,by rw[Gg (λz=>hj z.symm)];exact q1,q]
 .rcases get e1 with⟨rfl,rfl,hl⟩|⟨hj,e1⟩
  .cases no
  .rcases get e2 with⟨rfl,rfl,hl⟩|⟨hk,e2⟩
   .cases no
   .rw[Gg (λz=>hj z.symm)]at e3;rw[Gg (λz=>hk z.symm)]at e4;exact h.apart j k dj dk a e1 e2 e3 e4
variable{ds:List My.D}
def RepS.setOwn{a:KF}{vs:List V}(h:RepS K B F H t s)(hB:B a=G_)(hF:F a=G_)(r:Reps K F ds vs)
  (free:∀(j:Nat) dj,j≠i->t[j]?=be (be (.own dj))->s[j]?≠be (be (.ref a))):RepS K B F (upd H a (.lst vs)) (t.set i (be (.own ds))) (s.set i (be (.ref a))):=by
 have get:∀{j:Nat} {x:D},(t.set i (be (.own ds)))[j]?=be (be x)->(j=i/\x=.own ds/\i<t.length)\/(j≠i/\t[j]?=be (be x)):=λ{j x} e=>by
  by_cases hj:i=j
  .subst hj;rw[GZ]at e;simp at e;exact .inl #[rfl,e.2.symm,e.1]
  .rw[Gg hj]at e;exact .inr #[λz=>hj z.symm,e]
 refine#[by rw[GQ,GQ];exact h.len,λj x e nx=>?_,λj dj e=>?_,λj k dj dk b e1 e2 e3 e4=>?_]
 .rcases get e with⟨rfl,rfl,hl⟩|⟨hj,e⟩
  .cases nx
  .obtain⟨u,q1,q2⟩:=h.val j x e nx;exact#[u,by rw[Gg (λz=>hj z.symm)];exact q1,q2]
 .rcases get e with⟨rfl,e,hl⟩|⟨hj,e⟩
  .cases e;exact#[a,vs,by rw[GD (by rw[h.len];exact hl)],av,hB,hF,r]
  .obtain⟨b,us,q1,q2,q⟩:=h.own j dj e;have ne:b≠a:=λz=>free j dj hj e (z ▸ q1);exact#[b,us,by rw[Gg (λz=>hj z.symm)];exact q1,by rw[aj ne];exact q2,q]
 .rcases get e1 with⟨hj,c1,hl⟩|⟨hj,f1⟩
  .rcases get e2 with⟨hk,c2,MQ⟩|⟨hk,f2⟩
   .rw[hj,hk]
   .rw[hj,GD (by rw[h.len];exact hl)]at e3;rw[Gg (λz=>hk z.symm)]at e4;cases e3;exact absurd e4 (free k dk hk f2)
  .rcases get e2 with⟨hk,c2,MQ⟩|⟨hk,f2⟩
   .rw[hk,GD (by rw[h.len];exact MQ)]at e4;rw[Gg (λz=>hj z.symm)]at e3;cases e4;exact absurd e3 (free j dj hj f1)
   .rw[Gg (λz=>hj z.symm)]at e3;rw[Gg (λz=>hk z.symm)]at e4;exact h.apart j k dj dk b f1 f2 e3 e4
def RepS.freeze[Jx]{F0:Hp}(h:RepS K B F H t s)(k:Kept B F0 F H)(e:t[i]?=be (be (.own ds))):∃F',Kept B F0 F' H/\RepS K B F' H (t.set i (be (.lst ds))) s:=by
 obtain⟨a,vs,q1,q2,q3,q4,q5⟩:=h.own i ds e;have hl:i<t.length:=(Gh.mp e).1;have g:Same F (upd F a (.lst vs)):=aP q4 _;have get:∀{j:Nat} {x:D},(t.set i (be (.lst ds)))[j]?=be (be x)->(j=i/\x=.lst ds)\/(j≠i/\t[j]?=be (be x)):=λ{j x} e=>by
  by_cases hj:i=j
  .subst hj;rw[GZ]at e;simp at e;exact .inl #[rfl,e.2.symm]
  .rw[Gg hj]at e;exact .inr #[λz=>hj z.symm,e]
 refine#[upd F a (.lst vs),#[k.bh,λb o z=>?_,k.f0.trans g,λb h1 h2=>?_,k.eb,k.jf,k.jo],#[by rw[GQ];exact h.len,λj x e' nx=>?_,λj dj e'=>?_,λj l dj dl b e1 e2 e3 e4=>?_]]
 .by_cases hb:b=a
  .subst hb;rw[av]at z;cases z;exact q2
  .rw[aj hb]at z;exact k.fh b o z
 .by_cases hb:b=a
  .subst hb;exact absurd q3 h2
  .rw[aj hb];exact k.out b h1 h2
 .rcases get e' with⟨rfl,rfl⟩|⟨hj,e'⟩
  .exact#[.ref a,q1,rep_lst.mpr #[a,vs,rfl,av,q5.mono g]]
  .obtain⟨u,p1,p2⟩:=h.val j x e' nx;exact#[u,p1,p2.mono g]
 .rcases get e' with⟨rfl,c⟩|⟨hj,e'⟩
  .cases c
  .obtain⟨b,us,p1,p2,p3,p4,p5⟩:=h.own j dj e';have ne:b≠a:=λz=>hj (h.apart j i dj ds a e' e (z ▸ p1) q1);exact#[b,us,p1,p2,p3,by rw[aj ne];exact p4,p5.mono g]
 .rcases get e1 with⟨rfl,c⟩|⟨hj,e1⟩
  .cases c
  .rcases get e2 with⟨rfl,c⟩|⟨hk,e2⟩
   .cases c
   .exact h.apart j l dj dl b e1 e2 e3 e4
end
def startD(N:List JM)(ds:List D):SD:=ds.map be++F4 (N.length-ds.length) G_
variable{K:Ex}
def Rep.noown{d:D}{v:V}(r:Rep K F d v):gA d=false:=by
 cases d with
 |own ds=>exact absurd r rep_own
 |_=>rfl
def dq{N:List JM}{ds:List D}{vs:List V}(h:Reps K F ds vs):RepS K B F H (startD N ds) (L2.start N vs):=by
 have hl:=h.length;have get:∀(i:Nat) d,(startD N ds)[i]?=be (be d)->∃v,(L2.start N vs)[i]?=be (be v)/\Rep K F d v:=λi d e=>by
  unfold startD at e;unfold L2.start;by_cases hi:i<ds.length
  .rw[GE (by simpa using hi),Gf]at e;cases q:ds[i]? with
   |none=>rw[q]at e;cases e
   |some x=>
    rw[q]at e;cases e;obtain⟨v,q1,q2⟩:=h.get q;exact#[v,by rw[GE (by simpa[hl]using hi),Gf,q1];rfl,q2]
  .rw[GK (by simpa using hi),Hg]at e;split at e<;>cases e
 refine#[by unfold startD L2.start;simp[hl],λi d e _=>get i d e,λi d e=>?_,λi j di dj a e=>?_]
 .obtain⟨v,_,r⟩:=get i _ e;exact absurd r rep_own
 .obtain⟨v,_,r⟩:=get i _ e;exact absurd r rep_own
abbrev TD:=SD->(D->Prop)->Prop
abbrev TDT:=SD->(Bool->Prop)->Prop
abbrev TDA:=SD->(List D->Prop)->Prop
structure EndsD where
 nx:SD->Prop
 rt:D->Prop
 bk:SD->Prop:=λ_=>False
 ct:SD->Prop:=λ_=>False
abbrev TSD:=EndsD->SD->Prop
def lE(K:Ex)[J:Jx](t:TD):TE:=λs H Q=>∃B F z,Kept B J.F0 F H/\RepS K B F H z s/\∃R:D->Prop,t z R/\∀d v F' H',Grow F H F' H'->R d->Rep K F' d v->Q v H'
def lT(K:Ex)[J:Jx](t:TDT):TT:=λs H Q=>∃B F z,Kept B J.F0 F H/\RepS K B F H z s/\∃R:Bool->Prop,t z R/\∀b F' H',Grow F H F' H'->R b->Q b H'
def lA(K:Ex)[J:Jx](t:TDA):TA:=λs H Q=>∃B F z,Kept B J.F0 F H/\RepS K B F H z s/\∃R:List D->Prop,t z R/\∀ds vs F' H',Grow F H F' H'->R ds->Reps K F' ds vs->Q vs H'
structure EndsOk[Jx](K:Ex)(B F0:Hp)(ED:EndsD)(E:Ends):Prop where
 nx:∀z' s' F' H',Kept B F0 F' H'->ED.nx z'->RepS K B F' H' z' s'->E.nx s' H'
 rt:∀d v F' H',Kept B F0 F' H'->ED.rt d->Rep K F' d v->E.rt v H'
 bk:∀z' s' F' H',Kept B F0 F' H'->ED.bk z'->RepS K B F' H' z' s'->E.bk s' H'
 ct:∀z' s' F' H',Kept B F0 F' H'->ED.ct z'->RepS K B F' H' z' s'->E.ct s' H'
def lS(K:Ex)[Jx](t:TSD):TS:=λE s H=>∃B F0 F z,Kept B F0 F H/\RepS K B F H z s/\∃ED:EndsD,t ED z/\EndsOk K B F0 ED E
abbrev DE(X:Cx)[Jx](e:RZ)(t:TD):Prop:=PE X e (lE X.K t)
abbrev DT(X:Cx)[Jx](e:RZ)(t:TDT):Prop:=PT X e (lT X.K t)
abbrev DW(X:Cx)[Jx](e:RZ)(t:TDT):Prop:=PW X e (lT X.K t)
abbrev DA(X:Cx)[Jx](es:List RZ)(t:TDA):Prop:=PA X es (lA X.K t)
abbrev DS(X:Cx)[Jx](st:R3)(t:TSD):Prop:=PS X st (lS X.K t)
abbrev DSs(X:Cx)[Jx](st:List R3)(t:TSD):Prop:=PSs X st (lS X.K t)
structure WDE(X:Cx)[Jx](e:RZ)(t:TD):Prop where
 out:DE X e t
structure WDT(X:Cx)[Jx](e:RZ)(t:TDT):Prop where
 out:DT X e t
structure WDW(X:Cx)[Jx](e:RZ)(t:TDT):Prop where
 out:DW X e t
structure WDA(X:Cx)[Jx](es:List RZ)(t:TDA):Prop where
 out:DA X es t
structure WDS(X:Cx)[Jx](st:R3)(t:TSD):Prop where
 out:DS X st t
structure WDSs(X:Cx)[Jx](st:List R3)(t:TSD):Prop where
 out:DSs X st t
section
variable {X:Cx}
def okR(R:D->Prop):D->Prop|.own _=>False|d=>R d
def dVar(i:Nat):TD:=λz R=>match z[i]? with|some (be d)=>okR R d|_=>False
def dC(d:D):TD:=λ_ R=>R d
variable{x:JM}
def aa[Jx](i:Nat){pos:Sb}(hN:autoParam (X.N[i]?=be x) zA0)(hv:autoParam (Vis X.env.scope x) zA5)(hd:autoParam (zND x) zA1)
  (gV:autoParam (zNC x) zA1):WDE X (.Name x pos) (dVar i):=⟨(cJ hN hv hd gV).anti λs H Q h=>by
 obtain⟨B,F,z,kf,r,R,h1,h2⟩:=h;have fh:=kf.fh;unfold dVar at h1;split at h1
 .rename_i d e;have no:gA d=false:=by
   cases d with
   |own ds=>exact False.elim h1
   |_=>rfl
  have Qj:R d:=by
   cases d with
   |own ds=>exact False.elim h1
   |_=>exact h1
  obtain⟨v,q1,q2⟩:=r.val i d e no;exact#[v,q1,h2 d v F H (Grow.refl fh) Qj q2]
 .exact h1.elim⟩
variable{e:RZ}{d:My.D}
def de_c[Jx]{v:V}(h:PE X e (tC v))(r:∀H,Rep X.K H d v):DE X e (dC d):=h.anti λs H Q q=>by
 obtain⟨B,F,z,kf,_,R,h1,h2⟩:=q;have fh:=kf.fh;exact h2 d v F H (Grow.refl fh) h1 (r F)
def ae[Jx]{i j pos}:WDE X (.Constant (.int i) j pos) (dC (.int i)):=#[de_c vM λ_=>rep_int.mpr rfl]
def aV[Jx]{b j pos}:WDE X (.Constant (.bool b) j pos) (dC (.bl b)):=#[de_c vN λ_=>rep_bl.mpr rfl]
def cf[Jx]{j pos}:WDE X (.Constant .none j pos) (dC .non):=#[de_c vO λ_=>rep_non.mpr rfl]
def ay[Jx]{x j pos}:WDE X (.Constant (.str x) j pos) (dC (.str x)):=#[de_c pM λ_=>rep_str.mpr rfl]
abbrev RD2:=D->D->(D->Prop)->Prop
def dOp(r:RD2)(ta tb:TD):TD:=λz R=>ta z λx=>tb z λy=>r x y R
def aU(K:Ex)(r:R2)(rd:RD2):Prop:=∀x y u v F H R Q,Same F H->rd x y R->Rep K F x u->Rep K F y v->(∀d w F' H',Grow F H F' H'->R d->Rep K F' d w->Q w H')->r u v H Q
variable{r:R2}{rd:RD2}
def jQ[Jx]{ta tb:TD}(L:aU X.K r rd)(h:PE X e (tOp r (lE X.K ta) (lE X.K tb))):DE X e (dOp rd ta tb):=h.anti λs H Q q=>by
 obtain⟨B,F,z,kf,rs,R,h1,h2⟩:=q;have fh:=kf.fh;refine#[B,F,z,kf,rs,_,h1,λx u F1 H1 g1 hx rx=>?_];refine#[B,F1,z,kf.grow g1,rs.grow g1,_,hx,λy v F2 H2 g2 hy ry=>?_];exact L x y u v F2 H2 R Q g2.fh hy (rx.mono g2.ff) ry λd w F' H' g3=>h2 d w F' H' (g1.trans (g2.trans g3))
variable {a b c:RZ}{ta tb tc:TD}{pos:Sb}
def du[Jx]{op:Tz}(ho:OpR X (Sn op) r)(L:aU X.K r rd)(ha:DE X a ta)(hb:DE X b tb):DE X (.BinOp a op b pos) (dOp rd ta tb):=jQ L (jB ho ha hb)
def jR[Jx]{op:Uo}(ho:OpR X (Sh op) r)(L:aU X.K r rd)(ha:DE X a ta)(hb:DE X b tb)(hm:Ss op b=false):DE X (.Compare a [op] [b] pos) (dOp rd ta tb):=jQ L (wB ho ha hb hm)
def xV[Jx](hr:IxR X r)(L:aU X.K r rd)(ha:DE X a ta)(hb:DE X b tb)(hs:autoParam (dR b) zA6):DE X (.Subscript a b pos) (dOp rd ta tb):=jQ L (pe_ix hr ha hb hs)
def kdI(d:D)(k:Int->Prop):Prop:=match d with|.int i=>k i|_=>False
def kdB(d:D)(k:Bool->Prop):Prop:=match d with|.bl i=>k i|_=>False
def kdS(d:D)(k:JM->Prop):Prop:=match d with|.str i=>k i|_=>False
def kdL(d:D)(k:List D->Prop):Prop:=match d with|.lst i=>k i|_=>False
def kdT(d:D)(k:List D->Prop):Prop:=match d with|.tup i=>k i|_=>False
def kdN(d:D)(p:Prop):Prop:=match d with|.non=>p|_=>False
def kd1(ds:List D)(k:D->Prop):Prop:=match ds with|[x]=>k x|_=>False
def kd2(ds:List D)(k:D->D->Prop):Prop:=match ds with|[x,y]=>k x y|_=>False
def kdI.of{k:Int->Prop}(h:kdI d k):∃i,d=.int i/\k i:=Nd
def kdB.of{k:Bool->Prop}(h:kdB d k):∃i,d=.bl i/\k i:=Nd
def kdS.of{k:JM->Prop}(h:kdS d k):∃i,d=.str i/\k i:=Nd
variable{k:List My.D->Prop}
def kdL.of(h:kdL d k):∃i,d=.lst i/\k i:=Nd
def kdT.of(h:kdT d k):∃i,d=.tup i/\k i:=Nd
def kdP(d:D)(k:KF->Prop):Prop:=match d with|.ptr i=>k i|_=>False
def kdP.of{k:KF->Prop}(h:kdP d k):∃i,d=.ptr i/\k i:=Nd
def kdN.of{p:Prop}(h:kdN d p):d=.non/\p:=by cases d<;>first|exact#[rfl,h]|exact False.elim h
variable{ds:List My.D}
def kd1.of{k:D->Prop}(h:kd1 ds k):∃x,ds=[x]/\k x:=by
 cases ds with
 |nil=>exact False.elim h
 |cons x r=>cases r with
  |nil=>exact#[x,rfl,h]
  |cons=>exact False.elim h
def kd2.of{k:D->D->Prop}(h:kd2 ds k):∃x y,ds=[x,y]/\k x y:=by
 cases ds with
 |nil=>exact False.elim h
 |cons x r=>cases r with
  |nil=>exact False.elim h
  |cons y r=>cases r with
   |nil=>exact#[x,y,rfl,h]
   |cons=>exact False.elim h
def rdI0(f:Int->Int->D):RD2:=λx y R=>kdI x λi=>kdI y λj=>R (f i j)
def rdI1(C:Int->Int->Prop)(f:Int->Int->D):RD2:=λx y R=>kdI x λi=>kdI y λj=>C i j/\R (f i j)
variable{K:Ex}{f:Int->Int->My.D}{g:Int->Int->V}
def gB(k:∀F i j,Rep K F (f i j) (g i j)):aU K (rI0 g) (rdI0 f):=by
 intro x y u v F H R Q fh h rx ry q;replace h:=kdI.of h;obtain⟨i,rfl,h⟩:=h;replace h:=kdI.of h;obtain⟨j,rfl,h⟩:=h;exact#[i,j,rep_int.mp rx,rep_int.mp ry,q _ _ F H (Grow.refl fh) h (k F i j)]
def gC{C:Int->Int->Prop}(k:∀F i j,Rep K F (f i j) (g i j)):aU K (rI C g) (rdI1 C f):=by
 intro x y u v F H R Q fh h rx ry q;replace h:=kdI.of h;obtain⟨i,rfl,h⟩:=h;replace h:=kdI.of h;obtain⟨j,rfl,h⟩:=h;exact#[i,j,rep_int.mp rx,rep_int.mp ry,h.1,q _ _ F H (Grow.refl fh) h.2 (k F i j)]
def gD:RD2:=λx y R=>match x with
 |.int i=>kdI y λj=>R (.int (i+j))
 |.str i=>kdS y λj=>i.length+j.length<=1000000/\R (.str (i++j))
 |.lst xs=>kdL y λys=>xs.length+ys.length<=1000000/\R (.lst (xs++ys))
 |.tup xs=>kdT y λys=>(xs≠[]/\ys≠[]/\xs.length+ys.length<=1000000)/\R (.tup (xs++ys))
 |_=>False
def qY(K:Ex):R2:=λx y H Q=>rI0 (λi j=>.int (i+j)) x y H Q\/((λx y H Q=>∃i j,x=.str i/\y=.str j/\i.length+j.length<=sizeLine/\Q (.str (i++j)) H) x y H Q\/(rCat x y H Q\/qH K x y H Q))
def qZ:OpR X (Sn .Add) (qY X.K):=OpR.or wv (OpR.or wF (OpR.or qO xk))
def Reps.append{K:Ex}{F:Hp}:∀{xs ys:List D} {us vs:List V},Reps K F xs us->Reps K F ys vs->Reps K F (xs++ys) (us++vs)
 |[],ys,us,vs,r1,r2=>by rw[reps_nil.mp r1];exact r2
 |x::xs,ys,us,vs,r1,r2=>by
  obtain⟨u,ur,rfl,a1,a2⟩:=reps_cons.mp r1;exact reps_cons.mpr #[u,ur++vs,rfl,a1,Reps.append a2 r2]
def Reps.ne_nil{F:Hp}{xs:List D}{us:List V}(r:Reps K F xs us)(h:xs≠[]):us≠[]:=by
 cases xs with
 |nil=>exact absurd rfl h
 |cons x xs=>obtain⟨u,ur,rfl,_⟩:=reps_cons.mp r;exact λz=>nomatch z
def ra:aU K (qY K) gD:=by
 intro x y u v F H R Q fh h rx ry q;cases x with
 |int i=>
  replace h:=kdI.of h;obtain⟨j,rfl,h⟩:=h;exact .inl #[_,_,rep_int.mp rx,rep_int.mp ry,q _ _ F H (Grow.refl fh) h (rep_int.mpr rfl)]
 |str i=>
  replace h:=kdS.of h;obtain⟨j,rfl,h⟩:=h;exact .inr (.inl #[_,_,rep_str.mp rx,rep_str.mp ry,Ga h.1 Ks,q _ _ F H (Grow.refl fh) h.2 (rep_str.mpr rfl)])
 |lst xs=>
  replace h:=kdL.of h;obtain⟨ys,rfl,h⟩:=h;obtain⟨a,us,rfl,hq,rr⟩:=rep_lst.mp rx;obtain⟨b,vs,rfl,y8,JR⟩:=rep_lst.mp ry;refine .inr (.inr (.inl #[a,b,us,vs,rfl,rfl,fh _ _ hq,fh _ _ y8,by rw[rr.length,JR.length];exact Ga h.1 Ks,λp hp=>?_]));exact q _ _ _ _ (Grow.new fh hp _) h.2 (rep_lst.mpr #[p,_,rfl,av,(rr.append JR).mono (aP (fh.free hp) _)])
 |tup xs=>
  replace h:=kdT.of h;obtain⟨ys,rfl,h⟩:=h;obtain⟨a,us,rfl,hq,rr⟩:=rep_tup_mp rx;obtain⟨b,vs,rfl,y8,JR⟩:=rep_tup_mp ry;obtain⟨⟨n1,n2,hz⟩,h⟩:=h;refine .inr (.inr (.inr #[a,b,us,vs,rfl,rfl,fh.tup hq,fh.tup y8,rr.ne_nil n1,by rw[rr.length,JR.length];exact Ga hz Ks,λz=>absurd z (JR.ne_nil n2),λ_ p hp=>?_]));exact q _ _ _ _ (Grow.new fh hp _) h (rep_tupS.mpr #[p,_,rfl,av,(rr.append JR).mono (aP (fh.free hp) _)])
 |_=>exact False.elim h
def aB[Jx](ha:WDE X a ta)(hb:WDE X b tb):WDE X (.BinOp a .Add b pos) (dOp gD ta tb):=#[have ha:=ha.out;have hb:=hb.out;du qZ ra ha hb]
def jS:RD2:=rdI0 λi j=>.int (i-j)
def rb:aU K (rI0 λi j=>.int (i-j)) jS:=gB λ_ _ _=>rep_int.mpr rfl
def bL[Jx](ha:WDE X a ta)(hb:WDE X b tb):WDE X (.BinOp a .Sub b pos) (dOp jS ta tb):=#[have ha:=ha.out;have hb:=hb.out;du qa rb ha hb]
def re:RD2:=λx y R=>kdI x λi=>kdI y λj=>CMul i j/\R (.int (i*j))
def xW:aU K (rI CMul λi j=>.int (i*j)) re:=gC λ_ _ _=>rep_int.mpr rfl
def bp[Jx](ha:WDE X a ta)(hb:WDE X b tb):WDE X (.BinOp a .Mult b pos) (dOp re ta tb):=#[have ha:=ha.out;have hb:=hb.out;du qc xW ha hb]
def rg:RD2:=λx y R=>kdI x λi=>kdI y λj=>(0<j/\j<1073741824)/\R (.int (i/j))
def xX:aU K (rI CDiv λi j=>.int (i/j)) rg:=gC λ_ _ _=>rep_int.mpr rfl
def bz[Jx](ha:WDE X a ta)(hb:WDE X b tb):WDE X (.BinOp a .FloorDiv b pos) (dOp rg ta tb):=#[have ha:=ha.out;have hb:=hb.out;du ww xX ha hb]
def rh(i j:Int):Prop:=j≠0/\j.natAbs<4611686018427387904
def xY:OpR X (Sn .FloorDiv) (rI rh λi j=>.int (i.fdiv j)):=opI λ_ j _ _ _ _ _ hc q=>floordiv_int hc.1 q (.inl (PyProof.noPylong_of_log2 (IK ((IM (λz=>hc.1 (Int.natAbs_eq_zero.mp z))).mpr (show j.natAbs<2^62 from hc.2)) Ks)))
def rj:RD2:=λx y R=>kdI x λi=>kdI y λj=>(j≠0/\j.natAbs<4611686018427387904)/\R (.int (i.fdiv j))
def xZ:aU K (rI rh λi j=>.int (i.fdiv j)) rj:=gC λ_ _ _=>rep_int.mpr rfl
def ya[Jx](ha:WDE X a ta)(hb:WDE X b tb):WDE X (.BinOp a .FloorDiv b pos) (dOp rj ta tb):=#[have ha:=ha.out;have hb:=hb.out;du xY xZ ha hb]
def rk:RD2:=λx y R=>kdI x λi=>kdI y λj=>0<j/\R (.int (i%j))
def yb:aU K (rI (λ_ j=>0<j) λi j=>.int (i%j)) rk:=gC λ_ _ _=>rep_int.mpr rfl
def aK[Jx](ha:WDE X a ta)(hb:WDE X b tb):WDE X (.BinOp a .Mod b pos) (dOp rk ta tb):=#[have ha:=ha.out;have hb:=hb.out;du wx yb ha hb]
def rdLt:RD2:=rdI0 λi j=>.bl (decide (i<j))
def rn:aU K (rI0 λi j=>.bl (decide (i<j))) rdLt:=gB λ_ _ _=>rep_bl.mpr rfl
def rdLe:RD2:=rdI0 λi j=>.bl (decide (i<=j))
def yc:aU K (rI0 λi j=>.bl (decide (i<=j))) rdLe:=gB λ_ _ _=>rep_bl.mpr rfl
def yd[Jx](ha:WDE X a ta)(hb:WDE X b tb):WDE X (.Compare a [.LtE] [b] pos) (dOp rdLe ta tb):=#[have ha:=ha.out;have hb:=hb.out;jR wz yc ha hb (nomark _)]
def rdGt:RD2:=rdI0 λi j=>.bl (decide (j<i))
def rq:aU K (rI0 λi j=>.bl (decide (j<i))) rdGt:=gB λ_ _ _=>rep_bl.mpr rfl
def rdEq:RD2:=λx y R=>match x with
 |.int i=>kdI y λj=>R (.bl (decide (i=j)))
 |.bl i=>kdB y λj=>R (.bl (decide (i=j)))
 |.str i=>kdS y λj=>R (.bl (decide (i=j)))
 |.non=>kdN y (R (.bl true))
 |_=>False
def rdNe:RD2:=λx y R=>match x with
 |.int i=>kdI y λj=>R (.bl (!decide (i=j)))
 |.bl i=>kdB y λj=>R (.bl (!decide (i=j)))
 |.str i=>kdS y λj=>R (.bl (!decide (i=j)))
 |.non=>kdN y (R (.bl false))
 |_=>False
def jT:aU K rEq rdEq:=by
 intro x y u v F H R Q fh h rx ry q;cases x with
 |int i=>
  replace h:=kdI.of h;obtain⟨j,rfl,h⟩:=h;rw[rep_int.mp rx,rep_int.mp ry];exact#[rfl,q _ _ F H (Grow.refl fh) h (rep_bl.mpr KK)]
 |bl i=>
  replace h:=kdB.of h;obtain⟨j,rfl,h⟩:=h;rw[rep_bl.mp rx,rep_bl.mp ry];exact#[rfl,q _ _ F H (Grow.refl fh) h (rep_bl.mpr KK)]
 |str i=>
  replace h:=kdS.of h;obtain⟨j,rfl,h⟩:=h;rw[rep_str.mp rx,rep_str.mp ry];exact#[rfl,q _ _ F H (Grow.refl fh) h (rep_bl.mpr KK)]
 |non=>
  replace h:=kdN.of h;obtain⟨rfl,h⟩:=h;rw[rep_non.mp rx,rep_non.mp ry];exact#[rfl,q _ _ F H (Grow.refl fh) h (rep_bl.mpr KK)]
 |_=>exact False.elim h
def rA:aU K rNe rdNe:=by
 intro x y u v F H R Q fh h rx ry q;cases x with
 |int i=>
  replace h:=kdI.of h;obtain⟨j,rfl,h⟩:=h;rw[rep_int.mp rx,rep_int.mp ry];exact#[rfl,q _ _ F H (Grow.refl fh) h (rep_bl.mpr KK)]
 |bl i=>
  replace h:=kdB.of h;obtain⟨j,rfl,h⟩:=h;rw[rep_bl.mp rx,rep_bl.mp ry];exact#[rfl,q _ _ F H (Grow.refl fh) h (rep_bl.mpr KK)]
 |str i=>
  replace h:=kdS.of h;obtain⟨j,rfl,h⟩:=h;rw[rep_str.mp rx,rep_str.mp ry];exact#[rfl,q _ _ F H (Grow.refl fh) h (rep_bl.mpr KK)]
 |non=>
  replace h:=kdN.of h;obtain⟨rfl,h⟩:=h;rw[rep_non.mp rx,rep_non.mp ry];exact#[rfl,q _ _ F H (Grow.refl fh) h (rep_bl.mpr KK)]
 |_=>exact False.elim h
def dX[Jx](ha:WDE X a ta)(hb:WDE X b tb):WDE X (.Compare a [.Eq] [b] pos) (dOp rdEq ta tb):=#[have ha:=ha.out;have hb:=hb.out;jR jC jT ha hb (nomark _)]
def jU:D->Bool|.non=>true|_=>false
def rdIs(f:Bool->Bool):RD2:=λx y R=>kdN y (R (.bl (f (jU x))))
def rB{H:Hp}{x:D}{u:V}(r:Rep K H x u):decide (u=.non)=jU x:=by
 cases x with
 |non=>rw[rep_non.mp r];rfl
 |bl b=>rw[rep_bl.mp r];rfl
 |int b=>rw[rep_int.mp r];rfl
 |str b=>rw[rep_str.mp r];rfl
 |tup b=>obtain⟨a,vs,rfl,_⟩:=rep_tup_mp r;rfl
 |lst b=>obtain⟨a,vs,rfl,_⟩:=rep_lst.mp r;rfl
 |rol b=>obtain⟨a,vs,rfl,_⟩:=rep_rol.mp r;rfl
 |obj C b=>obtain⟨a,C,dx,vs,rfl,_⟩:=rep_obj.mp r;rfl
 |exc C b=>obtain⟨a,C,od,vs,rfl,_⟩:=rep_exc.mp r;rfl
 |own b=>exact absurd r rep_own
 |ptr b=>rw[rep_ptr.mp r];rfl
 |dti b=>obtain⟨a,rfl,_⟩:=rep_dti.mp r;rfl
def rC:aU K (λx y H Q=>y=.non/\Q (.bl (decide (x=.non))) H) (rdIs id):=by
 intro x y u v F H R Q fh h rx ry q;replace h:=kdN.of h;obtain⟨rfl,h⟩:=h;exact#[rep_non.mp ry,q _ _ F H (Grow.refl fh) h (rep_bl.mpr (by rw[rB rx];rfl))]
def ye:aU K (λx y H Q=>y=.non/\Q (.bl (!decide (x=.non))) H) (rdIs not):=by
 intro x y u v F H R Q fh h rx ry q;replace h:=kdN.of h;obtain⟨rfl,h⟩:=h;exact#[rep_non.mp ry,q _ _ F H (Grow.refl fh) h (rep_bl.mpr (by rw[rB rx]))]
def rdIx:RD2:=λx y R=>kdI y λi=>match x with
 |.tup ds=>∃d,atI ds i=be d/\R d
 |.lst ds=>∃d,atI ds i=be d/\R d
 |.rol ds=>∃d,atI ds i=be d/\R d
 |.str x=>∃c,(x.length<=1000000/\atI x.cps.toList i=be c)/\R (.str #[[c].toArray])
 |_=>False
def Reps.at{H:Hp}{vs:List V}{i:Int}(r:Reps K H ds vs)(e:atI ds i=be d):∃v,atI vs i=be v/\Rep K H d v:=by
 unfold atI at e ⊢;rw[r.length];cases q:ixN ds.length i with
 |none=>rw[q]at e;cases e
 |some j=>
  rw[q]at e;exact r.get e
def rD:aU K (rIx K) rdIx:=by
 intro x y u v F H R Q fh h rx ry q;replace h:=kdI.of h;obtain⟨i,rfl,h⟩:=h;cases x with
 |tup ds=>
  obtain⟨d,e,h⟩:=h;obtain⟨a,vs,e1,hq,rs⟩:=rep_tup_mp rx;obtain⟨w,e2,j3⟩:=rs.at e;exact .inr (.inl #[a,vs,_,w,e1,rep_int.mp ry,fh.tup hq,e2,q d w F H (Grow.refl fh) h j3])
 |lst ds=>
  obtain⟨d,e,h⟩:=h;obtain⟨a,vs,e1,hq,rs⟩:=rep_lst.mp rx;obtain⟨w,e2,j3⟩:=rs.at e;exact .inl #[a,vs,_,w,e1,rep_int.mp ry,fh.seq (SqL.of hq),e2,q d w F H (Grow.refl fh) h j3]
 |rol ds=>
  obtain⟨d,e,h⟩:=h;obtain⟨a,vs,e1,hq,rs⟩:=rep_rol.mp rx;obtain⟨w,e2,j3⟩:=rs.at e;exact .inl #[a,vs,_,w,e1,rep_int.mp ry,fh.seq hq,e2,q d w F H (Grow.refl fh) h j3]
 |str x=>
  obtain⟨c,⟨hz,e⟩,h⟩:=h;exact .inr (.inr #[_,_,c,rep_str.mp rx,rep_int.mp ry,Ga hz Ks,e,q _ _ F H (Grow.refl fh) h (rep_str.mpr rfl)])
 |_=>exact False.elim h
def ah[Jx](ha:WDE X a ta)(hb:WDE X b tb)(hs:autoParam (dR b) zA6):WDE X (.Subscript a b pos) (dOp rdIx ta tb):=#[have ha:=ha.out;have hb:=hb.out;xV qJ rD ha hb hs]
def dUn(r:D->(D->Prop)->Prop)(ta:TD):TD:=λz R=>ta z λx=>r x R
def rE:D->(D->Prop)->Prop:=λx R=>match x with|.int i=>R (.int (-i))|_=>False
def cK[Jx](ha:WDE X a ta):WDE X (.UnaryOp .USub a pos) (dUn rE ta):=⟨have ha:=ha.out;(wu wy ha).anti λs H Q h=>by
 obtain⟨B,F,z,kf,rs,R,h1,h2⟩:=h;have fh:=kf.fh;refine#[B,F,z,kf,rs,_,h1,λx u F1 H1 g1 hx rx=>?_];unfold rE at hx;split at hx
 .exact#[_,rep_int.mp rx,h2 _ _ F1 H1 g1 hx (rep_int.mpr rfl)]
 .exact hx.elim⟩
def dNil:TDA:=λ_ R=>R []
def yf(ta:TD)(tr:TDA):TDA:=λz R=>ta z λx=>tr z λxs=>R (x::xs)
def af[Jx]:WDA X [] dNil:=⟨pa_nil.anti λs H Q h=>by
 obtain⟨B,F,z,kf,rs,R,h1,h2⟩:=h;have fh:=kf.fh;exact h2 [] [] F H (Grow.refl fh) h1 (reps_nil.mpr rfl)⟩
variable{es:List RZ}{t:TDA}
def ac[Jx]{te:TD}(ha:WDE X e te)(hr:WDA X es t)(hs:autoParam (zSE X e es) zA0):WDA X (e::es) (yf te t):=⟨have ha:=ha.out;have hr:=hr.out;(bo ha hr hs).anti λs H Q h=>by
 obtain⟨B,F,z,kf,rs,R,h1,h2⟩:=h;have fh:=kf.fh;refine#[B,F,z,kf,rs,_,h1,λx u F1 H1 g1 hx rx=>?_];refine#[B,F1,z,kf.grow g1,rs.grow g1,_,hx,λxs us F2 H2 g2 hy ry=>?_];exact h2 _ _ F2 H2 (g1.trans g2) hy (reps_cons.mpr #[_,_,rfl,rx.mono g2.ff,ry])⟩
def dTup(t:TDA):TD:=λz R=>t z λxs=>xs.length<=1000/\R (.tup xs)
def dLst(t:TDA):TD:=λz R=>t z λxs=>xs.length<=1000/\R (.lst xs)
def aW[Jx]{x1}(h:WDA X es t):WDE X (.Tuple es x1 pos) (dTup t):=⟨have h:=h.out;(qv h).anti λs H Q q=>by
 obtain⟨B,F,z,kf,rs,R,h1,h2⟩:=q;have fh:=kf.fh;refine#[B,F,z,kf,rs,_,h1,λds vs F1 H1 g1 hx rx=>?_];have hl:=rx.length;refine#[sz (by rw[hl];exact hx.1),λp hp=>?_];exact h2 _ _ _ _ (g1.trans (Grow.new g1.fh hp _)) hx.2 (rep_tupS.mpr #[p,vs,rfl,av,rx.mono (aP (g1.fh.free hp) _)])⟩
def cU[Jx](h:WDA X es t):WDE X (.List es pos) (dLst t):=⟨have h:=h.out;(jH h).anti λs H Q q=>by
 obtain⟨B,F,z,kf,rs,R,h1,h2⟩:=q;have fh:=kf.fh;refine#[B,F,z,kf,rs,_,h1,λds vs F1 H1 g1 hx rx=>?_];have hl:=rx.length;refine#[sz (by rw[hl];exact hx.1),λp hp=>?_];exact h2 _ _ _ _ (g1.trans (Grow.new g1.fh hp _)) hx.2 (rep_lst.mpr #[p,vs,rfl,av,rx.mono (aP (g1.fh.free hp) _)])⟩
abbrev SpD:=List D->(D->Prop)->Prop
def lSp(K:Ex)(S:SpD):Sp:=λvs H Q _=>∃F ds,Same F H/\Reps K F ds vs/\∃R:D->Prop,S ds R/\∀d v F' H',Grow F H F' H'->R d->Rep K F' d v->Q v H'
def yg(S:SpD)(t:TDA):TD:=λz R=>t z λds=>S ds R
abbrev CalD(P:P3)(w:R5)(K:Ex)(mg:JM->Option KB)(base:Heap)(n:Nat)(x:JM)(ps:List JM)(S:SpD):Prop:=Cal P w K mg base n x ps (lSp K S)
variable{p:Sb}
def aF[Jx]{n m:Nat}{ps:List JM}{S:SpD}(C:CalD X.prog X.w X.K X.mg X.base n x ps S)(hr:Room m X.A)(ha:WDA X (e::es) t)(hg:autoParam (Gl X x) zA0)(hn:autoParam (n<=m) zA1)(d7:autoParam (zND x) zA1)
  (he:autoParam (zSE X e es) zA0) (c_:autoParam (zPL X pos es) zA0):WDE X (.Call (.Name x p) (e::es) [] pos) (yg S t):=⟨have ha:=ha.out;(xU C hr ha hg hn d7 he c_).anti λs H Q h=>by
 obtain⟨B,F,z,kf,rs,R,h1,h2⟩:=h;have fh:=kf.fh;refine#[B,F,z,kf,rs,_,h1,λds vs F1 H1 g1 hx rx=>?_];exact#[F1,ds,g1.fh,by rw[Gw];exact rx,R,hx,λd v F' H' g=>h2 d v F' H' (g1.trans g)]⟩
abbrev RDn:=List D->(D->Prop)->Prop
def ck(K:Ex)(r:List V->Hp->VK->Prop)(rd:RDn):Prop:=∀ds vs F H R Q,Same F H->rd ds R->Reps K F ds vs->(∀d w F' H',Grow F H F' H'->R d->Rep K F' d w->Q w H')->r vs H Q
def dCB(r:RDn)(t:TDA):TD:=λz R=>t z λds=>r ds R
def gE[Jx]{id:String}{r:List V->Hp->VK->Prop}{rd:RDn}(hc:bE X (.builtin id) r)(L:ck X.K r rd)(hm:X.mg x=G_)(hv:Si x=be (.builtin id))(ha:DA X (e::es) t)(hg:autoParam (Gl X x) zA0)(hn:autoParam (x≠"__name__") zA1)(d7:autoParam (zND x) zA1)
  (he:autoParam (zSE X e es) zA0) (c_:autoParam (zPL X pos es) zA0):DE X (.Call (.Name x p) (e::es) [] pos) (dCB rd t):=(fw hc hg hm hv ha hn d7 he c_).anti λs H Q h=>by
 obtain⟨B,F,z,kf,rs,R,h1,h2⟩:=h;have fh:=kf.fh;refine#[B,F,z,kf,rs,_,h1,λds vs F1 H1 g1 hx rx=>?_];exact L ds vs F1 H1 R Q g1.fh hx rx λd w F' H' g=>h2 d w F' H' (g1.trans g)
def jV:RDn:=λds R=>kd1 ds λx=>match x with
 |.tup xs=>R (.int xs.length)
 |.lst xs=>R (.int xs.length)
 |.rol xs=>R (.int xs.length)
 |.str x=>x.length<=1000000/\R (.int x.length)
 |_=>False
def rF:ck K (λxs H Q=>∃x n,xs=[x]/\LenV K x H n/\Q (.int n) H) jV:=by
 intro ds vs F H R Q fh h rx q;replace h:=kd1.of h;obtain⟨x,rfl,h⟩:=h;obtain⟨v,r,rfl,h1,h2⟩:=reps_cons.mp rx;rw[reps_nil.mp h2];cases x with
 |tup xs=>
  obtain⟨a,us,rfl,hq,rs⟩:=rep_tup_mp h1;exact#[.ref a,us.length,rfl,.inr #[us,fh.tup hq,rfl],q _ _ F H (Grow.refl fh) h (rep_int.mpr (by rw[rs.length]))]
 |lst xs=>
  obtain⟨a,us,rfl,hq,rs⟩:=rep_lst.mp h1;exact#[.ref a,us.length,rfl,.inl #[us,fh.seq (SqL.of hq),rfl],q _ _ F H (Grow.refl fh) h (rep_int.mpr (by rw[rs.length]))]
 |rol xs=>
  obtain⟨a,us,rfl,hq,rs⟩:=rep_rol.mp h1;exact#[.ref a,us.length,rfl,.inl #[us,fh.seq hq,rfl],q _ _ F H (Grow.refl fh) h (rep_int.mpr (by rw[rs.length]))]
 |str x=>
  rw[rep_str.mp h1];exact#[.str _,_,rfl,#[Ga h.1 Ks,rfl],q _ _ F H (Grow.refl fh) h.2 (rep_int.mpr rfl)]
 |_=>exact False.elim h
def cL[Jx](hm:X.mg "len"=G_)(ha:WDA X [e] t)(hg:autoParam (Gl X "len") zA0)(he:autoParam (zSE X e []) zA0):WDE X (.Call (.Name "len" p) [e] [] pos) (dCB jV t):=#[have ha:=ha.out;gE jE rF hm PySem.boot_len ha hg Ks Ks he]
def rG:RDn:=λds R=>kd1 ds λx=>kdI x λi=>R (.int (if i<0 then -i else i))
def yi:ck K (λxs H Q=>∃i,xs=[.int i]/\Q (.int (if i<0 then -i else i)) H) rG:=by
 intro ds vs F H R Q fh h rx q;replace h:=kd1.of h;obtain⟨x,rfl,h⟩:=h;replace h:=kdI.of h;obtain⟨i,rfl,h⟩:=h;obtain⟨v,r,rfl,h1,h2⟩:=reps_cons.mp rx;rw[reps_nil.mp h2,rep_int.mp h1];exact#[_,rfl,q _ _ F H (Grow.refl fh) h (rep_int.mpr rfl)]
def jW[Jx](hm:X.mg "abs"=G_)(ha:WDA X [e] t)(hg:autoParam (Gl X "abs") zA0)(he:autoParam (zSE X e []) zA0):WDE X (.Call (.Name "abs" p) [e] [] pos) (dCB rG t):=#[have ha:=ha.out;gE wG yi hm PyProof.Rows.boot_abs ha hg Ks Ks he]
end
section
variable {X:Cx}{a b c e:RZ}{ta tb tc te:TD}{pos:Sb}
def dTst(t:TD):TDT:=λz R=>t z λx=>match x with|.bl k=>R k|_=>False
def dY[Jx]{op:Uo}{r:R2}{rd:RD2}(ho:OpR X (Sh op) r)(L:aU X.K r rd)(ha:DE X a ta)(hb:DE X b tb)(hm:Ss op b=false):DT X (.Compare a [op] [b] pos) (dTst (dOp rd ta tb)):=(jD ho ha hb hm).anti λs H Q q=>by
 obtain⟨B,F,z,kf,rs,R,h1,h2⟩:=q;have fh:=kf.fh;refine#[B,F,z,kf,rs,_,h1,λx u F1 H1 g1 hx rx=>?_];refine#[B,F1,z,kf.grow g1,rs.grow g1,_,hx,λy v F2 H2 g2 hy ry=>?_];refine L x y u v F2 H2 _ _ g2.fh hy (rx.mono g2.ff) ry λd w F' H' g3 hd rd=>?_;split at hd
 .exact#[_,rep_bl.mp rd,h2 _ F' H' (g1.trans (g2.trans g3)) hd]
 .exact hd.elim
def fB[Jx](ha:WDE X a ta)(hb:WDE X b tb):WDT X (.Compare a [.Lt] [b] pos) (dTst (dOp rdLt ta tb)):=#[have ha:=ha.out;have hb:=hb.out;dY qi rn ha hb (nomark _)]
def dZ[Jx](ha:WDE X a ta)(hb:WDE X b tb):WDT X (.Compare a [.Gt] [b] pos) (dTst (dOp rdGt ta tb)):=#[have ha:=ha.out;have hb:=hb.out;dY qj rq ha hb (nomark _)]
def bM[Jx](ha:WDE X a ta)(hb:WDE X b tb):WDT X (.Compare a [.Eq] [b] pos) (dTst (dOp rdEq ta tb)):=#[have ha:=ha.out;have hb:=hb.out;dY jC jT ha hb (nomark _)]
def cw[Jx](ha:WDE X a ta)(hb:WDE X b tb):WDT X (.Compare a [.NotEq] [b] pos) (dTst (dOp rdNe ta tb)):=#[have ha:=ha.out;have hb:=hb.out;dY qh rA ha hb (nomark _)]
def rH[Jx](ha:WDE X a ta)(hb:WDE X b tb):WDT X (.Compare a [.Is] [b] pos) (dTst (dOp (rdIs id) ta tb)):=#[have ha:=ha.out;have hb:=hb.out;dY qk rC ha hb (nomark _)]
def yj[Jx](ha:WDE X a ta)(hb:WDE X b tb):WDT X (.Compare a [.IsNot] [b] pos) (dTst (dOp (rdIs not) ta tb)):=#[have ha:=ha.out;have hb:=hb.out;dY wA ye ha hb (nomark _)]
def dTru(t:TD):TDT:=λz R=>t z λx=>match x with
 |.non=>R false
 |.bl k=>R k
 |.int i=>R (i !=0)
 |.str y=>y.length<=1000/\R ((y.length:Int) !=0)
 |.tup xs=>R (!xs.isEmpty)
 |.lst xs=>R (!xs.isEmpty)
 |.rol xs=>R (!xs.isEmpty)
 |_=>False
variable{K:Ex}
def Reps.isEmpty{H:Hp}{ds:List D}{vs:List V}(r:Reps K H ds vs):vs.isEmpty=ds.isEmpty:=by
 cases ds with
 |nil=>rw[reps_nil.mp r];rfl
 |cons d ds=>obtain⟨v,r',rfl,_⟩:=reps_cons.mp r;rfl
def cx[Jx](ha:WDE X a ta)(he:autoParam (∀f6,isTrue a X.env f6=(do let v <-f6;SS a.pos;Sv [v] (truthy v))) zA3):WDT X a (dTru ta):=⟨have ha:=ha.out;(ql ha he).anti λs H Q q=>by
 obtain⟨B,F,z,kf,rs,R,h1,h2⟩:=q;have fh:=kf.fh;refine#[B,F,z,kf,rs,_,h1,λx u F1 H1 g1 hx rx=>?_];split at hx
 .rw[rep_non.mp rx];exact#[false,rfl,h2 _ F1 H1 g1 hx]
 .rw[rep_bl.mp rx];exact#[_,rfl,h2 _ F1 H1 g1 hx]
 .rw[rep_int.mp rx];exact#[_,rfl,h2 _ F1 H1 g1 hx]
 .rw[rep_str.mp rx];exact#[_,#[sz hx.1,rfl],h2 _ F1 H1 g1 hx.2]
 .obtain⟨p,vs,rfl,hq,rr⟩:=rep_tup_mp rx;exact#[_,.inr (.inl #[vs,g1.fh.tup hq,by rw[rr.isEmpty]]),h2 _ F1 H1 g1 hx]
 .obtain⟨p,vs,rfl,hq,rr⟩:=rep_lst.mp rx;exact#[_,.inl #[vs,g1.fh.seq (SqL.of hq),by rw[rr.isEmpty]],h2 _ F1 H1 g1 hx]
 .obtain⟨p,vs,rfl,hq,rr⟩:=rep_rol.mp rx;exact#[_,.inl #[vs,g1.fh.seq hq,by rw[rr.isEmpty]],h2 _ F1 H1 g1 hx]
 .exact hx.elim⟩
variable {tA JJ:TDT}{rest:List RZ}
def dAnd(t u:TDT):TDT:=λz R=>t z λc=>if c=true then u z R else R false
def dOr(t u:TDT):TDT:=λz R=>t z λc=>if c=true then R true else u z R
def dNot(t:TDT):TDT:=λz R=>t z λc=>R (!c)
def jX[Jx](ha:WDT X a tA):WDW X (.BoolOp .And [a] pos) tA:=#[have ha:=ha.out;pO ha]
def eA[Jx](ha:WDT X a tA):WDW X (.BoolOp .Or [a] pos) tA:=#[have ha:=ha.out;pP ha]
def jY[Jx](ha:WDT X a tA)(hb:WDW X (.BoolOp .And (b::rest) pos) JJ):WDW X (.BoolOp .And (a::b::rest) pos) (dAnd tA JJ):=⟨have ha:=ha.out;have hb:=hb.out;(pQ ha hb).anti λs H Q q=>by
 obtain⟨B,F,z,kf,rs,R,h1,h2⟩:=q;have fh:=kf.fh;refine#[B,F,z,kf,rs,_,h1,λk F1 H1 g1 hx=>?_];cases k with
 |true=>exact#[B,F1,z,kf.grow g1,rs.grow g1,R,hx,λb F' H' g=>h2 b F' H' (g1.trans g)]
 |false=>exact h2 _ F1 H1 g1 hx⟩
def dv[Jx](ha:WDT X a tA)(hb:WDW X (.BoolOp .Or (b::rest) pos) JJ):WDW X (.BoolOp .Or (a::b::rest) pos) (dOr tA JJ):=⟨have ha:=ha.out;have hb:=hb.out;(pR ha hb).anti λs H Q q=>by
 obtain⟨B,F,z,kf,rs,R,h1,h2⟩:=q;have fh:=kf.fh;refine#[B,F,z,kf,rs,_,h1,λk F1 H1 g1 hx=>?_];cases k with
 |false=>exact#[B,F1,z,kf.grow g1,rs.grow g1,R,hx,λb F' H' g=>h2 b F' H' (g1.trans g)]
 |true=>exact h2 _ F1 H1 g1 hx⟩
def cM[Jx](h:WDW X a tA):WDT X a tA:=#[have h:=h.out;PW.pt h]
def dw[Jx](ha:WDT X a tA):WDT X (.UnaryOp .Not a pos) (dNot tA):=⟨have ha:=ha.out;(pS ha).anti λs H Q q=>by
 obtain⟨B,F,z,kf,rs,R,h1,h2⟩:=q;have fh:=kf.fh;exact#[B,F,z,kf,rs,_,h1,λk F1 H1 g1 hx=>h2 _ F1 H1 g1 hx]⟩
def yk(ta tb:TD):TD:=λz R=>ta z λx=>match x with|.bl k=>if k=true then tb z R else R (.bl false)|_=>False
def dOrV(ta tb:TD):TD:=λz R=>ta z λx=>match x with|.bl k=>if k=true then R (.bl true)else tb z R|_=>False
def yn(ta:TD):TD:=λz R=>ta z λx=>match x with|.bl k=>R (.bl (!k))|_=>False
def fC[Jx]{op}(h:WDE X a ta):WDE X (.BoolOp op [a] pos) ta:=#[have h:=h.out;vS h]
def fD[Jx](ha:WDE X a ta)(hb:WDE X (.BoolOp .And (b::rest) pos) tb):WDE X (.BoolOp .And (a::b::rest) pos) (yk ta tb):=⟨have ha:=ha.out;have hb:=hb.out;(vT ha hb).anti λs H Q q=>by
 obtain⟨B,F,z,kf,rs,R,h1,h2⟩:=q;have fh:=kf.fh;refine#[B,F,z,kf,rs,_,h1,λx u F1 H1 g1 hx rx=>?_];split at hx
 .rename_i k;refine#[k,rep_bl.mp rx,?_];cases k with
  |true=>exact#[B,F1,z,kf.grow g1,rs.grow g1,R,hx,λd v F' H' g=>h2 d v F' H' (g1.trans g)]
  |false=>exact h2 _ _ F1 H1 g1 hx (rep_bl.mpr rfl)
 .exact hx.elim⟩
def yo[Jx](ha:WDE X a ta)(hb:WDE X (.BoolOp .Or (b::rest) pos) tb):WDE X (.BoolOp .Or (a::b::rest) pos) (dOrV ta tb):=⟨have ha:=ha.out;have hb:=hb.out;(vU ha hb).anti λs H Q q=>by
 obtain⟨B,F,z,kf,rs,R,h1,h2⟩:=q;have fh:=kf.fh;refine#[B,F,z,kf,rs,_,h1,λx u F1 H1 g1 hx rx=>?_];split at hx
 .rename_i k;refine#[k,rep_bl.mp rx,?_];cases k with
  |false=>exact#[B,F1,z,kf.grow g1,rs.grow g1,R,hx,λd v F' H' g=>h2 d v F' H' (g1.trans g)]
  |true=>exact h2 _ _ F1 H1 g1 hx (rep_bl.mpr rfl)
 .exact hx.elim⟩
def yp[Jx](ha:WDE X a ta):WDE X (.UnaryOp .Not a pos) (yn ta):=⟨have ha:=ha.out;(vV ha).anti λs H Q q=>by
 obtain⟨B,F,z,kf,rs,R,h1,h2⟩:=q;have fh:=kf.fh;refine#[B,F,z,kf,rs,_,h1,λx u F1 H1 g1 hx rx=>?_];split at hx
 .exact#[_,rep_bl.mp rx,h2 _ _ F1 H1 g1 hx (rep_bl.mpr rfl)]
 .exact hx.elim⟩
def tyD:D->String
 |.non=>"NoneType"|.bl _=>"bool"|.int _=>"int"|.str _=>"str"|.tup _=>"tuple"|.lst _=>"list"|.rol _=>"list"|.obj _ _=>"object"|.exc _ _=>"object"|.own _=>"list"|.ptr _=>"object"|.dti _=>"dict"
def cy(t:String)(x:D):Bool:=tyD x==t||(tyD x=="bool" && t=="int")
def TyQ(K:Ex)(H:Hp)(x:V)(t:String):Prop:=TyOf K H x (.type t)\/(t="tuple"/\∃a xs,x=.ref a/\SqT K H a xs)\/(t="list"/\∃a xs,x=.ref a/\SqL K H a xs)
def rJ:bE X (.builtin "isinstance") (λxs H Q=>∃x t c k,xs=[x,.ty c]/\TyQ X.K H x t/\kitOne X.K (.type t) (.type c)=be k/\Q (.bl k) H):=by
 intro pins s σ H xs us Q I r h;obtain⟨x,t,c,k,rfl,ty,e,q⟩:=h;obtain⟨u,u',rfl,rx,rc⟩:=fu r;cases(show u'=Value.type c from rc);rcases ty with ty|⟨rfl,a,ys,rfl,hq⟩|⟨rfl,a,ys,rfl,hq⟩
 .exact wS I rx ty e λtk=>#[.bl k,H,I.tok _,rfl,q]
 .cases(show u=Value.ref a from rx);obtain⟨its,_,⟨o,h1,h2,_⟩,_⟩:=I.tuple hq;exact kia_one kitx_tuple I.kIn #[o,h1,h2] e (λz=>nomatch z) λtk=>#[.bl k,H,I.tok _,rfl,q]
 .cases(show u=Value.ref a from rx);obtain⟨its,_,pl,_⟩:=I.list hq;obtain⟨o,n,h1,h2,_⟩:=pl;exact kia_one kitx_list I.kIn #[o,h1,h2] e (λz=>nomatch z) λtk=>#[.bl k,H,I.tok _,rfl,q]
def cz:D->Bool|.obj _ _=>false|.exc _ _=>false|.ptr _=>false|.dti _=>false|_=>true
def rK{F H:Hp}{x:D}{u:V}(fh:Same F H)(r:Rep K F x u)(no:cz x=true):TyQ K H u (tyD x):=by
 cases x with
 |non=>rw[rep_non.mp r];exact .inl .non
 |bl b=>rw[rep_bl.mp r];exact .inl (.bl b)
 |int b=>rw[rep_int.mp r];exact .inl (.int b)
 |str b=>rw[rep_str.mp r];exact .inl (.str b)
 |tup b=>obtain⟨a,vs,rfl,hq,_⟩:=rep_tup_mp r;exact .inr (.inl #[rfl,a,vs,rfl,fh.tup hq])
 |lst b=>obtain⟨a,vs,rfl,hq,_⟩:=rep_lst.mp r;exact .inr (.inr #[rfl,a,vs,rfl,fh.seq (SqL.of hq)])
 |rol b=>obtain⟨a,vs,rfl,hq,_⟩:=rep_rol.mp r;exact .inr (.inr #[rfl,a,vs,rfl,fh.seq hq])
 |obj C b=>cases no
 |exc C b=>cases no
 |ptr b=>cases no
 |dti b=>cases no
 |own b=>exact absurd r rep_own
def jZ(t:String):D->(D->Prop)->Prop:=λx R=>match x with|.obj _ _=>False|.exc _ _=>False|.ptr _=>False|.dti _=>False|x=>R (.bl (cy t x))
def dz[Jx]{p p2:Sb}{y:JM}{t:String}(hm:X.mg "isinstance"=G_)(Na:X.mg y=G_)(ha:WDE X a ta)(hv:Si y=be (.type t))
  (hk:∀x:D,cz x=true->kitOne X.K (.type (tyD x)) (.type t)=be (cy t x)) (hg:autoParam (Gl X "isinstance") zA0) (Nb:autoParam (Gl X y) zA0) (hn:autoParam (y≠"__name__") zA1) (d7:autoParam (zND y) zA1)
  (m4:autoParam (R8 [a,.Name y p2] X.env=(false,Sa a X.env)::R8 [.Name y p2] X.env) zA0) (n4:autoParam (R8 [.Name y p2] X.env=(false,Sa (.Name y p2) X.env)::R8 [] X.env) zA0) (c_:autoParam ((SZ pos (R8 [.Name y p2] X.env)).any (·.1)=false) zA0):WDE X (.Call (.Name "isinstance" p) [a,.Name y p2] [] pos) (dUn (jZ t) ta):=⟨have ha:=ha.out;(fw rJ hg hm PyProof.Rows.boot_isinstance (bo ha (bo (pN (v:=.ty t) Nb Na hv rfl hn d7) pa_nil n4) m4) Ks Ks m4 c_).anti λs H Q q=>by
 obtain⟨B,F,z,kf,rs,R,h1,h2⟩:=q;have fh:=kf.fh;refine#[B,F,z,kf,rs,_,h1,λx u F1 H1 g1 hx rx=>?_];have no:cz x=true:=by
  cases x with
  |obj C b=>exact False.elim hx
  |exc C b=>exact False.elim hx
  |ptr b=>exact False.elim hx
  |dti b=>exact False.elim hx
  |_=>rfl
 have ge:R (.bl (cy t x)):=by
  cases x with
  |obj C b=>exact False.elim hx
  |exc C b=>exact False.elim hx
  |ptr b=>exact False.elim hx
  |dti b=>exact False.elim hx
  |_=>exact hx
 exact#[u,tyD x,t,_,rfl,rK g1.fh rx no,hk x no,h2 _ _ F1 H1 g1 ge (rep_bl.mpr rfl)]⟩
def yq:∀x:D,cz x=true->kitOne K (.type (tyD x)) (.type "int")=be (cy "int" x):=Rw
def kit_bool:∀x:D,cz x=true->kitOne K (.type (tyD x)) (.type "bool")=be (cy "bool" x):=Rw
def kit_tuple:∀x:D,cz x=true->kitOne K (.type (tyD x)) (.type "tuple")=be (cy "tuple" x):=Rw
def kit_list:∀x:D,cz x=true->kitOne K (.type (tyD x)) (.type "list")=be (cy "list" x):=Rw
def kit_str:∀x:D,cz x=true->kitOne K (.type (tyD x)) (.type "str")=be (cy "str" x):=Rw
def toV:D->Option V
 |.non=>be .non|.bl b=>be (.bl b)|.int i=>be (.int i)|.str x=>be (.str x)|_=>G_
def bA(d:D):Bool:=(toV d).isSome
def eqF:D->D->Bool
 |.non,.non=>true
 |.bl a,.bl b=>a==b
 |.bl a,.int b=>(if a then 1 else 0)==b
 |.int a,.bl b=>a==(if b then 1 else 0)
 |.int a,.int b=>a==b
 |.str a,.str b=>a==b
 |_,_=>false
def eqFs:List D->List D->Bool
 |[],[]=>true
 |x::xs,y::ys=>eqF x y&&eqFs xs ys
 |_,_=>false
end
section
variable {X:Cx}{a b:RZ}{ta tb:TD}{pos:Sb}
def eqVs:List V->List V->Bool
 |[],[]=>true
 |x::xs,y::ys=>eqV x y&&eqVs xs ys
 |_,_=>false
def rL:∀(xs ys:List V),((FY (min xs.length ys.length)).all (λj=>eqV (xs.getD j .non) (ys.getD j .non))&&xs.length==ys.length)=eqVs xs ys
 |[],[]=>rfl
 |[],_::_=>by simp[eqVs]
 |_::_,[]=>by simp[eqVs]
 |x::xs,y::ys=>by
  have ih:=rL xs ys;rw[eqVs,<-ih];have e:min (x::xs).length (y::ys).length=min xs.length ys.length+1:=by simp only[F7];lia
  rw[e,List.range_succ_eq_map,G6,List.all_map];have e2:((x::xs).length==(y::ys).length)=(xs.length==ys.length):=KK
  rw[e2,Bool.and_assoc];rfl
variable{xs:List V}
def Vals.getD{us:List KB}{j:Nat}(r:Vals xs us)(h:j<us.length):RelV (xs.getD j .non) us[j]:=by
 have hl:=L2.Vals.length r;obtain⟨u,q1,q2⟩:=L2.Vals.get (i:=j) (x:=xs.getD j .non) r (by rw[Gv Ko];simp[GH,Gv (show j<xs.length by lia)]);rw[Gv h]at q1;cases q1;exact q2
def flat_getD{j:Nat}(h:xs.all bF=true):bF (xs.getD j .non)=true:=by
 by_cases hj:j<xs.length
 .have q:=GL.mp h xs[j] (Hk hj);simpa[GH,Gv hj]using q
 .simp[GH,GI (HF hj),bF]
def rEqT(K:Ex):R2:=λx y H Q=>∃a b xs ys,x=.ref a/\y=.ref b/\SqT K H a xs/\SqT K H b ys/\xs.all bF=true/\ys.all bF=true/\Q (.bl (eqVs xs ys)) H
def yr(hu:X.A.units+1<Ta):OpR X (Sh .Eq) (rEqT X.K):=by
 intro pins s σ H x y v u Q I rx ry h;obtain⟨a,b,xs,ys,rfl,rfl,ha,hb,fx,fy,q⟩:=h;cases rx;cases ry;obtain⟨its,r1,p1,_⟩:=I.tuple ha;obtain⟨u8,r2,p2,_⟩:=I.tuple hb;refine SeqAt.eq_tupleAt (e:=λj=>eqV (xs.getD j .non) (ys.getD j .non)) p1 p2 Ko (λj h1 h2=>?_) #[.bl (eqVs xs ys),H,I,?_,q]
 .rw[F9]at h1 h2;simp only[List.getElem_toArray];exact eqAt_V (Vals.getD r1 h1) (Vals.getD r2 h2) (flat_getD fx) (flat_getD fy)
 .rw[<-rL,F9,F9,<-L2.Vals.length r1,<-L2.Vals.length r2];rfl
variable{K:Ex}
def rM{H:Hp}{x y:D}{u v:V}(rx:Rep K H x u)(ry:Rep K H y v)(fx:bA x=true)(fy:bA y=true):eqV u v=eqF x y:=by
 cases x with
 |tup _=>cases fx
 |lst _=>cases fx
 |rol _=>cases fx
 |obj _ _=>cases fx
 |exc _ _=>cases fx
 |ptr _=>cases fx
 |dti _=>cases fx
 |own _=>cases fx
 |non=>rw[rep_non.mp rx];cases y with
  |tup _=>cases fy
  |lst _=>cases fy
  |rol _=>cases fy
  |obj _ _=>cases fy
  |exc _ _=>cases fy
  |ptr _=>cases fy
  |dti _=>cases fy
  |own _=>cases fy
  |non=>rw[rep_non.mp ry];rfl
  |bl _=>rw[rep_bl.mp ry];rfl
  |int _=>rw[rep_int.mp ry];rfl
  |str _=>rw[rep_str.mp ry];rfl
 |bl _=>rw[rep_bl.mp rx];cases y with
  |tup _=>cases fy
  |lst _=>cases fy
  |rol _=>cases fy
  |obj _ _=>cases fy
  |exc _ _=>cases fy
  |ptr _=>cases fy
  |dti _=>cases fy
  |own _=>cases fy
  |non=>rw[rep_non.mp ry];rfl
  |bl _=>rw[rep_bl.mp ry];rfl
  |int _=>rw[rep_int.mp ry];rfl
  |str _=>rw[rep_str.mp ry];rfl
 |int _=>rw[rep_int.mp rx];cases y with
  |tup _=>cases fy
  |lst _=>cases fy
  |rol _=>cases fy
  |obj _ _=>cases fy
  |exc _ _=>cases fy
  |ptr _=>cases fy
  |dti _=>cases fy
  |own _=>cases fy
  |non=>rw[rep_non.mp ry];rfl
  |bl _=>rw[rep_bl.mp ry];rfl
  |int _=>rw[rep_int.mp ry];rfl
  |str _=>rw[rep_str.mp ry];rfl
 |str _=>rw[rep_str.mp rx];cases y with
  |tup _=>cases fy
  |lst _=>cases fy
  |rol _=>cases fy
  |obj _ _=>cases fy
  |exc _ _=>cases fy
  |ptr _=>cases fy
  |dti _=>cases fy
  |own _=>cases fy
  |non=>rw[rep_non.mp ry];rfl
  |bl _=>rw[rep_bl.mp ry];rfl
  |int _=>rw[rep_int.mp ry];rfl
  |str _=>rw[rep_str.mp ry];rfl
def gG{H:Hp}{x:D}{u:V}(rx:Rep K H x u)(fx:bA x=true):bF u=true:=by
 cases x with
 |tup _=>cases fx
 |lst _=>cases fx
 |rol _=>cases fx
 |obj _ _=>cases fx
 |exc _ _=>cases fx
 |ptr _=>cases fx
 |dti _=>cases fx
 |own _=>cases fx
 |non=>rw[rep_non.mp rx];rfl
 |bl _=>rw[rep_bl.mp rx];rfl
 |int _=>rw[rep_int.mp rx];rfl
 |str _=>rw[rep_str.mp rx];rfl
def eB{K:Ex}{H:Hp}:∀{xs:List D} {us:List V},Reps K H xs us->xs.all bA=true->us.all bF=true
 |[],us,r,_=>by rw[reps_nil.mp r];rfl
 |x::xs,us,r,f=>by
  obtain⟨v,vr,rfl,r1,r2⟩:=reps_cons.mp r;rw[G6,Gu]at f ⊢;exact#[gG r1 f.1,eB r2 f.2]
def rN{K:Ex}{H:Hp}:∀{xs ys:List D} {us vs:List V},Reps K H xs us->Reps K H ys vs->xs.all bA=true->ys.all bA=true->eqVs us vs=eqFs xs ys
 |[],[],us,vs,r1,r2,_,_=>by rw[reps_nil.mp r1,reps_nil.mp r2];rfl
 |[],y::ys,us,vs,r1,r2,_,_=>by
  obtain⟨v,vr,rfl,_,_⟩:=reps_cons.mp r2;rw[reps_nil.mp r1];rfl
 |x::xs,[],us,vs,r1,r2,_,_=>by
  obtain⟨v,vr,rfl,_,_⟩:=reps_cons.mp r1;rw[reps_nil.mp r2];rfl
 |x::xs,y::ys,us,vs,r1,r2,f1,f2=>by
  obtain⟨u,ur,rfl,a1,a2⟩:=reps_cons.mp r1;obtain⟨v,vr,rfl,b1,b2⟩:=reps_cons.mp r2;rw[G6,Gu]at f1 f2;rw[eqVs,eqFs,rM a1 b1 f1.1 f2.1,rN a2 b2 f1.2 f2.2]
def rO:RD2:=λx y R=>kdT x λxs=>kdT y λys=>(xs.all bA=true/\ys.all bA=true)/\R (.bl (eqFs xs ys))
def yt:aU K (rEqT K) rO:=by
 intro x y u v F H R Q fh h rx ry q;obtain⟨xs,rfl,h2⟩:=kdT.of h;obtain⟨ys,rfl,⟨f1,f2⟩,h3⟩:=kdT.of h2;obtain⟨a,us,rfl,hq,rr⟩:=rep_tup_mp rx;obtain⟨b,vs,rfl,y8,JR⟩:=rep_tup_mp ry;exact#[a,b,us,vs,rfl,rfl,fh.tup hq,fh.tup y8,eB rr f1,eB JR f2,q _ _ F H (Grow.refl fh) h3 (rep_bl.mpr (by rw[rN rr JR f1 f2]))]
def rP[Jx](hu:X.A.units+1<Ta)(ha:WDE X a ta)(hb:WDE X b tb):WDE X (.Compare a [.Eq] [b] pos) (dOp rO ta tb):=#[have ha:=ha.out;have hb:=hb.out;jR (yr hu) yt ha hb (nomark _)]
end
section
variable {X:Cx}{a b c e:RZ}{ta tb tc te:TD}{pos:Sb}{st:R3}{rest:List R3}{t u:TSD}
def yu:TSD:=λE z=>E.nx z
def dSeq(t u:TSD):TSD:=λE z=>t {E with nx:=u E} z
def bN[Jx]:WDSs X [] yu:=⟨pss_nil.anti λE s H q=>by
 obtain⟨B,F0,F,z,k,rs,ED,h,e⟩:=q;exact e.nx z s F H k h rs⟩
def aq[Jx](h1:WDS X st t)(h2:WDSs X rest u):WDSs X (st::rest) (dSeq t u):=⟨have h1:=h1.out;have h2:=h2.out;(dO h1 h2).anti λE s H q=>by
 obtain⟨B,F0,F,z,k,rs,ED,h,e⟩:=q;exact#[B,F0,F,z,k,rs,{ED with nx:=u ED},h,#[λz' s' F' H' k' hz r'=>#[B,F0,F',z',k',r',ED,hz,e],e.rt,e.bk,e.ct]]⟩
def az[Jx](h1:WDS X st t):WDSs X [st] t:=#[have h1:=h1.out;pT h1]
def dFrz(i:Nat)(t:TSD):TSD:=λE z=>match z[i]? with|some (be (.own ds))=>t E (z.set i (be (.lst ds)))|_=>False
def fE[Jx](i:Nat){Ly:List R3}(h:WDSs X Ly t):WDSs X Ly (dFrz i t):=⟨have h:=h.out;PSs.anti h λE s H q=>by
 obtain⟨B,F0,F,z,k,rs,ED,h,e⟩:=q;unfold dFrz at h;split at h
 .rename_i ds ez;obtain⟨F',k',r'⟩:=rs.freeze k ez;exact#[B,F0,F',_,k',r',ED,h,e]
 .exact h.elim⟩
def dRet(te:TD):TSD:=λE z=>te z E.rt
def aM[Jx](he:WDE X e te):WDS X (.Return (be e) pos) (dRet te):=⟨have he:=he.out;(pU he).anti λE s H q=>by
 obtain⟨B,F0,F,z,k,rs,ED,h,e⟩:=q;exact#[B,F,z,k.kf,rs,_,h,λd v F' H' g hd rd=>e.rt d v F' H' (k.grow g) hd rd]⟩
def yw(te:TD):TSD:=λE z=>te z λ_=>E.nx z
def rQ[Jx](he:WDE X e te)(hs:autoParam (Sg e G_ pos.line X.env=pure false) zA0):WDS X (.Expr e pos) (yw te):=⟨have he:=he.out;(jx he hs).anti λE s H q=>by
 obtain⟨B,F0,F,z,k,rs,ED,h,e⟩:=q;exact#[B,F,z,k.kf,rs,_,h,λd v F' H' g hd rd=>e.nx z s F' H' (k.grow g) hd (rs.grow g)]⟩
def dIfS(c:TDT)(t u:TSD):TSD:=λE z=>c z λb=>if b=true then t E z else u E z
variable{l r:List R3}
def rR[Jx]{c:RZ}{tc:TDT}(hc:DT X c tc)(ha:DSs X l t)(hb:DSs X r u):DS X (.If c l r pos) (dIfS tc t u):=(pV hc ha hb).anti λE s H q=>by
 obtain⟨B,F0,F,z,k,rs,ED,h,e⟩:=q;refine#[B,F,z,k.kf,rs,_,h,λb F1 H1 g hk=>?_];cases b with
 |true=>exact#[B,F0,F1,z,k.grow g,rs.grow g,ED,hk,e]
 |false=>exact#[B,F0,F1,z,k.grow g,rs.grow g,ED,hk,e]
def dIfJ(c:TDT)(t u:TSD):TSD:=λE z=>∃J:SD->Prop,(c z λb=>if b=true then t {E with nx:=J} z else u {E with nx:=J} z)/\∀z',J z'->E.nx z'
def gH[Jx]{c:RZ}{tc:TDT}(hc:WDT X c tc)(ha:WDSs X l t)(hb:WDSs X r u):WDS X (.If c l r pos) (dIfJ tc t u):=⟨have hc:=hc.out;have ha:=ha.out;have hb:=hb.out;(rR hc ha hb).anti λE s H q=>by
 obtain⟨B,F0,F,z,k,rs,ED,⟨J,h,j⟩,e⟩:=q;exact#[B,F0,F,z,k,rs,{ED with nx:=J},h,#[λz' s' F' H' k' hz r'=>e.nx z' s' F' H' k' (j z' hz) r',e.rt,e.bk,e.ct]]⟩
def dSet(i:Nat)(te:TD):TSD:=λE z=>∃P:D->Prop,te z P/\∀d,P d->E.nx (z.set i (be d))
variable{x:JM}
def aC[Jx](i:Nat){d4:Sb}(hN:X.N.Nodup)(he:WDE X e te)(hi:autoParam (X.N[i]?=be x) zA0)(hx:autoParam (Loc X.env.scope x) zA4)(hs:autoParam (Sg e (be (.Name x d4)) pos.line X.env=pure false) zA0)
  (hf:autoParam (zFN X x) zA2):WDS X (.Assign [.Name x d4] e pos) (dSet i te):=⟨have he:=he.out;(jy hN hi hx he hs hf).anti λE s H q=>by
 obtain⟨B,F0,F,z,k,rs,ED,⟨P,h,j⟩,e⟩:=q;exact#[B,F,z,k.kf,rs,P,h,λd v F' H' g hd rd=>e.nx _ _ F' H' (k.grow g) (j d hd) ((rs.grow g).set rd)]⟩
def dNew(i:Nat)(ta:TDA):TSD:=λE z=>ta z λds=>ds.length<=1000/\E.nx (z.set i (be (.own ds)))
variable{es:List RZ}
def kd[Jx](i:Nat){d4 p2:Sb}{ta:TDA}(hN:X.N.Nodup)(he:WDA X es ta)(hi:autoParam (X.N[i]?=be x) zA0)(hx:autoParam (Loc X.env.scope x) zA4)(hs:autoParam (Sg (.List es p2) (be (.Name x d4)) pos.line X.env=pure false) zA0)
  (hf:autoParam (zFN X x) zA2):WDS X (.Assign [.Name x d4] (.List es p2) pos) (dNew i ta):=⟨have he:=he.out;(jy hN hi hx (jH he) hs hf).anti λE s H q=>by
 obtain⟨B,F0,F,z,k,rs,ED,h,e⟩:=q;refine#[B,F,z,k.kf,rs,_,h,λds vs F1 H1 g hd rd=>?_];have hl:=rd.length;refine#[sz (by rw[hl];exact hd.1),λp hp=>?_];have k1:=k.grow g;have r1:=rs.grow g;have hB:B p=none:=k1.bh.free hp;have hF:F1 p=none:=k1.fh.free hp;refine e.nx _ _ F1 _ #[k1.bh.trans (aP hp _),k1.fh.trans (aP hp _),k1.f0,k1.out,k1.eb,k1.jf,k1.jo] hd.2 (r1.setOwn hB hF rd λj dj hj e1 e2=>?_);obtain⟨a,us,q1,q2,_⟩:=r1.own j dj e1;rw[e2]at q1;cases q1;rw[hp]at q2;cases q2⟩
def dApp(i:Nat)(te:TD):TSD:=λE z=>match z[i]? with|some (be (.own ds))=>(te z λd=>ds.length<=100000/\E.nx (z.set i (be (.own (ds++[d])))))|_=>False
def eD{K:Ex}{F:Hp}{d:D}{v:V}(r:Rep K F d v):Reps K F [d] [v]:=reps_cons.mpr #[v,[],rfl,r,reps_nil.mpr rfl]
def ke[Jx](i:Nat){p1 b9 a9:Sb}(he:WDE X e te)(hN:autoParam (X.N[i]?=be x) zA0)(hv:autoParam (Vis X.env.scope x) zA5)(hd:autoParam (zND x) zA1)
  (gV:autoParam (zNC x) zA1) (m4:autoParam (zSE X e []) zA0)
  (c3:autoParam (R9 (.Name x p1) "append" X.env (Sa (.Name x p1) X.env)=Sa (.Name x p1) X.env) zA0)
  (d_:autoParam (zHF X a9 [e]) zA0)
  (c8:autoParam ((b9.endLine==a9.line)=true) zA0) (Kb:autoParam (Sg (.Call (.Attribute (.Name x p1) "append" b9) [e] [] a9) G_ pos.line X.env=pure false) zA0):WDS X (.Expr (.Call (.Attribute (.Name x p1) "append" b9) [e] [] a9) pos) (dApp i te):=⟨have he:=he.out;(jx (dS PySem.F.plainAttrs_list PySem.F.slot_list_append PySem.F.type_list_append jL (cJ hN hv hd gV) (bo he pa_nil m4) c3 d_ c8 m4) Kb).anti λE s H q=>by
 obtain⟨B,F0,F,z,k,rs,ED,h,e⟩:=q;unfold dApp at h;split at h
 .rename_i ds ez;obtain⟨a,vs,q1,q2,q3,q4,q5⟩:=rs.own i ds ez;refine#[.ref a,q1,.inl #[rfl,vs,SqL.of q2],?_];refine#[B,F,z,k.kf,rs,_,h,λd v F1 H1 g hd rd=>?_];have k1:=k.grow g;have r1:=rs.grow g;have a1:H1 a=be (.lst vs):=g.hh a _ q2;have f1:F1 a=none:=g.out a q4 (by rw[q2];exact λz=>nomatch z);have hl:vs.length=ds.length:=q5.length;have hz:vs.length<sizeLine:=by
   have h1:ds.length<=100000:=hd.1;have h2:(100000:Nat)<sizeLine:=Ks
   lia
  refine#[a,vs,v,rfl,rfl,a1,hz,?_];have same:∀{G:Hp},G a=G_->Same G H1->Same G (upd H1 a (.lst (vs++[v]))):=λ{G} ga gs b o eb=>by
   have ne:b≠a:=λz=>by rw[z,ga]at eb;cases eb
   rw[aj ne];exact gs b o eb
  have r2:=r1.setOwn (i:=i) (a:=a) (vs:=vs++[v]) (ds:=ds++[d]) q3 f1 ((q5.mono g.ff).append (eD rd)) (λj dj hj e1 e2=>hj (rs.apart j i dj ds a e1 ez e2 q1));have es:s.set i (be (.ref a))=s:=by
   apply G0;intro n;by_cases hn:i=n
   .subst hn;rw[GD (Gh.mp q1).1,q1]
   .rw[Gg hn]
  rw[es]at r2;exact e.nx _ s F1 _ #[same q3 k1.bh,same f1 k1.fh,k1.f0,k1.out,k1.eb,k1.jf,k1.jo] hd.2 r2
 .exact h.elim⟩
def bO:List Nat->List D->SD->SD
 |i::is,d::ds,z=>bO is ds (z.set i (be d))
 |_,_,z=>z
def DGs(X:Cx)(ts:List RZ)(is:List Nat):Prop:=∃u:TGs,PGs X ts u/\∀(ds:List D) (vs:List V) (z:SD) (s:L2.St) (B F H:Hp) (Q:L2.St->Hp->Prop),ds.length=is.length->Reps X.K F ds vs->RepS X.K B F H z s->(∀s',RepS X.K B F H (bO is ds z) s'->Q s' H)->u vs s H Q
def cN[Jx]:DGs X [] []:=⟨_,wb,λds vs z s B F H Q hl r rs q=>by
 cases ds with
 |nil=>exact#[reps_nil.mp r,q s rs]
 |cons _ _=>cases hl⟩
variable{p:Sb}{is:List Nat}
def dg_cons[Jx](i:Nat)(hN:X.N.Nodup)(h2:DGs X es is)(hi:autoParam (X.N[i]?=be x) zA0)(hx:autoParam (Loc X.env.scope x) zA4)(hf:autoParam (zFN X x) zA2)
  (hs:autoParam ((R7 (.Name x p::es) X.env).map (·.2)=SB (.Name x p) X.env::(R7 es X.env).map (·.2)) zA0):DGs X (.Name x p::es) (i::is):=by
 obtain⟨u,hu,k⟩:=h2;refine#[_,wc (dP hN hi hx hf) hu hs,λds vs z s B F H Q hl r rs q=>?_];cases ds with
 |nil=>cases hl
 |cons d ds=>
  obtain⟨v,vr,rfl,r1,r2⟩:=reps_cons.mp r;exact#[v,vr,rfl,k ds vr _ _ B F H Q (Nat.succ.inj hl) r2 (rs.set r1) q]
def yx(is:List Nat)(te:TD):TSD:=λE z=>te z λx=>match x with|.tup ds=>ds.length=is.length/\E.nx (bO is ds z)|_=>False
def yy[Jx]{k:Nat}(hc:X.calm=true)(he:WDE X e te)(hg:DGs X es is)(hn:autoParam ((R7 es X.env).length=is.length) zA0)(j8:autoParam ((R7 es X.env).findIdx? (·.1)=none) zA0)
  (hs:autoParam (SI [.Tuple es k p] e pos.line X.env=pure false) zA0) (hw:autoParam (SJ [.Tuple es k p] e X.env=pure none) zA0) (h1:autoParam ((R7 [.Tuple es k p] X.env).map (·.2)=[SB (.Tuple es k p) X.env]) zA0):WDS X (.Assign [.Tuple es k p] e pos) (yx is te):=⟨by
 have he:=he.out;obtain⟨u,hu,kk⟩:=hg;refine(ft he (fq hc hu hn j8) hs hw h1).anti λE s H q=>?_;obtain⟨B,F0,F,z,k,rs,ED,h,e⟩:=q;refine#[B,F,z,k.kf,rs,_,h,λd v F' H' g hd rd=>?_];split at hd
 .obtain⟨p,vs,rfl,hq,rr⟩:=rep_tup_mp rd;exact#[p,vs,rfl,g.fh.tup hq,by rw[rr.length];exact hd.1,kk _ vs z s B F' H' _ hd.1 rr (rs.grow g) λs' r'=>e.nx _ _ F' H' (k.grow g) hd.2 r']
 .exact hd.elim⟩
def yz(c:TDT)(tb:TSD):TSD:=λE z=>∃W:Nat->SD->Prop,(∃m,W m z)/\∀m z,W m z->
 c z λb=>if b=true then tb {E with nx:=λz'=>∃m',m'<m/\W m' z',ct:=λz'=>∃m',m'<m/\W m' z',bk:=E.nx} z else E.nx z
variable{body:List R3}
def rS[Jx]{c:RZ}{tc:TDT}{tb:TSD}(hp:Sq (R1 X.prog X.w) X.A X.env X.xe)(hc:WDT X c tc)(hb:WDSs X body tb):WDS X (.While c body [] pos) (yz tc tb):=⟨have hc:=hc.out;have hb:=hb.out;(pW hp hc hb).anti λE s H q=>by
 obtain⟨B,F0,F,z,k,rs,ED,⟨W,⟨m0,w0⟩,d3⟩,e⟩:=q;refine#[λm s' H'=>∃F' z',Kept B F0 F' H'/\RepS X.K B F' H' z' s'/\W m z',#[m0,F,z,k,rs,w0],?_];rintro m s1 H1⟨F1,z1,k1,r1,w1⟩;refine#[B,F1,z1,k1.kf,r1,_,d3 m z1 w1,λb F2 H2 g2 hk=>?_];cases b with
 |true=>
  refine#[λs3 H3=>∃F3 z3,Kept B F0 F3 H3/\RepS X.K B F3 H3 z3 s3/\∃m',m'<m/\W m' z3,λs3 H3 ⟨F3,z3,k3,r3,m',l,w3⟩=>#[m',l,F3,z3,k3,r3,w3],?_];exact#[B,F0,F2,z1,k1.grow g2,r1.grow g2,_,hk,#[λz3 s3 F3 H3 k3 h3 r3=>#[F3,z3,k3,r3,h3],e.rt,e.nx,λz3 s3 F3 H3 k3 h3 r3=>#[F3,z3,k3,r3,h3]]]
 |false=>exact e.nx z1 s1 F2 H2 (k1.grow g2) hk (r1.grow g2)⟩
abbrev TDI:=SD->(List D->Prop)->Prop
def dItL(t:TD):TDI:=λz R=>t z λx=>match x with|.lst ds=>R ds|.rol ds=>R ds|_=>False
def dItR(t:TD):TDI:=λz R=>t z λx=>match x with|.int n=>(0<=n/\n<2^62)/\R ((FY n.toNat).map λk=>D.int ((k:Nat):Int))|_=>False
def dFor(i:Nat)(ti:TDI)(tb:TSD):TSD:=λE z=>ti z λds=>∃W:Nat->SD->Prop,W 0 z/\(∀k x z,ds[k]?=be x->W k z->tb {E with nx:=W (k+1),ct:=W (k+1),bk:=E.nx} (z.set i (be x)))/\∀z,W ds.length z->E.nx z
def Reps.get'{K:Ex}{H:Hp}{ds:List D}{vs:List V}{k:Nat}{v:V}(r:Reps K H ds vs)(e:vs[k]?=be v):∃d,ds[k]?=be d/\Rep K H d v:=by
 have hk:k<ds.length:=by rw[<-r.length];exact(Gh.mp e).1
 obtain⟨u,q1,q2⟩:=r.get (Gv hk);rw[e]at q1;cases q1;exact#[_,Gv hk,q2]
def yB[Jx](i:Nat){tb:TSD}(hp:Sq (R1 X.prog X.w) X.A X.env X.xe)(hc:X.calm=true)(hN:X.N.Nodup)(he:WDE X e te)(hb:WDSs X body tb)(hi:autoParam (X.N[i]?=be x) zA0)(hx:autoParam (Loc X.env.scope x) zA4)
  (hf:autoParam (zFN X x) zA2) (hs:autoParam (∀y,zFS X e y) zA3):WDS X (.For (.Name x p) e body [] pos) (dFor i (dItL te) tb):=⟨have he:=he.out;have hb:=hb.out;(cS hp hc (wp he) (dP hN hi hx hf) hb hs).anti λE s H q=>by
 obtain⟨B,F0,F,z,kp,rs,ED,h,e⟩:=q;refine#[B,F,z,kp.kf,rs,_,h,λd v F1 H1 g1 hd rd=>?_];split at hd
 .obtain⟨p,vs,rfl,hq,rr⟩:=rep_lst.mp rd;obtain⟨W,w0,d3,out⟩:=hd;refine#[p,rfl,#[vs,g1.fh.seq (SqL.of hq)],pZ (K:=X.K) (a:=p) (xs:=vs) (λk s' H'=>∃F' z',Kept B F0 F' H'/\Same F1 F'/\RepS X.K B F' H' z' s'/\W k z') #[F1,z,kp.grow g1,Same.refl F1,rs.grow g1,w0] (λk s' H' _ ⟨F',z',k',g',r',w'⟩=>k'.fh.seq (g'.seq (SqL.of hq))) ?_ ?_]
  .rintro k y s' H' hk⟨F',z',k',g',r',w'⟩;obtain⟨d,hd,ry⟩:=rr.get' hk;refine#[B,F',F',_,#[k'.bh,k'.fh,Same.refl F',λb h1 _=>h1,k'.eb,k'.jf.trans k'.f0,λb h1 h2=>k'.out b (k'.jo b h1 h2) h2],r'.set (ry.mono g'),_,d3 k d z' hd w',?_];have up:∀{F2 H2:Hp},Kept B F' F2 H2->Kept B F0 F2 H2:=λk2=>#[k2.bh,k2.fh,k'.f0.trans k2.f0,λb h1 h2=>k2.out b (k'.out b h1 h2) h2,k'.eb,k'.jf,k'.jo];exact#[λz3 s3 F3 H3 k3 h3 r3=>#[F3,z3,up k3,g'.trans k3.f0,r3,h3],λd v F3 H3 k3=>e.rt d v F3 H3 (up k3),λz3 s3 F3 H3 k3=>e.nx z3 s3 F3 H3 (up k3),λz3 s3 F3 H3 k3 h3 r3=>#[F3,z3,up k3,g'.trans k3.f0,r3,h3]]
  .rintro s' H'⟨F',z',k',g',r',w'⟩;exact e.nx z' s' F' H' k' (out z' (by rw[<-rr.length];exact w')) r'
 .obtain⟨p,vs,rfl,hq,rr⟩:=rep_rol.mp rd;obtain⟨W,w0,d3,out⟩:=hd;refine#[p,rfl,#[vs,g1.fh.seq hq],pZ (K:=X.K) (a:=p) (xs:=vs) (λk s' H'=>∃F' z',Kept B F0 F' H'/\Same F1 F'/\RepS X.K B F' H' z' s'/\W k z') #[F1,z,kp.grow g1,Same.refl F1,rs.grow g1,w0] (λk s' H' _ ⟨F',z',k',g',r',w'⟩=>k'.fh.seq (g'.seq hq)) ?_ ?_]
  .rintro k y s' H' hk⟨F',z',k',g',r',w'⟩;obtain⟨d,hd,ry⟩:=rr.get' hk;refine#[B,F',F',_,#[k'.bh,k'.fh,Same.refl F',λb h1 _=>h1,k'.eb,k'.jf.trans k'.f0,λb h1 h2=>k'.out b (k'.jo b h1 h2) h2],r'.set (ry.mono g'),_,d3 k d z' hd w',?_];have up:∀{F2 H2:Hp},Kept B F' F2 H2->Kept B F0 F2 H2:=λk2=>#[k2.bh,k2.fh,k'.f0.trans k2.f0,λb h1 h2=>k2.out b (k'.out b h1 h2) h2,k'.eb,k'.jf,k'.jo];exact#[λz3 s3 F3 H3 k3 h3 r3=>#[F3,z3,up k3,g'.trans k3.f0,r3,h3],λd v F3 H3 k3=>e.rt d v F3 H3 (up k3),λz3 s3 F3 H3 k3=>e.nx z3 s3 F3 H3 (up k3),λz3 s3 F3 H3 k3 h3 r3=>#[F3,z3,up k3,g'.trans k3.f0,r3,h3]]
  .rintro s' H'⟨F',z',k',g',r',w'⟩;exact e.nx z' s' F' H' k' (out z' (by rw[<-rr.length];exact w')) r'
 .exact hd.elim⟩
def cm[Jx](i:Nat){p1 p2:Sb}{tb:TSD}(hp:Sq (R1 X.prog X.w) X.A X.env X.xe)(hc:X.calm=true)(hN:X.N.Nodup)(hm:X.mg "range"=G_)(he:WDE X e te)(hb:WDSs X body tb)(hg:autoParam (Gl X "range") zA0)(hi:autoParam (X.N[i]?=be x) zA0)(hx:autoParam (Loc X.env.scope x) zA4)
  (hf:autoParam (zFN X x) zA2) (hs:autoParam (∀y,zFS X (.Call (.Name "range" p1) [e] [] p2) y) zA3) (p_:autoParam (zSE X e []) zA0) (f8:autoParam (R8 [e] X.env=[(false,Sa e X.env)]) zA0):WDS X (.For (.Name x p) (.Call (.Name "range" p1) [e] [] p2) body [] pos) (dFor i (dItR te) tb):=⟨have he:=he.out;have hb:=hb.out;(cS hp hc (gq hg hm (bo he pa_nil p_) f8) (dP hN hi hx hf) hb hs).anti λE s H q=>by
 obtain⟨B,F0,F,z,kp,rs,ED,h,e⟩:=q;refine#[B,F,z,kp.kf,rs,_,h,λd v F1 H1 g1 hd rd=>?_];split at hd
 .rename_i n;obtain⟨⟨b1,b2⟩,W,w0,d3,out⟩:=hd;have hl:((FY n.toNat).map λk=>D.int ((k:Nat):Int)).length=n.toNat:=by simp
  refine#[n,by rw[rep_int.mp rd],Ko,b2,jA (lo:=0) (n:=n.toNat) (λk s' H'=>∃F' z',Kept B F0 F' H'/\RepS X.K B F' H' z' s'/\W k z') #[F1,z,kp.grow g1,rs.grow g1,w0] ?_ ?_]
  .rintro k s' H' hk⟨F',z',k',r',w'⟩;have e1:(0:Int)+(k:Int)=(k:Int):=by lia
   exact#[B,F0,F',_,k',r'.set (d:=.int (k:Int)) (rep_int.mpr (by rw[e1])),_,d3 k (.int (k:Int)) z' (by simp[hk]) w',#[λz3 s3 F3 H3 k3 h3 r3=>#[F3,z3,k3,r3,h3],e.rt,e.nx,λz3 s3 F3 H3 k3 h3 r3=>#[F3,z3,k3,r3,h3]]]
  .rintro s' H'⟨F',z',k',r',w'⟩;exact e.nx z' s' F' H' k' (out z' (by rw[hl];exact w')) r'
 .exact hd.elim⟩
end
section
variable {P:P3}{w:R5}{K:Ex}{mg:JM->Option KB}{base:Heap}
variable{N ps:List JM}
def _root_.L2.Fun.okD{x qual:JM}{st:R3}{f:KF}{fd:R_}{k:Nat}{S:SpD}(T:Fun K x qual st f fd)(F:FnScope N ps (ag st))(len:∀ds R,S ds R->ds.length=ps.length)
  (a_:∀(cdv:KB) (A:R6) (outer:List SU) (s:KM) (H:Hp) (E:XK) (J:Jx),Room k (A.deeper (Se qual (ag st) s.heap.objs.size f cdv))->
   ∃t,DSs (cxOf (Exc.CX1 P w) P w K mg base N qual (ag st) f cdv A outer s H E).nox (aG st) t/\∀ds R,S ds R->t {nx:=λ_=>R .non,rt:=R} (startD N ds)):FnOk P w K mg base (Exc.CX1 P w) (k+1) f fd ps (lSp K S):=by
 refine Fun.okC T F (λvs H Q E h=>?_) (λcdv A outer s H vs Q E hr h=>?_)
 .obtain⟨F,ds,fh,rs,R,h,_⟩:=h;rw[rs.length];exact len ds R h
 .obtain⟨F,ds,fh,rs,R,h,q⟩:=h
  letI:Jx:=#[H,F,λ_ _ _=>False]
  obtain⟨t,ht,hq⟩:=a_ cdv A outer s H E inferInstance hr;refine#[_,ht.nox,H,F,F,startD N ds,#[Same.refl H,fh,Same.refl F,λ_ h _=>h,rfl,Same.refl F,λ_ h _=>h],dq rs,_,hq ds R h,#[λz' s' F' H' k hn _=>q _ _ F' H' #[k.f0,k.fh,k.bh,k.out] hn (rep_non.mpr rfl),λd v F' H' k hd rd=>q d v F' H' #[k.f0,k.fh,k.bh,k.out] hd rd,λ_ _ _ _ _ h _=>h.elim,λ_ _ _ _ _ h _=>h.elim]]
def Tx.okD{x:JM}{st:R3}{k:Nat}{S:SpD}(T:Tx K mg x st ps)(F:FnScope N ps (ag st))(len:∀ds R,S ds R->ds.length=ps.length)
  (a_:∀(f:KF) (cdv:KB) (A:R6) (outer:List SU) (s:KM) (H:Hp) (E:XK) (J:Jx),Room k (A.deeper (Se x (ag st) s.heap.objs.size f cdv))->
   ∃t,DSs (cxOf (Exc.CX1 P w) P w K mg base N x (ag st) f cdv A outer s H E).nox (aG st) t/\∀ds R,S ds R->t {nx:=λ_=>R .non,rt:=R} (startD N ds)):CalD P w K mg base (k+1) x ps S:=by
 obtain⟨f,fd,T,hb,hm⟩:=T;exact#[f,fd,T.okD F len λcdv A outer s H E J hr=>a_ f cdv A outer s H E J hr,hb,T.kp,hm]
end
def eE:SpD:=λds R=>∃ns:List Int,ds=[.rol (ns.map D.int)]/\ns.length<=63/\R (.bl true)
def yD{a:KF}{ns:List Int}(hl:ns.length<=63)(hS:SqL K H a (ns.map V.int)){E:XK}:lSp K eE [.ref a] H (λv _=>v=.bl true) E:=
 #[H,[.rol (ns.map D.int)],Same.refl H,reps_cons.mpr #[_,_,rfl,rep_rol.mpr #[a,_,rfl,hS,Reps.ints.mpr rfl],reps_nil.mpr rfl],λd=>d=.bl true,#[ns,rfl,hl,rfl],λd v F' H' _ hd rd=>by subst hd;exact rep_bl.mp rd]
section
variable {X:Cx}{a b c e:RZ}{ta tb tc te:TD}{pos:Sb}
variable{p:Sb}{es:List RZ}{t:TDA}
def kg[Jx]{x:JM}{T:String}{r:List V->Hp->VK->Prop}{rd:RDn}(hc:bE X (.type T) r)(L:ck X.K r rd)(hm:X.mg x=G_)(hv:Si x=be (.type T))(ha:DA X (e::es) t)(hg:autoParam (Gl X x) zA0)(hn:autoParam (x≠"__name__") zA1)(d7:autoParam (zND x) zA1)
  (he:autoParam (zSE X e es) zA0) (c_:autoParam (zPL X pos es) zA0):DE X (.Call (.Name x p) (e::es) [] pos) (dCB rd t):=(qA hc hg hm hv ha hn d7 he c_).anti λs H Q h=>by
 obtain⟨B,F,z,kf,rs,R,h1,h2⟩:=h;have fh:=kf.fh;refine#[B,F,z,kf,rs,_,h1,λds vs F1 H1 g1 hx rx=>?_];exact L ds vs F1 H1 R Q g1.fh hx rx λd w F' H' g=>h2 d w F' H' (g1.trans g)
def rdStr:RDn:=λds R=>match ds with|[.int i]=>i.natAbs<18446744073709551616/\R (.str (toString i))|_=>False
variable{K:Ex}
def yF:ck K (λxs H Q=>∃i,xs=[.int i]/\i.natAbs.log2<1920/\Q (.str (toString i)) H) rdStr:=by
 intro ds vs F H R Q fh h rx q;unfold rdStr at h;split at h
 .obtain⟨v,r,rfl,h1,h2⟩:=reps_cons.mp rx;rw[reps_nil.mp h2,rep_int.mp h1];refine#[_,rfl,?_,q _ _ F H (Grow.refl fh) h.2 (rep_str.mpr rfl)];rename_i i;by_cases h0:i.natAbs=0
  .rw[h0];decide
  .have:=(IM h0).mpr (show i.natAbs<2^64 from h.1);lia
 .exact h.elim
def cV[Jx](hm:X.mg "str"=G_)(ha:WDA X [e] t)(hg:autoParam (Gl X "str") zA0)(he:autoParam (zSE X e []) zA0):WDE X (.Call (.Name "str" p) [e] [] pos) (dCB rdStr t):=#[have ha:=ha.out;kg wK yF hm PyProof.Rows.boot_str ha hg Ks Ks he]
def kh:RDn:=λds R=>kd1 ds λx=>match x with
 |.int i=>R (.int i)
 |.bl k=>R (.int (if k then 1 else 0))
 |.str x=>∃n,(PySem.intText? x=be n/\x.length<=640)/\R (.int n)
 |_=>False
def rT:bE X (.type "int") (λxs H Q=>((∃i,xs=[.int i]/\Q (.int i) H)\/∃k,xs=[.bl k]/\Q (.int (if k then 1 else 0)) H)\/∃x n,xs=[.str x]/\PySem.intText? x=be n/\x.length<=640/\Q (.int n) H):=by
 intro pins s σ H xs us Q I r h;rcases h with h|⟨x,n,rfl,h1,h2,q⟩
 .exact wJ pins s σ H xs us Q I r h
 .obtain⟨u,rfl,t,rfl⟩:=bR r;exact PySem.W.KIN.call_text h1 h2 #[.int n,H,I.tok _,#[_,rfl],q]
def rV:ck K (λxs H Q=>((∃i,xs=[.int i]/\Q (.int i) H)\/∃k,xs=[.bl k]/\Q (.int (if k then 1 else 0)) H)\/∃x n,xs=[.str x]/\PySem.intText? x=be n/\x.length<=640/\Q (.int n) H) kh:=by
 intro ds vs F H R Q fh h rx q;replace h:=kd1.of h;obtain⟨x,rfl,h⟩:=h;obtain⟨v,r,rfl,h1,h2⟩:=reps_cons.mp rx;rw[reps_nil.mp h2];cases x with
 |int i=>
  rw[rep_int.mp h1];exact .inl (.inl #[_,rfl,q _ _ F H (Grow.refl fh) h (rep_int.mpr rfl)])
 |bl k=>
  rw[rep_bl.mp h1];exact .inl (.inr #[_,rfl,q _ _ F H (Grow.refl fh) h (rep_int.mpr rfl)])
 |str x=>
  rw[rep_str.mp h1];obtain⟨n,⟨e1,e2⟩,h⟩:=h;exact .inr #[_,n,rfl,e1,e2,q _ _ F H (Grow.refl fh) h (rep_int.mpr rfl)]
 |_=>exact False.elim h
def ki[Jx](hm:X.mg "int"=G_)(ha:WDA X [e] t)(hg:autoParam (Gl X "int") zA0)(he:autoParam (zSE X e []) zA0):WDE X (.Call (.Name "int" p) [e] [] pos) (dCB kh t):=#[have ha:=ha.out;kg rT rV hm PyProof.Rows.boot_int ha hg Ks Ks he]
def rW:RDn:=λds R=>kd2 ds λx y=>kdI x λi=>kdI y λj=>R (.int (if j>i then j else i))
def rX:RDn:=λds R=>kd2 ds λx y=>kdI x λi=>kdI y λj=>R (.int (if j<i then j else i))
def yG:ck K (λxs H Q=>∃i j,xs=[.int i,.int j]/\Q (.int (if j>i then j else i)) H) rW:=by
 intro ds vs F H R Q fh h rx q;replace h:=kd2.of h;obtain⟨x,y,rfl,h⟩:=h;replace h:=kdI.of h;obtain⟨i,rfl,h⟩:=h;replace h:=kdI.of h;obtain⟨j,rfl,h⟩:=h;obtain⟨v,r,rfl,h1,h2⟩:=reps_cons.mp rx;obtain⟨v',r',rfl,h3,h4⟩:=reps_cons.mp h2;rw[reps_nil.mp h4,rep_int.mp h1,rep_int.mp h3];exact#[_,_,rfl,q _ _ F H (Grow.refl fh) h (rep_int.mpr rfl)]
def yH:ck K (λxs H Q=>∃i j,xs=[.int i,.int j]/\Q (.int (if j<i then j else i)) H) rX:=by
 intro ds vs F H R Q fh h rx q;replace h:=kd2.of h;obtain⟨x,y,rfl,h⟩:=h;replace h:=kdI.of h;obtain⟨i,rfl,h⟩:=h;replace h:=kdI.of h;obtain⟨j,rfl,h⟩:=h;obtain⟨v,r,rfl,h1,h2⟩:=reps_cons.mp rx;obtain⟨v',r',rfl,h3,h4⟩:=reps_cons.mp h2;rw[reps_nil.mp h4,rep_int.mp h1,rep_int.mp h3];exact#[_,_,rfl,q _ _ F H (Grow.refl fh) h (rep_int.mpr rfl)]
def kj[Jx](hc:X.calm=true)(hm:X.mg "max"=G_)(ha:WDA X [e,a] t)(hg:autoParam (Gl X "max") zA0)(he:autoParam (zSE X e [a]) zA0)(c_:autoParam (zPL X pos [a]) zA0):WDE X (.Call (.Name "max" p) [e,a] [] pos) (dCB rW t):=#[have ha:=ha.out;gE (wH hc) yG hm PyProof.Rows.boot_max ha hg Ks Ks he c_]
def yI[Jx](hc:X.calm=true)(hm:X.mg "min"=G_)(ha:WDA X [e,a] t)(hg:autoParam (Gl X "min") zA0)(he:autoParam (zSE X e [a]) zA0)(c_:autoParam (zPL X pos [a]) zA0):WDE X (.Call (.Name "min" p) [e,a] [] pos) (dCB rX t):=#[have ha:=ha.out;gE (wI hc) yH hm PyProof.Rows.boot_min ha hg Ks Ks he c_]
def cO:List D->Option (List JM)
 |[]=>be []
 |.str x::r=>(cO r).map (x::·)
 |_=>G_
def rY{K:Ex}{F:Hp}:∀{ds:List D} {xs:List JM} {vs:List V} {us:List KB},cO ds=be xs->Reps K F ds vs->Vals vs us->StrsAre us xs
 |[],xs,vs,us,e,r,q=>by
  cases e;rw[reps_nil.mp r]at q;cases q;exact .nil
 | .str x::ds,xs,vs,us,e,r,q=>by
  obtain⟨v,r',rfl,h1,h2⟩:=reps_cons.mp r;rw[rep_str.mp h1]at q;cases q with
  |cons q1 q2=>
   obtain⟨t,rfl⟩:=q1;cases e2:cO ds with
   |none=>simp[cO,e2]at e
   |some ys=>
    simp[cO,e2]at e;subst e;exact .cons x t (rY e2 h2 q2)
def yJ:V->List V->Hp->VK->Prop:=λx vs H Q=>∃t8 l xs ys,x=.str t8/\vs=[.ref l]/\H l=be (.lst xs)/\(∀us,Vals xs us->StrsAre us ys)/\(ys.map (·.length)).sum+ys.length*t8.length<=16777216/\Q (.str (Txt.join t8 ys)) H
def yL:MtR X "str.join" yJ:=by
 intro pins s σ H x vs v us Q I rx rv h;obtain⟨t8,l,xs,ys,rfl,rfl,hl,hs,hz,q⟩:=h;obtain⟨t,rfl⟩:=rx;obtain⟨u,rfl,ru⟩:=bR rv;cases ru;obtain⟨its,r,pl,_⟩:=I.list (SqL.of hl);exact PyProof.Rows.join_list pl.isList (by simpa using hs its r) hz λt' k=>#[.str _,H,I.tok _,#[_,rfl],q]
def yM(t8:JM)(te:TD):TD:=λz R=>te z λx=>match x with
 |.lst ds=>∃ys,cO ds=be ys/\(ys.map (·.length)).sum+ys.length*t8.length<=1000000/\R (.str (Txt.join t8 ys))
 |_=>False
variable{k:Nat}
def rZ[Jx]{t8:JM}{p1 b9 a9:Sb}(he:WDE X e te)(m4:autoParam (zSE X e []) zA0)
  (c3:autoParam (R9 (.Constant (.str t8) k p1) "join" X.env (Sa (.Constant (.str t8) k p1) X.env)=Sa (.Constant (.str t8) k p1) X.env) zA0)
  (d_:autoParam (zHF X a9 [e]) zA0)
  (c8:autoParam ((b9.endLine==a9.line)=true) zA0):WDE X (.Call (.Attribute (.Constant (.str t8) k p1) "join" b9) [e] [] a9) (yM t8 te):=⟨have he:=he.out;(dS PySem.F.plainAttrs_str PySem.F.slot_str_join PySem.F.type_str_join yL pM (bo he pa_nil m4) c3 d_ c8 m4).anti λs H Q q=>by
 obtain⟨B,F,z,kf,rs,R,h1,h2⟩:=q;have fh:=kf.fh;refine#[rfl,?_];refine#[B,F,z,kf,rs,_,h1,λx u F1 H1 g1 hx rx=>?_];split at hx
 .obtain⟨ys,e1,e2,hx⟩:=hx;obtain⟨l,vs,rfl,hq,rr⟩:=rep_lst.mp rx;exact#[t8,l,vs,ys,rfl,rfl,g1.fh _ _ hq,λus q=>rY e1 rr q,Ga e2 Ks,h2 _ _ F1 H1 g1 hx (rep_str.mpr rfl)]
 .exact hx.elim⟩
def dOix(i:Nat)(tb:TD):TD:=λz R=>match z[i]? with
 |some (be (.own ds))=>tb z λy=>match y with|.int k=>∃d,atI ds k=be d/\R d|_=>False
 |_=>False
def bu[Jx](i:Nat){x:JM}(hb:WDE X b tb)(hN:autoParam (X.N[i]?=be x) zA0)(hv:autoParam (Vis X.env.scope x) zA5)(hd:autoParam (zND x) zA1)
  (gV:autoParam (zNC x) zA1) (hs:autoParam (dR b) zA6):WDE X (.Subscript (.Name x p) b pos) (dOix i tb):=⟨have hb:=hb.out;(pe_ix ix_list (cJ hN hv hd gV) hb hs).anti λs H Q q=>by
 obtain⟨B,F,z,kf,rs,R,h1,h2⟩:=q;have fh:=kf.fh;unfold dOix at h1;split at h1
 .rename_i ds ez;obtain⟨a,vs,q1,q2,q3,q4,q5⟩:=rs.own i ds ez;refine#[.ref a,q1,B,F,z,kf,rs,_,h1,λy v F1 H1 g1 hy ry=>?_];split at hy
  .obtain⟨d,e1,hR⟩:=hy;obtain⟨w,e2,j3⟩:=(q5.mono g1.ff).at e1;exact#[a,vs,_,w,rfl,rep_int.mp ry,SqL.of (g1.hh _ _ q2),e2,h2 d w F1 H1 g1 hR j3]
  .exact hy.elim
 .exact h1.elim⟩
def cutD(xs:List D)(lo hi:Option Int):List D:=(xs.drop (HT.sIx xs.length 0 lo)).take (HT.sIx xs.length xs.length hi-HT.sIx xs.length 0 lo)
def Reps.drop{K:Ex}{F:Hp}:∀(n:Nat) {xs:List D} {us:List V},Reps K F xs us->Reps K F (xs.drop n) (us.drop n)
 |0,_,_,r=>r
 |n+1,[],us,r=>by rw[reps_nil.mp r];exact reps_nil.mpr rfl
 |n+1,x::xs,us,r=>by
  obtain⟨u,ur,rfl,_,a2⟩:=reps_cons.mp r;exact Reps.drop n a2
def Reps.take{K:Ex}{F:Hp}:∀(n:Nat) {xs:List D} {us:List V},Reps K F xs us->Reps K F (xs.take n) (us.take n)
 |0,_,_,_=>reps_nil.mpr rfl
 |n+1,[],us,r=>by rw[reps_nil.mp r];exact reps_nil.mpr rfl
 |n+1,x::xs,us,r=>by
  obtain⟨u,ur,rfl,a1,a2⟩:=reps_cons.mp r;exact reps_cons.mpr #[u,_,rfl,a1,Reps.take n a2]
def Reps.cut{F:Hp}{xs:List D}{us:List V}(r:Reps K F xs us)(lo hi:Option Int):Reps K F (cutD xs lo hi) (cutV us lo hi):=by
 unfold cutD cutV;rw[r.length];exact(r.drop _).take _
def se{t:TGs}{n:Nat}(hc:X.calm=true)(h:PGs X es t)(hn:autoParam ((R7 es X.env).length=n) zA0)(j8:autoParam ((R7 es X.env).findIdx? (·.1)=none) zA0):
  PG X (.Tuple es k pos) (λv σ H Q=>∃a xs,v=.ref a/\SqL X.K H a xs/\xs.length=n/\t xs σ H Q):=by
 intro pins s σ H v u Q I r hw;obtain⟨a,xs,e1,hq,hl,hw⟩:=hw;subst e1;cases r;obtain⟨its,rv,pl,hz⟩:=I.list hq;have e2:(R7 es X.env).length=its.toArray.size:=by simp[hn,<-hl,rv.length]
 rw[PyProof.Rows.assign_Tuple];refine Os (SH ?_);unfold unpack;rw[e2,j8];refine Os (So (kun_itemsOf (I.ok.hd hc) pl.isList λh' hx=>?_));have I1:Inv X pins σ H {s with heap:=h'}:=I.kept (t':=s.toks) λb o e=>hx b o (F6 (Heap.lt_size e)) e;exact h pins _ σ H xs _ Q I1 (by simpa using rv) hw
def yO(is:List Nat)(te:TD):TSD:=λE z=>te z λx=>match x with|.lst ds=>ds.length=is.length/\E.nx (bO is ds z)|_=>False
def yQ[Jx]{is:List Nat}(hc:X.calm=true)(he:WDE X e te)(hg:DGs X es is)(hn:autoParam ((R7 es X.env).length=is.length) zA0)(j8:autoParam ((R7 es X.env).findIdx? (·.1)=none) zA0)
  (hs:autoParam (SI [.Tuple es k p] e pos.line X.env=pure false) zA0) (hw:autoParam (SJ [.Tuple es k p] e X.env=pure none) zA0) (h1:autoParam ((R7 [.Tuple es k p] X.env).map (·.2)=[SB (.Tuple es k p) X.env]) zA0):WDS X (.Assign [.Tuple es k p] e pos) (yO is te):=⟨by
 have he:=he.out;obtain⟨u,hu,kk⟩:=hg;refine(ft he (se hc hu hn j8) hs hw h1).anti λE s H q=>?_;obtain⟨B,F0,F,z,k,rs,ED,h,e⟩:=q;refine#[B,F,z,k.kf,rs,_,h,λd v F' H' g hd rd=>?_];split at hd
 .obtain⟨p,vs,rfl,hq,rr⟩:=rep_lst.mp rd;exact#[p,vs,rfl,SqL.of (g.fh _ _ hq),by rw[rr.length];exact hd.1,kk _ vs z s B F' H' _ hd.1 rr (rs.grow g) λs' r'=>e.nx _ _ F' H' (k.grow g) hd.2 r']
 .exact hd.elim⟩
end
end My
namespace L2
def km{env:SU}:∀(names:List (JM×SO)) (f7:List (JM×KF)),(∀n,(n,NameKind.free)∈names->∃c,env.cells.lookup n=be c)->
  ∃cl,(forIn (m:=TX) names f7 λx r=>match x with
     |(name,kind)=>if(kind==NameKind.free)=true then(do let a <-cellOf env name;pure (ForInStep.yield ((name,a)::r)))else pure (ForInStep.yield r))=(pure cl:TX (List (JM×KF)))/\
   (∀n c,cl.lookup n=be c->env.cells.lookup n=be c\/f7.lookup n=be c)/\(∀n,(n,NameKind.free)∈names->∃c,cl.lookup n=be c)/\∀n c,f7.lookup n=be c->∃c',cl.lookup n=be c'
 |[],f7,_=>#[f7,rfl,(λ_ _ h=>.inr h),(λ_ h=>by cases h),(λ_ c h=>#[c,h])]
 |(name,kind)::r,f7,h=>by
  by_cases hk:(kind==NameKind.free)=true
  .have ek:kind=.free:=by simpa using hk
   subst ek;obtain⟨c,hc⟩:=h name Gd;obtain⟨cl,e,p1,p2,p3⟩:=km r ((name,c)::f7) λn q=>h n (F8 _ q);refine#[cl,?_,λn c' q=>?_,λn q=>?_,λn c' q=>?_]
   .rw[Ia];have ec:cellOf env name=pure c:=by unfold cellOf;rw[hc]
    simp only[hk,if_true,ec];exact e
   .rcases p1 n c' q with z|z
    .exact .inl z
    .rw[Gi]at z;split at z
     .rename_i q2;have en:n=name:=by simpa using q2
      cases z;exact .inl (en ▸ hc)
     .exact .inr z
   .rcases F5.mp q with z|z
    .cases z;exact p3 _ c (by rw[Gi];simp)
    .exact p2 n z
   .by_cases hn:n=name
    .subst hn;exact p3 n c (by rw[Gi];simp)
    .exact p3 n c' (by rw[Gi,beq_eq_false_iff_ne.mpr hn];exact q)
  .obtain⟨cl,e,p1,p2,p3⟩:=km r f7 λn q=>h n (F8 _ q);refine#[cl,?_,p1,λn q=>?_,p3]
   .rw[Ia];simp only[hk];exact e
   .rcases F5.mp q with z|z
    .cases z;exact absurd rfl hk
    .exact p2 n z
def closure_is{env:SU}{scope:Sw}(h:∀n,(n,NameKind.free)∈scope.names->∃c,env.cells.lookup n=be c):
  ∃cl,closureFor scope env=pure cl/\(∀n c,cl.lookup n=be c->env.cells.lookup n=be c)/\∀n,(n,NameKind.free)∈scope.names->∃c,cl.lookup n=be c:=by
 obtain⟨cl,e,p1,p2,_⟩:=km scope.names [] h;refine#[cl,?_,λn c q=>(p1 n c q).elim id (λz=>nomatch z),p2];unfold closureFor;show(forIn (m:=TX) scope.names [] _>>=λs=>pure s)=pure cl;rw[e];rfl
def gI{env:SU}:∀{names:List (JM×SO)} {n:JM} {k:SO},(∀y∈names,y.2≠.cell)->k=.cell\/k=.free->
  (names.map λ(n,k)=>if(k==NameKind.free&&env.scope.kind== .function&&env.kindOf n==be .cell)then(n,NameKind.cell)else(n,k)).lookup n=be k->(n,NameKind.free)∈names
 |[],_,_,_,_,h=>by simp at h
 |(a,b)::r,n,k,hc,hk,h=>by
  rw[Gs]at h;by_cases hb:(b==NameKind.free&&env.scope.kind== .function&&env.kindOf a==be .cell)=true
  .have eb:b=.free:=by
    have:=(Gu _ _ ▸ ((Gu _ _ ▸ hb).1)).1;simpa using this
   simp only[hb,if_true]at h;rw[Gi]at h;split at h
   .rename_i q;have en:n=a:=by simpa using q
    subst en eb;exact Gd
   .exact F8 _ (gI (λy q=>hc y (F8 _ q)) hk h)
  .simp only[hb]at h;rw[if_neg KK,Gi]at h;split at h
   .rename_i q;have en:n=a:=by simpa using q
    cases h;subst en;rcases hk with z|z
    .exact absurd z (hc _ Gd)
    .rw[z];exact Gd
   .exact F8 _ (gI (λy q=>hc y (F8 _ q)) hk h)
section
variable {prog:P3}{w:R5}{A:R6}{R:Result->KM->Prop}{s:KM}
abbrev sf(j7:List RZ)(env:SU):TX Bool:=forIn j7 true λc r=>if r=true then do let ok <-isTrue c env (Sa c env);pure (ForInStep.yield ok)else pure (ForInStep.yield r)
def yR{h_ g8 iter:RZ}{j7:List RZ}{scope:Sw}{pos:Sb}{it f7:KB}{env:SU}(I:Nat->KM->Prop)
  (d3:∀n s,I n s->R4 (R1 prog w) A (pyNext it) (λr s₁=>match r with
   |none=>R (.ok .next) s₁
   |some v=>R4 (R1 prog w) A (S7 g8 it v) (λ_ s₁'=>R4 (R1 prog w) A (SB g8 env v) (λ_ s₂=>R4 (R1 prog w) A (sf j7 env) (λok s₂'=>if ok=true then R4 (R1 prog w) A (Sa h_ env) (λx s₃=>
     R4 (R1 prog w) A (call (.builtin "list.append") [f7,x]) (λ_ s₄=>∃m,m<n/\I m s₄) (λ_ _=>False) s₃)
     (λ_ _=>False) s₂' else ∃m,m<n/\I m s₂') (λ_ _=>False) s₂) (λ_ _=>False) s₁') (λ_ _=>False) s₁) (λ_ _=>False) s)
  (n:Nat) (h:I n s):
  S_ (R1 prog w) A (.compLoop (.ListComp h_ [#[g8,iter,j7,0]] scope pos) 0 it f7 env) R s:=by
 refine codeAny_loop rfl I (λn s hI=>?_) n h;show R4 _ _ ((compTurn (.ListComp h_ [#[g8,iter,j7,0]] scope pos) 0 it f7 env).onRaise (λx=>do S3 x env;theTreesLotGoes x)) _ _ s;refine wpAny_noted ?_;rw[compTurn_list];refine Os (SH (Os (Sf (d3 n s hI) (λr s₁ h₁=>?_) λ_ _ h'=>h'.elim)));cases r with
 |none=>exact RY h₁
 |some v=>
  refine Os (Sf h₁ (λ_ s₁' h₁'=>Os (Sf h₁' (λ_ s₂ h₂=>Os (Sf h₂ (λok s₃ h₃=>?_) λ_ _ h'=>h'.elim)) λ_ _ h'=>h'.elim)) λ_ _ h'=>h'.elim);cases ok with
  |false=>exact RY #[rfl,h₃]
  |true=>
   exact Os (Os (Sf h₃ (λx s₄ h₄=>Os (Sf h₄ (λ_ s₅ h₅=>RY (RY #[rfl,h₅])) λ_ _ h'=>h'.elim)) λ_ _ h'=>h'.elim))
end
def bT(X:Cx)(scope:Sw)(cl:List (JM×KF))(x:JM)(s₀:KM)(H₀:Hp)(fp:List KF):Cx where
 prog:=X.prog
 w:=X.w
 K:=X.K
 mg:=X.mg
 base:=X.base
 A:=X.A
 N:=X.N.map (λn=>if n=x then("":JM)else n)++[x]
 s₀:=s₀
 H₀:=H₀
 env:=compEnvC scope cl s₀.heap.objs.size X.env
 outer:=X.stack
 stack:=X.stack
 ex:=fp
 fn:=λ_=>false
 calm:=X.calm
 pn:=[]
 xe:=λ_ _=>False
structure CompScope(X:Cx)(scope:Sw)(x:Str):Prop where
 kind:scope.kind=.function
 nocell:∀y∈scope.names,y.2≠.cell
 names:∀y∈scope.names,y.2=.local->scope.names.lookup y.1=be .local
 own:scope.names.lookup x=be .local
 free:∀n,(n,NameKind.free)∈scope.names->X.env.kindOf n=be .cell
 vis:∀n∈X.N,n≠x->Vis (Uj scope X.env) n->(n,NameKind.free)∈scope.names
 empty:¬Vis (Uj scope X.env) ("":JM)
 cells:∀n,(n,NameKind.free)∈scope.names->(Uj scope X.env).names.lookup n=be .cell
 nd:(X.N.map (λn=>if n=x then("":JM)else n)++[x]).Nodup
section
variable {X:Cx}{pins:List (KF×Sj)}{σ:St}{H:Hp}{s:KM}{scope:Sw}{cl:List (JM×KF)}{x:JM}{fp:List KF}
def si(I:Inv X pins σ H s)(S:CompScope X scope x)(c1:∀n c,cl.lookup n=be c->X.env.cells.lookup n=be c)(c2:∀n,(n,NameKind.free)∈scope.names->∃c,cl.lookup n=be c)
  (hf:∀b∈fp,FpOk X pins H b) (hl:∀b∈fp,b<s.heap.objs.size):(bT X scope cl x s H fp).Ok where
 mod:=I.ok.mod
 kind:=S.kind
 glob:=I.ok.glob
 blt:=I.ok.blt
 above:=FX _
 inj:=λy z c h1 h2=>I.ok.inj y z c (c1 y c h1) (c1 z c h2)
 has:=λn hn=>by
  rcases hn with hn|hn
  .exact c2 n (gI S.nocell (.inl rfl) hn)
  .exact c2 n (gI S.nocell (.inr rfl) hn)
 cab:=λ_ _ h=>nomatch h
 hd:=I.ok.hd
 frames:=I.ok.frames
 stk:=.inl rfl
 exf:=λb hb=>#[F6 (hl b hb),λy c h=>(hf b hb).2.2.2.2.1 y c (c1 y c h)]
 bs:=I.bs
 bsz:=Ga I.ok.bsz I.sz
 noex:=λb o e hb=>by
  have h1:=I.ok.noex b o e;rcases(hf b hb).2.2.2.1 with z|z
  .exact h1 z
  .exact absurd (Gk (Heap.lt_size e) (Ga I.ok.bsz z)) (GV _)
 exfs:=λb hb hs=>by
  rcases F5.mp (I.stkSub b hs)with z|z
  .exact(hf b hb).2.1 z
  .exact(hf b hb).2.2.1 z
 funs:=I.stack
 frf:=I.stkFree
def sj{h':Heap}{t':Nat}(I:Inv X pins σ H s)(S:CompScope X scope x)(c1:∀n c,cl.lookup n=be c->X.env.cells.lookup n=be c)(c2:∀n,(n,NameKind.free)∈scope.names->∃c,cl.lookup n=be c)
  (hf:∀b∈fp,FpOk X pins H b) (hl:∀b∈fp,b<s.heap.objs.size) {m:JM->Option KB} (hn:h'.Ns s.heap.objs.size m) (k:∀b o,s.heap.get? b=be o->h'.get? b=be o):
  Inv (bT X scope cl x s H fp) [] (σ++[G_]) H {s with heap:=h',toks:=t'}:=by
 refine#[si I S c1 c2 hf hl,rfl,I.bare,Un.kept k,#[m,hn,λi n v e1 e2 e3=>?_],λn c e=>?_,I.hok.fresh (FX _),λn c e=>I.freeC n c (c1 n c e),λp hp=>absurd (show p∈([]:List (KF×Sj))from hp) KK,I.hok.kept k,?_]
 .have hi:i<σ.length:=by
   rcases Ib i σ.length with q|q
   .exact q
   .rw[GK q]at e2;cases hz:i-σ.length with
    |zero=>rw[hz]at e2;simp at e2
    |succ z=>rw[hz]at e2;simp at e2
  rw[GE hi]at e2;have Mo:i<X.N.length:=by rw[<-I.len];exact hi
  have KY:(X.N.map (λn=>if n=x then("":JM)else n)++[x])[i]?=be n:=e1;rw[GE (by simpa using Mo),Gf,Gv Mo]at KY;simp only[Option.map_some,Option.some.injEq]at KY;by_cases hx:X.N[i]=x
  .rw[if_pos hx]at KY;subst KY;exact absurd e3 S.empty
  .rw[if_neg hx]at KY;subst KY;have j_:=S.vis _ (Hk Mo) hx e3;have m9:=S.free _ j_;obtain⟨c,hc⟩:=c2 _ j_;obtain⟨mX,Ry,Qk⟩:=I.loc;obtain⟨u,ru,lk⟩:=Qk i X.N[i] v (Gv Mo) e2 (.inr (.inl m9));refine#[u,ru,.inr #[?_,c,hc,?_]]
   .exact .inl (S.cells _ j_)
   .rcases lk with⟨kl,_⟩|⟨_,c',J8,i9⟩
    .rw[m9]at kl;cases kl
    .have:c=c':=by
      have:=c1 _ c hc;rw[J8]at this;exact(Option.some.inj this).symm
     subst this;obtain⟨o,ho,hd⟩:=i9;exact#[o,k _ _ ho,hd]
 .obtain⟨v,o,ho,hd⟩:=I.cell n c (c1 n c e);exact#[v,o,k _ _ ho,hd]
 .show(σ++[G_]).length=(X.N.map _++[x]).length;rw[Gc,Gc,Gb,I.len];rfl
end
def gJ(wi:TI)(tt:TT)(i8:TE):TE:=λσ H Q=>wi σ H λJ H1=>∀D,H1 D=G_->∃W:Nat->Nat->Hp->Prop,(∃m,W 0 m (upd H1 D (.lst [])))/\∀i m H,W i m H->
 (J.stop i H/\Q (.ref D) H)\/(J.go i H/\∀x H',J.yld i H x H'->tt (σ++[be x]) H' λb H1=>if b=true then i8 (σ++[be x]) H1 λy H''=>∃vs,H'' D=be (.lst vs)/\vs.length<sizeLine/\∃m',m'<m/\W (i+1) m' (upd H'' D (.lst (vs++[y])))else ∃m',m'<m/\W (i+1) m' H1)
def PIf(X:Cx)(j7:List RZ)(t:TT):Prop:=
 ∀(pins:List (KF×Sj)) (s:KM) (σ:St) (H:Hp) (Q:Bool->Hp->Prop),Inv X pins σ H s->t σ H Q->R4 (R1 X.prog X.w) X.A (sf j7 X.env) (TP X pins σ Q) X.xe s
def pif_nil{X:Cx}:PIf X [] (λ_ H Q=>Q true H):=λpins s σ H Q I q=>wpAny_tests_nil #[H,I,q]
def PIf.anti{X:Cx}{e:List RZ}{t t':TT}(h:PIf X e t)(a:∀s H Q,t' s H Q->t s H Q):PIf X e t':=λpins s σ H Q I q=>h pins s σ H Q I (a _ _ _ q)
section
variable {X:Cx}
variable{h_ iter:RZ}{j7:List RZ}{x:JM}{px pos:Sb}{scope:Sw}{tt:TT}{i8:TE}
def sk{pins:List (KF×Sj)}{s2:KM}{σ:St}{H1:Hp}{cl:List (JM×KF)}{it:KF}{fp:List KF}{tn:Nat->Heap->Prop}{J:It}{Qs:Hp->Prop}{R:Result->KM->Prop}{W:Nat->Nat->Hp->Prop}{m0:Nat}{h₁:Heap}(hc:X.calm=true)(S:CompScope X scope x)
  (hq:∀cl s₀ H₀ fp,PIf (bT X scope cl x s₀ H₀ fp) j7 tt) (he:∀cl s₀ H₀ fp,PE (bT X scope cl x s₀ H₀ fp) h_ i8) (c1:∀n c,cl.lookup n=be c->X.env.cells.lookup n=be c) (c2:∀n,(n,NameKind.free)∈scope.names->∃c,cl.lookup n=be c)
  (I1:Inv X pins σ H1 s2) (T:Turn X.prog X.w X.K (.Name x px) J fp it tn) (st:tn 0 s2.heap) (f1:∀b∈fp,FpOk X pins H1 b) (w0:W 0 m0 (upd H1 s2.heap.objs.size (.lst [])))
  (step:∀i m H,W i m H->(J.stop i H/\Qs H)\/(J.go i H/\∀x H',J.yld i H x H'->tt (σ++[be x]) H' λb H1=>if b=true then i8 (σ++[be x]) H1 λy H''=>∃vs,H'' s2.heap.objs.size=be (.lst vs)/\vs.length<sizeLine/\∃m',m'<m/\W (i+1) m' (upd H'' s2.heap.objs.size (.lst (vs++[y])))else ∃m',m'<m/\W (i+1) m' H1))
  (I4:Inv (bT X scope cl x {s2 with heap:=s2.heap.push {cls:=.type "list",data:=.seq ([]:List KB).toArray},toks:=s2.toks} (upd H1 s2.heap.objs.size (.lst [])) fp) [] (σ++[G_]) (upd H1 s2.heap.objs.size (.lst [])) {s2 with heap:=h₁,toks:=s2.toks+([]:List (JM×KB)).length}) (t0:tn 0 h₁)
  (Nf:∀H' s4 m,Inv X pins σ H' s4->s4.heap.Ns (s2.heap.push {cls:=.type "list",data:=.seq ([]:List KB).toArray}).objs.size m->H' (s2.heap.push {cls:=.type "list",data:=.seq ([]:List KB).toArray}).objs.size=G_->Qs H'->R (.ok .next) s4):
  S_ (R1 X.prog X.w) X.A (.compLoop (.ListComp h_ [#[.Name x px,iter,j7,0]] scope pos) 0 (.ref it) (.ref s2.heap.objs.size) (compEnvC scope cl (s2.heap.push {cls:=.type "list",data:=.seq ([]:List KB).toArray}).objs.size X.env)) R {s2 with heap:=h₁,toks:=s2.toks+([]:List (JM×KB)).length}:=by
 have f9:∀b∈fp,b<s2.heap.objs.size:=λb hb=>by
  obtain⟨o,ho,_⟩:=T.obj _ _ st b hb;exact Heap.lt_size ho
 have I3:Inv X pins σ (upd H1 s2.heap.objs.size (.lst [])) {s2 with heap:=s2.heap.push {cls:=.type "list",data:=.seq ([]:List KB).toArray},toks:=s2.toks}:=I1.lnew (its:=[]) (ys:=[]) .nil (Go _);have k6:∀b∈fp,b<(s2.heap.push {cls:=.type "list",data:=.seq ([]:List KB).toArray}).objs.size:=λb hb=>by
  rw[Heap.size_push];exact Ic (f9 b hb)
 have I_:∀b∈fp,FpOk X pins (upd H1 s2.heap.objs.size (.lst [])) b:=λb hb=>#[by rw[aj (F6 (f9 b hb))];exact(f1 b hb).1,(f1 b hb).2];have Mp:=si (x:=x) (fp:=fp) I3 S c1 c2 I_ k6;generalize hY:bT X scope cl x {s2 with heap:=s2.heap.push {cls:=.type "list",data:=.seq ([]:List KB).toArray},toks:=s2.toks} (upd H1 s2.heap.objs.size (.lst [])) fp=Y at I4 Mp;have yP:Y.prog=X.prog:=Ty
 have yW:Y.w=X.w:=Ty
 have yK:Y.K=X.K:=Ty
 have yA:Y.A=X.A:=Ty
 have yN:Y.N=X.N.map (λn=>if n=x then("":JM)else n)++[x]:=Ty
 have yE:Y.env=compEnvC scope cl (s2.heap.push {cls:=.type "list",data:=.seq ([]:List KB).toArray}).objs.size X.env:=Ty
 have yX:Y.xe=λ_ _=>False:=Ty
 have yC:Y.calm=true:=by rw[<-hY];exact hc
 have Pe:Y.ex=fp:=Ty
 have Ql:Y.pn=[]:=Ty
 have Qm:Y.fs=frs X.stack:=Ty
 have Qn:Y.H₀=upd H1 s2.heap.objs.size (.lst []):=Ty
 have Pf:Y.s₀={s2 with heap:=s2.heap.push {cls:=.type "list",data:=.seq ([]:List KB).toArray},toks:=s2.toks}:=Ty
 have Qo:PE Y h_ i8:=by rw[<-hY];exact he _ _ _ _
 have Qp:PIf Y j7 tt:=by rw[<-hY];exact hq _ _ _ _
 have p7:∀{H':Hp},(∀b∈fp,H' b=G_)->∀b∈fp,FpOk Y [] H' b:=λ{H'} hn b hb=>by
  have g5:b∈Y.ex:=by rw[Pe];exact hb
  exact#[hn b hb,(Mp.exf b g5).1,Mp.exfs b g5,.inl g5,λn c e=>(Mp.exf b g5).2 n c e,by rw[Ql];simp]
 have LA:Y.env.scope.names.lookup x=be .local:=by rw[yE];exact lookup_relabel_local S.own
 have JG:Y.N[X.N.length]?=be x:=by rw[yN];simp
 have Qq:Y.N.Nodup:=by rw[yN];exact S.nd
 have Ng:Y.env.locals=(s2.heap.push {cls:=.type "list",data:=.seq ([]:List KB).toArray}).objs.size:=by rw[yE];rfl
 have i6:∀(o:Option V) (H':Hp) (s':KM),Inv Y [] (σ++[o]) H' s'->Inv X pins σ H' s':=λo H' s' I'=>by
  have bs:=I'.base;rw[Qm,Pe,Qn,Pf]at bs;refine I3.call' (ch:=fp) ?_ bs ?_ I'.bare ?_
  .have:=I'.os;rw[Pf]at this;exact this
  .have:=I'.hok;rw[yP,yW]at this;exact this
  .exact λb hb=>#[(I_ b hb).2.2.2.1,(I_ b hb).2.1,(I_ b hb).2.2.2.2.1,(I_ b hb).2.2.2.2.2]
 refine yR (λn s'=>∃i o H',Inv Y [] (σ++[o]) H' s'/\tn i s'.heap/\(∀b∈fp,H' b=G_)/\W i n H') ?_ m0 #[0,G_,_,I4,t0,λb hb=>(I_ b hb).1,w0];rintro n s3⟨i,o,H3,I5,t3,f3,w3⟩;rcases step i n H3 w3 with⟨stop,q⟩|⟨go,q⟩
 .have dn:=T.done Y yP yW yK yC i [] s3 _ H3 (λ_ _=>False) I5 (p7 f3) t3 stop;rw[yA]at dn;refine thn dn λr s4 c7=>?_;obtain⟨hr,I6⟩:=c7;subst hr;obtain⟨m,hn,_⟩:=I6.loc;have l_:=I6.free;rw[Ng]at hn l_;exact Nf H3 s4 m (i6 o H3 s4 I6) hn l_ q
 .have Ph:=T.item Y yP yW yK yC i [] s3 _ H3 (λ_ _=>False) I5 (p7 f3) t3 go;rw[yA]at Ph;refine thn Ph λr s4 c7=>?_;obtain⟨u,hr,h4⟩:=c7;subst hr;refine thn h4 λ_ s5 c7=>?_;obtain⟨xv,H5,I6,r5,y5,JN,ML⟩:=c7;have Qr:=I6.pinned (p7 ML) (T.obj _ _ JN);rw[<-yE];refine Tc (gm Qr Qq JG (.inl LA) r5 (λs6 I7=>?_) (.inr LA));have Nh:(σ++[o]).set X.N.length (be xv)=σ++[be xv]:=by
   rw[<-I1.len];simp
  rw[Nh]at I7;have tv:=Qp _ s6 _ H5 _ I7 (q xv H5 y5);rw[yP,yW,yA,yX]at tv;refine thn tv λb Qt c7=>?_;obtain⟨Qu,Mq,qb⟩:=c7;cases b with
  |false=>
   obtain⟨m',hm,w7⟩:=qb;refine#[m',hm,i+1,be xv,_,Mq.unpinned,T.keep _ _ _ JN λb hb ob e=>(Mq.pin (b,ob) (Gn _ (Gn _ (dQ hb e)))).1,λb hb=>?_,w7];obtain⟨ob,e,d⟩:=T.obj _ _ JN b hb;exact(Mq.pin (b,ob) (Gn _ (Gn _ (dQ hb e)))).2.1
  |true=>
  have ev:=Qo _ Qt _ Qu _ Mq qb;rw[yP,yW,yA,yX]at ev;refine thn ev λyv s7 c7=>?_;obtain⟨y,H6,I8,ry,vs,Qv,c5,m',hm,w7⟩:=c7;have ap:=jL (X:=Y) _ s7 _ H6 (.ref s2.heap.objs.size) [y] (.ref s2.heap.objs.size) [yv] (λ_ H7=>H7=upd H6 s2.heap.objs.size (.lst (vs++[y]))) I8 rfl (.cons ry .nil) #[_,vs,y,rfl,rfl,Qv,c5,rfl];rw[yP,yW,yA,yX]at ap;refine thn ap λ_ s8 c7=>?_;obtain⟨_,H7,I9,_,e7⟩:=c7;subst e7;refine#[m',hm,i+1,be xv,_,I9.unpinned,T.keep _ _ _ JN λb hb ob e=>(I9.pin (b,ob) (Gn _ (Gn _ (dQ hb e)))).1,λb hb=>?_,w7];obtain⟨ob,e,d⟩:=T.obj _ _ JN b hb;exact(I9.pin (b,ob) (Gn _ (Gn _ (dQ hb e)))).2.1
def yS{wi:TI}(hc:X.calm=true)(S:CompScope X scope x)(hi:PI X (.Name x px) iter wi)
  (hq:∀cl s₀ H₀ fp,PIf (bT X scope cl x s₀ H₀ fp) j7 tt) (he:∀cl s₀ H₀ fp,PE (bT X scope cl x s₀ H₀ fp) h_ i8) (hs:autoParam (∀y,zFS X iter y) zA3):
  PE X (.ListComp h_ [#[.Name x px,iter,j7,0]] scope pos) (gJ wi tt i8):=by
 intro pins s σ H Q I h;obtain⟨cl,i9,c1,c2⟩:=closure_is (env:=X.env) (scope:=scope) (λn q=>I.ok.has n (.inl (S.free n q)));rw[eval_ListComp];refine TB (use:=G_) rfl hs i9 S.kind S.names (thn (hi pins s σ H _ I h) λv s1 h1=>thn h1 λMg s2 h2=>?_);obtain⟨it,fp,tn,J,H1,e,I1,T,st,f1,hr⟩:=h2;subst e;have f9:∀b∈fp,b<s2.heap.objs.size:=λb hb=>by
  obtain⟨o,ho,_⟩:=T.obj _ _ st b hb;exact Heap.lt_size ho
 have hD:H1 s2.heap.objs.size=none:=I1.hok.fresh (FX _);obtain⟨W,⟨m0,w0⟩,step⟩:=hr _ hD;refine Sk (T3 S.nocell (by intro y hy;simp at hy) (λh₁ hns₁ hsb₁=>?_) S.kind);have I3:Inv X pins σ (upd H1 s2.heap.objs.size (.lst [])) {s2 with heap:=s2.heap.push {cls:=.type "list",data:=.seq ([]:List KB).toArray},toks:=s2.toks}:=I1.lnew (its:=[]) (ys:=[]) .nil (Go _);have k6:∀b∈fp,b<(s2.heap.push {cls:=.type "list",data:=.seq ([]:List KB).toArray}).objs.size:=λb hb=>by
  rw[Heap.size_push];exact Ic (f9 b hb)
 have I_:∀b∈fp,FpOk X pins (upd H1 s2.heap.objs.size (.lst [])) b:=λb hb=>#[by rw[aj (F6 (f9 b hb))];exact(f1 b hb).1,(f1 b hb).2];have kp:∀b o,(s2.heap.push {cls:=.type "list",data:=.seq ([]:List KB).toArray}).get? b=be o->h₁.get? b=be o:=λb o e=>
  (hsb₁.2 b (F6 (Heap.lt_size e))).trans (Heap.get?_push_of_some _ e)
 have I4:=sj (x:=x) (fp:=fp) (t':=s2.toks+([]:List (JM×KB)).length) I3 S c1 c2 I_ k6 hns₁ kp;have JS:(s2.heap.push {cls:=.type "list",data:=.seq ([]:List KB).toArray}).objs.size≠X.env.locals:=GO I3.lt;have JT:∀z c,X.env.cells.lookup z=be c->c≠(s2.heap.push {cls:=.type "list",data:=.seq ([]:List KB).toArray}).objs.size:=λz c e=>by
  obtain⟨vv,oo,ho,_⟩:=I3.cell z c e;exact F6 (Heap.lt_size ho)
 have Kx:∀p∈X.pn++pins,p.1≠(s2.heap.push {cls:=.type "list",data:=.seq ([]:List KB).toArray}).objs.size:=λp hp=>F6 (Heap.lt_size (I3.pin p hp).1);have u6:=sk (pos:=pos) (iter:=iter) (R:=compPost (R1 X.prog X.w) X.A X.xe G_ (EP X pins σ Q) (.ref s2.heap.objs.size) (s2.heap.push {cls:=.type "list",data:=.seq ([]:List KB).toArray}).objs.size) hc S hq he c1 c2 I1 T st f1 w0 step I4 (T.keep _ _ _ st (λb hb ob e=>kp b ob (Heap.get?_push_of_some _ e))) λH' s4 m IX hn l_ q=>
  #[m,hn,λh' hsb=>#[.ref s2.heap.objs.size,H',IX.turned (t':=s4.toks) (it:=(s2.heap.push {cls:=.type "list",data:=.seq ([]:List KB).toArray}).objs.size) (λb ob hb e=>(hsb.2 b hb).trans e) l_ JS (.inr I3.sz) JT Kx,rfl,q]]
 exact TU u6 (T.self _ _ _ _ _ (T.keep _ _ _ st (λb hb ob e=>kp b ob (Heap.get?_push_of_some _ e))) u6)
def so{y:JM}{py n5:Sb}{wi:TI}{ix:Nat}(hc:X.calm=true)(S:CompScope X scope x)(hi:PI X (.Name x px) iter wi)
  (hq:∀cl s₀ H₀ fp,PIf (bT X scope cl x s₀ H₀ fp) j7 tt) (he:∀cl s₀ H₀ fp,PE (bT X scope cl x s₀ H₀ fp) h_ i8) (hN:X.N.Nodup) (LB:X.N[ix]?=be y) (hy:Loc X.env.scope y) (hf:zFN X y)
  (Kb:Sg (.ListComp h_ [#[.Name x px,iter,j7,0]] scope pos) (be (.Name y py)) n5.line X.env=pure true) (hs:autoParam (∀y,zFS X iter y) zA3):
  PS X (.Assign [.Name y py] (.ListComp h_ [#[.Name x px,iter,j7,0]] scope pos) n5) (tAsg (gJ wi tt i8) (gp ix)):=by
 intro pins s σ H DE I h;have h:wi σ H λJ H1=>∀D,H1 D=G_->∃W:Nat->Nat->Hp->Prop,(∃m,W 0 m (upd H1 D (.lst [])))/\∀i m H,W i m H->
  (J.stop i H/\DE.nx (σ.set ix (be (.ref D))) H)\/(J.go i H/\∀x H',J.yld i H x H'->tt (σ++[be x]) H' λb H1=>if b=true then i8 (σ++[be x]) H1 λy H''=>∃vs,H'' D=be (.lst vs)/\vs.length<sizeLine/\∃m',m'<m/\W (i+1) m' (upd H'' D (.lst (vs++[y])))else ∃m',m'<m/\W (i+1) m' H1):=h
 obtain⟨cl,i9,c1,c2⟩:=closure_is (env:=X.env) (scope:=scope) (λn q=>I.ok.has n (.inl (S.free n q)));rw[exec_Assign_Name_used _ _ _ _ Kb];refine Os (SH (Os ?_));show R4 _ X.A (do let _ <-comprehension (.ListComp h_ [#[.Name x px,iter,j7,0]] scope pos) scope X.env _ (newList []) false (Sa iter X.env) (be (SB (.Name y py) X.env))) _ _ s;refine Os (Sf (TB (use:=be (SB (.Name y py) X.env)) (Q:=λ_ s'=>SP X pins DE .next s') rfl hs i9 S.kind S.names
  (thn (hi pins s σ H _ I h) λv s1 h1=>thn h1 λMg s2 h2=>?_)) (λ_ s' hq=>RY (RY hq)) λ_ _ e=>e)
 obtain⟨it,fp,tn,J,H1,e,I1,T,st,f1,hr⟩:=h2;subst e;have f9:∀b∈fp,b<s2.heap.objs.size:=λb hb=>by
  obtain⟨o,ho,_⟩:=T.obj _ _ st b hb;exact Heap.lt_size ho
 have hD:H1 s2.heap.objs.size=none:=I1.hok.fresh (FX _);obtain⟨W,⟨m0,w0⟩,step⟩:=hr _ hD;refine Sk (T3 S.nocell (by intro y hy;simp at hy) (λh₁ hns₁ hsb₁=>?_) S.kind);have I3:Inv X pins σ (upd H1 s2.heap.objs.size (.lst [])) {s2 with heap:=s2.heap.push {cls:=.type "list",data:=.seq ([]:List KB).toArray},toks:=s2.toks}:=I1.lnew (its:=[]) (ys:=[]) .nil (Go _);have k6:∀b∈fp,b<(s2.heap.push {cls:=.type "list",data:=.seq ([]:List KB).toArray}).objs.size:=λb hb=>by
  rw[Heap.size_push];exact Ic (f9 b hb)
 have I_:∀b∈fp,FpOk X pins (upd H1 s2.heap.objs.size (.lst [])) b:=λb hb=>#[by rw[aj (F6 (f9 b hb))];exact(f1 b hb).1,(f1 b hb).2];have kp:∀b o,(s2.heap.push {cls:=.type "list",data:=.seq ([]:List KB).toArray}).get? b=be o->h₁.get? b=be o:=λb o e=>
  (hsb₁.2 b (F6 (Heap.lt_size e))).trans (Heap.get?_push_of_some _ e)
 have I4:=sj (x:=x) (fp:=fp) (t':=s2.toks+([]:List (JM×KB)).length) I3 S c1 c2 I_ k6 hns₁ kp;have JS:(s2.heap.push {cls:=.type "list",data:=.seq ([]:List KB).toArray}).objs.size≠X.env.locals:=GO I3.lt;have JT:∀z c,X.env.cells.lookup z=be c->c≠(s2.heap.push {cls:=.type "list",data:=.seq ([]:List KB).toArray}).objs.size:=λz c e=>by
  obtain⟨vv,oo,ho,_⟩:=I3.cell z c e;exact F6 (Heap.lt_size ho)
 have Kx:∀p∈X.pn++pins,p.1≠(s2.heap.push {cls:=.type "list",data:=.seq ([]:List KB).toArray}).objs.size:=λp hp=>F6 (Heap.lt_size (I3.pin p hp).1);have u6:=sk (pos:=pos) (iter:=iter) (R:=compPost (R1 X.prog X.w) X.A X.xe (be (SB (.Name y py) X.env)) (λ_ s'=>SP X pins DE .next s') (.ref s2.heap.objs.size) (s2.heap.push {cls:=.type "list",data:=.seq ([]:List KB).toArray}).objs.size) hc S hq he c1 c2 I1 T st f1 w0 step I4 (T.keep _ _ _ st (λb hb ob e=>kp b ob (Heap.get?_push_of_some _ e))) λH' s4 m IX hn l_ q=>by
  show R4 _ X.A (SB (.Name y py) X.env (.ref s2.heap.objs.size)) _ _ s4;refine Tc (pL IX hN LB hy (v:=.ref s2.heap.objs.size) rfl (λs5 I7 ⟨a,hsb,ha⟩=>?_) hf);have Ni:(s2.heap.push {cls:=.type "list",data:=.seq ([]:List KB).toArray}).objs.size≠a:=by
   rcases ha with e|e
   .rw[e];exact JS
   .exact λz=>JT y a e z.symm
  exact#[m,hn.sameBut hsb Ni,λh' Mr=>#[_,H',I7.turned (t':=s5.toks) (it:=(s2.heap.push {cls:=.type "list",data:=.seq ([]:List KB).toArray}).objs.size) (λb ob hb e=>(Mr.2 b hb).trans e) l_ JS (.inr I3.sz) JT Kx,q]]
 exact TU u6 (T.self _ _ _ _ _ (T.keep _ _ _ st (λb hb ob e=>kp b ob (Heap.get?_push_of_some _ e))) u6)
end
end L2
namespace My
def RepS.snoc{K:Ex}{B F H:Hp}{z:SD}{s:L2.St}{d:D}{v:V}(h:RepS K B F H z s)(r:Rep K F d v):RepS K B F H (z++[be d]) (s++[be v]):=by
 have no:=r.noown;have get:∀{j:Nat} {x:D},(z++[be d])[j]?=be (be x)->(j<z.length/\z[j]?=be (be x))\/(j=z.length/\x=d):=λ{j x} e=>by
  rcases Ib j z.length with q|q
  .rw[GE q]at e;exact .inl #[q,e]
  .rw[GK q]at e;cases hz:j-z.length with
   |zero=>rw[hz]at e;simp at e;exact .inr #[Ko,e.symm]
   |succ n=>rw[hz]at e;simp at e
 have lt:∀{j:Nat},j<z.length->(s++[be v])[j]?=s[j]?:=λ{j} q=>GE (by rw[h.len];exact q);refine#[by rw[Gc,Gc,h.len];rfl,λj x e nx=>?_,λj ds e=>?_,λj k dj dk a e1 e2 e3 e4=>?_]
 .rcases get e with⟨q,e⟩|⟨q,rfl⟩
  .rw[lt q];exact h.val j x e nx
  .exact#[v,by rw[q,GK (by rw[h.len];exact FX _),h.len];simp,r]
 .rcases get e with⟨q,e⟩|⟨q,e⟩
  .rw[lt q];exact h.own j ds e
  .rw[<-e]at no;cases no
 .rcases get e1 with⟨q,e1⟩|⟨q,e1⟩
  .rcases get e2 with⟨q2,e2⟩|⟨q2,e2⟩
   .rw[lt q]at e3;rw[lt q2]at e4;exact h.apart j k dj dk a e1 e2 e3 e4
   .rw[<-e2]at no;cases no
  .rw[<-e1]at no;cases no
def okB:Bool->Bool->Prop->Prop->Prop
 |_,true,A,_=>A
 |false,false,_,B=>B
 |true,false,_,_=>False
def cmpG(nf:Bool)(tt:TDT)(te:TD)(z:SD)(R:D->Prop)(items:List D):Prop:=items.length<=100000/\∃W:Nat->List D->Prop,W 0 []/\(∀k x ys,items[k]?=be x->(nf=true->ys.length=k)->W k ys->tt (z++[be x]) λb=>okB nf b (te (z++[be x]) λy=>W (k+1) (ys++[y])) (W (k+1) ys))/\∀ys,(nf=true->ys.length=items.length)->W items.length ys->R (.lst ys)
def cmpP(te:TD)(z:SD)(R:D->Prop)(items:List D):Prop:=items.length<=100000/\∃W:Nat->List D->Prop,W 0 []/\(∀k x ys,items[k]?=be x->ys.length=k->W k ys->te (z++[be x]) λy=>W (k+1) (ys++[y]))/\∀ys,ys.length=items.length->W items.length ys->R (.lst ys)
def yT(ti:TDI)(te:TD):TD:=λz R=>ti z (cmpP te z R)
def dT1:TDT:=λ_ R=>R true
abbrev DIf(X:Cx)[Jx](j7:List RZ)(t:TDT):Prop:=PIf X j7 (lT X.K t)
variable{X:Cx}
def ko[Jx]:DIf X [] dT1:=pif_nil.anti λs H Q q=>by
 obtain⟨B,F,z,kf,rs,R,h1,h2⟩:=q;exact h2 true F H (Grow.refl kf.fh) h1
structure ItIs(K:Ex)(J:It)(F1 H1:Hp)(items:List D):Prop where
 go:∀k F' H',Grow F1 H1 F' H'->k<items.length->J.go k H'
 yld:∀k F' H' x H'',Grow F1 H1 F' H'->k<items.length->J.yld k H' x H''->H''=H'/\∃d,items[k]?=be d/\Rep K F' d x
 stop:∀F' H',Grow F1 H1 F' H'->J.stop items.length H'
def ItOk[Jx](K:Ex)(wi:TI)(ti:TDI):Prop:=∀{s:L2.St} {H B F:Hp} {z:SD} {P:List D->Prop} {Q:It->Hp->Prop},Kept B Jx.F0 F H->RepS K B F H z s->ti z P->(∀items J F1 H1,Grow F H F1 H1->P items->ItIs K J F1 H1 items->Q J H1)->wi s H Q
section
variable {X:Cx}
variable{K:Ex}{H:Hp}{R:My.D->Prop}{items:List My.D}
def sq[Jx]{B F F1 H1:Hp}{z:SD}{s:L2.St}{Q:VK}{nf:Bool}{tt:TDT}{te:TD}{J:It}(kf:Kept B Jx.F0 F H)(g1:Grow F H F1 H1)(rs:RepS K B F H z s)(h2:∀D ys us F' H',H D=G_->F' D=G_->Grow F H F' H'->H' D=be (.lst us)->Reps K F' ys us->R (.lst ys)->Q (.ref D) H')
    (it:ItIs K J F1 H1 items) (hd:cmpG nf tt te z R items):
    ∀D,H1 D=G_->∃W:Nat->Nat->Hp->Prop,(∃m,W 0 m (upd H1 D (.lst [])))/\∀i m H,W i m H->
      (J.stop i H/\Q (.ref D) H)\/(J.go i H/\∀x H',J.yld i H x H'->lT K tt (s++[be x]) H' λb H1=>if b=true then lE K te (s++[be x]) H1 λy H''=>∃vs,H'' D=be (.lst vs)/\vs.length<sizeLine/\∃m',m'<m/\W (i+1) m' (upd H'' D (.lst (vs++[y])))else ∃m',m'<m/\W (i+1) m' H1):=by
  intro D hD;obtain⟨hz,W,w0,d3,out⟩:=hd;have Qw:F1 D=none:=g1.fh.free hD;have hH:H D=none:=g1.hh.free hD;refine⟨λk m H'=>m=items.length-k/\k<=items.length/\∃F' ys us,Grow F1 H1 F' H'/\H' D=be (.lst us)/\F' D=G_/\Reps K F' ys us/\(ys.length<=k/\(nf=true->ys.length=k))/\W k ys,
    #[items.length,KK,Go _,F1,[],[],#[Same.refl F1,g1.fh.trans (aP hD _),aP hD _,λb h _=>h],av,Qw,reps_nil.mpr rfl,#[FX _,λ_=>rfl],w0],?_⟩
  rintro k m H'⟨rfl,hk,F',ys,us,G,hu,hF,ry,hl,w⟩;by_cases f9:k<items.length
  . refine .inr #[it.go k F' H' G f9,λx H'' hy=>?_];obtain⟨e,d,hd,rd⟩:=it.yld k F' H' x H'' G f9 hy;subst e;refine#[B,F',z++[be d],kf.grow (g1.trans G),(rs.grow (g1.trans G)).snoc rd,_,d3 k d ys hd hl.2 w,λb F3 H3 g3 hb=>?_];have Nj:H3 D=be (.lst us):=g3.hh D _ hu;have Ms:F3 D=none:=g3.out D hF (by rw[hu];exact λq=>nomatch q);cases b with
    |false=>
      cases nf with
      |true=>exact hb.elim
      |false=>exact#[items.length-(k+1),Ko,rfl,Ko,F3,ys,us,G.trans g3,Nj,Ms,ry.mono g3.ff,#[Ko,λz=>nomatch z],hb]
    |true=>
    refine#[B,F3,z++[be d],(kf.grow (g1.trans G)).grow g3,((rs.grow (g1.trans G)).snoc rd).grow g3,_,(show te _ _ from by cases nf<;>exact hb),λy yv F2 H2 g2 hw rv=>?_];have Qx:H2 D=be (.lst us):=g2.hh D _ Nj;have JU:F2 D=none:=g2.out D Ms (by rw[Nj];exact λq=>nomatch q);have Rz:us.length<=k:=by rw[ry.length];exact hl.1
    refine⟨us,Qx,by     have:(100000:Nat)<sizeLine:=by decide
                        lia,items.length-(k+1),Ko,rfl,Ko,F2,ys++[y],us++[yv],?_,av,JU,((ry.mono g3.ff).mono g2.ff).append (eD rv),#[Tl,λz=>by simp[hl.2 z]],hw⟩
    have GG:=(G.trans g3).trans g2;refine#[GG.ff,λb o e=>?_,λb o e=>?_,GG.out]
    . have ne:b≠D:=λq=>by rw[q,JU]at e;cases e
      rw[aj ne];exact GG.fh b o e
    . have ne:b≠D:=λq=>by rw[q,hD]at e;cases e
      rw[aj ne];exact GG.hh b o e
  . have ek:k=items.length:=by lia
    subst ek;exact .inl #[it.stop F' H' G,h2 D ys us F' H' hH hF (g1.trans G) hu ry (out ys hl.2 w)]
def yU{F F' H':Hp}{D:KF}{us:List V}(GG:Grow F H F' H')(hu:H' D=be (.lst us))(hF:F' D=G_)(hH:H D=G_):Grow F H (upd F' D (.lst us)) H':=by
 refine#[GG.ff.trans (aP hF _),λb o e=>?_,GG.hh,λb h1 h3=>?_]
 .by_cases hb:b=D
  .subst hb;rw[av]at e;cases e;exact hu
  .rw[aj hb]at e;exact GG.fh b o e
 .have ne:b≠D:=λq=>h3 (q ▸ hH);rw[aj ne];exact GG.out b h1 h3
variable {h_ iter:RZ}{j7:List RZ}{x:JM}{px pos:Sb}{scope:Sw}{ti te:TD}{tt:TDT}{wi:TI}{Ky:TDI}
def yV[Jx]{nf:Bool}{G:SD->(D->Prop)->List D->Prop}(hG:∀z R items,G z R items->cmpG nf tt te z R items)(hI:ItOk K wi Ky){s:L2.St}{Q:VK}(q:lE K (λz R=>Ky z (G z R)) s H Q):gJ wi (lT K tt) (lE K te) s H Q:=by
 obtain⟨B,F,z,kf,rs,R,h1,h2⟩:=q;exact hI kf rs h1 λitems J F1 H1 g1 hg it=>sq kf g1 rs (λD ys us F' H' hH hF GG hu ry hR=>h2 (.lst ys) (.ref D) _ H' (yU GG hu hF hH) hR (rep_lst.mpr #[D,us,rfl,av,ry.mono (aP hF _)])) it (hG _ _ _ hg)
def cmpP.g{z:SD}(h:cmpP te z R items):cmpG true dT1 te z R items:=
 let ⟨hz,W,w0,d3,out⟩:=h
 #[hz,W,w0,λk x ys e l w=>d3 k x ys e (l rfl) w,λys l w=>out ys (l rfl) w]
def itR[Jx]:ItOk K (pY (qu (lE K ti) tNil)) (dItR ti):=λ{s H B F z P Q} kf rs h1 h2=>by
 refine#[B,F,z,kf,rs,_,h1,λd v F1 H1 g1 hd rd=>?_];split at hd
 .rename_i n;obtain⟨⟨b1,b2⟩,hd⟩:=hd;have hl:((FY n.toNat).map λk=>D.int ((k:Nat):Int)).length=n.toNat:=by simp
  refine#[n,by rw[rep_int.mp rd],Ko,b2,h2 _ _ F1 H1 g1 hd #[λk F' H' G hk=>by rw[hl]at hk;exact hk,λk F' H' x H'' G hk hy=>?_,λF' H' G=>by show n.toNat<=_;rw[hl];exact FX _]];rw[hl]at hk;obtain⟨e,rfl⟩:=hy;exact#[e,.int (k:Int),by simp[hk],rep_int.mpr (by congr 1;lia)]
 .exact hd.elim
def kq[Jx]{p1 p2:Sb}(hc:X.calm=true)(S:CompScope X scope x)(hm:X.mg "range"=G_)(hi:WDE X iter ti)(he:∀cl s₀ H₀ fp,WDE (bT X scope cl x s₀ H₀ fp) h_ te)(hg:autoParam (Gl X "range") zA0)
  (hs:autoParam (∀y,zFS X (.Call (.Name "range" p1) [iter] [] p2) y) zA3) (p_:autoParam (zSE X iter []) zA0) (f8:autoParam (R8 [iter] X.env=[(false,Sa iter X.env)]) zA0):WDE X (.ListComp h_ [#[.Name x px,.Call (.Name "range" p1) [iter] [] p2,[],0]] scope pos) (yT (dItR ti) te):=#[have hi:=hi.out;have he:=λcl s₀ H₀ fp=>(he cl s₀ H₀ fp).out;(yS hc S (gq hg hm (bo hi pa_nil p_) f8) (λ_ _ _ _=>ko) he hs).anti λs H Q q=>yV (λ_ _ _=>cmpP.g) itR q]
end
def eF(scope fsc:Sw):List (JM×SO):=scope.names.map λ(n,k)=>if(k==NameKind.free&&fsc.kind== .function&&fsc.names.lookup n==be .cell)then(n,NameKind.cell)else(n,k)
def visB(l:List (JM×SO))(n:JM):Bool:=l.lookup n==be .local||l.lookup n==be .cell||l.lookup n==be .free
def dA(scope fsc:Sw)(N:List JM)(x:JM):Bool:=
 scope.kind== .function&&scope.names.all (λy=>!(y.2== .cell))&&scope.names.all (λy=>!(y.2== .local)||scope.names.lookup y.1==be .local)&&scope.names.lookup x==be .local &&
 scope.names.all (λy=>!(y.2== .free)||fsc.names.lookup y.1==be .cell)&&N.all (λn=>decide (n=x)||!visB (eF scope fsc) n||scope.names.any (λy=>decide (y=(n,NameKind.free))))&&!visB (eF scope fsc) "" &&
 scope.names.all (λy=>!(y.2== .free)||(eF scope fsc).lookup y.1==be .cell)&&decide (N.map (λn=>if n=x then("":JM)else n)++[x]).Nodup
def sr{l:List (JM×SO)}{n:JM}(h:l.lookup n=be .local\/l.lookup n=be .cell\/l.lookup n=be .free):visB l n=true:=by
 unfold visB;rcases h with h|h|h<;>rw[h]<;>rfl
def compScope{scope:Sw}{x:JM}(h:dA scope X.env.scope X.N x=true):CompScope X scope x:=by
 unfold dA at h;simp only[Gu]at h;obtain⟨⟨⟨⟨⟨⟨⟨⟨h1,h2⟩,h3⟩,h4⟩,h5⟩,h6⟩,h7⟩,h8⟩,h9⟩:=h;have er:(Uj scope X.env).names=eF scope X.env.scope:=rfl;refine#[by simpa using h1,λy hy=>?_,λy hy e=>?_,by simpa using h4,λn hn=>?_,λn hn ne v=>?_,λv=>?_,λn hn=>?_,of_decide_eq_true h9]
 .have:=GL.mp h2 y hy;simpa using this
 .have:=GL.mp h3 y hy;rw[e]at this;simpa using this
 .have:=GL.mp h5 _ hn;show X.env.scope.names.lookup n=be .cell;simpa using this
 .have:=GL.mp h6 n hn;have v':visB (eF scope X.env.scope) n=true:=sr v;rw[v']at this;simp[ne]at this;exact this
 .have v':visB (eF scope X.env.scope) ""=true:=sr v;rw[v']at h7;cases h7
 .have:=GL.mp h8 _ hn;rw[er];simpa using this
def putD(f:JM)(v:D):List (JM×D)->List (JM×D)
 |[]=>[(f,v)]
 |(g,x)::r=>if g=f then(g,v)::r else(g,x)::putD f v r
def RepF.put{K:Ex}{F:Hp}{f:JM}{d:D}{v:V}(r:Rep K F d v):∀{fs:List (JM×D)} {ws:List (JM×V)},RepF K F fs ws->RepF K F (putD f d fs) (putF f v ws)
 |[],ws,h=>by
  rw[repf_nil.mp h];exact repf_cons.mpr #[v,[],rfl,r,repf_nil.mpr rfl]
 |(g,x)::fs,ws,h=>by
  obtain⟨w,Kz,rfl,h1,h2⟩:=repf_cons.mp h;unfold putD putF;by_cases e:g=f
  .rw[if_pos e,if_pos e];exact repf_cons.mpr #[v,Kz,rfl,r,h2]
  .rw[if_neg e,if_neg e];exact repf_cons.mpr #[w,_,rfl,h1,RepF.put r h2]
def RepF.length{K:Ex}{F:Hp}:∀{fs:List (JM×D)} {ws:List (JM×V)},RepF K F fs ws->ws.length=fs.length
 |[],ws,h=>by rw[repf_nil.mp h];rfl
 |(g,x)::fs,ws,h=>by
  obtain⟨w,Kz,rfl,h1,h2⟩:=repf_cons.mp h;rw[F7,F7,RepF.length h2]
def ClsA(K:Ex)(x f:JM):Prop:=∃C,nsIn K Pi x=be (be (.ref C))/\Cls K C/\NoAttr K C f
section
variable {X:Cx}{a b c e:RZ}{ta tb tc te:TD}{pos:Sb}
def dFld(x f:JM)(te:TD):TD:=λz R=>te z λd=>match d with|.obj y fs=>y=x/\∃d,fs.lookup f=be d/\R d|_=>False
variable{x:JM}
def eG[Jx]{f:JM}(h:ClsA X.K x f)(he:WDE X e te)(hb:autoParam (R9 e f X.env (Sa e X.env)=Sa e X.env) zA0):WDE X (.Attribute e f pos) (dFld x f te):=⟨have he:=he.out;(qr he hb).anti λs H Q q=>by
 obtain⟨C,hn,hc,hf⟩:=h;obtain⟨B,F,z,kf,rs,R,h1,h2⟩:=q;have fh:=kf.fh;refine#[B,F,z,kf,rs,_,h1,λd u F1 H1 g1 hx rx=>?_];split at hx
 .obtain⟨rfl,d,hl,hR⟩:=hx;obtain⟨a,C',dx,vs,rfl,g_,q,r⟩:=rep_obj.mp rx;rw[hn]at g_;cases g_;obtain⟨v,l,rv⟩:=r.look hl;exact#[a,C,dx,vs,v,rfl,g1.fh _ _ q,hc,hf,l,h2 d v F1 H1 g1 hR rv]
 .exact hx.elim⟩
def su[Jx]{d:D}{v:V}{u:KB}(hm:X.mg x=be u)(r:RelV v u)(rd:∀H,Rep X.K H d v)(hg:autoParam (Gl X x) zA0)(hd:autoParam (zND x) zA1):DE X (.Name x pos) (dC d):=de_c (vP hg hm r hd) rd
def eH[Jx]{i:Int}(h:∃t,X.mg x=be (.int i t))(hg:autoParam (Gl X x) zA0)(hd:autoParam (zND x) zA1):WDE X (.Name x pos) (dC (.int i)):=⟨by
 obtain⟨t,h⟩:=h;exact su (v:=.int i) h #[t,rfl] (λ_=>rep_int.mpr rfl) hg hd⟩
def eI[Jx]{y:JM}(h:∃t,X.mg x=be (.str y t))(hg:autoParam (Gl X x) zA0)(hd:autoParam (zND x) zA1):WDE X (.Name x pos) (dC (.str y)):=⟨by
 obtain⟨t,h⟩:=h;exact su (v:=.str y) h #[t,rfl] (λ_=>rep_str.mpr rfl) hg hd⟩
end
abbrev SiD:=List D->(List (JM×D)->Prop)->Prop
def lSi(K:Ex)(C:KF)(S:SiD):Sp:=λvs H Q _=>∃a dx us H1 F ds,vs=.ref a::us/\H=upd (upd H1 dx (.own a)) a (.ins C dx [])/\H1 a=G_/\H1 dx=G_/\dx≠a/\Same F H1/\Reps K F ds us/\
 ∃R:List (JM×D)->Prop,S ds R/\∀fs ws JV F' H',Grow F H1 F' H'->R fs->H' a=be (.ins C JV ws)->F' a=G_->RepF K F' fs ws->Q .non H'
def CalM(P:P3)(w:R5)(K:Ex)(mg:JM->Option KB)(base:Heap)(n:Nat)(x:JM)(ps:List JM)(S:SiD):Prop:=
 ∃C f fd,nsIn K Pi x=be (be (.ref C))/\mg x=be (.ref C)/\Mk K C f/\FnOk P w K mg base (Exc.CX1 P w) n f fd ps (lSi K C S)/\Binds K fd ps []
def yY(x:JM)(S:SiD)(t:TDA):TD:=λz R=>t z λds=>S ds λfs=>R (.obj x fs)
def kr[Jx]{pos:Sb}{n m:Nat}{ps:List JM}{S:SiD}{x:JM}{p:Sb}{e:RZ}{es:List RZ}{t:TDA}(M:CalM X.prog X.w X.K X.mg X.base n x ps S)(hr:Room m X.A)(ha:WDA X (e::es) t)(hg:autoParam (Gl X x) zA0)(hn:autoParam (n+1<=m) zA1)(d7:autoParam (zND x) zA1)
  (he:autoParam (zSE X e es) zA0) (c_:autoParam (zPL X pos es) zA0):WDE X (.Call (.Name x p) (e::es) [] pos) (yY x S t):=⟨by
 have ha:=ha.out;obtain⟨C,f,fd,hns,j9,mk,F,hb⟩:=M;refine(gw mk F (hr.mono hn) hg j9 hb .nil dW ha d7 he c_).anti λs H Q q=>?_;obtain⟨B,F,z,kf,rs,R,h1,h2⟩:=q;have fh:=kf.fh;refine#[B,F,z,kf,rs,_,h1,λds vs F1 H1 g1 hx rx=>?_];intro a dx ha q8 k9;refine#[a,dx,vs,H1,F1,ds,by rw[Gw],rfl,ha,q8,k9,g1.fh,rx,_,hx,λfs ws JV F' H' g hR e9 i_ rf=>#[rfl,?_]];have s1:Same F' (upd F' a (.ins C JV ws)):=aP i_ _;refine h2 (.obj x fs) (.ref a) (upd F' a (.ins C JV ws)) H' #[(g1.ff.trans g.ff).trans s1,λb o q=>?_,g1.hh.trans g.hh,λb q1 q2=>?_] hR (rep_obj.mpr #[a,C,JV,ws,rfl,hns,av,RepF.mono s1 fs ws rf])
 .by_cases hb:b=a
  .subst hb;rw[av]at q;cases q;exact e9
  .rw[aj hb]at q;exact g.fh b o q
 .by_cases hb:b=a
  .subst hb;exact absurd (g1.hh.free ha) q2
  .rw[aj hb];exact(g1.trans g).out b q1 q2⟩
abbrev TID:=SD->List (JM×D)->(List (JM×D)->Prop)->Prop
def lI(K:Ex)[J:Jx](x:JM)(t:TID):TS:=λE σ H=>∃C a dx ws F z fs,nsIn K Pi x=be (be (.ref C))/\σ[0]?=be (be (.ref a))/\H a=be (.ins C dx ws)/\J.B a=G_/\F a=G_/\Kept J.B J.F0 F H/\RepS K J.B F H z σ/\RepF K F fs ws/\
 ∃R:List (JM×D)->Prop,t z fs R/\∀l9 Kz F' H',Kept J.B J.F0 F' H'->R l9->H' a=be (.ins C dx Kz)->F' a=G_->RepF K F' l9 Kz->E.nx σ H'
abbrev DI(X:Cx)[Jx](x:JM)(st:List R3)(t:TID):Prop:=PSs X st (lI X.K x t)
structure WDI(X:Cx)[Jx](x:Str)(st:List R3)(t:TID):Prop where
 out:DI X x st t
section
variable {X:Cx}{x f:JM}{e:RZ}{te:TD}{pos d4 p:Sb}{rest:List R3}{tr:TID}
def sy:TID:=λ_ fs R=>R fs
def yZ(f:JM)(te:TD)(tr:TID):TID:=λz fs R=>te z λd=>fs.length<1000/\tr z (putD f d fs) R
def dB[Jx]:WDI X x [] sy:=⟨pss_nil.anti λE s H q=>by
 obtain⟨C,a,dx,ws,F,z,fs,hn,h0,e9,n6,i_,g,rs,rf,R,hR,k⟩:=q;exact k fs ws F H g hR e9 i_ rf⟩
def RepS.other{K:Ex}{B F H:Hp}{z:SD}{σ:L2.St}{a:KF}{o o':HO}(rs:RepS K B F H z σ)(h:H a=be o)(hl:∀vs,o≠.lst vs):RepS K B F (upd H a o') z σ:=
 ⟨rs.len,rs.val,λi ds e=>by
  obtain⟨b,vs,q1,q2,q⟩:=rs.own i ds e;have ne:b≠a:=by
   rintro rfl;rw[h]at q2;cases q2;exact hl vs rfl
  exact#[b,vs,q1,by rw[aj ne];exact q2,q],rs.apart⟩
def bG[J:Jx]{ps:Sb}{sx:JM}(hA:ClsA X.K x f)(he:WDE X e te)(hr:WDI X x rest tr)(hN:autoParam (X.N[0]?=be sx) zA0)(hv:autoParam (Vis X.env.scope sx) zA5)(hd:autoParam (zND sx) zA1)
  (gV:autoParam (zNC sx) zA1) (hs:autoParam (Sg e (be (.Attribute (.Name sx ps) f d4)) pos.line X.env=pure false) zA0):WDI X x (.Assign [.Attribute (.Name sx ps) f d4] e pos::rest) (yZ f te tr):=⟨have he:=he.out;have hr:=hr.out;(dO (qt (cJ (i:=0) hN hv hd gV) he hs) hr).anti λE s H q=>by
 obtain⟨C,a,dx,ws,F,z,fs,hn,h0,e9,n6,i_,g,rs,rf,R,hR,k⟩:=q;obtain⟨C',g_,hc,hf⟩:=hA;rw[hn]at g_;cases g_;refine#[_,F,z,g,rs,_,hR,λd v F2 H2 g2 hx rv=>?_];have k2:=g.grow g2;have Pj:=g2.hh a _ e9;have JU:F2 a=none:=g2.out a i_ (by rw[e9];exact λz=>nomatch z);refine#[.ref a,h0,a,C,dx,ws,rfl,Pj,hc,hf,by rw[rf.length];exact hx.1,?_];have Qy:Same F2 (upd H2 a (.ins C dx (putF f v ws))):=λb o q=>by
  have ne:b≠a:=by rintro rfl;rw[JU]at q;cases q
  rw[aj ne];exact g2.fh b o q
 have Kc:Same J.B (upd H2 a (.ins C dx (putF f v ws))):=λb o q=>by
  have ne:b≠a:=by rintro rfl;rw[n6]at q;cases q
  rw[aj ne];exact k2.bh b o q
 exact#[C,a,dx,putF f v ws,F2,z,putD f d fs,hn,h0,av,n6,JU,#[Kc,Qy,k2.f0,k2.out,k2.eb,k2.jf,k2.jo],(rs.grow g2).other Pj (λ_ z=>nomatch z),RepF.put rv (RepF.mono g2.ff fs ws rf),R,hx.2,k]⟩
end
section
variable {P:P3}{w:R5}{K:Ex}{mg:JM->Option KB}{base:Heap}
def sA{K:Ex}{B F H:Hp}{z:SD}{σ:L2.St}{v:V}(rs:RepS K B F H z σ):RepS K B F H (G_::z) (be v::σ):=
  ⟨by rw[F7,F7,rs.len],λi d e no=>by
    cases i with
    |zero=>cases e
    |succ i=>exact rs.val i d e no,λi ds e=>by
    cases i with
    |zero=>cases e
    |succ i=>exact rs.own i ds e,λi j di dj a e1 e2 e3 e4=>by
    cases i with
    |zero=>cases e1
    |succ i=>
      cases j with
      |zero=>cases e2
      |succ j=>rw[rs.apart i j di dj a e1 e2 e3 e4]⟩
def Cls.okI{x qual:JM}{st:R3}{f C:KF}{fd:R_}{N:List JM}{p0:JM}{ps:List JM}{k:Nat}{S:SiD}(T:Fun K "__init__" qual st f fd)(hb:Binds K fd (p0::ps) [])(F:FnScope (p0::N) (p0::ps) (ag st))(len:∀ds R,S ds R->ds.length=ps.length)
  (hns:nsIn K Pi x=be (be (.ref C))) (j9:mg x=be (.ref C)) (mk:Mk K C f)
  (a_:∀(cdv:KB) (A:R6) (outer:List SU) (s:KM) (H:Hp) (E:XK) (J:Jx),Room k (A.deeper (Se qual (ag st) s.heap.objs.size f cdv))->
   ∃t,DI (cxOf (Exc.CX1 P w) P w K mg base (p0::N) qual (ag st) f cdv A outer s H E).nox x (aG st) t/\∀ds R,S ds R->t (G_::startD N ds) [] R):CalM P w K mg base (k+1) x (p0::ps) S:=by
 refine#[C,f,fd,hns,j9,mk,Fun.okC T F (λvs H Q E h=>?_) (λcdv A outer s H vs Q E hr h=>?_),hb]
 .obtain⟨a,dx,us,H1,F,ds,rfl,_,_,_,_,_,rs,R,h,_⟩:=h;rw[F7,F7,rs.length,len ds R h]
 .obtain⟨a,dx,us,H1,F1,ds,rfl,rfl,ha,q8,k9,fh,rs,R,h,q⟩:=h
  letI:Jx:=#[H1,F1,λ_ _ _=>False]
  obtain⟨t,ht,hq⟩:=a_ cdv A outer s _ E inferInstance hr;have Fa:F1 a=none:=fh.free ha;have hl:L2.start (p0::N) (.ref a::us)=be (.ref a)::L2.start N us:=by
   unfold L2.start;rw[Gs,F7,F7,IN];rfl
  have s1:Same H1 (upd (upd H1 dx (.own a)) a (.ins C dx [])):=(aP q8 _).trans (aP (by rw[aj (Ne.symm k9)];exact ha) _);refine#[_,ht.nox,C,a,dx,[],F1,G_::startD N ds,[],hns,by rw[hl];rfl,av,ha,Fa,#[s1,fh.trans s1,Same.refl F1,λ_ h _=>h,rfl,Same.refl F1,λ_ h _=>h],?_,repf_nil.mpr rfl,R,hq ds R h,λl9 Kz F' H' g hR e9 i_ rf=>q l9 Kz dx F' H' #[g.f0,g.fh,g.bh,g.out] hR e9 i_ rf];rw[hl];exact sA (dq rs)
end
section
variable {X:Cx}{a b c e:RZ}{ta tb tc te:TD}{pos:Sb}
def za(t u:TD):TDI:=λz R=>t z λx=>u z λy=>match x,y with|.int i,.int j=>(-(2^62)<=i/\i<2^62/\-(2^62)<=j/\j<2^62)/\R ((FY (j-i).toNat).map λk=>D.int (i+((k:Nat):Int)))|_,_=>False
def zb[Jx](i:Nat){x:JM}{p p1 p2:Sb}{body:List R3}{Pk:TSD}(hp:Sq (R1 X.prog X.w) X.A X.env X.xe)(hc:X.calm=true)(hN:X.N.Nodup)(hm:X.mg "range"=G_)(ha:WDE X a ta)(g5:WDE X b tb)(hb:WDSs X body Pk)(hg:autoParam (Gl X "range") zA0)(hi:autoParam (X.N[i]?=be x) zA0)(hx:autoParam (Loc X.env.scope x) zA4)
  (hf:autoParam (zFN X x) zA2) (hs:autoParam (∀y,zFS X (.Call (.Name "range" p1) [a,b] [] p2) y) zA3) (p_:autoParam (zSE X a [b]) zA0) (Nk:autoParam (zSE X b []) zA0) (f8:autoParam (R8 [a,b] X.env=[(false,Sa a X.env),(false,Sa b X.env)]) zA0) (Nl:autoParam (R8 [b] X.env=[(false,Sa b X.env)]) zA0):WDS X (.For (.Name x p) (.Call (.Name "range" p1) [a,b] [] p2) body [] pos) (dFor i (za ta tb) Pk):=⟨have ha:=ha.out;have g5:=g5.out;have hb:=hb.out;(cS hp hc (wr hg hm (bo ha (bo g5 pa_nil Nk) p_) f8 Nl) (dP hN hi hx hf) hb hs).anti λE s H q=>by
 obtain⟨B,F0,F,z,kp,rs,ED,h,e⟩:=q;refine#[B,F,z,kp.kf,rs,_,h,λd1 v1 F1 H1 g1 h1 r1=>?_];refine#[B,F1,z,kp.kf.grow g1,rs.grow g1,_,h1,λd2 v2 F2 H2 g2 h2 r2=>?_];split at h2
 .rename_i lo l5;obtain⟨bd,W,w0,d3,out⟩:=h2;have hl:((FY (l5-lo).toNat).map λk=>D.int (lo+((k:Nat):Int))).length=(l5-lo).toNat:=by simp
  refine#[lo,l5,by rw[rep_int.mp r1,rep_int.mp r2],bd,jA (lo:=lo) (n:=(l5-lo).toNat) (λk s' H'=>∃F' z',Kept B F0 F' H'/\RepS X.K B F' H' z' s'/\W k z') #[F2,z,(kp.grow g1).grow g2,(rs.grow g1).grow g2,w0] ?_ ?_]
  .rintro k s' H' hk⟨F',z',k',r',w'⟩;exact#[B,F0,F',_,k',r'.set (d:=.int (lo+(k:Int))) (rep_int.mpr rfl),_,d3 k (.int (lo+(k:Int))) z' (by simp[hk]) w',#[λz3 s3 F3 H3 k3 h3 r3=>#[F3,z3,k3,r3,h3],e.rt,e.nx,λz3 s3 F3 H3 k3 h3 r3=>#[F3,z3,k3,r3,h3]]]
  .rintro s' H'⟨F',z',k',r',w'⟩;exact e.nx z' s' F' H' k' (out z' (by rw[hl];exact w')) r'
 .exact h2.elim⟩
def RepS.change[Jx]{K:Ex}{B F0 F H:Hp}{z:SD}{s:L2.St}{i:Nat}{ds Nm:List D}{a:KF}{n8:List V}(rs:RepS K B F H z s)(k:Kept B F0 F H)(ez:z[i]?=be (be (.own ds)))(q1:s[i]?=be (be (.ref a)))(hB:B a=G_)(hF:F a=G_)(r:Reps K F Nm n8):
  Kept B F0 F (upd H a (.lst n8))/\RepS K B F (upd H a (.lst n8)) (z.set i (be (.own Nm))) s:=by
 have same:∀{G:Hp},G a=G_->Same G H->Same G (upd H a (.lst n8)):=λ{G} ga gs b o eb=>by
  have ne:b≠a:=λz=>by rw[z,ga]at eb;cases eb
  rw[aj ne];exact gs b o eb
 have r2:=rs.setOwn (i:=i) (a:=a) (vs:=n8) (ds:=Nm) hB hF r (λj dj hj e1 e2=>hj (rs.apart j i dj ds a e1 ez e2 q1));have es:s.set i (be (.ref a))=s:=by
  apply G0;intro n;by_cases hn:i=n
  .subst hn;rw[GD (Gh.mp q1).1,q1]
  .rw[Gg hn]
 rw[es]at r2;exact#[#[same hB k.bh,same hF k.fh,k.f0,k.out,k.eb,k.jf,k.jo],r2]
def Reps.put{K:Ex}{F:Hp}{d:D}{v:V}(r:Rep K F d v):∀{ds:List D} {vs:List V} (j:Nat),Reps K F ds vs->Reps K F (ds.set j d) (vs.set j v)
 |[],vs,j,h=>by rw[reps_nil.mp h];exact reps_nil.mpr rfl
 |x::ds,vs,0,h=>by
  obtain⟨u,us,rfl,h1,h2⟩:=reps_cons.mp h;exact reps_cons.mpr #[v,us,rfl,r,h2]
 |x::ds,vs,j+1,h=>by
  obtain⟨u,us,rfl,h1,h2⟩:=reps_cons.mp h;exact reps_cons.mpr #[u,_,rfl,h1,Reps.put r j h2]
def sB(i:Nat)(te ti:TD):TSD:=λE z=>match z[i]? with
 |some (be (.own ds))=>te z λd=>ti z λy=>match y with|.int k=>∃j,ixN ds.length k=be j/\E.nx (z.set i (be (.own (ds.set j d))))|_=>False
 |_=>False
def kt[Jx](i:Nat){x:JM}{p1 p2:Sb}(he:WDE X e te)(hb:WDE X b tb)(hN:autoParam (X.N[i]?=be x) zA0)(hv:autoParam (Vis X.env.scope x) zA5)(hd:autoParam (zND x) zA1)
  (gV:autoParam (zNC x) zA1)
  (ha:∀v,SB (.Subscript (.Name x p1) b p2) X.env v=(do
   let ov <-Sv [v] (Sa (.Name x p1) X.env)
   let iv <-Sv [v,ov] (Sa b X.env)
   SS p2
   Sv [v,ov,iv] (TM ov iv v)
   Ui [v,ov,iv] []):=by intro _;rfl)
  (hs:autoParam (SI [.Subscript (.Name x p1) b p2] e pos.line X.env=pure false) zA0) (hw:autoParam (SJ [.Subscript (.Name x p1) b p2] e X.env=pure none) zA0)
  (h1:autoParam ((R7 [.Subscript (.Name x p1) b p2] X.env).map (·.2)=[SB (.Subscript (.Name x p1) b p2) X.env]) zA0):WDS X (.Assign [.Subscript (.Name x p1) b p2] e pos) (sB i te tb):=⟨have he:=he.out;have hb:=hb.out;(ft he (we (cJ hN hv hd gV) hb qK ha) hs hw h1).anti λE s H q=>by
 obtain⟨B,F0,F,z,k,rs,ED,h,e⟩:=q;unfold sB at h;split at h
 .rename_i ds ez;refine#[B,F,z,k.kf,rs,_,h,λd v F1 H1 g1 hx rv=>?_];obtain⟨a,vs,q1,q2,q3,q4,q5⟩:=(rs.grow g1).own i ds ez;refine#[.ref a,q1,B,F1,z,k.kf.grow g1,rs.grow g1,_,hx,λy w F2 H2 g2 hy ry=>?_];split at hy
  .obtain⟨j,ej,hn⟩:=hy;have r2:=(rs.grow g1).grow g2;have k2:=(k.grow g1).grow g2;have JU:F2 a=none:=g2.out a q4 (by rw[q2];exact λz=>nomatch z);refine#[a,vs,_,j,rfl,rep_int.mp ry,g2.hh _ _ q2,by rw[q5.length];exact ej,?_];obtain⟨k3,r3⟩:=r2.change k2 ez q1 q3 JU (Reps.put (rv.mono g2.ff) j (q5.mono g2.ff));exact e.nx _ s F2 _ k3 hn r3
  .exact hy.elim
 .exact h.elim⟩
end
end My
namespace My
open Exc
abbrev XD:=JM->List (JM×D)->Prop
def ErrD(K:Ex)(F:Hp)(x:JM)(fs:List (JM×D))(C:KF)(od:Option KF):Prop:=
 nsIn K Pi x=be (be (.ref C))/\∃vs,RepF K F fs vs/\((od=G_/\vs=[])\/∃b,od=be b/\F b=be (.xd vs))
abbrev SpX:=List D->(D->Prop)->XD->Prop
def lSpX(K:Ex)(S:SpX):Sp:=λvs H Q E=>∃F ds,Same F H/\Reps K F ds vs/\∃(R:D->Prop) (RX:XD),S ds R RX/\(∀d v F' H',Grow F H F' H'->R d->Rep K F' d v->Q v H')/\
 ∀x fs C od F' H',Grow F H F' H'->RX x fs->ErrD K F' x fs C od->E (.ref C) od H'
def Exd(X:Cx)(H:Hp)(s:KM)(e C:KF)(od:Option KF):Prop:=
  H e=G_/\X.s₀.heap.get? e=G_/\(∀p∈X.pn,p.1≠e)/\
  ((∃sl vs,s.heap.get? e=be #[.ref C,od,.fields vs,sl]/\vs[1]?=be .none)\/
    ∃T,ExAt s.heap e C od T .none/\X.s₀.heap.get? T=G_/\H T=G_/\∀p∈X.pn,p.1≠T)
def XOk(X:Cx)[J:Jx]:Prop:=∀(σ:L2.St) (z:SD) (F H:Hp) (s:KM) (e C:KF) (od:Option KF) (x:JM) (fs:List (JM×D)),Inv X [] σ H s->Kept J.B J.F0 F H->RepS X.K J.B F H z σ->J.RX z x fs->ErrD X.K F x fs C od->Exd X H s e C od->X.xe (.ref e) s
variable{X:Cx}{pins:List (KF×Sj)}{σ:L2.St}{H:Hp}{s:KM}
def Inv.nopins(I:Inv X pins σ H s):Inv X [] σ H s:=I.pins_of λp hp=>by cases hp
section
variable {X:Cx}{k:Nat}{f:KF}{fd:R_}{ps:List JM}{sp:Sp}{E:XK}
def gK{pins:List (KF×Sj)}{σ:L2.St}{H:Hp}{s:KM}{Q:VK}{us:List KB}{vs:List V}(F:FnOk X.prog X.w X.K X.mg X.base (CX1 X.prog X.w) k f fd ps sp)(hr:Room k X.A)(hb:Binds X.K fd ps [])
  (hx:∀e s',CX1 X.prog X.w X.stack H s E e s'->X.xe e s') (I:Inv X pins σ H s) (r:Vals vs us) (h:sp vs H Q E):R4 (R1 X.prog X.w) X.A (call (.ref f) us) (EP X pins σ Q) X.xe s:=by
 have hl:us.length=ps.length:=by rw[<-L2.Vals.length r];exact F.len _ _ _ _ h
 have g5:=hb s us I.kIn (by rw[Gw];exact hl);rw[Gw]at g5;refine SG (SA (F.run X.A X.stack s H #[us,[]] us vs Q E hr I.env0 g5 r h) λr s' hq=>?_);cases r with
 |error e=>exact hx e s' hq
 |ok fl=>
  cases fl with
  |ret u=>exact I.after hq
  |next=>exact False.elim hq
  |brk=>exact False.elim hq
  |cont=>exact False.elim hq
end
variable{b:KF}
def cA(I:Inv X pins σ H s)(e8:X.ex=[])(q:s.heap.get? b=G_):X.s₀.heap.get? b=none:=by
 cases z:X.s₀.heap.get? b with
 |none=>rfl
 |some o=>
  obtain⟨o',z'⟩:=I.base.there b o z (by rw[e8];simp);rw[q]at z';cases z'
def pn_free(I:Inv X pins σ H s)(q:s.heap.get? b=G_):∀p∈X.pn,p.1≠b:=λp hp z=>by
 have:=(I.pin p (G4 _ hp)).1;rw[z,q]at this;cases this
def XOk.out[J:Jx](hx:XOk X)(e8:X.ex=[]){z:SD}{s':KM}{ev:KB}(I:Inv X pins σ H s)
  (h:CX1 X.prog X.w X.stack H s (λCv od H'=>∃x fs C F',Cv=.ref C/\Kept J.B J.F0 F' H'/\RepS X.K J.B F' H' z σ/\J.RX z x fs/\ErrD X.K F' x fs C od) ev s'):X.xe ev s':=by
 obtain⟨e,C,od,T,H',rfl,JO,hb,un,hok,Nn,ne,nT,He,HT,x,fs,C',F',hC,kk,rr,hR,er⟩:=h;cases hC;have I':Inv X pins σ H' s':=I.call' JO un hok hb (λb z=>absurd z KK);exact hx σ z F' H' s' e C od x fs (Inv.nopins I') kk rr hR er #[He,cA I e8 ne,pn_free I ne,.inr #[T,Nn,cA I e8 nT,HT,pn_free I nT]]
abbrev CalX(P:P3)(w:R5)(K:Ex)(mg:JM->Option KB)(base:Heap)(n:Nat)(x:JM)(ps:List JM)(S:SpX):Prop:=Cal P w K mg base n x ps (lSpX K S)
def zc[J:Jx](S:SpX)(t:TDA):TD:=λz R=>t z λds=>S ds R (J.RX z)
variable{ps:List JM}{x:JM}
def sC[J:Jx]{pos:Sb}{n m:Nat}{S:SpX}{p:Sb}{e:RZ}{es:List RZ}{t:TDA}(C:CalX X.prog X.w X.K X.mg X.base n x ps S)(hx:XOk X)(hr:Room m X.A)(ha:WDA X (e::es) t)(e8:autoParam (X.ex=[]) zA0)(hg:autoParam (Gl X x) zA0)(hn:autoParam (n<=m) zA1)(d7:autoParam (zND x) zA1)
  (he:autoParam (zSE X e es) zA0) (c_:autoParam (zPL X pos es) zA0):WDE X (.Call (.Name x p) (e::es) [] pos) (zc S t):=⟨by
 have ha:=ha.out;obtain⟨f,fd,F,hb,hk,hm⟩:=C;intro pins s σ H Q I h;obtain⟨B,Fr,z,kf,rs,R,h1,h2⟩:=h;obtain rfl:B=J.B:=kf.eb;refine Sd (ce I hg hm ?_ d7);refine callWith_K (h₀:=X.base) I.ok.mod.kin hk (thn (ha pos pins s σ H (λvs H1=>lSpX X.K S vs H1 Q (λCv od H'=>∃x fs C F',Cv=.ref C/\Kept J.B J.F0 F' H'/\RepS X.K J.B F' H' z σ/\J.RX z x fs/\ErrD X.K F' x fs C od)) I #[_,Fr,z,kf,rs,_,h1,λds vs F1 H1 g1 hx rx=>?_]) λus s1 ⟨vs,H1,I1,r,q⟩=>#[I1.kIn,?_]) he c_
 .exact#[F1,ds,g1.fh,rx,R,J.RX z,hx,λd v F' H' g=>h2 d v F' H' (g1.trans g),λx fs C od F' H' g hR er=>#[x,fs,C,F',rfl,(kf.grow g1).grow g,(rs.grow g1).grow g,hR,er]]
 .exact gK F (hr.mono hn) hb (λe s' hq=>hx.out e8 I1 hq) I1 r q⟩
section
variable {P:P3}{w:R5}{K:Ex}{mg:JM->Option KB}{base:Heap}
variable{N:List JM}
def sD{qual:JM}{scope:Sw}{f:KF}{cd:KB}{A:R6}{outer:List SU}{s:KM}{H:Hp}{E':XK}{pins:List (KF×Sj)}{σ:L2.St}{H':Hp}{s':KM}{e C T:KF}{od:Option KF}
  (I':Inv (cxOf (CX1 P w) P w K mg base N qual scope f cd A outer s H E') pins σ H' s') (hx:ExAt s'.heap e C od T .none) (ne:s.heap.get? e=G_) (nT:s.heap.get? T=G_) (He:H' e=G_) (HT:H' T=G_) (hE:E' (.ref C) od H'):
  (cxOf (CX1 P w) P w K mg base N qual scope f cd A outer s H E').xe (.ref e) s':=by
 show R4 _ _ (TQ _ _) _ _ _;unfold TQ;refine Os (qV I'.ok.frames I'.stack rfl hx λh2 T2 o_ z7 t_=>flight_none (s:={s' with heap:=h2}) o_ λh3 Lx H_=>?_);have JQ:s'.heap.get? T2=none:=Heap.get?_none_of_le z7;have f1:∀b,s'.heap.get? b=G_->s.heap.get? b=none:=λb q=>cA I' rfl q;have hok:HOk P w H' s'.heap:=I'.hok;have Ka:H' T2=none:=hok.fresh z7;have Qz:∀b∈[T,e],s.heap.get? b=none:=λb hb=>by
  rcases F5.mp hb with z|z
  .rw[z];exact nT
  .rw[FW.mp z];exact ne
 have u2:Un (frs outer) [] H H' s.heap h2:=gy (show Un (frs outer) [] H H' s.heap s'.heap from I'.base) t_ Qz λb hb=>qW hb;have u3:Un (frs outer) [] H H' s.heap h3:=gy u2 H_ (λb hb=>by rw[FW.mp hb];exact f1 T2 JQ) λb hb=>by cases hb
 have k2:=fA hok t_ (λb hb=>I'.stkFree b hb) (λb hb=>by
  rcases F5.mp hb with z|z
  .rw[z];exact HT
  .rw[FW.mp z];exact He)
 have k3:=fA k2 H_ (λb hb=>by cases hb) (λb hb=>by rw[FW.mp hb];exact Ka);exact#[e,C,od,T2,H',rfl,I'.os,I'.bare,u3,k3,Lx,ne,f1 T2 JQ,He,Ka,hE]
variable{ps:List JM}
def _root_.L2.Fun.okX{x:JM}{st:R3}{f:KF}{fd:R_}{k:Nat}{S:SpX}(T:Fun K x x st f fd)(F:FnScope N ps (ag st))(len:∀ds R RX,S ds R RX->ds.length=ps.length)
  (a_:∀(cdv:KB) (A:R6) (outer:List SU) (s:KM) (H:Hp) (E:XK) (J:Jx),Room k (A.deeper (Se x (ag st) s.heap.objs.size f cdv))->XOk (cxOf (CX1 P w) P w K mg base N x (ag st) f cdv A outer s H E)->
   ∃t,DSs (cxOf (CX1 P w) P w K mg base N x (ag st) f cdv A outer s H E) (aG st) t/\∀ds R RX,(∀z,J.RX z=RX)->S ds R RX->t {nx:=λ_=>R .non,rt:=R} (startD N ds)):FnOk P w K mg base (CX1 P w) (k+1) f fd ps (lSpX K S):=by
 refine Fun.okC T F (λvs H Q E h=>?_) (λcdv A outer s H vs Q E hr h=>?_)
 .obtain⟨F,ds,fh,rs,R,RX,h,_⟩:=h;rw[rs.length];exact len ds R RX h
 .obtain⟨F,ds,fh,rs,R,RX,h,q,qx⟩:=h
  letI:Jx:=#[H,F,λ_=>RX]
  have hx:XOk (cxOf (CX1 P w) P w K mg base N x (ag st) f cdv A outer s H E):=by
   intro σ z F' H' s' e C od y fs I kk rr hR er ⟨He,ne,_,hx⟩;have hE:E (.ref C) od H':=qx y fs C od F' H' #[kk.f0,kk.fh,kk.bh,kk.out] hR er;rcases hx with⟨sl,vs,h1,h2⟩|⟨T,h1,h2,h3,_⟩
   .exact qX I h1 h2 He ne hE
   .exact sD I h1 ne h2 He h3 hE
  obtain⟨t,ht,hq⟩:=a_ cdv A outer s H E inferInstance hr hx;refine#[_,ht,H,F,F,startD N ds,#[Same.refl H,fh,Same.refl F,λ_ h _=>h,rfl,Same.refl F,λ_ h _=>h],dq rs,_,hq ds R RX (λ_=>rfl) h,#[λz' s' F' H' k hn _=>q _ _ F' H' #[k.f0,k.fh,k.bh,k.out] hn (rep_non.mpr rfl),λd v F' H' k hd rd=>q d v F' H' #[k.f0,k.fh,k.bh,k.out] hd rd,λ_ _ _ _ _ h _=>h.elim,λ_ _ _ _ _ h _=>h.elim]]
def Tx.okX{x:JM}{st:R3}{k:Nat}{S:SpX}(T:Tx K mg x st ps)(F:FnScope N ps (ag st))(len:∀ds R RX,S ds R RX->ds.length=ps.length)
  (a_:∀(f:KF) (cdv:KB) (A:R6) (outer:List SU) (s:KM) (H:Hp) (E:XK) (J:Jx),Room k (A.deeper (Se x (ag st) s.heap.objs.size f cdv))->XOk (cxOf (CX1 P w) P w K mg base N x (ag st) f cdv A outer s H E)->
   ∃t,DSs (cxOf (CX1 P w) P w K mg base N x (ag st) f cdv A outer s H E) (aG st) t/\∀ds R RX,(∀z,J.RX z=RX)->S ds R RX->t {nx:=λ_=>R .non,rt:=R} (startD N ds)):CalX P w K mg base (k+1) x ps S:=by
 obtain⟨f,fd,T,hb,hm⟩:=T;exact#[f,fd,T.okX F len λcdv A outer s H E J hr hx=>a_ f cdv A outer s H E J hr hx,hb,T.kp,hm]
end
variable{P:P3}{w:R5}{h:Heap}
def ObjOk.there{a:KF}{o:HO}(x:ObjOk P w H h a o):∃u,h.get? a=be u:=by
 cases o with
 |lst xs=>obtain⟨_,_,_,_,e⟩:=x;exact#[_,e]
 |tup xs=>obtain⟨_,_,_,o,e,_⟩:=x;exact#[_,e]
 |dK b7=>obtain⟨_,_,_,_,o,_,_,e,_⟩:=x;exact#[_,e]
 |dT b7=>obtain⟨_,_,_,_,o,_,_,e,_⟩:=x;exact#[_,e]
 |set S n=>obtain⟨o,_,_,_,e,_⟩:=x;exact#[_,e]
 |ins C dx fs=>obtain⟨_,_,_,e,_⟩:=x;exact#[_,e]
 |own y=>exact x
 |xd fs=>obtain⟨_,⟨_,_,_,e,_⟩,_⟩:=x;exact#[_,e]
 |rng lo hi=>obtain⟨_,_,_,e⟩:=x;exact#[_,e]
 |frz ob u=>obtain⟨e,_⟩:=x;exact#[_,e]
 |tbl ps=>exact#[_,(show h.get? a=be _ from x)]
 |met f y=>exact#[_,(show h.get? a=be _ from x)]
 |ext φ=>obtain⟨_,e,_⟩:=x;exact e
def fF{a:KF}(x:HOk P w H h)(e:h.get? a=G_):H a=none:=by
 cases q:H a with
 |none=>rfl
 |some o=>
  obtain⟨u,hu⟩:=ObjOk.there (x a o q);rw[e]at hu;cases hu
def del(H:Hp)(a:KF):Hp:=λb=>if b=a then G_ else H b
def fG{a:KF}:del H a a=none:=by unfold del;rw[if_pos rfl]
def bY{a:KF}(h:b≠a):del H a b=H b:=by unfold del;rw[if_neg h]
section
variable {X:Cx}{pins:List (KF×Sj)}{σ:L2.St}{H:Hp}{s:KM}{e:KF}
variable{φ:Heap->Prop}
def Inv.drop(I:Inv X pins σ H s)(h:H e=be (.ext φ))(ne:X.s₀.heap.get? e=G_):Inv X pins σ (del H e) s:=by
 have nx:∀b o,H b=be o->(∀φ,o≠.ext φ)->b≠e:=λb o q n z=>by rw[z,h]at q;cases q;exact n φ rfl
 refine#[I.ok,I.os,I.bare,#[I.base.keep,I.base.slot,λb o q n hx=>?_,I.base.there,λb xs q=>?_,λb o u q=>?_,λb ps q=>?_],I.loc,I.cell,?_,λx c q=>?_,λp hp=>?_,λa o q=>?_,I.len]
 .have:b≠e:=λz=>by rw[z,ne]at q;cases q
  rw[bY this];exact I.base.free b o q n hx
 .have:=I.base.tups b xs q;rw[bY (nx b _ this λφ z=>nomatch z)];exact this
 .have:=I.base.frzs b o u q;rw[bY (nx b _ this λφ z=>nomatch z)];exact this
 .obtain⟨m,this⟩:=I.base.tbls b ps q;exact#[m,by rw[bY (nx b _ this λφ z=>nomatch z)];exact this]
 .by_cases z:X.env.locals=e
  .rw[z];exact fG
  .rw[bY z];exact I.free
 .by_cases z:c=e
  .rw[z];exact fG
  .rw[bY z];exact I.freeC x c q
 .obtain⟨h1,h2,h3⟩:=I.pin p hp;refine#[h1,?_,h3];by_cases z:p.1=e
  .rw[z];exact fG
  .rw[bY z];exact h2
 .by_cases z:a=e
  .rw[z,fG]at q;cases q
  .rw[bY z]at q;exact(I.hok a o q).stay (λb u _ r=>r) (λb r=>by rw[bY (nx b _ r λφ z=>nomatch z)];exact r) λb xs r=>by rw[bY (nx b _ r λφ z=>nomatch z)];exact r
def Inv.adopt(I:Inv X pins σ H s)(He:H e=G_)(ok:ObjOk X.prog X.w H s.heap e (.ext φ))(ne:X.s₀.heap.get? e=G_)(hl:e≠X.env.locals)(hc:∀x c,X.env.cells.lookup x=be c->c≠e)(hp:∀p∈X.pn++pins,p.1≠e):Inv X pins σ (upd H e (.ext φ)) s:=by
 refine#[I.ok,I.os,I.bare,#[I.base.keep,I.base.slot,λb o q n hx=>?_,I.base.there,λb xs q=>?_,λb o u q=>?_,λb ps q=>?_],I.loc,I.cell,?_,λx c q=>?_,λp KZ=>?_,λa o q=>?_,I.len]
 .have:b≠e:=λz=>by rw[z,ne]at q;cases q
  rw[aj this];exact I.base.free b o q n hx
 .have:=I.base.tups b xs q;rw[aj (bx this He)];exact this
 .have:=I.base.frzs b o u q;rw[aj (bx this He)];exact this
 .obtain⟨m,this⟩:=I.base.tbls b ps q;exact#[m,by rw[aj (bx this He)];exact this]
 .rw[aj (Ne.symm hl)];exact I.free
 .rw[aj (hc x c q)];exact I.freeC x c q
 .obtain⟨h1,h2,h3⟩:=I.pin p KZ;refine#[h1,?_,h3];rw[aj (hp p KZ)];exact h2
 .by_cases z:a=e
  .rw[z,av]at q;cases q;rw[z];exact ok
  .rw[aj z]at q;exact(I.hok a o q).stay (λb u _ r=>r) (λb r=>by rw[aj (bx r He)];exact r) λb xs r=>by rw[aj (bx r He)];exact r
end
structure ErrK(K:Ex)(mg:Str->Option KB)(x:Str)(C N:KF)(bm:List KB):Prop where
 ns:nsIn K Pi x=be (be (.ref C))
 mg:mg x=be (.ref C)
 kp:keepIn K (.ref C)=true
 obj:∃nm q bs sn sub ab col dd k0 k1 k2 k3 k5,K.lookup C=be (Sm nm q C N bs bm true sn sub ab col dd k0 k1 k2 k3 k5 "ValueError.__new__")
 tail:tailIn K veLine bm=true
structure ErrN(K:Ex)(N:KF):Prop where
 ok:nsOkIn K N=true
 no:nsIn K N "__init__"=be G_
def ku{K:Ex}:∀{l:List KB},tailIn K veLine l=true->aJ l=true
 |[],e=>by simp[tailIn,veLine]at e
 |v::r,e=>by
  unfold tailIn at e;rcases IP.mp e with q|q
  .rw[beq_iff_eq.mp q];decide+kernel
  .split at q
   .split at q
    .simp only[Gu,beq_iff_eq]at q;unfold aJ;exact ku q.2
    .cases q
   .cases q
variable{K:Ex}{mg:JM->Option KB}{C N:KF}{bm:List KB}
def ErrK.base(k:ErrK K mg x C N bm):bm.contains (.type "BaseException")=true:=dU Kv (ku k.tail)
section
variable {X:Cx}[J:Jx]{x:JM}{C N:KF}{bm:List KB}{e:RZ}{es:List RZ}{t:TDA}{p a9 pos:Sb}
def zd(x:JM)(t:TDA):TSD:=λ_ z=>t z λds=>ds.length<=1000/\J.RX z x []
def ze(h:∃C N bm,ErrK X.K X.mg x C N bm/\ErrN X.K N)(hx:XOk X)(hc:X.calm=true)(ha:WDA X (e::es) t)(e8:autoParam (X.ex=[]) zA0)(hg:autoParam (Gl X x) zA0)(d7:autoParam (zND x) zA1)
  (he:autoParam (zSE X e es) zA0) (c_:autoParam (zPL X a9 es) zA0):WDS X (.Raise (be (.Call (.Name x p) (e::es) [] a9)) G_ pos) (zd x t):=⟨by
 have ha:=ha.out;obtain⟨C,N,bm,k,kn⟩:=h;intro pins s σ H D I h;obtain⟨B,F0,F,z,kf,rs,ED,h,ee⟩:=h;obtain rfl:B=J.B:=kf.eb;obtain⟨nm,q,bs,sn,sub,ab,col,dd,k0,k1,k2,k3,k5,lk⟩:=k.obj;refine jP (nm:=nm) (q:=q) (C:=C) (N:=N) (bs:=bs) (bm:=bm) (hdct:=true) (sn:=sn) (sub:=sub) (ab:=ab) (col:=col) (dd:=dd) (k0:=k0) (k1:=k1) (k2:=k2) (k3:=k3) (k5:=k5) (newId:="ValueError.__new__") k.base (I.ok.hd hc) ?_;refine Sd (ce I hg k.mg ?_ d7);refine callWith_K (h₀:=X.base) I.ok.mod.kin k.kp (thn (ha a9 pins s σ H (λvs H1=>∃F1,vs.length<=1000/\Grow F H F1 H1/\J.RX z x []) I #[_,F,z,kf.kf,rs,_,h,λds vs F1 H1 g1 hx rx=>#[F1,by rw[rx.length];exact hx.1,g1,hx.2]]) λus s1 hh=>#[hh.elim λ_ h=>h.elim λ_ h=>h.1.kIn,?_]) he c_;obtain⟨vs,H1,I1,r,F1,hl,g1,hR⟩:=hh;have hC:=I1.kIn _ _ lk;obtain⟨hp,gg,dr,tk,os⟩:=s1;refine T9 PySem.F.excBase_ValueError (tail_of_in I1.kIn k.tail) hC (.of_isNs (isNs_of_in I1.kIn kn.ok)) (nsMap_none_of_in I1.kIn kn.ok kn.no) (λh' ea hm=>?_) (by show us.length<=_;rw[<-L2.Vals.length r];exact sz hl);obtain⟨ta,h1,h2,h3⟩:=hm.there;have I2:Inv X pins σ H1 #[h',gg,dr,tk,os]:=I1.kept (t':=tk) hm.keeps;refine#[ea,ta,G_,[].toArray,rfl,hm.keeps _ _ hC,h1,?_];exact hx σ z F1 H1 _ ea C G_ x [] (Inv.nopins I2) (kf.kf.grow g1) (rs.grow g1) hR #[k.ns,[],repf_nil.mpr rfl,.inl #[rfl,rfl]] #[fF I1.hok hm.new,cA I1 e8 hm.new,pn_free I1 hm.new,.inl #[[].toArray,_,h1,rfl]]⟩
end
def XN(e C:KF)(od:Option KF):HO:=.ext λh=>∃t sl,h.get? e=be #[.ref C,od,.fields [.ref t,.none,.none,.none,.bool false,.none].toArray,sl]
variable{e:KF}{od:Option KF}{sl:Array (Option KB)}
def XN.ok{t:KF}(q:h.get? e=be #[.ref C,od,.fields [.ref t,.none,.none,.none,.bool false,.none].toArray,sl]):ObjOk P w H h e (XN e C od):=
 #[#[t,sl,q],#[_,q],λh1 h2 ⟨t,sl,q⟩ k=>#[t,sl,k _ q]]
def XN.get(x:HOk P w H h)(q:H e=be (XN e C od)):∃t sl,h.get? e=be #[.ref C,od,.fields [.ref t,.none,.none,.none,.bool false,.none].toArray,sl]:=(x e _ q).1
def ErrF(K:Ex)(F:Hp)(fs:List (JM×D))(od:Option KF):Prop:=∃vs,RepF K F fs vs/\((od=G_/\vs=[])\/∃b,od=be b/\F b=be (.xd vs))
def lEi(K:Ex)(C:KF)(S:SiD):Sp:=λvs H Q _=>∃e us H1 F ds,vs=.ref e::us/\H=upd H1 e (XN e C G_)/\H1 e=G_/\Same F H1/\Reps K F ds us/\
 ∃R:List (JM×D)->Prop,S ds R/\∀fs od F' H',Grow F H1 F' H'->R fs->H' e=be (XN e C od)->F' e=G_->ErrF K F' fs od->Q .non H'
def CalE(P:P3)(w:R5)(K:Ex)(mg:JM->Option KB)(base:Heap)(n:Nat)(x:JM)(ps:List JM)(S:SiD):Prop:=
 ∃C N bm f fd,ErrK K mg x C N bm/\FZ K (.ref C) "__init__"=be (be (.ref f))/\isFn K (.ref f)=true/\FnOk P w K mg base (CX1 P w) n f fd ps (lEi K C S)/\Binds K fd ps []
section
variable {X:Cx}{pins:List (KF×Sj)}{σ:L2.St}{H:Hp}{s:KM}{e:KF}
def Inv.newx{C:KF}{h':Heap}{us:List KB}(I:Inv X pins σ H s)(e8:X.ex=[])(hm:Heap.MadeExcOf s.heap h' e (.ref C) us):Inv X pins σ (upd H e (XN e C G_)) {s with heap:=h'}:=by
 obtain⟨ta,h1,h2,h3⟩:=hm.there;have I2:Inv X pins σ H {s with heap:=h'}:=I.kept (t':=s.toks) hm.keeps;refine Inv.adopt I2 (fF I.hok hm.new) (XN.ok h1) (cA I e8 hm.new) (λz=>?_) (λx c q z=>?_) λp hp z=>?_
 .obtain⟨m,⟨o,_,_,ho,_⟩,_⟩:=I.loc;rw[<-z,hm.new]at ho;cases ho
 .obtain⟨v,o,ho,_⟩:=I.cell x c q;rw[z,hm.new]at ho;cases ho
 .have:=(I.pin p hp).1;rw[z,hm.new]at this;cases this
end
structure BaseK(K:Ex)(mg:Str->Option KB)(y:Str)(M:KF):Prop where
 mg:mg y=be (.ref M)
 rd:readsIn K M (.type "type")=true
 fc:findCls K (.ref M) (.type "type") "__init__"=be (.val (.builtin "ValueError.__init__"))
 sp:specialIn K (.ref M) "__getattribute__"=be (be (.builtin "type.__getattribute__"))
structure ErrA(K:Ex)(x:Str)(C:KF)(cd:TJ):Prop where
 ns:nsIn K Pi x=be (be (.ref C))
 cl:Ie K C=be cd
 mro:aJ cd.mro=true
 hd:cd.hasDict=true
 sa:FZ K (.ref C) "__setattr__"=be (be (.builtin "object.__setattr__"))
def ErrK.a(k:ErrK K mg x C N bm)(sa:FZ K (.ref C) "__setattr__"=be (be (.builtin "object.__setattr__"))):∃cd,ErrA K x C cd:=by
 obtain⟨nm,q,bs,sn,sub,ab,col,dd,k0,k1,k2,k3,k5,lk⟩:=k.obj;exact⟨_,k.ns,by unfold Ie;rw[lk],by
  show aJ (.ref C::bm)=true;unfold aJ;exact ku k.tail,rfl,sa⟩
def lX(K:Ex)[J:Jx](x:JM)(t:TID):TS:=λE σ H=>∃C e od ws F z fs,nsIn K Pi x=be (be (.ref C))/\σ[0]?=be (be (.ref e))/\H e=be (XN e C od)/\J.B e=G_/\F e=G_/\Kept J.B J.F0 F H/\RepS K J.B F H z σ/\RepF K F fs ws/\
 ((od=G_/\ws=[])\/∃b,od=be b/\H b=be (.xd ws)/\J.B b=G_/\F b=G_/\b≠e/\ws≠[])/\
 ∃R:List (JM×D)->Prop,t z fs R/\∀l9 Mt F' H',Kept J.B J.F0 F' H'->R l9->H' e=be (XN e C Mt)->F' e=G_->ErrF K F' l9 Mt->E.nx σ H'
abbrev DX(X:Cx)[Jx](x:JM)(st:List R3)(t:TID):Prop:=PSs X st (lX X.K x t)
structure WDX(X:Cx)[Jx](x:Str)(st:List R3)(t:TID):Prop where
 out:DX X x st t
def sE{a:KF}{o:HO}(h:H a=be o):upd H a o=H:=by
 funext b;unfold upd;by_cases q:b=a
 .rw[if_pos q,q,h]
 .rw[if_neg q]
section
variable {X:Cx}[J:Jx]{x f:JM}{e:RZ}{te:TD}{ta:TDA}{pos d4 p:Sb}{rest:List R3}{tr:TID}
def zf:WDX X x [] sy:=⟨pss_nil.anti λE s H q=>by
 obtain⟨C,a,od,ws,F,z,fs,hn,h0,e9,hB,i_,k,rs,rf,hd,R,hR,kk⟩:=q;rcases hd with⟨rfl,rfl⟩|⟨b,rfl,hb,Mu,KA,ne,_⟩
 .exact kk fs G_ F H k hR e9 i_ #[[],rf,.inl #[rfl,rfl]]
 .have s1:Same F (upd F b (.xd ws)):=aP KA _;refine kk fs (be b) (upd F b (.xd ws)) H #[k.bh,λc o q=>?_,k.f0.trans s1,λc h1 h2=>?_,k.eb,k.jf,k.jo] hR e9 (by rw[aj (Ne.symm ne)];exact i_) #[ws,RepF.mono s1 fs ws rf,.inr #[b,rfl,av]]
  .by_cases hc:c=b
   .subst hc;rw[av]at q;cases q;exact hb
   .rw[aj hc]at q;exact k.fh c o q
  .have:c≠b:=λz=>h2 (z ▸ Mu);rw[aj this];exact k.out c h1 h2⟩
def zg(ta:TDA)(tr:TID):TID:=λz fs R=>ta z λds=>ds.length<=1000/\tr z fs R
def zh{y sx:JM}{ps py b9 a9:Sb}{es:List RZ}{pl:TX Bool}(hb:∃M,BaseK X.K X.mg y M)(hA:∃C cd,ErrA X.K x C cd)(ha:WDA X es ta)(hr:WDX X x rest tr)(hg:autoParam (Gl X y) zA0)(hN:autoParam (X.N[0]?=be sx) zA0)(hv:autoParam (Vis X.env.scope sx) zA5)(hd:autoParam (zND sx) zA1)
  (gV:autoParam (zNC sx) zA1) (QA:autoParam (zND y) zA1)
  (he:autoParam (R8 (.Name sx ps::es) X.env=(false,Sa (.Name sx ps) X.env)::R8 es X.env) zA0) (c_:autoParam (zPL X a9 es) zA0)
  (ht:Sa (.Call (.Attribute (.Name y py) "__init__" b9) (.Name sx ps::es) [] a9) X.env=(do
   let ov <-Sa (.Name y py) X.env
   SS b9.atName
   let (f,first) <-Sv [ov] (S' ov "__init__" pl)
   T5 a9 f first (SZ a9 (R8 (.Name sx ps::es) X.env)) (Tg a9 (SX [] X.env))):=by rfl)
  (hs:autoParam (Sg (.Call (.Attribute (.Name y py) "__init__" b9) (.Name sx ps::es) [] a9) G_ pos.line X.env=pure false) zA0):WDX X x (.Expr (.Call (.Attribute (.Name y py) "__init__" b9) (.Name sx ps::es) [] a9) pos::rest) (zg ta tr):=⟨by
 have ha:=ha.out;have hr:=hr.out;obtain⟨M,bk⟩:=hb;obtain⟨C,cd,er⟩:=hA;have step:PS X (.Expr (.Call (.Attribute (.Name y py) "__init__" b9) (.Name sx ps::es) [] a9) pos) (λE σ H=>∃C' e od,nsIn X.K Pi x=be (be (.ref C'))/\σ[0]?=be (be (.ref e))/\
   lA X.K ta σ H (λvs H1=>H1 e=be (XN e C' od)/\vs.length<=1000/\E.nx σ H1)):=by
  intro pins s σ H D I h;obtain⟨C',ea,od,hn,h0,h⟩:=h;rw[er.ns]at hn;cases hn;refine wpAny_Expr_any (methodCall_KW (pl:=pl) (ce I hg bk.mg ?_ QA) ht) I.quiet hs;refine method_cls I.kIn bk.sp (cls_value I.kIn bk.rd bk.fc Kv ?_);have I0:Inv X pins σ H {s with toks:=s.toks+1}:=I.tok _;obtain⟨B,F,z,kf,rs,R,h1,h2⟩:=h;refine PyProof.Rows.callWith_builtin1 (thn (bo (cJ (i:=0) hN hv hd gV) ha he a9 pins _ σ H (λvs H1=>∃us,vs=.ref ea::us/\H1 ea=be (XN ea C od)/\us.length<=1000/\D.nx σ H1) I0 #[.ref ea,h0,#[B,F,z,kf,rs,R,h1,λds vs F' H' g hx rx=>#[vs,rfl,h2 ds vs F' H' g hx rx]]]) λus s1 hh=>?_) he c_;obtain⟨vs,H1,I1,r,RA,ev,u9,hl,KC⟩:=hh;subst ev;cases r with
  |cons r1 r2=>
   rename_i u0 RB;obtain rfl:u0=Value.ref ea:=r1;obtain⟨t0,sl,j5⟩:=XN.get I1.hok u9;refine xQ (K:=X.K) (C:=C) (cd:=cd) I1.kIn j5 rfl rfl er.cl er.mro (by rw[<-L2.Vals.length r2];exact sz hl) λh' g1 g2=>?_;refine#[σ,H1,?_,KC];have w:=I1.write (x:=ea) (e:=ea) (o:=XN ea C od) (h':=h') (t':=s1.toks) (by rw[u9];exact True.intro) (.inl rfl) (λb u hb q=>g2 b u hb q) #[_,g1] (XN.ok g1);rw[sE u9]at w;exact w
 refine(dO step hr).anti λE s H q=>?_;obtain⟨C',a,od,ws,F,z,fs,hn,h0,e9,hB,i_,k,rs,rf,g7,R,hR,kk⟩:=q;refine#[C',a,od,hn,h0,_,F,z,k,rs,_,hR,λds vs F1 H1 g hx rx=>#[g.hh a _ e9,by rw[rx.length];exact hx.1,?_]];refine#[C',a,od,ws,F1,z,fs,hn,h0,g.hh a _ e9,hB,g.out a i_ (by rw[e9];exact λz=>nomatch z),k.grow g,rs.grow g,RepF.mono g.ff fs ws rf,?_,R,hx.2,kk];rcases g7 with g7|⟨b,h1,h2,h3,h4,h5⟩
 .exact .inl g7
 .exact .inr #[b,h1,g.hh b _ h2,h3,g.out b h4 (by rw[h2];exact λz=>nomatch z),h5]⟩
def zi(f:JM)(te:TD)(tr:TID):TID:=λz fs R=>fs=[]/\te z λd=>tr z [(f,d)] R
def zj{sx:JM}{ps:Sb}(hA:∃C cd,ErrA X.K x C cd)(hf:∀C,nsIn X.K Pi x=be (be (.ref C))->FZ X.K (.ref C) f=be G_)(he:WDE X e te)(hr:WDX X x rest tr)(hN:autoParam (X.N[0]?=be sx) zA0)(hv:autoParam (Vis X.env.scope sx) zA5)(hd:autoParam (zND sx) zA1)
  (gV:autoParam (zNC sx) zA1) (hs:autoParam (Sg e (be (.Attribute (.Name sx ps) f d4)) pos.line X.env=pure false) zA0):WDX X x (.Assign [.Attribute (.Name sx ps) f d4] e pos::rest) (zi f te tr):=⟨by
 have he:=he.out;have hr:=hr.out;obtain⟨C,cd,er⟩:=hA;have KD:=hf C er.ns;have step:PS X (.Assign [.Attribute (.Name sx ps) f d4] e pos) (λE σ H=>∃e,σ[0]?=be (be (.ref e))/\
   lE X.K te σ H (λv H1=>H1 e=be (XN e C G_)/\∀b,H1 b=G_->b≠e->E.nx σ (upd (upd H1 b (.xd [(f,v)])) e (XN e C (be b))))):=by
  intro pins s σ H D I h;obtain⟨ea,h0,h⟩:=h;refine SE (thn (he pins s σ H _ I h) λu s1 ⟨y,H1,I1,ry,u9,KC⟩=>thn (cJ (i:=0) hN hv hd gV pins s1 σ H1 (λv H'=>v=.ref ea/\H'=H1) I1 #[.ref ea,h0,rfl,rfl]) λov s2 hh=>?_) hs;obtain⟨v0,H2,I2,r0,e1,e2⟩:=hh;subst e1 e2;obtain rfl:ov=Value.ref ea:=r0;obtain⟨t0,sl,j5⟩:=XN.get I2.hok u9;refine xO (K:=X.K) (C:=C) (cd:=cd) I2.kIn j5 rfl rfl rfl er.cl er.mro er.hd er.sa KD λh' g1 g2 g3 tk=>?_;have l_:H2 s2.heap.objs.size=none:=I2.hok.fresh (FX _);have k9:s2.heap.objs.size≠ea:=GO (Heap.lt_size j5);have No:∀b o,s2.heap.get? b=be o->b≠s2.heap.objs.size:=λb o q=>F6 (Heap.lt_size q);have Np:∀b,H2 b=G_->b≠ea:=λb q z=>by rw[z,u9]at q;cases q
  refine#[σ,_,?_,KC _ l_ k9];have z9:∀b o,H2 b=be o->(∀φ,o≠.ext φ)->upd (upd H2 s2.heap.objs.size (.xd [(f,y)])) ea (XN ea C (be s2.heap.objs.size)) b=be o:=λb o q n=>by
   have n1:b≠ea:=λz=>by rw[z,u9]at q;cases q;exact n _ rfl
   rw[aj n1,aj (bx q l_)];exact q
  refine I2.un (h':=h') (t':=tk) #[λb o q n _ _=>g3 b o (Np b n) q,λb o q n _ _=>#[o.slots,g3 b o (Np b n) q],λb o q n _=>?_,λb o q _=>?_,λb xs q=>z9 b _ q (λφ z=>nomatch z),λb o u q=>z9 b _ q (λφ z=>nomatch z),λb ps q=>#[[].toArray,by rw[z9 b _ q (λφ z=>nomatch z)];simp]] λa o q=>?_
  .rw[aj (Np b n),aj (No b o q)];exact n
  .by_cases hb:b=ea
   .rw[hb];exact#[_,g1]
   .exact#[o,g3 b o hb q]
  .by_cases ha:a=ea
   .subst ha;rw[av]at q;cases q;exact XN.ok g1
   .rw[aj ha]at q;by_cases hb:a=s2.heap.objs.size
    .subst hb;rw[av]at q;cases q;refine#[_,g2,λg=>?_];rw[Gi];by_cases hg:g=f
     .subst hg;simp;exact ry
     .have:(g==f)=false:=by simpa using hg
      rw[this,if_neg hg];exact True.intro
    .rw[aj hb]at q;refine(I2.hok a o q).stay (λb u g5 r=>?_) (λb r=>z9 b _ r (λφ z=>nomatch z)) λb xs r=>z9 b _ r (λφ z=>nomatch z);refine g3 b u (λz=>?_) r;rcases g5 with e1|e1
     .exact ha (e1 ▸ z)
     .rw[z,u9]at e1;cases e1
 refine(dO step hr).anti λE s H q=>?_;obtain⟨C',a,od,ws,F,z,fs,hn,h0,e9,hB,i_,k,rs,rf,g7,R,⟨rfl,hR⟩,kk⟩:=q;rw[er.ns]at hn;cases hn;have QB:ws=[]:=repf_nil.mp rf;subst QB;refine#[a,h0,_,F,z,k,rs,_,hR,λd v F1 H1 g hx rv=>?_];have JW:F1 a=none:=g.out a i_ (by rw[e9];exact λz=>nomatch z);have k1:=k.grow g;rcases g7 with⟨rfl,_⟩|⟨b,rfl,h1,h2,h3,h4⟩
 .refine#[g.hh a _ e9,λb hb k9=>?_];have Mu:J.B b=none:=k1.bh.free hb;have KA:F1 b=none:=k1.fh.free hb;have same:∀{G:Hp},G a=G_->G b=G_->Same G H1->Same G (upd (upd H1 b (.xd [(f,v)])) a (XN a C (be b))):=λ{G} ga gb gs c o q=>by
   have n1:c≠a:=λz=>by rw[z,ga]at q;cases q
   have n2:c≠b:=λz=>by rw[z,gb]at q;cases q
   rw[aj n1,aj n2];exact gs c o q
  have n9:=rs.grow g;refine#[C,a,be b,[(f,v)],F1,z,[(f,d)],er.ns,h0,av,hB,JW,#[same hB Mu k1.bh,same JW KA k1.fh,k1.f0,k1.out,k1.eb,k1.jf,k1.jo],?_,repf_cons.mpr #[v,[],rfl,rv,repf_nil.mpr rfl],.inr #[b,rfl,by rw[aj k9];exact av,Mu,KA,k9,λz=>nomatch z],R,hx,kk];refine#[n9.len,n9.val,λi ds e'=>?_,n9.apart];obtain⟨c,vs,q1,q2,q⟩:=n9.own i ds e';have n1:c≠a:=λz=>by rw[z,g.hh a _ e9]at q2;cases q2
  have n2:c≠b:=λz=>by rw[z,hb]at q2;cases q2
  exact#[c,vs,q1,by rw[aj n1,aj n2];exact q2,q]
 .exact absurd rfl h4.2⟩
end
section
variable {P:P3}{w:R5}{K:Ex}{mg:JM->Option KB}{base:Heap}
def Cls.okE{x qual:JM}{st:R3}{f C N0:KF}{bm:List KB}{fd:R_}{N:List JM}{p0:JM}{ps:List JM}{k:Nat}{S:SiD}(T:Fun K "__init__" qual st f fd)(hb:Binds K fd (p0::ps) [])(F:FnScope (p0::N) (p0::ps) (ag st))(len:∀ds R,S ds R->ds.length=ps.length)
  (ek:ErrK K mg x C N0 bm) (hi:FZ K (.ref C) "__init__"=be (be (.ref f))) (hf:isFn K (.ref f)=true)
  (a_:∀(cdv:KB) (A:R6) (outer:List SU) (s:KM) (H:Hp) (E:XK) (J:Jx),Room k (A.deeper (Se qual (ag st) s.heap.objs.size f cdv))->
   ∃t,DX (cxOf (CX1 P w) P w K mg base (p0::N) qual (ag st) f cdv A outer s H E).nox x (aG st) t/\∀ds R,S ds R->t (G_::startD N ds) [] R):CalE P w K mg base (k+1) x (p0::ps) S:=by
 refine#[C,N0,bm,f,fd,ek,hi,hf,Fun.okC T F (λvs H Q E h=>?_) (λcdv A outer s H vs Q E hr h=>?_),hb]
 .obtain⟨a,us,H1,F,ds,rfl,_,_,_,rs,R,h,_⟩:=h;rw[F7,F7,rs.length,len ds R h]
 .obtain⟨a,us,H1,F1,ds,rfl,rfl,ha,fh,rs,R,h,q⟩:=h
  letI:Jx:=#[H1,F1,λ_ _ _=>False]
  obtain⟨t,ht,hq⟩:=a_ cdv A outer s _ E inferInstance hr;have Fa:F1 a=none:=fh.free ha;have hl:L2.start (p0::N) (.ref a::us)=be (.ref a)::L2.start N us:=by
   unfold L2.start;rw[Gs,F7,F7,IN];rfl
  have s1:Same H1 (upd H1 a (XN a C G_)):=aP ha _;refine#[_,ht.nox,C,a,G_,[],F1,G_::startD N ds,[],ek.ns,by rw[hl];rfl,av,ha,Fa,#[s1,fh.trans s1,Same.refl F1,λ_ h _=>h,rfl,Same.refl F1,λ_ h _=>h],?_,repf_nil.mpr rfl,.inl #[rfl,rfl],R,hq ds R h,λl9 Mt F' H' g hR e9 i_ er=>q l9 Mt F' H' #[g.f0,g.fh,g.bh,g.out] hR e9 i_ er];rw[hl];exact sA (dq rs)
end
section
variable {M:T6}{A:R6}{E:KB->KM->Prop}{h:Heap}{g:Array T7}{d:Drawn}{t:Nat}{os:OsState}
variable {nm q:JM}{C N:KF}{bs bm:List KB}{hdct:Bool}{sn:List JM}{sub:List KB}{ab:Bool}{col:Option Bool}{dd:Option KF}{k0 k1 k2 k3 k5:Option KB}{newId:String}
variable {Nq q':JM}{C' N':KF}{Nr LC:List KB}{LD:Bool}{Nt:List JM}{KE:List KB}{Nu:Bool}{KG:Option Bool}{LF:Option KF}{Nv Nw Ny Nz NA:Option KB}{KH:String}
def sF{e:KF}{oe:Sj}{b:Bool}{Q:Bool->KM->Prop}(hC:h.get? C=be (Sm nm q C N bs bm hdct sn sub ab col dd k0 k1 k2 k3 k5 newId))(hD:h.get? C'=be (Sm Nq q' C' N' Nr LC LD Nt KE Nu KG LF Nv Nw Ny Nz NA KH))
  (he:h.get? e=be oe) (x_:oe.cls=.ref C) (c3:LC.contains (.type "BaseException")=true) (hb:(Value.ref C::bm).contains (.ref C')=b) (hq:Q b #[h,g,d,t,os]):R4 M A (excMatches (.ref e) (.ref C')) Q E #[h,g,d,t,os]:=by
 have M8:(Value.ref C'::LC).contains (.type "BaseException")=true:=by rw[H8,c3,HG]
 have f:=tc_notTuple;unfold excMatches
 repeat(first|(with_reducible refine Sl he ?_;rw[x_])|with_reducible refine Sl hD ?_|(with_reducible refine SR hD ?_;rw[M8])|(with_reducible refine SR hC ?_;rw[hb])|wp_step)
 cases b with
 |true=>wp_walk;exact hq
 |false=>wp_walk;exact hq
end
abbrev _root_.L2.Cx.held(X:Cx)(e:KF):Cx:={X with A:=X.A.mark (be (.ref e)),calm:=false,xe:=λ_ _=>False}
section
variable {X:Cx}{pins:List (KF×Sj)}{σ:L2.St}{H:Hp}{s:KM}{e:KF}
def Cx.Ok.held(ok:X.Ok):(X.held e).Ok:=
 #[ok.mod,ok.kind,ok.glob,ok.blt,ok.above,ok.inj,ok.has,ok.cab,(λz=>nomatch z),ok.frames,ok.stk,ok.exf,ok.bs,ok.bsz,ok.noex,ok.exfs,ok.funs,ok.frf]
def Inv.held(I:Inv X pins σ H s):Inv (X.held e) pins σ H s:=#[Cx.Ok.held I.ok,I.os,I.bare,I.base,I.loc,I.cell,I.free,I.freeC,I.pin,I.hok,I.len]
def Inv.unheld(ok:X.Ok)(I:Inv (X.held e) pins σ H s):Inv X pins σ H s:=#[ok,I.os,I.bare,I.base,I.loc,I.cell,I.free,I.freeC,I.pin,I.hok,I.len]
def SP.unheld{D:Ends}{f:Flow}{s':KM}(ok:X.Ok)(h:SP (X.held e) pins D f s'):SP X pins D f s':=by
 cases f with
 |next=>obtain⟨σ',H',I,q⟩:=h;exact#[σ',H',Inv.unheld ok I,q]
 |brk=>obtain⟨σ',H',I,q⟩:=h;exact#[σ',H',Inv.unheld ok I,q]
 |cont=>obtain⟨σ',H',I,q⟩:=h;exact#[σ',H',Inv.unheld ok I,q]
 |ret u=>obtain⟨v,σ',H',I,r,q⟩:=h;exact#[v,σ',H',Inv.unheld ok I,r,q]
def gL{M:T6}{A:R6}{E:KB->KM->Prop}{i:Nat}{x:JM}{pos:Sb}{Q:Unit->KM->Prop}(I:Inv X pins σ H s)(hN:X.N.Nodup)(hi:X.N[i]?=be x)(hk:X.env.scope.names.lookup x=be .local)
  (h:∀s',Inv X pins (σ.set i G_) H s'->Q () s'):R4 M A (do bindName X.env x .none;unbindBehindTheSuite X.env x pos) Q E s:=by
 obtain⟨m,hn,hl⟩:=id I.loc;have x_:(X.env.scope.kind== .class||(X.env.scope.kind== .module&&X.env.locals !=X.env.globals))=false:=by rw[I.ok.kind];rfl
 have hiσ:i<σ.length:=by rw[I.len];exact(Gh.mp hi).1
 have cne:=I.cne;refine wpAny_nameGoes_keeps hk hn x_ λh' v g_ hs=>?_;obtain⟨oL,_,_,OW,_⟩:=id hn;have gt:HOk X.prog X.w H h':=λb ob e=>by
  refine(I.hok b ob e).stay (λc w' hc q=>(hs.2 c ?_).trans q) (λ_ q=>q) λ_ _ q=>q;rintro rfl;rcases hc with rfl|hc
  .rw[I.free]at e;cases e
  .rw[I.free]at hc;cases hc
 refine h _ #[I.ok,I.os,I.bare,#[λb o e n hb hx=>?_,λb o e n hb hx=>?_,I.base.free,λb o e hx=>?_,I.base.tups,I.base.frzs,I.base.tbls],#[_,g_,λj y v' e1 e2 e3=>?_],λy c e=>?_,I.free,I.freeC,λp hp=>?_,gt,by simpa using I.len]
 .exact(hs.2 b (F6 (Gk (Heap.lt_size e) I.ok.above))).trans (I.base.keep b o e n hb hx)
 .obtain⟨sl,e1⟩:=I.base.slot b o e n hb hx;exact#[sl,(hs.2 b (F6 (Gk (Heap.lt_size e) I.ok.above))).trans e1]
 .obtain⟨o',e1⟩:=I.base.there b o e hx;exact#[o',(hs.2 b (F6 (Gk (Heap.lt_size e) I.ok.above))).trans e1]
 .by_cases hj:j=i
  .subst hj;rw[GD hiσ]at e2;cases e2
  .rw[Gg (Ne.symm hj)]at e2;obtain⟨u',r',q⟩:=hl j y v' e1 e2 e3;refine#[u',r',?_];rcases q with⟨k,e⟩|⟨k,c,e,z⟩
   .refine .inl #[k,?_];have:y≠x:=λe=>hj (jw hN e1 (e ▸ hi));simp[this,e]
   .exact .inr #[k,c,e,z.sameBut hs (cne y c e)]
 .obtain⟨w',z⟩:=I.cell y c e;exact#[w',z.sameBut hs (cne y c e)]
 .obtain⟨e,n,ne,nf,d⟩:=I.pin p hp;exact#[(hs.2 p.1 ne).trans e,n,ne,nf,d]
def Inv.stay{h':Heap}{l9 ex:List KF}(I:Inv X pins σ H s)(st:Stay l9 ex s.heap h')(Mn:∀b∈l9,b∈frs X.stack)(hH:∀b∈ex,H b=G_)(h0:∀b∈ex,X.s₀.heap.get? b=G_)(hL:∀b∈ex,b≠X.env.locals)(hc:∀b∈ex,∀x c,X.env.cells.lookup x=be c->c≠b)
  (hp:∀b∈ex,∀p∈X.pn++pins,p.1≠b):Inv X pins σ H {s with heap:=h'}:=by
 have hok:HOk X.prog X.w H h':=fA I.hok st (λb hb=>I.stkFree b (Mn b hb)) hH;have sub:∀b∈l9,b=X.env.locals\/b∈X.fs:=λb hb=>F5.mp (I.stkSub b (Mn b hb));have nL:∀b o,X.s₀.heap.get? b=be o->b≠X.env.locals:=λb o q=>F6 (Gk (Heap.lt_size q) I.ok.above);have Pl:∀b o,X.s₀.heap.get? b=be o->b∉ex:=λb o q z=>by rw[h0 b z]at q;cases q
 have m8:∀x c v,X.env.cells.lookup x=be c->s.heap.IsCell c v->h'.IsCell c v:=λx c v e ⟨o,ho,hd⟩=>by
  obtain⟨sl,z⟩:=st.slot c o ho (λz=>hc c z x c e rfl);exact#[_,z,hd]
 refine#[I.ok,I.os,I.bare,#[λb o e n hb hx=>?_,λb o e n hb hx=>?_,I.base.free,λb o e hx=>?_,I.base.tups,I.base.frzs,I.base.tbls],?_,λy c e=>?_,I.free,I.freeC,λp KZ=>?_,hok,I.len]
 .exact st.keep b o (I.base.keep b o e n hb hx) (Pl b o e) (λz=>(sub b z).elim (nL b o e) hb)
 .obtain⟨sl,e1⟩:=I.base.slot b o e n hb hx;obtain⟨v9,e2⟩:=st.slot b _ e1 (Pl b o e);exact#[v9,e2]
 .obtain⟨o',e1⟩:=I.base.there b o e hx;exact st.there b o' e1
 .obtain⟨m,⟨o,es,ep,ho,r⟩,hl⟩:=I.loc;obtain⟨sl,z⟩:=st.slot _ o ho (λz=>hL _ z rfl);refine#[m,#[_,es,ep,z,r],λj y v' e1 e2 e3=>?_];obtain⟨u',r',q⟩:=hl j y v' e1 e2 e3;refine#[u',r',?_];rcases q with q|⟨k,c,e,z⟩
  .exact .inl q
  .exact .inr #[k,c,e,m8 y c _ e z]
 .obtain⟨w',z⟩:=I.cell y c e;exact#[w',m8 y c _ e z]
 .obtain⟨e,n,ne,nf,d⟩:=I.pin p KZ;exact#[st.keep _ _ e (λz=>hp _ z p KZ rfl) (λz=>(sub _ z).elim ne nf),n,ne,nf,d]
end
def subE(x c:JM):Bool:=x==c||c=="MotifError"
structure ErrsK(K:Ex)(mg:Str->Option KB)(es:List Str):Prop where
 cls:∀x∈es,∃C N bm,ErrK K mg x C N bm
 sub:∀x∈es,∀y∈es,∀C C',nsIn K Pi x=be (be (.ref C))->nsIn K Pi y=be (be (.ref C'))->GP K C (.ref C')=be (subE x y)
def ErrsK.has{es:List JM}(k:ErrsK K mg es){y:JM}{C' N':KF}{LC:List KB}(hx:x∈es)(hy:y∈es)(a:ErrK K mg x C N bm)(b:ErrK K mg y C' N' LC):(Value.ref C::bm).contains (.ref C')=subE x y:=by
 have h:=k.sub x hx y hy C C' a.ns b.ns;obtain⟨nm,q,bs,sn,sub,ab,col,dd,k0,k1,k2,k3,k5,lk⟩:=a.obj;unfold GP Ie at h;rw[lk]at h;simp only[GT,List.isEmpty_cons,Bool.false_eq_true,if_false,Option.some.injEq]at h;exact h
structure Held(X:Cx)(pins:List (KF×Sj))(H:Hp)(s:KM)(e C:KF)(od:Option KF)(T:KF):Prop where
 ex:ExAt s.heap e C od T .none
 He:H e=G_
 HT:H T=G_
 e0:X.s₀.heap.get? e=G_
 T0:X.s₀.heap.get? T=G_
 eP:∀p∈X.pn++pins,p.1≠e
 TP:∀p∈X.pn++pins,p.1≠T
section
variable {X:Cx}{pins:List (KF×Sj)}{σ:L2.St}{H:Hp}{s:KM}
variable{vs:Array KB}
def gM{b:KF}{o:Sj}(I:Inv X pins σ H s)(h:s.heap.get? b=be o)(hd:o.data=.fields vs):b≠X.env.locals:=λz=>by
 obtain⟨m,⟨o',es,ep,ho,g7,_⟩,_⟩:=I.loc;rw[<-z,h]at ho;cases ho;rw[hd]at g7;cases g7
def fld_cell{b:KF}{o:Sj}(I:Inv X pins σ H s)(h:s.heap.get? b=be o)(hd:o.data=.fields vs):∀x c,X.env.cells.lookup x=be c->c≠b:=λx c q z=>by
 obtain⟨v,o',ho,g7⟩:=I.cell x c q;rw[z,h]at ho;cases ho;rw[hd]at g7;cases g7
variable{od:Option KF}
def Held.flight{e C T:KF}{h':Heap}(I:Inv X pins σ H s)(k:Held X pins H s e C od T)(hx:ExAt h' e C od T .none)(st:Stay [] [T] s.heap h'):Inv X pins σ H {s with heap:=h'}/\Held X pins H {s with heap:=h'} e C od T:=by
 obtain⟨sl,vs,oT,ts,he,h1,w9,hT,k_,h3⟩:=k.ex;refine#[Inv.stay I st (λb hb=>by cases hb) (λb hb=>?_) (λb hb=>?_) (λb hb=>?_) (λb hb=>?_) (λb hb=>?_),#[hx,k.He,k.HT,k.e0,k.T0,k.eP,k.TP]]<;>rw[FW.mp hb]
 .exact k.HT
 .exact k.T0
 .exact gM I hT k_
 .exact fld_cell I hT k_
 .exact k.TP
def XO.ok{P:P3}{w:R5}{h:Heap}{e C:KF}{sl:Array (Option KB)}(q:h.get? e=be #[.ref C,od,.fields vs,sl]):ObjOk P w H h e (XO e C od):=
 #[#[vs,sl,q],#[_,q],λh1 h2 ⟨vs,sl,q⟩ k=>#[vs,sl,k _ q]]
end
def RepS.unset{B F:Hp}{z:SD}{s:L2.St}{i:Nat}(h:RepS K B F H z s):RepS K B F H (z.set i G_) (s.set i G_):=by
 have get:∀{j:Nat} {x:D},(z.set i G_)[j]?=be (be x)->j≠i/\z[j]?=be (be x):=λ{j x} e=>by
  by_cases hj:i=j
  .subst hj;rw[GZ]at e;simp at e
  .rw[Gg hj]at e;exact#[λz=>hj z.symm,e]
 refine#[by rw[GQ,GQ];exact h.len,λj x e nx=>?_,λj ds e=>?_,λj k dj dk a e1 e2 e3 e4=>?_]
 .obtain⟨hj,e⟩:=get e;rw[Gg (λz=>hj z.symm)];exact h.val j x e nx
 .obtain⟨hj,e⟩:=get e;rw[Gg (λz=>hj z.symm)];exact h.own j ds e
 .obtain⟨hj,e1⟩:=get e1;obtain⟨hk,e2⟩:=get e2;rw[Gg (λz=>hj z.symm)]at e3;rw[Gg (λz=>hk z.symm)]at e4;exact h.apart j k dj dk a e1 e2 e3 e4
abbrev TH:=JM->List (JM×D)->TSD
def DH(X:Cx)[J:Jx](hs:List Sx)(th:TH):Prop:=
 ∀(pins:List (KF×Sj)) (s:KM) (σ:L2.St) (H:Hp) (D:Ends) (e C:KF) (od:Option KF) (T:KF) (x:JM) (fs:List (JM×My.D)) (B F0 F:Hp) (z:SD) (ED:EndsD),Inv X pins σ H s->Held X pins H s e C od T->Kept B F0 F H->RepS X.K B F H z σ->ErrD X.K F x fs C od->
  th x fs ED z->EndsOk X.K B F0 ED D->R4 (R1 X.prog X.w) X.A (Tu (.ref e) X.env hs) (SP X pins D) X.xe s
structure WDH(X:Cx)[Jx](hs:List Sx)(th:TH):Prop where
 out:DH X hs th
section
variable {X:Cx}[J:Jx]{es:List JM}{c:JM}{b₀:R3}{t9:List R3}{pos pc:Sb}{rest:List Sx}{t:TSD}{r:TH}
def zk:TH:=λ_ _ _ _=>False
def zl(es:List JM)(c:JM)(t:TSD)(r:TH):TH:=λx fs E z=>(x∈es/\c∈es)/\if subE x c=true then t E z else r x fs E z
def dHas(es:List JM)(c:JM)(i:Nat)(t:TSD)(r:TH):TH:=λx fs E z=>(x∈es/\c∈es)/\if subE x c=true then t {nx:=λz'=>E.nx (z'.set i G_),rt:=E.rt,bk:=λz'=>E.bk (z'.set i G_),ct:=λz'=>E.ct (z'.set i G_)} (z.set i (be (.exc x fs)))else r x fs E z
def sG:WDH X [] zk:=#[λ_ _ _ _ _ _ _ _ _ _ _ _ _ _ _ _ _ _ _ _ _ h _=>h.elim]
def zm(hE:ErrsK X.K X.mg es)(hs:∀e,WDSs (X.held e) (b₀::t9) t)(hr:WDH X rest r)(hg:autoParam (Gl X c) zA0)(d7:autoParam (zND c) zA1):WDH X (.ExceptHandler (be (.Name c pc)) G_ (b₀::t9) pos::rest) (zl es c t r):=⟨by
 have hs:=λe=>(hs e).out;have hr:=hr.out;intro pins s σ H D e C od T x fs B F0 F z ED I hd k rs er ht ee;obtain⟨⟨LG,LH⟩,ht⟩:=ht;obtain⟨Cc,Nc,QC,kc⟩:=hE.cls c LH;obtain⟨JX,Nx,QE,kx⟩:=hE.cls x LG;obtain rfl:JX=C:=by have h1:=kx.ns;rw[er.1]at h1;cases h1;rfl
 have hb:=hE.has LG LH kx kc;obtain⟨nm,q,bs,sn,sub,ab,col,dd,k0,k1,k2,k3,k5,lk⟩:=kx.obj;obtain⟨Nq,q',Nr,Nt,KE,Nu,KG,LF,Nv,Nw,Ny,Nz,NA,NB⟩:=kc.obj;refine T8 (TZ (ce (X:=X.held e) (Inv.held I) hg kc.mg ?_ d7)) (by intro q;cases q);obtain⟨sl,vs,oT,ts,he,h1,w9,hT,k_,h3⟩:=id hd.ex;refine sF (g:=s.gens) (d:=s.drawn) (t:=s.toks) (os:=s.os) (I.kIn _ _ lk) (I.kIn _ _ NB) he rfl kc.base hb ?_;cases z_:subE x c with
 |true=>
  rw[z_,if_pos rfl]at ht;refine codeAny_handlers_suite (flight_none hd.ex λh' ge v_=>?_);obtain⟨I',_⟩:=Held.flight I hd ge v_;exact Sf (hs e pins _ σ H D (Inv.held I') #[B,F0,F,z,k,rs,ED,ht,ee]) (λf s1 q=>SP.unheld I.ok q) λ_ _ z=>False.elim z
 |false=>
  rw[z_,if_neg Ge]at ht;exact hr pins s σ H D e JX od T x fs B F0 F z ED I hd k rs er ht ee⟩
def zn(i:Nat){n:JM}(hE:ErrsK X.K X.mg es)(hN:X.N.Nodup)(hs:∀e,WDSs (X.held e) (b₀::t9) t)(hr:WDH X rest r)(hg:autoParam (Gl X c) zA0)(hi:autoParam (X.N[i]?=be n) zA0)(hk:autoParam (X.env.scope.names.lookup n=be .local) zA0)(d7:autoParam (zND c) zA1):WDH X (.ExceptHandler (be (.Name c pc)) (be n) (b₀::t9) pos::rest) (dHas es c i t r):=⟨by
 have hs:=λe=>(hs e).out;have hr:=hr.out;intro pins s σ H D e C od T x fs B F0 F z ED I hd k rs er ht ee;obtain⟨⟨LG,LH⟩,ht⟩:=ht;obtain⟨Cc,Nc,QC,kc⟩:=hE.cls c LH;obtain⟨JX,Nx,QE,kx⟩:=hE.cls x LG;obtain rfl:JX=C:=by have h1:=kx.ns;rw[er.1]at h1;cases h1;rfl
 have hb:=hE.has LG LH kx kc;obtain⟨nm,q,bs,sn,sub,ab,col,dd,k0,k1,k2,k3,k5,lk⟩:=kx.obj;obtain⟨Nq,q',Nr,Nt,KE,Nu,KG,LF,Nv,Nw,Ny,Nz,NA,NB⟩:=kc.obj;refine T8 (TZ (ce (X:=X.held e) (Inv.held I) hg kc.mg ?_ d7)) (by intro q;cases q);obtain⟨sl,vs,oT,ts,he,h1,w9,hT,k_,h3⟩:=id hd.ex;refine sF (g:=s.gens) (d:=s.drawn) (t:=s.toks) (os:=s.os) (I.kIn _ _ lk) (I.kIn _ _ NB) he rfl kc.base hb ?_;cases z_:subE x c with
 |true=>
  rw[z_,if_pos rfl]at ht;refine codeAny_handlers_suite_as (flight_none hd.ex λh' ge v_=>?_);obtain⟨I',g7⟩:=Held.flight I hd ge v_;obtain⟨v9,n8,_,_,NC,_⟩:=id ge;have I2:Inv X pins σ (upd H e (XO e JX od)) {s with heap:=h'}:=Inv.adopt I' hd.He (XO.ok NC) hd.e0 (gM I' NC rfl) (fld_cell I' NC rfl) hd.eP;refine gm (X:=X.held e) (v:=.ref e) (Inv.held I2) hN hi (.inl hk) rfl (λs2 I3=>?_) (.inr hk);have g:=Grow.new k.fh hd.He (XO e JX od);obtain⟨ns,ws,rf,ND⟩:=er;have rep:Rep X.K (upd F e (XO e JX od)) (.exc x fs) (.ref e):=rep_exc.mpr #[e,JX,od,ws,rfl,ns,av,RepF.mono g.ff fs ws rf,ND.imp id λ⟨b,q1,q2⟩=>#[b,q1,g.ff _ _ q2]];have QF:EndsOk X.K B F0 {nx:=λz'=>ED.nx (z'.set i G_),rt:=ED.rt,bk:=λz'=>ED.bk (z'.set i G_),ct:=λz'=>ED.ct (z'.set i G_)} {nx:=λσ' H'=>D.nx (σ'.set i G_) H',rt:=D.rt,bk:=λσ' H'=>D.bk (σ'.set i G_) H',ct:=λσ' H'=>D.ct (σ'.set i G_) H'}:=
   #[λz' s' F' H' k hz r=>ee.nx _ _ F' H' k hz (RepS.unset r),ee.rt,λz' s' F' H' k hz r=>ee.bk _ _ F' H' k hz (RepS.unset r),λz' s' F' H' k hz r=>ee.ct _ _ F' H' k hz (RepS.unset r)]
  refine Sf (hs e pins s2 _ _ _ I3 #[B,F0,_,_,k.grow g,(rs.grow g).set rep,_,ht,QF]) (λf s3 q=>?_) λ_ _ z=>False.elim z;have q':=SP.unheld I.ok q;cases f with
  |next=>obtain⟨σ',H',I4,q4⟩:=q';exact gL I4 hN hi hk λs5 I5=>#[_,H',I5,q4]
  |brk=>obtain⟨σ',H',I4,q4⟩:=q';exact gL I4 hN hi hk λs5 I5=>#[_,H',I5,q4]
  |cont=>obtain⟨σ',H',I4,q4⟩:=q';exact gL I4 hN hi hk λs5 I5=>#[_,H',I5,q4]
  |ret u=>obtain⟨v,σ',H',I4,rv,q4⟩:=q';exact gL I4 hN hi hk λs5 I5=>#[v,_,H',I5,rv,q4]
 |false=>
  rw[z_,if_neg Ge]at ht;exact hr pins s σ H D e JX od T x fs B F0 F z ED I hd k rs er ht ee⟩
end
abbrev _root_.L2.Cx.tried(X:Cx)(pn:List (KF×Sj))(xe:KB->KM->Prop):Cx:={X with pn:=pn,xe:=xe}
section
variable {X:Cx}{pn pins:List (KF×Sj)}{xe:KB->KM->Prop}{σ:L2.St}{H:Hp}{s:KM}
def Cx.Ok.tried(ok:X.Ok):(X.tried pn xe).Ok:=#[ok.mod,ok.kind,ok.glob,ok.blt,ok.above,ok.inj,ok.has,ok.cab,ok.hd,ok.frames,ok.stk,ok.exf,ok.bs,ok.bsz,ok.noex,ok.exfs,ok.funs,ok.frf]
def Inv.tried(I:Inv X pins σ H s):Inv (X.tried (X.pn++pins) xe) [] σ H s:=#[Cx.Ok.tried I.ok,I.os,I.bare,I.base,I.loc,I.cell,I.free,I.freeC,λp hp=>I.pin p (by simpa using hp),I.hok,I.len]
def Inv.untried(ok:X.Ok)(I:Inv (X.tried (X.pn++pins) xe) [] σ H s):Inv X pins σ H s:=#[ok,I.os,I.bare,I.base,I.loc,I.cell,I.free,I.freeC,λp hp=>I.pin p (by simpa using hp),I.hok,I.len]
def SP.untried{D:Ends}{f:Flow}{s':KM}(ok:X.Ok)(h:SP (X.tried (X.pn++pins) xe) [] D f s'):SP X pins D f s':=by
 cases f with
 |next=>obtain⟨σ',H',I,q⟩:=h;exact#[σ',H',Inv.untried ok I,q]
 |brk=>obtain⟨σ',H',I,q⟩:=h;exact#[σ',H',Inv.untried ok I,q]
 |cont=>obtain⟨σ',H',I,q⟩:=h;exact#[σ',H',Inv.untried ok I,q]
 |ret u=>obtain⟨v,σ',H',I,r,q⟩:=h;exact#[v,σ',H',Inv.untried ok I,r,q]
end
def zo{h₀:Sx}{hs:List Sx}{σ':L2.St}{H':Hp}{s':KM}{D:Ends}{xe:KB->KM->Prop}(I2:Inv X pins σ' H' s')
  (hd:Exd (X.tried (X.pn++pins) xe) H' s' e C od) (e8:X.ex=[]) (A':X.stack=X.env::X.outer) (l_:X.env.frame=be X.env.locals)
  (hh:∀s4 T2,Inv X pins σ' H' s4->Held X pins H' s4 e C od T2->R4 (R1 X.prog X.w) X.A (Tu (.ref e) X.env (h₀::hs)) (SP X pins D) X.xe s4):
  R4 (R1 X.prog X.w) X.A (S3 (.ref e) X.env) (λ_ s₂=>R4 (R1 X.prog X.w) X.A (Tj (.ref e) G_) (λ_ s₃=>R4 (R1 X.prog X.w) X.A (Tu (.ref e) X.env (h₀::hs)) (SP X pins D) X.xe s₃) X.xe s₂) X.xe s':=by
 obtain⟨He,e0,eP,hd⟩:=hd;have stk:s'.heap.FunFrames X.base (X.env::X.outer):=by rw[<-A'];exact I2.stack
 have Pm:X.A.frames=be (X.env::X.outer):=by rw[<-A'];exact I2.ok.frames
 have i6:∀(u_:Heap) (T2:KF) (ex:List KF),(∀b∈ex,H' b=G_/\X.s₀.heap.get? b=G_/\(∃o vs,s'.heap.get? b=be o/\o.data=.fields vs)/\∀p∈X.pn++pins,p.1≠b)->ExAt u_ e C od T2 (S4 X.env.locals)->s'.heap.objs.size<=T2->Stay (frs (X.env::X.outer)) ex s'.heap u_->
   R4 (R1 X.prog X.w) X.A (Tj (.ref e) G_) (λ_ s₃=>R4 (R1 X.prog X.w) X.A (Tu (.ref e) X.env (h₀::hs)) (SP X pins D) X.xe s₃) X.xe {s' with heap:=u_}:=by
  intro u_ T2 ex A_ o_ z7 t_;have JQ:s'.heap.get? T2=none:=Heap.get?_none_of_le z7;have I3:Inv X pins σ' H' {s' with heap:=u_}:=Inv.stay I2 t_ (λb hb=>by rw[A'];exact hb) (λb hb=>(A_ b hb).1) (λb hb=>(A_ b hb).2.1) (λb hb=>let ⟨_,_,q1,q2⟩:=(A_ b hb).2.2.1;gM I2 q1 q2) (λb hb=>let ⟨_,_,q1,q2⟩:=(A_ b hb).2.2.1;fld_cell I2 q1 q2) (λb hb=>(A_ b hb).2.2.2);obtain⟨sl,vs,oT,ts,he,g1,w9,hT,k_,g3⟩:=id o_;have Ka:H' T2=none:=fF I2.hok JQ;have T0:X.s₀.heap.get? T2=none:=cA I2 e8 JQ;have TP:∀p∈X.pn++pins,p.1≠T2:=λp hp z=>by
   have:=(I2.pin p hp).1;rw[z,JQ]at this;cases this
  refine flight_none (s:={s' with heap:=u_}) o_ λh3 Lx H_=>?_;have I4:Inv X pins σ' H' {s' with heap:=h3}:=Inv.stay (s:={s' with heap:=u_}) I3 H_ (λb hb=>by cases hb) (λb hb=>by rw[FW.mp hb];exact Ka) (λb hb=>by rw[FW.mp hb];exact T0) (λb hb=>by rw[FW.mp hb];exact gM I3 hT k_) (λb hb=>by rw[FW.mp hb];exact fld_cell I3 hT k_) (λb hb=>by rw[FW.mp hb];exact TP);exact hh _ T2 I4 #[Lx,He,Ka,e0,T0,eP,TP]
 rcases hd with⟨sl,vs,he,hv⟩|⟨T,J_,T0,HT,TP⟩
 .refine qU Pm stk l_ he hv λu_ T2 o_ z7 t_=>i6 u_ T2 [e] (λb hb=>?_) o_ z7 t_;rw[FW.mp hb];exact#[He,e0,#[_,_,he,rfl],eP]
 .obtain⟨sl,vs,oT,ts,he,g1,w9,hT,k_,g3⟩:=id J_;refine qV Pm stk l_ J_ λu_ T2 o_ z7 t_=>i6 u_ T2 [T,e] (λb hb=>?_) o_ z7 t_;rcases F5.mp hb with z|z
  .rw[z];exact#[HT,T0,#[_,_,hT,k_],TP]
  .rw[FW.mp z];exact#[He,e0,#[_,_,he,rfl],eP]
def ErrG(K:Ex)(f y:JM):Prop:=∃C cd,ErrA K y C cd/\FZ K (.ref C) "__getattribute__"=be (be (.builtin "BaseException.__getattribute__"))/\FZ K (.ref C) "__getattr__"=be G_/\FZ K (.ref C) f=be G_
def zp(ys:List JM)(f:JM)(te:TD):TD:=λz R=>te z λd=>match d with|.exc y fs=>y∈ys/\∃d,fs.lookup f=be d/\R d|_=>False
def sH[J:Jx]{e:RZ}{te:TD}{pos:Sb}{ys:List JM}{f:JM}(hG:∀y∈ys,ErrG X.K f y)(he:WDE X e te)(hb:autoParam (R9 e f X.env (Sa e X.env)=Sa e X.env) zA0):WDE X (.Attribute e f pos) (zp ys f te):=⟨by
 have he:=he.out;intro pins s σ H Q I h;obtain⟨B,F,z,kf,rs,R,h1,h2⟩:=h;refine attr_of hb (thn (he pins s σ H (λv H1=>∃F1 x fs,Grow F H F1 H1/\Rep X.K F1 (.exc x fs) v/\x∈ys/\∃d,fs.lookup f=be d/\R d) I #[B,F,z,kf,rs,_,h1,λd v F1 H1 g1 hx rx=>?_]) λu s1 ⟨v,H1,I1,rv,F1,x,fs,g1,rx,hy,d,hl,hR⟩=>?_)
 .split at hx
  .obtain⟨hy,d,hl,hR⟩:=hx;exact#[F1,_,_,g1,rx,hy,d,hl,hR]
  .exact hx.elim
 .obtain⟨a,C,od,vs,rfl,hn,QG,rf,ND⟩:=rep_exc.mp rx;obtain rfl:u=Value.ref a:=rv;obtain⟨C',cd,ea,ga,gb,hf⟩:=hG x hy;have g_:=ea.ns;rw[hn]at g_;cases g_;obtain⟨n8,sl,j5⟩:=(I1.hok a _ (g1.fh _ _ QG)).1;obtain⟨w',hw,j3⟩:=rf.look hl;rcases ND with⟨_,e2⟩|⟨b,rfl,g5⟩
  .rw[e2]at hw;cases hw
  .obtain⟨mA,hns,w6⟩:=(show ObjOk X.prog X.w H1 s1.heap b (.xd vs)from I1.hok b _ (g1.fh _ _ g5));obtain⟨uv,hu,ru⟩:=RelO.some_of (v:=w') (o:=mA f) (by rw[<-hw];exact w6 f);obtain⟨QH,ho,look⟩:=qm hns;have NE:hasDictIn X.K C=true:=by unfold hasDictIn;rw[ea.cl];exact ea.hd
   exact xP (K:=X.K) (ox:=#[.ref C,be b,.fields n8,sl]) (od:=QH) I1.kIn #[j5,rfl,rfl,ho] ea.cl ea.mro ga gb (findObj_own NE hf rfl (by rw[look,hu])) (qq ru) λtk=>#[w',H1,I1.tok tk,ru,h2 d w' F1 H1 g1 hR j3]⟩
def zq:tailIn K veLine veLine=true:=by
 unfold tailIn;rfl
def sI{c:KB}{d:Option KF}{es:Array DictEntry}{ep:Nat}(l:K.lookup N=be #[c,d,.dict es ep,sl])(h:es.toList.all (λe=>match e.key with|.str _ _=>true|_=>false)=true):nsOkIn K N=true:=by
 unfold nsOkIn;rw[l];dsimp only;rw[<-Ig];exact h
def zr{M:KF}{c0:KB}{dd:Option KF}{cd:TJ}(l:K.lookup M=be #[c0,dd,.cls cd,sl])(hn:cd.ns=N)(h1:nsOkIn K N=true)(h2:nsIn K N "__init__"=be G_):tailIn K veLine (.ref M::veLine)=true:=by
 unfold tailIn;subst hn;dsimp only;rw[l];dsimp only;rw[h1,h2,zq];simp
def zt(S:SpX):SpD:=λds R=>S ds R λ_ _=>False
def CalX.no{base:Heap}{n:Nat}{S:SpX}(C:CalX P w K mg base n x ps S):CalD P w K mg base n x ps (zt S):=by
 obtain⟨f,fd,F,hb,hk,hm⟩:=C;refine#[f,fd,F.imp λvs H Q E h=>?_,hb,hk,hm];obtain⟨F,ds,fh,rs,R,h,q⟩:=h;exact#[F,ds,fh,rs,R,_,h,q,λ_ _ _ _ _ _ _ z=>z.elim]
end My
namespace My
def repS(x:JM)(n:Nat):Str:=#[(F4 n x.cps.toList).flatten.toArray]
def sJ(x:JM)(n:Nat):(F4 n x.cps).foldl (·++·) [].toArray=(F4 n x.cps.toList).flatten.toArray:=by
 have:∀(m:Nat) (f7:List Nat),(F4 m x.cps).foldl (·++·) f7.toArray=(f7++(F4 m x.cps.toList).flatten).toArray:=by
  intro m;induction m with
  |zero=>intro f7;simp
  |succ m ih=>
   intro f7;rw[GF,IG,GF,GR,<-Gx];rw[show f7.toArray++x.cps=(f7++x.cps.toList).toArray by simp];exact ih _
 have h:=this n [];simpa using h
def ky(x:JM)(n:Nat):(repS x n).length=n*x.length:=by
 show(F4 n x.cps.toList).flatten.toArray.size=n*x.cps.size;rw[F9];induction n with
 |zero=>simp
 |succ n ih=>rw[GF,GR,Gc,ih,HD,Hj];simp
def sK{α:Type}(l:List α):∀m:Nat,(FY m).filterMap (λk=>l[k]?)=l.take m
 |0=>by simp
 |m+1=>by
  rw[G8,List.filterMap_append,sK l m,List.take_succ];cases h:l[m]?<;>simp[h]
def zu(lo hi:Option Int)(n:Nat):Builtin.Str.strSliceIndices lo hi 1 n=(FY (HT.sIx n n hi-HT.sIx n 0 lo)).map λk=>HT.sIx n 0 lo+k:=by
 have JY:∀(i:Int) (d:Nat),max 0 (min (if i<0 then i+(n:Int)else i) (n:Int))=((HT.sIx n d (be i):Nat):Int):=by
  intro i d;show max 0 (min (if i<0 then i+(n:Int)else i) (n:Int))=(((if i<0 then(i+(n:Int)).toNat else min i.toNat n):Nat):Int);by_cases h:i<0
  .rw[if_pos h,if_pos h];lia
  .rw[if_neg h,if_neg h];lia
 have h1:Builtin.Str.strSliceIndices lo hi 1 n=sliceRange ((HT.sIx n 0 lo:Nat):Int) ((HT.sIx n n hi:Nat):Int) 1:=by
  unfold Builtin.Str.strSliceIndices;simp only[show(1:Int)>0 by decide,if_true];cases lo with
  |none=>cases hi with
   |none=>rfl
   |some j=>rw[<-JY j n];rfl
  |some i=>cases hi with
   |none=>rw[<-JY i 0];rfl
   |some j=>rw[<-JY i 0,<-JY j n]
 rw[h1];unfold sliceRange;simp only[show(1:Int)>0 by decide,if_true];have e3:(if((HT.sIx n 0 lo:Nat):Int)<((HT.sIx n n hi:Nat):Int)then(((HT.sIx n n hi:Nat):Int)-((HT.sIx n 0 lo:Nat):Int)+1-1)/1 else 0).toNat=HT.sIx n n hi-HT.sIx n 0 lo:=by
  split<;>lia
 rw[e3];apply Hl;intro k _;lia
def slice_cps(y:JM)(lo hi:Option Int):Txt.slice y lo hi=#[((y.cps.toList.drop (HT.sIx y.length 0 lo)).take (HT.sIx y.length y.length hi-HT.sIx y.length 0 lo)).toArray]:=by
 have la:HT.sIx y.length 0 lo<=y.length:=HT.sIx_le _ _ (Go _) lo;have lb:HT.sIx y.length y.length hi<=y.length:=HT.sIx_le _ _ (FX _) hi;unfold Txt.slice;rw[zu];split
 .rename_i h;have hl:HT.sIx y.length y.length hi-HT.sIx y.length 0 lo=y.length:=by simpa using h
  have ha:HT.sIx y.length 0 lo=0\/y.length=0:=Ko
  rw[hl];obtain⟨cp⟩:=y;have e:(Hm (HT.sIx (Str.mk cp).length 0 lo) cp.toList)=cp.toList:=by
   rcases ha with ha|ha
   .rw[ha];rfl
   .have:cp=[].toArray:=IQ ha;subst this;simp
  show(#[cp]:JM)=#[((Hm (HT.sIx (Str.mk cp).length 0 lo) cp.toList).take cp.size).toArray];rw[e,G9 KK]
 .congr 2;rw[IE];have:=sK (y.cps.toList.drop (HT.sIx y.length 0 lo)) (HT.sIx y.length y.length hi-HT.sIx y.length 0 lo);rw[<-this];congr 1;funext k;simp
section
variable {X:Cx}[J:Jx]{a b c e:RZ}{ta tb tc te:TD}{pos:Sb}
def sL:R2:=λx y H Q=>∃i n,x=.str i/\y=.int n/\(-(2^62)<=n/\n<=1000000/\i.length*n.toNat<=1000000)/\Q (.str (repS i n.toNat)) H
def zv:OpR X (Sn .Mult) sL:=by
 intro pins s σ H x y v u Q I rx ry h;obtain⟨i,n,rfl,rfl,⟨h1,h2,h3⟩,q⟩:=h;obtain⟨t,rfl⟩:=rx;obtain⟨t',rfl⟩:=ry;have i6:∀tk t2,EP X pins σ Q (.str (repS i n.toNat) t2) {s with toks:=tk}:=λtk t2=>#[.str _,H,I.tok tk,#[_,rfl],q];have hs:i.length*n.toNat<=sizeLine:=Ga h3 Ks;refine PySem.P.mul_str (by
  have a1:¬n< -(2^63:Int):=Ko
  have a2:¬n>=2^63:=Ko
  rw[decide_eq_false a1,decide_eq_false a2];rfl) (λn1 n2 hg=>?_) (λn1 n2=>?_) ?_
 .have hn:0<n:=by lia
  have h5:(2^63-1)/n>=1000000000000:=by
   have:(1000000000000:Int)*n<=2^63-1:=by lia
   exact IR hn this
  have h6:i.length<=1000000:=by
   have:i.length*1<=i.length*n.toNat:=IS _ Ko;lia
  lia
 .unfold Builtin.Str.tooLong;exact decide_eq_false Ko
 .by_cases c1:n<1
  .rw[if_pos c1];have e0:n.toNat=0:=by lia
   have:=i6 (s.toks+1) s.toks;rw[e0]at this;exact#[Go _,this]
  .rw[if_neg c1];by_cases c2:(n==1||i.length==0)=true
   .rw[if_pos c2];have e1:repS i n.toNat=i:=by
     rcases IP.mp c2 with c|c
     .have:n=1:=by simpa using c
      subst this;show(#[(F4 1 i.cps.toList).flatten.toArray]:JM)=i;simp
     .have h0:i.length=0:=by simpa using c
      have h1:i.cps=[].toArray:=IQ h0;obtain⟨cp⟩:=i;dsimp only at h1;subst h1;show(#[(F4 n.toNat []).flatten.toArray]:JM)=#[[].toArray];simp
    have:=i6 s.toks t;rw[e1]at this;exact this
   .rw[if_neg c2];have:=i6 (s.toks+1) s.toks;unfold repS at this;rw[<-sJ]at this;refine#[?_,this];show((F4 n.toNat i.cps).foldl (·++·) [].toArray).size<=sizeLine;rw[sJ,F9];have:=ky i n.toNat;have e3:(repS i n.toNat).length=(F4 n.toNat i.cps.toList).flatten.length:=by show(F4 n.toNat i.cps.toList).flatten.toArray.size=_;rw[F9]
    rw[<-e3,this,HY];exact hs
def rdMulX:RD2:=λx y R=>match x,y with
 |.int i,.int j=>CMul i j/\R (.int (i*j))
 |.str i,.int n=>(-(2^62)<=n/\n<=1000000/\i.length*n.toNat<=1000000)/\R (.str (repS i n.toNat))
 |.lst xs,.int n=>(-(2^62)<=n/\n<=1000000/\xs.length*n.toNat<=1000000)/\R (.lst (F4 n.toNat xs).flatten)
 |_,_=>False
def Reps.rep{K:Ex}{F:Hp}{xs:List D}{us:List V}(r:Reps K F xs us):∀n:Nat,Reps K F (F4 n xs).flatten (F4 n us).flatten
 |0=>reps_nil.mpr rfl
 |n+1=>by
  rw[GF,GR,GF,GR];exact r.append (Reps.rep r n)
def zw{K:Ex}:aU K (λx y H Q=>rI CMul (λi j=>.int (i*j)) x y H Q\/(sL x y H Q\/rRep x y H Q)) rdMulX:=by
 intro x y u v F H R Q fh h rx ry q;unfold rdMulX at h;split at h
 .exact .inl #[_,_,rep_int.mp rx,rep_int.mp ry,h.1,q _ _ F H (Grow.refl fh) h.2 (rep_int.mpr rfl)]
 .exact .inr (.inl #[_,_,rep_str.mp rx,rep_int.mp ry,h.1,q _ _ F H (Grow.refl fh) h.2 (rep_str.mpr rfl)])
 .obtain⟨l,vs,rfl,hq,rr⟩:=rep_lst.mp rx;obtain⟨⟨h1,h2,h3⟩,h⟩:=h;refine .inr (.inr #[l,_,vs,rfl,rep_int.mp ry,fh _ _ hq,Ko,Ko,by rw[rr.length];exact Ga h3 Ks,λp hp=>?_]);exact q _ _ _ _ (Grow.new fh hp _) h (rep_lst.mpr #[p,_,rfl,av,(Reps.rep rr _).mono (aP (fh.free hp) _)])
 .exact h.elim
def eJ(ha:WDE X a ta)(hb:WDE X b tb):WDE X (.BinOp a .Mult b pos) (dOp rdMulX ta tb):=#[have ha:=ha.out;have hb:=hb.out;du (OpR.or qc (OpR.or zv xC)) zw ha hb]
def sM:SlR X (λx lo hi H Q=>∃y,x=.str y/\y.length<=sizeLine/\Q (.str (Txt.slice y lo hi)) H):=by
 intro pins s σ H x v vl vu lo hi sl Q I rx hs pl pu h;obtain⟨y,rfl,hz,q⟩:=h;obtain⟨t,rfl⟩:=rx;have i6:∀t' k,EP X pins σ Q (.str (Txt.slice y lo hi) t') {s with toks:=k}:=λt' k=>#[.str _,H,I.tok k,#[_,rfl],q];have le:=Ga (Txt.slice_le y lo hi) hz;refine#["str",_,PySem.F.slot_str_getitem.lookup,Ub _ _ _,?_];cases pl with
 |none=>cases pu with
  |none=>exact Sy (l:=G_) (u:=G_) (st:=G_) hs rfl (S6 #[le,i6])
  |int j tj=>exact Sy (l:=G_) (u:=be (j,tj)) (st:=G_) hs rfl (S6 #[le,i6])
 |int i ti=>cases pu with
  |none=>exact Sy (l:=be (i,ti)) (u:=G_) (st:=G_) hs rfl (S6 #[le,i6])
  |int j tj=>exact Sy (l:=be (i,ti)) (u:=be (j,tj)) (st:=G_) hs rfl (S6 #[le,i6])
abbrev TDO:=SD->(Option Int->Prop)->Prop
def zx:TDO:=λ_ R=>R G_
def zy(te:TD):TDO:=λz R=>te z λx=>match x with|.int i=>R (be i)|_=>False
def lO(K:Ex)[J:Jx](t:TDO):TO:=λs H Q=>∃B F z,Kept B J.F0 F H/\RepS K B F H z s/\∃R:Option Int->Prop,t z R/\∀o F' H',Grow F H F' H'->R o->Q o H'
abbrev DPO(X:Cx)[Jx](e:Option RZ)(t:TDO):Prop:=PO X e (lO X.K t)
structure WDPO(X:Cx)[Jx](e:Option RZ)(t:TDO):Prop where
 out:DPO X e t
def PO.anti{X:Cx}{e:Option RZ}{t t':TO}(h:PO X e t)(a:∀s H Q,t' s H Q->t s H Q):PO X e t':=λpins s σ H Q I q=>h pins s σ H Q I (a _ _ _ q)
def eK:WDPO X G_ zx:=⟨PO.anti qD λs H Q q=>by
 obtain⟨B,F,z,kf,rs,R,h1,h2⟩:=q;exact h2 G_ F H (Grow.refl kf.fh) h1⟩
def cW(he:WDE X e te):WDPO X (be e) (zy te):=⟨have he:=he.out;PO.anti (qE he) λs H Q q=>by
 obtain⟨B,F,z,kf,rs,R,h1,h2⟩:=q;refine#[B,F,z,kf,rs,_,h1,λx u F1 H1 g1 hx rx=>?_];split at hx
 .exact#[_,rep_int.mp rx,h2 _ F1 H1 g1 hx]
 .exact hx.elim⟩
def rdSl:D->Option Int->Option Int->(D->Prop)->Prop:=λx lo hi R=>match x with
 |.str y=>y.length<=1000000/\R (.str (Txt.slice y lo hi))
 |.lst xs=>R (.lst (cutD xs lo hi))
 |.rol xs=>R (.lst (cutD xs lo hi))
 |.tup xs=>¬(HT.sIx xs.length 0 lo=0/\HT.sIx xs.length xs.length hi=xs.length)/\R (.tup (cutD xs lo hi))
 |_=>False
def dSl(ta:TD)(tl th:TDO):TD:=λz R=>ta z λx=>tl z λlo=>th z λhi=>rdSl x lo hi R
def dD{lo hi:Option RZ}{tl th:TDO}{p2:Sb}(ha:WDE X a ta)(hl:WDPO X lo tl)(hu:WDPO X hi th):WDE X (.Subscript a (.Slice lo hi G_ p2) pos) (dSl ta tl th):=⟨have ha:=ha.out;have hl:=hl.out;have hu:=hu.out;(jI (SlR.or sM (SlR.or jJ qG)) ha hl hu).anti λs H Q q=>by
 obtain⟨B,F,z,kf,rs,R,h1,h2⟩:=q;refine#[B,F,z,kf,rs,_,h1,λx u F1 H1 g1 hx rx=>?_];refine#[B,F1,z,kf.grow g1,rs.grow g1,_,hx,λlo F2 H2 g2 hy=>?_];refine#[B,F2,z,(kf.grow g1).grow g2,(rs.grow g1).grow g2,_,hy,λhi F3 H3 g3 hw=>?_];have g:=g1.trans (g2.trans g3);have JZ:=(rx.mono g2.ff).mono g3.ff;unfold rdSl at hw;split at hw
 .exact .inl #[_,rep_str.mp JZ,Ga hw.1 Ks,h2 _ _ F3 H3 g hw.2 (rep_str.mpr rfl)]
 .obtain⟨l,vs,rfl,hq,rr⟩:=rep_lst.mp JZ;refine .inr (.inl #[l,vs,rfl,SqL.of (g3.fh _ _ hq),λp hp=>?_]);exact h2 _ _ _ _ (g.trans (Grow.new g3.fh hp _)) hw (rep_lst.mpr #[p,_,rfl,av,(rr.cut _ _).mono (aP (g3.fh.free hp) _)])
 .obtain⟨l,vs,rfl,hq,rr⟩:=rep_rol.mp JZ;refine .inr (.inl #[l,vs,rfl,g3.fh.seq hq,λp hp=>?_]);exact h2 _ _ _ _ (g.trans (Grow.new g3.fh hp _)) hw (rep_lst.mpr #[p,_,rfl,av,(rr.cut _ _).mono (aP (g3.fh.free hp) _)])
 .obtain⟨l,vs,rfl,hq,rr⟩:=rep_tup_mp JZ;refine .inr (.inr #[l,vs,rfl,g3.fh.tup hq,by rw[rr.length];exact hw.1,λp hp=>?_]);exact h2 _ _ _ _ (g.trans (Grow.new g3.fh hp _)) hw.2 (rep_tupS.mpr #[p,_,rfl,av,(rr.cut _ _).mono (aP (g3.fh.free hp) _)])
 .exact hw.elim⟩
def rdIn(neg:Bool):RD2:=λx y R=>match y with
 |.str j=>kdS x λi=>R (.bl (if neg then !(!(Builtin.Str.occurrences j i 0 j.length 1).isEmpty)else !(Builtin.Str.occurrences j i 0 j.length 1).isEmpty))
 |.lst ys=>(bA x=true/\ys.all bA=true)/\R (.bl (if neg then !(ys.any λy=>eqF y x)else ys.any λy=>eqF y x))
 |.rol ys=>(bA x=true/\ys.all bA=true)/\R (.bl (if neg then !(ys.any λy=>eqF y x)else ys.any λy=>eqF y x))
 |.tup ys=>(bA x=true/\ys.all bA=true)/\R (.bl (if neg then !(ys.any λy=>eqF y x)else ys.any λy=>eqF y x))
 |_=>False
def gN{K:Ex}{H:Hp}{x:D}{u:V}(rx:Rep K H x u)(fx:bA x=true):∀{ys:List D} {vs:List V},Reps K H ys vs->ys.all bA=true->inV u vs=ys.any λy=>eqF y x
 |[],vs,r,_=>by rw[reps_nil.mp r];rfl
 |y::ys,vs,r,f=>by
  obtain⟨v,vr,rfl,r1,r2⟩:=reps_cons.mp r;rw[G6,Gu]at f;have ih:=gN rx fx r2 f.2;unfold inV at ih ⊢;rw[HC,HC,ih,rM r1 rx f.1 fx]
def rInV(K:Ex)(neg:Bool):R2:=λx y H Q=>(∃i j,x=.str i/\y=.str j/\Q (.bl (if neg then !(!(Builtin.Str.occurrences j i 0 j.length 1).isEmpty)else !(Builtin.Str.occurrences j i 0 j.length 1).isEmpty)) H)\/rIn K neg x y H Q
def zz{K:Ex}{neg:Bool}:aU K (rInV K neg) (rdIn neg):=by
 intro x y u v F H R Q fh h rx ry q;cases y with
 |str j=>
  replace h:=kdS.of h;obtain⟨i,rfl,h⟩:=h;exact .inl #[_,_,rep_str.mp rx,rep_str.mp ry,q _ _ F H (Grow.refl fh) h (rep_bl.mpr rfl)]
 |lst ys=>
  obtain⟨⟨f1,f2⟩,h⟩:=h;obtain⟨l,vs,rfl,hq,rr⟩:=rep_lst.mp ry;exact .inr #[l,vs,rfl,.inl (fh.seq (SqL.of hq)),gG rx f1,eB rr f2,q _ _ F H (Grow.refl fh) h (rep_bl.mpr (by rw[gN rx f1 rr f2]))]
 |rol ys=>
  obtain⟨⟨f1,f2⟩,h⟩:=h;obtain⟨l,vs,rfl,hq,rr⟩:=rep_rol.mp ry;exact .inr #[l,vs,rfl,.inl (fh.seq hq),gG rx f1,eB rr f2,q _ _ F H (Grow.refl fh) h (rep_bl.mpr (by rw[gN rx f1 rr f2]))]
 |tup ys=>
  obtain⟨⟨f1,f2⟩,h⟩:=h;obtain⟨l,vs,rfl,hq,rr⟩:=rep_tup_mp ry;exact .inr #[l,vs,rfl,.inr (fh.tup hq),gG rx f1,eB rr f2,q _ _ F H (Grow.refl fh) h (rep_bl.mpr (by rw[gN rx f1 rr f2]))]
 |_=>exact False.elim h
def zA:OpR X (Sh .NotIn) (rInV X.K true):=OpR.or xt xr
end
end My
namespace L2
def Its(x:JM):It:=#[λi _=>i<x.length,λi H v H'=>H'=H/\∃c,x.cps[i]?=be c/\v=.str #[[c].toArray],λi _=>x.length<=i]
def zB{P:P3}{w:R5}{K:Ex}{tg:RZ}(x:JM)(t:Ul)(it:KF):Turn P w K tg (Its x) [it] it (λi h=>h.IsStrIter it "str_ascii_iterator" x t i) where
 mem:=KK
 obj:=λi h st b hb=>by
  have e:b=it:=by simpa using hb
  subst e;obtain⟨o,e,c,d⟩:=st;exact#[o,e,λv z=>by rw[d]at z;cases z]
 keep:=λi h h' st k=>by
  obtain⟨o,e,r⟩:=st;exact#[o,k it KK o e,r]
 item:=by
  intro X hP hw hK hc i pins s σ H E I hf st hg;subst hP hw hK;have hi:i<x.cps.size:=hg;obtain⟨f0,f1,f2,f3,f4,f5⟩:=hf it KK;refine wpAny_pyNext_ascii_item st (c:=x.cps[i]) (IT hi) λh' v_ sb=>?_;have I1:Inv X pins σ H {s with heap:=h',toks:=s.toks+1}:=I.turned (t':=s.toks+1) (λb o hb e=>(sb.2 b hb).trans e) f0 f1 f3 f4 f5;obtain⟨o,e,c,d⟩:=id v_;exact#[_,rfl,jz (s:={s with heap:=h',toks:=s.toks+1}) e c d Ks #[.str #[[x.cps[i]].toArray],H,I1,#[_,rfl],#[rfl,_,IT hi,rfl],v_,λb hb=>(hf b hb).1]]
 done:=by
  intro X hP hw hK hc i pins s σ H E I hf st hg;subst hP hw hK;have hi:x.cps.size<=i:=hg;obtain⟨f0,f1,f2,f3,f4,f5⟩:=hf it KK;exact wpAny_pyNext_ascii_end (I.ok.hd hc) st (Array.getElem?_eq_none hi) λh' eb=>#[rfl,I.turned (t':=s.toks) (λb o hb e=>eb b o hb e) f0 f1 f3 f4 f5]
 self:=λA i s Q E st hQ=>wpAny_pyIter_striter_ascii st hQ
def iStr(tl:TE):TI:=λσ H R=>tl σ H λv H1=>∃x,v=.str x/\x.cps.all (·<128)=true/\R (Its x) H1
def sN{X:Cx}{tg l:RZ}{tl:TE}(hl:PE X l tl):PI X tg l (iStr tl):=by
 intro pins s σ H R I h;refine thn (hl pins s σ H _ I h) λv s1 c7=>?_;obtain⟨v1,H1,I1,r1,q1⟩:=c7;obtain⟨x,rfl,ha,q⟩:=q1;obtain⟨t,rfl⟩:=r1;refine wpAny_pyIter_ascii ha ?_;refine#[s1.heap.objs.size,[s1.heap.objs.size],_,_,H1,rfl,I1.kept (t':=s1.toks) λb o e=>Heap.get?_push_of_some _ e,zB x t _,#[_,Heap.get?_push_size _ rfl,rfl,rfl],λb hb=>?_,q];have e:b=s1.heap.objs.size:=by simpa using hb
 subst e;exact I1.fpOk (FX _) (I1.hok.fresh (FX _))
def zC{x:JM}{g:TG}{tb:TS}{D:Ends}{σ:St}{H:Hp}(Pv:Nat->St->Hp->Prop)(h0:Pv 0 σ H)
  (hs:∀i c σ H,x.cps[i]?=be c->Pv i σ H->g (.str #[[c].toArray]) σ H λσ2 H2=>tb {D with nx:=Pv (i+1),ct:=Pv (i+1),bk:=D.nx} σ2 H2) (hd:∀σ H,Pv x.length σ H->D.nx σ H):
  ∃W:Nat->Nat->St->Hp->Prop,(∃m,W 0 m σ H)/\∀i m σ H,W i m σ H->
   ((Its x).stop i H/\D.nx σ H)\/((Its x).go i H/\∃N:St->Hp->Prop,(∀σ' H',N σ' H'->∃m',m'<m/\W (i+1) m' σ' H')/\∀v H',(Its x).yld i H v H'->g v σ H' λσ2 H2=>tb {D with nx:=N,ct:=N,bk:=D.nx} σ2 H2):=by
 refine#[λi m σ H=>m=x.length-i/\i<=x.length/\Pv i σ H,#[x.length,KK,Go _,h0],?_];rintro i m σ H ⟨rfl,hi,p⟩;by_cases f9:i<x.length
 .refine .inr #[f9,Pv (i+1),λσ' H' p'=>#[x.length-(i+1),Ko,rfl,f9,p'],λv H' y=>?_];obtain⟨e,c,hc,rfl⟩:=y;subst e;exact hs i c σ _ hc p
 .have e:i=x.length:=by lia
  subst e;exact .inl #[FX _,hd σ H p]
end L2
namespace My
section
variable {X:Cx}[J:Jx]{a b c e:RZ}{ta tb tc te:TD}{pos:Sb}
def bt(x:JM):List D:=x.cps.toList.map λc=>D.str #[[c].toArray]
def dItS(t:TD):TDI:=λz R=>t z λy=>match y with|.str x=>x.cps.all (·<128)=true/\R (bt x)|_=>False
def gO{x:JM}{k c:Nat}(h:x.cps[k]?=be c):(bt x)[k]?=be (.str #[[c].toArray]):=by
 unfold bt;rw[Gf,IH,h];rfl
def eL(x:JM):(bt x).length=x.length:=by unfold bt;rw[Gb];simp[Str.length]
def zD(i:Nat){x:JM}{p:Sb}{body:List R3}{tb:TSD}(hp:Sq (R1 X.prog X.w) X.A X.env X.xe)(hc:X.calm=true)(hN:X.N.Nodup)(he:WDE X e te)(hb:WDSs X body tb)(hi:autoParam (X.N[i]?=be x) zA0)(hx:autoParam (Loc X.env.scope x) zA4)
  (hf:autoParam (zFN X x) zA2) (hs:autoParam (∀y,zFS X e y) zA3):WDS X (.For (.Name x p) e body [] pos) (dFor i (dItS te) tb):=⟨have he:=he.out;have hb:=hb.out;(cS hp hc (sN he) (dP hN hi hx hf) hb hs).anti λE s H q=>by
 obtain⟨B,F0,F,z,kp,rs,ED,h,e⟩:=q;refine#[B,F,z,kp.kf,rs,_,h,λd v F1 H1 g1 hd rd=>?_];split at hd
 .rename_i y;obtain⟨ha,W,w0,d3,out⟩:=hd;refine#[y,rep_str.mp rd,ha,zC (λk s' H'=>∃F' z',Kept B F0 F' H'/\RepS X.K B F' H' z' s'/\W k z') #[F1,z,kp.grow g1,rs.grow g1,w0] ?_ ?_]
  .rintro k c s' H' hk⟨F',z',k',r',w'⟩;exact#[B,F0,F',_,k',r'.set (d:=.str #[[c].toArray]) (rep_str.mpr rfl),_,d3 k (.str #[[c].toArray]) z' (gO hk) w',#[λz3 s3 F3 H3 k3 h3 r3=>#[F3,z3,k3,r3,h3],e.rt,e.nx,λz3 s3 F3 H3 k3 h3 r3=>#[F3,z3,k3,r3,h3]]]
  .rintro s' H'⟨F',z',k',r',w'⟩;exact e.nx z' s' F' H' k' (out z' (by rw[eL];exact w')) r'
 .exact hd.elim⟩
variable {h_ iter:RZ}{x:JM}{px:Sb}{scope:Sw}{ti:TD}
def itS{K:Ex}:ItOk K (iStr (lE K ti)) (dItS ti):=λ{s H B F z P Q} kf rs h1 h2=>by
 refine#[B,F,z,kf,rs,_,h1,λd v F1 H1 g1 hd rd=>?_];split at hd
 .rename_i y;obtain⟨ha,hd⟩:=hd;have hl:=eL y;refine#[y,rep_str.mp rd,ha,h2 _ _ F1 H1 g1 hd #[λk F' H' G hk=>by rw[hl]at hk;exact hk,λk F' H' v H'' G hk hy=>?_,λF' H' G=>by show y.length<=_;rw[hl];exact FX _]];obtain⟨e,c,hc,rfl⟩:=hy;exact#[e,.str #[[c].toArray],gO hc,rep_str.mpr rfl]
 .exact hd.elim
end
section
variable {X:Cx}[J:Jx]{a b c e o:RZ}{es:List RZ}{ta tb tc te to:TD}{t:TDA}{pos:Sb}
abbrev RTx:=JM->List D->(D->Prop)->Prop
def dTx(r:RTx)(to:TD)(t:TDA):TD:=λz R=>to z λx=>match x with|.str y=>t z λds=>r y ds R|_=>False
def MtS(X:Cx)(id:String)(r:RTx):Prop:=∃rv:V->List V->Hp->VK->Prop,MtR X id rv/\∀(y:JM) (ds:List D) (vs:List V) (F H:Hp) (R:D->Prop) (Q:VK),Reps X.K F ds vs->r y ds R->(∀d v,(∀G,Rep X.K G d v)->R d->Q v H)->rv (.str y) vs H Q
variable{b9 a9:Sb}
def kz{name:JM}{id:String}{r:RTx}(slot:Slot "str" name id)(Ln:typeOf (.builtin id)=pure (.type "method_descriptor"))(hm:MtS X id r)(ho:DE X o to)(ha:DA X (e::es) t)
  (c3:autoParam (R9 o name X.env (Sa o X.env)=Sa o X.env) zA0)
  (d_:autoParam (zHF X a9 (e::es)) zA0)
  (c8:autoParam ((b9.endLine==a9.line)=true) zA0) (hs:autoParam (zSE X e es) zA0) (p9:autoParam (zPL X a9 es) zA0):
  DE X (.Call (.Attribute o name b9) (e::es) [] a9) (dTx r to t):=by
 obtain⟨rv,hm,L⟩:=hm;refine(dS PySem.F.plainAttrs_str slot Ln hm ho ha c3 d_ c8 hs p9).anti λs H Q q=>?_;obtain⟨B,F,z,kf,rs,R,h1,h2⟩:=q;refine#[B,F,z,kf,rs,_,h1,λx u F1 H1 g1 hx rx=>?_];split at hx
 .rename_i y;rw[rep_str.mp rx];refine#[rfl,B,F1,z,kf.grow g1,rs.grow g1,_,hx,λds vs F2 H2 g2 hy ry=>?_];exact L y ds vs F2 H2 R Q ry hy λd v rd hR=>h2 d v F2 H2 (g1.trans g2) hR (rd F2)
 .exact hx.elim
def FT:RTx:=λy ds R=>match ds with|[.str p]=>R (.bl (Txt.startswith y p))|_=>False
def rEnds:RTx:=λy ds R=>match ds with|[.str p]=>R (.bl (Txt.endswith y p))|_=>False
def ms_ends:MtS X "str.endswith" rEnds:=by
 refine#[λx vs H Q=>∃y p,x=.str y/\vs=[.str p]/\Q (.bl (Txt.endswith y p)) H,?_,?_]
 .intro pins s σ H x vs v us Q I rx rv h;obtain⟨y,p,rfl,rfl,q⟩:=h;obtain⟨t,rfl⟩:=rx;obtain⟨u,rfl,t',rfl⟩:=bR rv;exact SC.endswith #[.bl _,H,I,rfl,q]
 .intro y ds vs F H R Q r h q;unfold rEnds at h;split at h
  .obtain⟨v,vr,rfl,h1,h2⟩:=reps_cons.mp r;rw[reps_nil.mp h2,rep_str.mp h1];exact#[_,_,rfl,rfl,q _ _ (λ_=>rep_bl.mpr rfl) h]
  .exact h.elim
def zE(ho:WDE X o to)(ha:WDA X [e] t)(c3:autoParam (R9 o "endswith" X.env (Sa o X.env)=Sa o X.env) zA0)
  (d_:autoParam (zHF X a9 [e]) zA0)
  (c8:autoParam ((b9.endLine==a9.line)=true) zA0) (hs:autoParam (zSE X e []) zA0):WDE X (.Call (.Attribute o "endswith" b9) [e] [] a9) (dTx rEnds to t):=#[have ho:=ho.out;have ha:=ha.out;kz PySem.F.slot_str_endswith PySem.F.type_str_endswith ms_ends ho ha c3 d_ c8 hs]
def rSIndex:RTx:=λy ds R=>match ds with|[.str p]=>∃i rest,Builtin.Str.occurrences y p 0 y.length 1=i::rest/\R (.int (i:Nat))|_=>False
def zF:MtS X "str.index" rSIndex:=by
 refine#[λx vs H Q=>∃y p i rest,x=.str y/\vs=[.str p]/\Builtin.Str.occurrences y p 0 y.length 1=i::rest/\Q (.int (i:Nat)) H,?_,?_]
 .intro pins s σ H x vs v us Q I rx rv h;obtain⟨y,p,i,rest,rfl,rfl,ho,q⟩:=h;obtain⟨t,rfl⟩:=rx;obtain⟨u,rfl,t',rfl⟩:=bR rv;exact SC.index ho #[.int _,H,I.tok _,#[_,rfl],q]
 .intro y ds vs F H R Q r h q;unfold rSIndex at h;split at h
  .obtain⟨i,rest,ho,h⟩:=h;obtain⟨v,vr,rfl,h1,h2⟩:=reps_cons.mp r;rw[reps_nil.mp h2,rep_str.mp h1];exact#[_,_,i,rest,rfl,rfl,ho,q _ _ (λ_=>rep_int.mpr rfl) h]
  .exact h.elim
def sO(ho:WDE X o to)(ha:WDA X [e] t)(c3:autoParam (R9 o "index" X.env (Sa o X.env)=Sa o X.env) zA0)
  (d_:autoParam (zHF X a9 [e]) zA0)
  (c8:autoParam ((b9.endLine==a9.line)=true) zA0) (hs:autoParam (zSE X e []) zA0):WDE X (.Call (.Attribute o "index" b9) [e] [] a9) (dTx rSIndex to t):=#[have ho:=ho.out;have ha:=ha.out;kz PySem.F.slot_str_index PySem.F.type_str_index zF ho ha c3 d_ c8 hs]
def Reps.init{K:Ex}{F:Hp}:∀{ds:List D} {vs:List V},Reps K F ds vs->Reps K F ds.dropLast vs.dropLast
 |[],vs,r=>by rw[reps_nil.mp r];exact reps_nil.mpr rfl
 |[d],vs,r=>by
  obtain⟨v,vr,rfl,_,h2⟩:=reps_cons.mp r;rw[reps_nil.mp h2];exact reps_nil.mpr rfl
 |d::d2::ds,vs,r=>by
  obtain⟨v,vr,rfl,h1,h2⟩:=reps_cons.mp r;obtain⟨v2,RC,rfl,h3,h4⟩:=reps_cons.mp h2;rw[IU,IU];exact reps_cons.mpr #[v,_,rfl,h1,Reps.init h2]
end
end My
namespace My
open Exc
section
variable {X:Cx}{a b c e:RZ}{ta tb tc te:TD}{pos:Sb}{st:R3}{rest:List R3}{t u:TSD}
def cB[Jx]{c:RZ}{l r:List R3}{tc:TDT}(hc:WDT X c tc)(ha:WDSs X l t)(hb:WDSs X r u):WDS X (.If c l r pos) (dIfS tc t u):=#[rR (c:=c) (l:=l) (r:=r) (tc:=tc) (hc:=hc.out) (ha:=ha.out) (hb:=hb.out)]
end
section
variable {P:P3}{w:R5}{K:Ex}{mg:JM->Option KB}{base:Heap}
variable{x qual:JM}{st:R3}{f:KF}{fd:R_}{N ps:List JM}{k:Nat}
def _root_.L2.Fun.okDW{S:SpD}(T:Fun K x qual st f fd)(F:FnScope N ps (ag st))(len:∀ds R,S ds R->ds.length=ps.length)
  (a_:∀(cdv:KB) (A:R6) (outer:List SU) (s:KM) (H:Hp) (E:XK) (J:Jx),Room k (A.deeper (Se qual (ag st) s.heap.objs.size f cdv))->
   ∃t,WDSs (cxOf (Exc.CX1 P w) P w K mg base N qual (ag st) f cdv A outer s H E).nox (aG st) t/\∀ds R,S ds R->t {nx:=λ_=>R .non,rt:=R} (startD N ds)):FnOk P w K mg base (Exc.CX1 P w) (k+1) f fd ps (lSp K S):=
 T.okD F len λcdv A outer s H E J hr=>let ⟨t,h,q⟩:=a_ cdv A outer s H E J hr;#[t,h.out,q]
def Tx.okDW{S:SpD}(T:Tx K mg x st ps)(F:FnScope N ps (ag st))(len:∀ds R,S ds R->ds.length=ps.length)
  (a_:∀(f:KF) (cdv:KB) (A:R6) (outer:List SU) (s:KM) (H:Hp) (E:XK) (J:Jx),Room k (A.deeper (Se x (ag st) s.heap.objs.size f cdv))->
   ∃t,WDSs (cxOf (Exc.CX1 P w) P w K mg base N x (ag st) f cdv A outer s H E).nox (aG st) t/\∀ds R,S ds R->t {nx:=λ_=>R .non,rt:=R} (startD N ds)):CalD P w K mg base (k+1) x ps S:=
 Tx.okD T F len λf cdv A outer s H E J hr=>let ⟨t,h,q⟩:=a_ f cdv A outer s H E J hr;#[t,h.out,q]
def Tx.okXW{S:SpX}(T:Tx K mg x st ps)(F:FnScope N ps (ag st))(len:∀ds R RX,S ds R RX->ds.length=ps.length)
  (a_:∀(f:KF) (cdv:KB) (A:R6) (outer:List SU) (s:KM) (H:Hp) (E:XK) (J:Jx),Room k (A.deeper (Se x (ag st) s.heap.objs.size f cdv))->XOk (cxOf (CX1 P w) P w K mg base N x (ag st) f cdv A outer s H E)->
   ∃t,WDSs (cxOf (CX1 P w) P w K mg base N x (ag st) f cdv A outer s H E) (aG st) t/\∀ds R RX,(∀z,J.RX z=RX)->S ds R RX->t {nx:=λ_=>R .non,rt:=R} (startD N ds)):CalX P w K mg base (k+1) x ps S:=
 Tx.okX T F len λf cdv A outer s H E J hr hx=>let ⟨t,h,q⟩:=a_ f cdv A outer s H E J hr hx;#[t,h.out,q]
def Cls.okIW{C:KF}{p0:JM}{S:SiD}(T:Fun K "__init__" qual st f fd)(hb:Binds K fd (p0::ps) [])(F:FnScope (p0::N) (p0::ps) (ag st))(len:∀ds R,S ds R->ds.length=ps.length)
  (hns:nsIn K Pi x=be (be (.ref C))) (j9:mg x=be (.ref C)) (mk:Mk K C f)
  (a_:∀(cdv:KB) (A:R6) (outer:List SU) (s:KM) (H:Hp) (E:XK) (J:Jx),Room k (A.deeper (Se qual (ag st) s.heap.objs.size f cdv))->
   ∃t,WDI (cxOf (Exc.CX1 P w) P w K mg base (p0::N) qual (ag st) f cdv A outer s H E).nox x (aG st) t/\∀ds R,S ds R->t (G_::startD N ds) [] R):CalM P w K mg base (k+1) x (p0::ps) S:=
 Cls.okI T hb F len hns j9 mk λcdv A outer s H E J hr=>let ⟨t,h,q⟩:=a_ cdv A outer s H E J hr;#[t,h.out,q]
def Cls.okEW{C N0:KF}{bm:List KB}{p0:JM}{S:SiD}(T:Fun K "__init__" qual st f fd)(hb:Binds K fd (p0::ps) [])(F:FnScope (p0::N) (p0::ps) (ag st))(len:∀ds R,S ds R->ds.length=ps.length)
  (ek:ErrK K mg x C N0 bm) (hi:FZ K (.ref C) "__init__"=be (be (.ref f))) (hf:isFn K (.ref f)=true)
  (a_:∀(cdv:KB) (A:R6) (outer:List SU) (s:KM) (H:Hp) (E:XK) (J:Jx),Room k (A.deeper (Se qual (ag st) s.heap.objs.size f cdv))->
   ∃t,WDX (cxOf (CX1 P w) P w K mg base (p0::N) qual (ag st) f cdv A outer s H E).nox x (aG st) t/\∀ds R,S ds R->t (G_::startD N ds) [] R):CalE P w K mg base (k+1) x (p0::ps) S:=
 Cls.okE T hb F len ek hi hf λcdv A outer s H E J hr=>let ⟨t,h,q⟩:=a_ cdv A outer s H E J hr;#[t,h.out,q]
end
inductive MO where
 |ins (x:Str) (fs:List (Str×D))|lst (ds:List D)|dti (b7:List ((Int×Int)×Int))
abbrev MS:=List (KF×MO)
def MRep(K:Ex)(F H:Hp)(a:KF):MO->Prop
 |.ins x fs=>∃C dx ws,nsIn K Pi x=be (be (.ref C))/\H a=be (.ins C dx ws)/\RepF K F fs ws
 |.lst ds=>∃vs,H a=be (.lst vs)/\Reps K F ds vs
 |.dti b7=>H a=be (.dT (dtiV b7))
def ao(M:MS):List KF:=M.map (·.1)
def mget:MS->KF->Option MO
 |[],_=>G_
 |(b,o)::r,a=>if b=a then be o else mget r a
def mput:MS->KF->MO->MS
 |[],_,_=>[]
 |(b,p)::r,a,o=>if b=a then(b,o)::r else(b,p)::mput r a o
def mdel:MS->KF->MS
 |[],_=>[]
 |(b,p)::r,a=>if b=a then r else(b,p)::mdel r a
def bj:∀{M:MS} {a:KF} {o:MO},mget M a=be o->(a,o)∈M
 |[],_,_,h=>by cases h
 |(b,p)::r,a,o,h=>by
  unfold mget at h;split at h
  .rename_i e;subst e;cases h;exact Gd
  .exact F8 _ (bj h)
variable{M:MS}{a:KF}{o:MO}
def bH(h:(a,o)∈M):a∈ao M:=Gp.mpr #[_,h,rfl]
def gP:∀(M:MS) (a:KF) (o:MO),ao (mput M a o)=ao M
 |[],_,_=>rfl
 |(b,p)::r,a,o=>by
  unfold mput;split
  .rfl
  .show b::ao (mput r a o)=b::ao r;rw[gP r a o]
def mem_put:∀{M:MS} {a b:KF} {o q:MO},(ao M).Nodup->(b,q)∈mput M a o->(b=a/\q=o/\a∈ao M)\/(b≠a/\(b,q)∈M)
 |[],_,_,_,_,_,h=>by cases h
 |(c,p)::r,a,b,o,q,nd,h=>by
  have m5:c∉ao r/\(ao r).Nodup:=GC.mp nd;unfold mput at h;split at h
  .rename_i e;subst e;rcases F5.mp h with z|z
   .cases z;exact .inl #[rfl,rfl,Gd]
   .have:b∈ao r:=bH z;exact .inr #[λe=>m5.1 (e ▸ this),F8 _ z]
  .rename_i ne;rcases F5.mp h with z|z
   .cases z;exact .inr #[ne,Gd]
   .rcases mem_put m5.2 z with⟨e1,e2,e3⟩|⟨e1,e2⟩
    .exact .inl #[e1,e2,F8 _ e3]
    .exact .inr #[e1,F8 _ e2]
def kA:∀{M:MS} {a b:KF} {q:MO},(ao M).Nodup->(b,q)∈mdel M a->b≠a/\(b,q)∈M
 |[],_,_,_,_,h=>by cases h
 |(c,p)::r,a,b,q,nd,h=>by
  have m5:c∉ao r/\(ao r).Nodup:=GC.mp nd;unfold mdel at h;split at h
  .rename_i e;subst e;exact#[λe=>m5.1 (e ▸ bH h),F8 _ h]
  .rename_i ne;rcases F5.mp h with z|z
   .cases z;exact#[ne,Gd]
   .obtain⟨e1,e2⟩:=kA m5.2 z;exact#[e1,F8 _ e2]
def del_sub:∀{M:MS} {a:KF},(ao (mdel M a)).Sublist (ao M)
 |[],_=>.slnil
 |(c,p)::r,a=>by
  unfold mdel;split
  .exact List.sublist_cons_self _ _
  .exact List.Sublist.cons_cons _ del_sub
variable{K:Ex}{F H F' H':Hp}
def MRep.mono(ff:Same F F')(hh:∀o,H a=be o->H' a=be o):∀{o:MO},MRep K F H a o->MRep K F' H' a o
 |.ins x fs,⟨C,dx,ws,n,h,r⟩=>#[C,dx,ws,n,hh _ h,RepF.mono ff fs ws r]
 |.lst ds,⟨vs,h,r⟩=>#[vs,hh _ h,Reps.mono ff ds vs r]
 |.dti b7,h=>hh _ h
def MRep.there:∀{o:MO},MRep K F H a o->H a≠G_
 |.ins x fs,⟨C,dx,ws,n,h,r⟩=>by rw[h];exact λz=>nomatch z
 |.lst ds,⟨vs,h,r⟩=>by rw[h];exact λz=>nomatch z
 |.dti b7,h=>by rw[show H a=_ from h];exact λz=>nomatch z
structure RepM(K:Ex)(F H:Hp)(M:MS):Prop where
 nd:(ao M).Nodup
 ok:∀a o,(a,o)∈M->MRep K F H a o
 fr:∀a,a∈ao M->F a=G_
def RepM.nil:RepM K F H []:=#[IL,(λ_ _ h=>nomatch h),(λ_ h=>nomatch h)]
def RepM.here(r:RepM K F H M)(h:a∈ao M):H a≠none:=by
 obtain⟨⟨b,o⟩,h1,rfl⟩:=Gp.mp h;exact(r.ok _ _ h1).there
structure GrowM(M M':MS)(F H F' H':Hp):Prop where
 ff:Same F F'
 fh:Same F' H'
 hh:∀b o,b∉ao M->H b=be o->H' b=be o
 out:∀b,b∉ao M->F b=G_->H b≠G_->F' b=G_
 ks:∀b,b∈ao M'->b∈ao M\/H b=G_
def Grow.toM(g:Grow F H F' H'):GrowM M M F H F' H':=#[g.ff,g.fh,λb o _ h=>g.hh b o h,λb _ h1 h2=>g.out b h1 h2,λb h=>.inl h]
def GrowM.refl(h:Same F H):GrowM M M F H F H:=(Grow.refl h).toM
def GrowM.trans{M1 M2:MS}{F1 H1 F2 H2:Hp}(g:GrowM M M1 F H F1 H1)(k:GrowM M1 M2 F1 H1 F2 H2):GrowM M M2 F H F2 H2 where
  ff:=g.ff.trans k.ff
  fh:=k.fh
  hh:=λb o nb h=>k.hh b o (λz=>by rcases g.ks b z with q|q;exact nb q;rw[q]at h;cases h) (g.hh b o nb h)
  out:=λb nb h1 h2=>k.out b (λz=>by rcases g.ks b z with q|q;exact nb q;exact h2 q) (g.out b nb h1 h2) (by
    cases e:H b with
    |none=>exact absurd e h2
    |some o=>rw[g.hh b o nb e];exact λz=>nomatch z)
  ks :=λb h=>by
    rcases k.ks b h with q|q
    . exact g.ks b q
    . by_cases nb:b∈ao M
      . exact .inl nb
      . right;cases e:H b with
        |none=>rfl
        |some o=>rw[g.hh b o nb e]at q;cases q
def RepM.grow(r:RepM K F H M)(g:Grow F H F' H'):RepM K F' H' M:=
 #[r.nd,λa o h=>(r.ok a o h).mono g.ff λo e=>g.hh a o e,λa h=>g.out a (r.fr a h) (r.here h)]
variable{ho:HO}
def RepM.put{o':MO}(r:RepM K F H M)(e:mget M a=be o)(h:MRep K F (upd H a ho) a o'):RepM K F (upd H a ho) (mput M a o'):=
 ⟨by rw[gP];exact r.nd,λb q hb=>by
  rcases mem_put r.nd hb with⟨rfl,rfl,_⟩|⟨ne,hb⟩
  .exact h
  .exact(r.ok b q hb).mono (Same.refl F) λu z=>by rw[aj ne];exact z,λb hb=>r.fr b (by rw[gP]at hb;exact hb)⟩
def GrowM.put{o':MO}(fh:Same F H)(fa:F a=G_)(e:mget M a=be o):GrowM M (mput M a o') F H F (upd H a ho) where
 ff:=Same.refl F
 fh:=λb u z=>by
  have ne:b≠a:=by rintro rfl;rw[fa]at z;cases z
  rw[aj ne];exact fh b u z
 hh:=λb u nb z=>by
  have ne:b≠a:=by rintro rfl;exact nb (bH (bj e))
  rw[aj ne];exact z
 out:=λb _ h _=>h
 ks:=λb h=>.inl (by rw[gP]at h;exact h)
def RepM.new{p:KF}(r:RepM K F H M)(fh:Same F H)(hp:H p=G_)(h:MRep K F (upd H p ho) p o):RepM K F (upd H p ho) ((p,o)::M):=by
 have np:p∉ao M:=λz=>r.here z hp;refine#[GC.mpr #[np,r.nd],λb q hb=>?_,λb hb=>?_]
 .rcases F5.mp hb with z|z
  .cases z;exact h
  .exact(r.ok b q z).mono (Same.refl F) λu z'=>by rw[aj (λe:b=p=>np (e ▸ bH z))];exact z'
 .rcases F5.mp hb with z|z
  .rw[z];exact fh.free hp
  .exact r.fr b z
def GrowM.new{p:KF}(fh:Same F H)(hp:H p=G_):GrowM M ((p,o)::M) F H F (upd H p ho) where
 ff:=Same.refl F
 fh:=fh.trans (aP hp _)
 hh:=λb u _ z=>aP hp _ b u z
 out:=λb _ h _=>h
 ks:=λb h=>by
  rcases F5.mp h with z|z
  .exact .inr (by rw[z];exact hp)
  .exact .inl z
structure RepZ(K:Ex)(B F H:Hp)(z:SD)(s:L2.St)(M:MS):Prop where
 rs:RepS K B F H z s
 no:∀(i:Nat) ds,z[i]?≠be (be (.own ds))
 rm:RepM K F H M
 mb:∀a,a∈ao M->B a=G_
variable{B:Hp}{M':MS}
def Kept.growM[Jx]{F0:Hp}(k:Kept B F0 F H)(mb:∀a,a∈ao M->B a=G_)(g:GrowM M M' F H F' H'):Kept B F0 F' H' where
 bh:=λb o e=>g.hh b o (λz=>by rw[mb b z]at e;cases e) (k.bh b o e)
 fh:=g.fh
 f0:=k.f0.trans g.ff
 out:=λb h1 h2=>g.out b (λz=>h2 (mb b z)) (k.out b h1 h2) (by
  cases e:B b with
  |none=>exact absurd e h2
  |some o=>rw[k.bh b o e];exact λz=>nomatch z)
 eb:=k.eb
 jf:=k.jf
 jo:=k.jo
variable{z:SD}{s:L2.St}
def RepS.growM(r:RepS K B F H z s)(no:∀(i:Nat) ds,z[i]?≠be (be (.own ds)))(g:GrowM M M' F H F' H'):RepS K B F' H' z s where
 len:=r.len
 val:=λi d e n=>let ⟨v,q1,q2⟩:=r.val i d e n;#[v,q1,q2.mono g.ff]
 own:=λi ds e=>absurd e (no i ds)
 apart:=r.apart
def RepZ.growM(r:RepZ K B F H z s M)(bh:Same B H)(g:GrowM M M' F H F' H')(rm:RepM K F' H' M'):RepZ K B F' H' z s M':=
 ⟨r.rs.growM r.no g,r.no,rm,λa h=>by
  rcases g.ks a h with q|q
  .exact r.mb a q
  .exact bh.free q⟩
def RepZ.set{i:Nat}{d:D}{v:V}(r:RepZ K B F H z s M)(rd:Rep K F d v):RepZ K B F H (z.set i (be d)) (s.set i (be v)) M:=
 ⟨r.rs.set rd,λj ds e=>by
  by_cases hj:i=j
  .subst hj;rw[GZ]at e;simp at e;have:=rd.noown;rw[e.2]at this;cases this
  .rw[Gg hj]at e;exact r.no j ds e,r.rm,r.mb⟩
class Jm extends Jx where
 RM:SD->MS->XD
abbrev TME:=SD->MS->(D->MS->Prop)->Prop
abbrev TMT:=SD->MS->(Bool->MS->Prop)->Prop
abbrev TMA:=SD->MS->(List D->MS->Prop)->Prop
structure EndsM where
 nx:SD->MS->Prop
 rt:D->MS->Prop
 bk:SD->MS->Prop:=λ_ _=>False
 ct:SD->MS->Prop:=λ_ _=>False
abbrev TMS:=EndsM->SD->MS->Prop
def mE(K:Ex)[J:Jm](t:TME):TE:=λs H Q=>∃F z M,Kept J.B J.F0 F H/\RepZ K J.B F H z s M/\∃R:D->MS->Prop,t z M R/\∀d v M' F' H',GrowM M M' F H F' H'->R d M'->Rep K F' d v->RepM K F' H' M'->Q v H'
def mT(K:Ex)[J:Jm](t:TMT):TT:=λs H Q=>∃F z M,Kept J.B J.F0 F H/\RepZ K J.B F H z s M/\∃R:Bool->MS->Prop,t z M R/\∀b M' F' H',GrowM M M' F H F' H'->R b M'->RepM K F' H' M'->Q b H'
def mA(K:Ex)[J:Jm](t:TMA):TA:=λs H Q=>∃F z M,Kept J.B J.F0 F H/\RepZ K J.B F H z s M/\∃R:List D->MS->Prop,t z M R/\∀ds vs M' F' H',GrowM M M' F H F' H'->R ds M'->Reps K F' ds vs->RepM K F' H' M'->Q vs H'
structure EndsOkM[J:Jm](K:Ex)(F0:Hp)(ED:EndsM)(E:Ends):Prop where
 nx:∀z' s' M' F' H',Kept J.B F0 F' H'->ED.nx z' M'->RepZ K J.B F' H' z' s' M'->E.nx s' H'
 rt:∀d v M' F' H',Kept J.B F0 F' H'->ED.rt d M'->Rep K F' d v->RepM K F' H' M'->(∀a,a∈ao M'->J.B a=G_)->E.rt v H'
 bk:∀z' s' M' F' H',Kept J.B F0 F' H'->ED.bk z' M'->RepZ K J.B F' H' z' s' M'->E.bk s' H'
 ct:∀z' s' M' F' H',Kept J.B F0 F' H'->ED.ct z' M'->RepZ K J.B F' H' z' s' M'->E.ct s' H'
def mS(K:Ex)[J:Jm](t:TMS):TS:=λE s H=>∃F0 F z M,Kept J.B F0 F H/\RepZ K J.B F H z s M/\∃ED:EndsM,t ED z M/\EndsOkM K F0 ED E
structure ME(X:Cx)[Jm](e:RZ)(t:TME):Prop where
 out:PE X e (mE X.K t)
structure MT(X:Cx)[Jm](e:RZ)(t:TMT):Prop where
 out:PT X e (mT X.K t)
structure MW(X:Cx)[Jm](e:RZ)(t:TMT):Prop where
 out:PW X e (mT X.K t)
structure MA(X:Cx)[Jm](es:List RZ)(t:TMA):Prop where
 out:PA X es (mA X.K t)
structure MSt(X:Cx)[Jm](st:R3)(t:TMS):Prop where
 out:PS X st (mS X.K t)
structure MSs(X:Cx)[Jm](st:List R3)(t:TMS):Prop where
 out:PSs X st (mS X.K t)
section
variable {X:Cx}{a b c e:RZ}{ta tb:TME}{pos:Sb}
def mP(t:TD):TME:=λz M R=>t z λd=>R d M
def mPT(t:TDT):TMT:=λz M R=>t z λd=>R d M
def mPA(t:TDA):TMA:=λz M R=>t z λd=>R d M
def ad[J:Jm]{t:TD}(h:WDE X e t):ME X e (mP t):=⟨PE.anti h.out λs H Q q=>by
 obtain⟨F,z,M,k,r,R,h1,h2⟩:=q;exact#[J.B,F,z,k,r.rs,_,h1,λd v F' H' g hd rd=>h2 d v M F' H' g.toM hd rd (r.rm.grow g)]⟩
def bg[J:Jm]{t:TDT}(h:WDT X e t):MT X e (mPT t):=⟨PT.anti h.out λs H Q q=>by
 obtain⟨F,z,M,k,r,R,h1,h2⟩:=q;exact#[J.B,F,z,k,r.rs,_,h1,λd F' H' g hd=>h2 d M F' H' g.toM hd (r.rm.grow g)]⟩
variable{es:List RZ}
def ar[J:Jm]{t:TDA}(h:WDA X es t):MA X es (mPA t):=⟨PA.anti h.out λs H Q q=>by
 obtain⟨F,z,M,k,r,R,h1,h2⟩:=q;exact#[J.B,F,z,k,r.rs,_,h1,λd v F' H' g hd rd=>h2 d v M F' H' g.toM hd rd (r.rm.grow g)]⟩
def mOp(r:RD2)(ta tb:TME):TME:=λz M R=>ta z M λx M1=>tb z M1 λy M2=>r x y λd=>R d M2
variable{r:R2}{rd:RD2}
def sP[J:Jm]{e:RZ}{ta tb:TME}(L:aU X.K r rd)(h:PE X e (tOp r (mE X.K ta) (mE X.K tb))):ME X e (mOp rd ta tb):=⟨h.anti λs H Q q=>by
 obtain⟨F,z,M,k,rs,R,h1,h2⟩:=q;refine#[F,z,M,k,rs,_,h1,λx u M1 F1 H1 g1 hx rx m1=>?_];refine#[F1,z,M1,k.growM rs.mb g1,rs.growM k.bh g1 m1,_,hx,λy v M2 F2 H2 g2 hy ry m2=>?_];exact L x y u v F2 H2 _ Q g2.fh hy (rx.mono g2.ff) ry λd w F3 H3 g3 hd rd=>h2 d w M2 F3 H3 ((g1.trans g2).trans g3.toM) hd rd (m2.grow g3)⟩
def sQ[J:Jm]{op:Tz}(ho:OpR X (Sn op) r)(L:aU X.K r rd)(ha:ME X a ta)(hb:ME X b tb):ME X (.BinOp a op b pos) (mOp rd ta tb):=sP L (jB ho ha.out hb.out)
def kB[J:Jm](ha:ME X a ta)(hb:ME X b tb)(hs:autoParam (dR b) zA6):ME X (.Subscript a b pos) (mOp rdIx ta tb):=sP rD (pe_ix qJ ha.out hb.out hs)
def gQ[Jm](ha:ME X a ta)(hb:ME X b tb):ME X (.BinOp a .Add b pos) (mOp gD ta tb):=sQ qZ ra ha hb
def cX[Jm](ha:ME X a ta)(hb:ME X b tb):ME X (.BinOp a .Sub b pos) (mOp jS ta tb):=sQ qa rb ha hb
def mTst(t:TME):TMT:=λz M R=>t z M λx M1=>match x with|.bl k=>R k M1|_=>False
def eN[J:Jm]{op:Uo}(ho:OpR X (Sh op) r)(L:aU X.K r rd)(ha:ME X a ta)(hb:ME X b tb)(hm:Ss op b=false):MT X (.Compare a [op] [b] pos) (mTst (mOp rd ta tb)):=⟨(jD ho ha.out hb.out hm).anti λs H Q q=>by
 obtain⟨F,z,M,k,rs,R,h1,h2⟩:=q;refine#[F,z,M,k,rs,_,h1,λx u M1 F1 H1 g1 hx rx m1=>?_];refine#[F1,z,M1,k.growM rs.mb g1,rs.growM k.bh g1 m1,_,hx,λy v M2 F2 H2 g2 hy ry m2=>?_];refine L x y u v F2 H2 _ _ g2.fh hy (rx.mono g2.ff) ry λd w F3 H3 g3 hd rd=>?_;dsimp only at hd;split at hd
 .exact#[_,rep_bl.mp rd,h2 _ M2 F3 H3 ((g1.trans g2).trans g3.toM) hd (m2.grow g3)]
 .exact hd.elim⟩
def sR[Jm](ha:ME X a ta)(hb:ME X b tb):MT X (.Compare a [.Lt] [b] pos) (mTst (mOp rdLt ta tb)):=eN qi rn ha hb (nomark _)
def sS[Jm](ha:ME X a ta)(hb:ME X b tb):MT X (.Compare a [.Gt] [b] pos) (mTst (mOp rdGt ta tb)):=eN qj rq ha hb (nomark _)
def fH[Jm](ha:ME X a ta)(hb:ME X b tb):MT X (.Compare a [.Eq] [b] pos) (mTst (mOp rdEq ta tb)):=eN jC jT ha hb (nomark _)
def fJ[Jm](ha:ME X a ta)(hb:ME X b tb):MT X (.Compare a [.NotEq] [b] pos) (mTst (mOp rdNe ta tb)):=eN qh rA ha hb (nomark _)
def kC[Jm](ha:ME X a ta)(hb:ME X b tb):MT X (.Compare a [.Is] [b] pos) (mTst (mOp (rdIs id) ta tb)):=eN qk rC ha hb (nomark _)
def zG[Jm](ha:ME X a ta)(hb:ME X b tb)(hm:autoParam (Ss .NotIn b=false) zA0):MT X (.Compare a [.NotIn] [b] pos) (mTst (mOp (rdIn true) ta tb)):=eN zA zz ha hb hm
variable {tA tB:TMT}{rest:List RZ}
def mt_w[Jm](h:MW X a tA):MT X a tA:=#[PW.pt h.out]
def zH[Jm](ha:MT X a tA):MW X (.BoolOp .And [a] pos) tA:=#[pO ha.out]
def fK[Jm](ha:MT X a tA):MW X (.BoolOp .Or [a] pos) tA:=#[pP ha.out]
def mAnd(tA tB:TMT):TMT:=λz M R=>tA z M λk M1=>if k=true then tB z M1 R else R false M1
def mOr(tA tB:TMT):TMT:=λz M R=>tA z M λk M1=>if k=true then R true M1 else tB z M1 R
def zI[J:Jm](ha:MT X a tA)(hb:MW X (.BoolOp .And (b::rest) pos) tB):MW X (.BoolOp .And (a::b::rest) pos) (mAnd tA tB):=⟨(pQ ha.out hb.out).anti λs H Q q=>by
 obtain⟨F,z,M,k,rs,R,h1,h2⟩:=q;refine#[F,z,M,k,rs,_,h1,λx M1 F1 H1 g1 hx m1=>?_];cases x with
 |true=>exact#[F1,z,M1,k.growM rs.mb g1,rs.growM k.bh g1 m1,R,hx,λy M2 F2 H2 g2 hy m2=>h2 y M2 F2 H2 (g1.trans g2) hy m2]
 |false=>exact h2 _ M1 F1 H1 g1 hx m1⟩
def fL[J:Jm](ha:MT X a tA)(hb:MW X (.BoolOp .Or (b::rest) pos) tB):MW X (.BoolOp .Or (a::b::rest) pos) (mOr tA tB):=⟨(pR ha.out hb.out).anti λs H Q q=>by
 obtain⟨F,z,M,k,rs,R,h1,h2⟩:=q;refine#[F,z,M,k,rs,_,h1,λx M1 F1 H1 g1 hx m1=>?_];cases x with
 |false=>exact#[F1,z,M1,k.growM rs.mb g1,rs.growM k.bh g1 m1,R,hx,λy M2 F2 H2 g2 hy m2=>h2 y M2 F2 H2 (g1.trans g2) hy m2]
 |true=>exact h2 _ M1 F1 H1 g1 hx m1⟩
def mIf(tc:TMT)(ta tb:TME):TME:=λz M R=>tc z M λk M1=>if k=true then ta z M1 R else tb z M1 R
def fM[J:Jm]{tc:TMT}(hc:MT X c tc)(ha:ME X a ta)(hb:ME X b tb):ME X (.IfExp c a b pos) (mIf tc ta tb):=⟨(vW hc.out ha.out hb.out).anti λs H Q q=>by
 obtain⟨F,z,M,k,rs,R,h1,h2⟩:=q;refine#[F,z,M,k,rs,_,h1,λx M1 F1 H1 g1 hx m1=>?_];cases x with
 |true=>exact#[F1,z,M1,k.growM rs.mb g1,rs.growM k.bh g1 m1,R,hx,λd v M2 F2 H2 g2 hy rd m2=>h2 d v M2 F2 H2 (g1.trans g2) hy rd m2]
 |false=>exact#[F1,z,M1,k.growM rs.mb g1,rs.growM k.bh g1 m1,R,hx,λd v M2 F2 H2 g2 hy rd m2=>h2 d v M2 F2 H2 (g1.trans g2) hy rd m2]⟩
def mNil:TMA:=λ_ M R=>R [] M
def zJ(ta:TME)(tr:TMA):TMA:=λz M R=>ta z M λx M1=>tr z M1 λxs M2=>R (x::xs) M2
def aS[J:Jm]:MA X [] mNil:=⟨pa_nil.anti λs H Q q=>by
 obtain⟨F,z,M,k,rs,R,h1,h2⟩:=q;exact h2 [] [] M F H (GrowM.refl k.fh) h1 (reps_nil.mpr rfl) rs.rm⟩
variable{t:TMA}
def aw[J:Jm]{e:RZ}{te:TME}(ha:ME X e te)(hr:MA X es t)(hs:autoParam (zSE X e es) zA0):MA X (e::es) (zJ te t):=⟨(bo ha.out hr.out hs).anti λs H Q q=>by
 obtain⟨F,z,M,k,rs,R,h1,h2⟩:=q;refine#[F,z,M,k,rs,_,h1,λx u M1 F1 H1 g1 hx rx m1=>?_];refine#[F1,z,M1,k.growM rs.mb g1,rs.growM k.bh g1 m1,_,hx,λxs us M2 F2 H2 g2 hy ry m2=>?_];exact h2 _ _ M2 F2 H2 (g1.trans g2) hy (reps_cons.mpr #[_,_,rfl,rx.mono g2.ff,ry]) m2⟩
def mTup(t:TMA):TME:=λz M R=>t z M λxs M1=>xs.length<=1000/\R (.tup xs) M1
def sT[J:Jm]{x1}(h:MA X es t):ME X (.Tuple es x1 pos) (mTup t):=⟨(qv h.out).anti λs H Q q=>by
 obtain⟨F,z,M,k,rs,R,h1,h2⟩:=q;refine#[F,z,M,k,rs,_,h1,λds vs M1 F1 H1 g1 hx rx m1=>?_];have hl:=rx.length;refine#[sz (by rw[hl];exact hx.1),λp hp=>?_];have gn:=Grow.new g1.fh hp (.tup vs);exact h2 _ _ M1 _ _ (g1.trans gn.toM) hx.2 (rep_tupS.mpr #[p,vs,rfl,av,rx.mono (aP (g1.fh.free hp) _)]) (m1.grow gn)⟩
def mLst(t:TMA):TME:=λz M R=>t z M λxs M1=>xs.length<=1000/\∀p,p∉ao M1->R (.ptr p) ((p,.lst xs)::M1)
def eO[J:Jm](h:MA X es t):ME X (.List es pos) (mLst t):=⟨(jH h.out).anti λs H Q q=>by
 obtain⟨F,z,M,k,rs,R,h1,h2⟩:=q;refine#[F,z,M,k,rs,_,h1,λds vs M1 F1 H1 g1 hx rx m1=>?_];have hl:=rx.length;refine#[sz (by rw[hl];exact hx.1),λp hp=>?_];exact h2 _ _ _ F1 _ (g1.trans (GrowM.new g1.fh hp)) (hx.2 p λz=>m1.here z hp) (rep_ptr.mpr rfl) (m1.new g1.fh hp #[vs,av,rx])⟩
def mCB(r:RDn)(t:TMA):TME:=λz M R=>t z M λds M1=>r ds λd=>R d M1
variable{x:JM}{p:Sb}
def zK[J:Jm]{e:RZ}{id:String}{r:List V->Hp->VK->Prop}{rd:RDn}(hc:bE X (.builtin id) r)(L:ck X.K r rd)(hm:X.mg x=G_)(hv:Si x=be (.builtin id))(ha:MA X (e::es) t)(hg:autoParam (Gl X x) zA0)(hn:autoParam (x≠"__name__") zA1)(d7:autoParam (zND x) zA1)
  (he:autoParam (zSE X e es) zA0) (c_:autoParam (zPL X pos es) zA0):ME X (.Call (.Name x p) (e::es) [] pos) (mCB rd t):=⟨(fw hc hg hm hv ha.out hn d7 he c_).anti λs H Q h=>by
 obtain⟨F,z,M,k,rs,R,h1,h2⟩:=h;refine#[F,z,M,k,rs,_,h1,λds vs M1 F1 H1 g1 hx rx m1=>?_];exact L ds vs F1 H1 _ Q g1.fh hx rx λd w F' H' g hd rd=>h2 d w M1 F' H' (g1.trans g.toM) hd rd (m1.grow g)⟩
def sU[Jm]{e:RZ}(hm:X.mg "len"=G_)(ha:MA X [e] t)(hg:autoParam (Gl X "len") zA0)(he:autoParam (zSE X e []) zA0):ME X (.Call (.Name "len" p) [e] [] pos) (mCB jV t):=zK jE rF hm PySem.boot_len ha hg Ks Ks he
def zL[J:Jm]{e:RZ}{T:String}{r:List V->Hp->VK->Prop}{rd:RDn}(hc:bE X (.type T) r)(L:ck X.K r rd)(hm:X.mg x=G_)(hv:Si x=be (.type T))(ha:MA X (e::es) t)(hg:autoParam (Gl X x) zA0)(hn:autoParam (x≠"__name__") zA1)(d7:autoParam (zND x) zA1)
  (he:autoParam (zSE X e es) zA0) (c_:autoParam (zPL X pos es) zA0):ME X (.Call (.Name x p) (e::es) [] pos) (mCB rd t):=⟨(qA hc hg hm hv ha.out hn d7 he c_).anti λs H Q h=>by
 obtain⟨F,z,M,k,rs,R,h1,h2⟩:=h;refine#[F,z,M,k,rs,_,h1,λds vs M1 F1 H1 g1 hx rx m1=>?_];exact L ds vs F1 H1 _ Q g1.fh hx rx λd w F' H' g hd rd=>h2 d w M1 F' H' (g1.trans g.toM) hd rd (m1.grow g)⟩
def sV[Jm](hm:X.mg "int"=G_)(ha:MA X [e] t)(hg:autoParam (Gl X "int") zA0)(he:autoParam (zSE X e []) zA0):ME X (.Call (.Name "int" p) [e] [] pos) (mCB kh t):=zL rT rV hm PyProof.Rows.boot_int ha hg Ks Ks he
def cY(M:MS)(d:D)(x:JM)(fs:List (JM×D)):Prop:=match d with|.ptr a=>mget M a=be (.ins x fs)|.obj y gs=>y=x/\gs=fs|_=>False
def mFld(x f:JM)(te:TME):TME:=λz M R=>te z M λd M1=>∃fs,cY M1 d x fs/\∃d',fs.lookup f=be d'/\R d' M1
def gR{K:Ex}{F H:Hp}{M:MS}{d:D}{v:V}{fs:List (JM×D)}(fh:Same F H)(rm:RepM K F H M)(rd:Rep K F d v)(h:cY M d x fs):∃a C dx ws,v=.ref a/\nsIn K Pi x=be (be (.ref C))/\H a=be (.ins C dx ws)/\RepF K F fs ws:=by
 unfold cY at h;split at h
 .rename_i a;obtain⟨C,dx,ws,n,h1,h2⟩:=rm.ok _ _ (bj h);exact#[a,C,dx,ws,rep_ptr.mp rd,n,h1,h2]
 .obtain⟨rfl,rfl⟩:=h;obtain⟨a,C,dx,ws,e,n,h1,h2⟩:=rep_obj.mp rd;exact#[a,C,dx,ws,e,n,fh _ _ h1,h2]
 .exact h.elim
def aA[J:Jm]{f:JM}(hA:ClsA X.K x f)(he:ME X e ta)(hb:autoParam (R9 e f X.env (Sa e X.env)=Sa e X.env) zA0):ME X (.Attribute e f pos) (mFld x f ta):=⟨(qr he.out hb).anti λs H Q q=>by
 obtain⟨C,hn,hc,hf⟩:=hA;obtain⟨F,z,M,k,rs,R,h1,h2⟩:=q;refine#[F,z,M,k,rs,_,h1,λd u M1 F1 H1 g1 hx rx m1=>?_];obtain⟨fs,hi,d',hl,hR⟩:=hx;obtain⟨a,C',dx,ws,rfl,g_,hH,rf⟩:=gR g1.fh m1 rx hi;rw[hn]at g_;cases g_;obtain⟨v,l,rv⟩:=rf.look hl;exact#[a,C,dx,ws,v,rfl,hH,hc,hf,l,h2 d' v M1 F1 H1 g1 hR rv m1]⟩
end
abbrev XDM:=JM->List (JM×D)->MS->Prop
abbrev SpM:=List D->MS->(D->MS->Prop)->XDM->Prop
def lSpM(K:Ex)(S:SpM):Sp:=λvs H Q E=>∃F ds M,Same F H/\Reps K F ds vs/\RepM K F H M/\∃(R:D->MS->Prop) (RX:XDM),S ds M R RX/\(∀d v M' F' H',GrowM M M' F H F' H'->R d M'->Rep K F' d v->RepM K F' H' M'->Q v H')/\
 ∀x fs C od M' F' H',GrowM M M' F H F' H'->RX x fs M'->ErrD K F' x fs C od->RepM K F' H' M'->E (.ref C) od H'
abbrev CalMM(P:P3)(w:R5)(K:Ex)(mg:JM->Option KB)(base:Heap)(n:Nat)(x:JM)(ps:List JM)(S:SpM):Prop:=Cal P w K mg base n x ps (lSpM K S)
def ofX(S:SpX):SpM:=λds M R RX=>S ds (λd=>R d M) λx fs=>RX x fs M
def ofD(S:SpD):SpM:=λds M R _=>S ds λd=>R d M
variable{vs:List V}
def zM{S:SpX}{Q:VK}{E:XK}(h:lSpM K (ofX S) vs H Q E):lSpX K S vs H Q E:=by
 obtain⟨F,ds,M,fh,rs,rm,R,RX,hS,q,qx⟩:=h;exact#[F,ds,fh,rs,_,_,hS,λd v F' H' g hd rd=>q d v M F' H' g.toM hd rd (rm.grow g),λx fs C od F' H' g hR er=>qx x fs C od M F' H' g.toM hR er (rm.grow g)]
def zN{S:SpD}{Q:VK}{E:XK}(h:lSpM K (ofD S) vs H Q E):lSp K S vs H Q E:=by
 obtain⟨F,ds,M,fh,rs,rm,R,RX,hS,q,qx⟩:=h;exact#[F,ds,fh,rs,_,hS,λd v F' H' g hd rd=>q d v M F' H' g.toM hd rd (rm.grow g)]
section
variable {P:P3}{w:R5}{K:Ex}{mg:JM->Option KB}{base:Heap}{n:Nat}{x:JM}{ps:List JM}
def CalX.toM{S:SpX}(C:CalX P w K mg base n x ps S):CalMM P w K mg base n x ps (ofX S):=by
 obtain⟨f,fd,F,hb,hk,hm⟩:=C;exact#[f,fd,F.imp λvs H Q E h=>zM h,hb,hk,hm]
def CalD.toM{S:SpD}(C:CalD P w K mg base n x ps S):CalMM P w K mg base n x ps (ofD S):=by
 obtain⟨f,fd,F,hb,hk,hm⟩:=C;exact#[f,fd,F.imp λvs H Q E h=>zN h,hb,hk,hm]
def CalMth(P:P3)(w:R5)(K:Ex)(mg:JM->Option KB)(base:Heap)(n:Nat)(x m:JM)(ps:List JM)(sp:Sp):Prop:=
 ∃C f fd,nsIn K Pi x=be (be (.ref C))/\Cls K C/\Meth K C m f/\FnOk P w K mg base (CX1 P w) n f fd ps sp/\Binds K fd ps []
variable{sp:Sp}
def Cal.mono{n':Nat}(h:Cal P w K mg base n x ps sp)(hn:n<=n'):Cal P w K mg base n' x ps sp:=by
 obtain⟨f,fd,F,h⟩:=h;exact#[f,fd,F.mono hn,h]
def Cal.imp{J9:Sp}(h:Cal P w K mg base n x ps sp)(i:∀vs H Q E,J9 vs H Q E->sp vs H Q E):Cal P w K mg base n x ps J9:=by
 obtain⟨f,fd,F,h⟩:=h;exact#[f,fd,F.imp i,h]
def CalMth.imp{m:JM}{J9:Sp}(h:CalMth P w K mg base n x m ps sp)(i:∀vs H Q E,J9 vs H Q E->sp vs H Q E):CalMth P w K mg base n x m ps J9:=by
 obtain⟨C,f,fd,h1,h2,h3,h4,h5⟩:=h;exact#[C,f,fd,h1,h2,h3,h4.imp i,h5]
end
def XOkM(X:Cx)[J:Jm]:Prop:=∀(σ:L2.St) (z:SD) (M:MS) (F H:Hp) (s:KM) (e C:KF) (od:Option KF) (x:JM) (fs:List (JM×D)),Inv X [] σ H s->Kept J.B J.F0 F H->RepZ X.K J.B F H z σ M->J.RM z M x fs->ErrD X.K F x fs C od->Exd X H s e C od->X.xe (.ref e) s
def EX(X:Cx)[J:Jm](z:SD)(σ:L2.St):XK:=λCv od H'=>∃x fs C M' F',Cv=.ref C/\Kept J.B J.F0 F' H'/\RepZ X.K J.B F' H' z σ M'/\J.RM z M' x fs/\ErrD X.K F' x fs C od
def XOkM.out{X:Cx}[J:Jm](hx:XOkM X)(e8:X.ex=[]){pins:List (KF×Sj)}{σ:L2.St}{s s':KM}{ev:KB}(I:Inv X pins σ H s)
  (h:CX1 X.prog X.w X.stack H s (EX X z σ) ev s'):X.xe ev s':=by
 obtain⟨e,C,od,T,H',rfl,JO,hb,un,hok,Nn,ne,nT,He,HT,x,fs,C',M',F',hC,kk,rr,hR,er⟩:=h;cases hC;have I':Inv X pins σ H' s':=I.call' JO un hok hb (λb z=>absurd z KK);exact hx σ z M' F' H' s' e C od x fs (Inv.nopins I') kk rr hR er #[He,cA I e8 ne,pn_free I ne,.inr #[T,Nn,cA I e8 nT,HT,pn_free I nT]]
section
variable {X:Cx}[J:Jm]{a b c e o:RZ}{ta tb te:TME}{pos p b9 a9:Sb}{n m:Nat}{ps:List JM}{S:SpM}{x:JM}{es:List RZ}{t:TMA}
def zO(S:SpM)(t:TMA):TME:=λz M R=>t z M λds M1=>S ds M1 R λx fs M'=>J.RM z M' x fs
variable{ds:List My.D}{vs:List V}
def gT{σ:L2.St}{z:SD}{M M1:MS}{F H F1 H1:Hp}{Q:VK}{R:D->MS->Prop}(k:Kept J.B J.F0 F H)(rs:RepZ X.K J.B F H z σ M)(g1:GrowM M M1 F H F1 H1)(m1:RepM X.K F1 H1 M1)(rx:Reps X.K F1 ds vs)
  (hS:S ds M1 R λx fs M'=>J.RM z M' x fs) (h2:∀d v M' F' H',GrowM M M' F H F' H'->R d M'->Rep X.K F' d v->RepM X.K F' H' M'->Q v H'):lSpM X.K S vs H1 Q (EX X z σ):=
 #[F1,ds,M1,g1.fh,rx,m1,R,_,hS,λd v M' F' H' g hd rd m'=>h2 d v M' F' H' (g1.trans g) hd rd m',λy fs C od M' F' H' g hR er m'=>#[y,fs,C,M',F',rfl,(k.growM rs.mb g1).growM (rs.growM k.bh g1 m1).mb g,(rs.growM k.bh g1 m1).growM (k.growM rs.mb g1).bh g m',hR,er]]
def aH(C:CalMM X.prog X.w X.K X.mg X.base n x ps S)(hx:XOkM X)(hr:Room m X.A)(ha:MA X (e::es) t)(e8:autoParam (X.ex=[]) zA0)(hg:autoParam (Gl X x) zA0)(hn:autoParam (n<=m) zA1)(d7:autoParam (zND x) zA1)
  (he:autoParam (zSE X e es) zA0) (c_:autoParam (zPL X pos es) zA0):
  ME X (.Call (.Name x p) (e::es) [] pos) (zO S t):=by
 obtain⟨f,fd,F,hb,hk,hm⟩:=C;refine#[λpins s σ H Q I h=>?_];obtain⟨Fr,z,M,k,rs,R,h1,h2⟩:=h;refine Sd (ce I hg hm ?_ d7);refine callWith_K (h₀:=X.base) I.ok.mod.kin hk (thn (ha.out pos pins s σ H (λvs H1=>lSpM X.K S vs H1 Q (EX X z σ)) I #[Fr,z,M,k,rs,_,h1,λds vs M1 F1 H1 g1 hx rx m1=>gT k rs g1 m1 rx hx h2]) λus s1 hh=>#[hh.elim λ_ h=>h.elim λ_ h=>h.1.kIn,?_]) he c_;obtain⟨vs,H1,I1,r,q⟩:=hh;exact gK F (hr.mono hn) hb (λe s' hq=>hx.out e8 I1 hq) I1 r q
def sW(cs:List JM)(m:JM)(S:JM->SpM)(to:TME)(t:TMA):TME:=λz M R=>to z M λd M1=>∃x,x∈cs/\∃fs,cY M1 d x fs/\fs.lookup m=G_/\t z M1 λds M2=>S x (d::ds) M2 R λx fs M'=>J.RM z M' x fs
variable{cs:List JM}{pl:TX Bool}
def aO{nm:JM}{S:JM->SpM}(C:∀x,x∈cs->CalMth X.prog X.w X.K X.mg X.base n x nm ps (lSpM X.K (S x)))(hx:XOkM X)(hr:Room m X.A)(ho:ME X o te)(ha:MA X (e::es) t)(e8:autoParam (X.ex=[]) zA0)(hn:autoParam (n<=m) zA1)
  (j8:autoParam (zSE X e es) zA0) (c_:autoParam (zPL X pos es) zA0)
  (ht:Sa (.Call (.Attribute o nm b9) (e::es) [] pos) X.env=(do
   let ov <-Sa o X.env
   SS b9.atName
   let (f,first) <-Sv [ov] (S' ov nm pl)
   T5 pos f first (SZ pos (R8 (e::es) X.env)) (Tg pos (SX [] X.env))):=by rfl):
  ME X (.Call (.Attribute o nm b9) (e::es) [] pos) (sW cs nm S te t):=by
 refine#[λpins s σ H Q I h=>?_];obtain⟨Fr,z,M,k,rs,R,h1,h2⟩:=h;refine methodCall_KW (pl:=pl) (thn (ho.out pins s σ H (λv H1=>∃d M1 F1,GrowM M M1 Fr H F1 H1/\Rep X.K F1 d v/\RepM X.K F1 H1 M1/\∃x,x∈cs/\∃fs,cY M1 d x fs/\fs.lookup nm=G_/\t z M1 λds M2=>S x (d::ds) M2 R λx fs M'=>J.RM z M' x fs) I #[Fr,z,M,k,rs,_,h1,λd v M1 F1 H1 g1 hd rd m1=>#[d,M1,F1,g1,rd,m1,hd]]) λu s1 hh=>?_) ht;obtain⟨v,H1,I1,rv,d,M1,F1,g1,rd,m1,x,NF,fs,hi,hl,hq⟩:=hh;obtain⟨C',f,fd,hns,i9,Kd,F,hb⟩:=C x NF;obtain⟨a,C2,dx,ws,rfl,n_,hH,rf⟩:=gR g1.fh m1 rd hi;rw[hns]at n_;cases n_;obtain rfl:u=Value.ref a:=rv;refine jG I1 hH i9 Kd (rf.none hl) ?_;refine callWith_K (first:=[.ref a]) (h₀:=X.base) I.ok.mod.kin Kd.kp (thn (ha.out pos pins s1 σ H1 (λvs H2=>lSpM X.K (S x) (.ref a::vs) H2 Q (EX X z σ)) I1 #[F1,z,M1,k.growM rs.mb g1,rs.growM k.bh g1 m1,_,hq,λds vs M2 F2 H2 g2 hx rx m2=>gT k rs (g1.trans g2) m2 (reps_cons.mpr #[_,_,rfl,rd.mono g2.ff,rx]) hx h2]) λus s2 hh=>#[hh.elim λ_ h=>h.elim λ_ h=>h.1.kIn,?_]) j8 c_;obtain⟨vs,H2,I2,r,q2⟩:=hh;exact gK (us:=.ref a::us) (vs:=.ref a::vs) F (hr.mono hn) hb (λe s' hq=>hx.out e8 I2 hq) I2 (.cons rfl r) q2
def bU{nm:JM}{S:JM->SpM}(C:∀x,x∈cs->CalMth X.prog X.w X.K X.mg X.base n x nm ps (lSpM X.K (S x)))(hx:XOkM X)(hr:Room m X.A)(ho:ME X o te)(e8:autoParam (X.ex=[]) zA0)(hn:autoParam (n<=m) zA1)
  (ht:Sa (.Call (.Attribute o nm b9) [] [] pos) X.env=(do
   let ov <-Sa o X.env
   SS b9.atName
   let (f,first) <-Sv [ov] (S' ov nm pl)
   T5 pos f first (SZ pos (R8 [] X.env)) (Tg pos (SX [] X.env))):=by rfl):
  ME X (.Call (.Attribute o nm b9) [] [] pos) (sW cs nm S te mNil):=by
 refine#[λpins s σ H Q I h=>?_];obtain⟨Fr,z,M,k,rs,R,h1,h2⟩:=h;refine methodCall_KW (pl:=pl) (thn (ho.out pins s σ H (λv H1=>∃d M1 F1,GrowM M M1 Fr H F1 H1/\Rep X.K F1 d v/\RepM X.K F1 H1 M1/\∃x,x∈cs/\∃fs,cY M1 d x fs/\fs.lookup nm=G_/\S x [d] M1 R λx fs M'=>J.RM z M' x fs) I #[Fr,z,M,k,rs,_,h1,λd v M1 F1 H1 g1 hd rd m1=>#[d,M1,F1,g1,rd,m1,hd]]) λu s1 hh=>?_) ht;obtain⟨v,H1,I1,rv,d,M1,F1,g1,rd,m1,x,NF,fs,hi,hl,hq⟩:=hh;obtain⟨C',f,fd,hns,i9,Kd,F,hb⟩:=C x NF;obtain⟨a,C2,dx,ws,rfl,n_,hH,rf⟩:=gR g1.fh m1 rd hi;rw[hns]at n_;cases n_;obtain rfl:u=Value.ref a:=rv;refine jG I1 hH i9 Kd (rf.none hl) ?_;refine callWith_K0 (first:=[.ref a]) I1.kIn Kd.kp (gK (E:=EX X z σ) (us:=[.ref a]) (vs:=[.ref a]) F (hr.mono hn) hb (λe s' hq=>hx.out e8 I1 hq) I1 (.cons rfl .nil) ?_);exact gT k rs g1 m1 (eD rd) hq h2
def make_of{C:KF}{S:SiD}{x:JM}{σ:L2.St}{z:SD}{M M1:MS}{F H F1 H1:Hp}{a dx:KF}{Q:VK}{E:XK}{T:List (JM×D)->Prop}(g1:GrowM M M1 F H F1 H1)(m1:RepM X.K F1 H1 M1)(rx:Reps X.K F1 ds vs)(hS:S ds T)
  (ha:H1 a=G_) (q8:H1 dx=G_) (k9:dx≠a) (q:∀fs ws dx F' H',Grow F1 H1 F' H'->T fs->H' a=be (.ins C dx ws)->F' a=G_->RepF X.K F' fs ws->Q (.ref a) H'):
  lSi X.K C S (.ref a::(vs++[])) (upd (upd H1 dx (.own a)) a (.ins C dx [])) (λv H2=>v=.non/\Q (.ref a) H2) E:=
 #[a,dx,vs,H1,F1,ds,by rw[Gw],rfl,ha,q8,k9,g1.fh,rx,_,hS,λfs ws JV F' H' g hR e9 i_ rf=>#[rfl,q fs ws JV F' H' g hR e9 i_ rf]]
def zP(x:JM)(S:SiD)(t:TMA):TME:=λz M R=>t z M λds M1=>S ds λfs=>R (.obj x fs) M1
def gU{S:SiD}(M:CalM X.prog X.w X.K X.mg X.base n x ps S)(hr:Room m X.A)(ha:MA X (e::es) t)(hg:autoParam (Gl X x) zA0)(hn:autoParam (n+1<=m) zA1)(d7:autoParam (zND x) zA1)
  (he:autoParam (zSE X e es) zA0) (c_:autoParam (zPL X pos es) zA0):
  ME X (.Call (.Name x p) (e::es) [] pos) (zP x S t):=by
 obtain⟨C,f,fd,hns,j9,mk,F,hb⟩:=M;refine#[(gw mk F (hr.mono hn) hg j9 hb .nil dW ha.out d7 he c_).anti λs H Q q=>?_];obtain⟨F,z,M,k,rs,R,h1,h2⟩:=q;refine#[F,z,M,k,rs,_,h1,λds vs M1 F1 H1 g1 hx rx m1=>?_];intro a dx ha q8 k9;refine make_of (σ:=s) (z:=z) (x:=x) g1 m1 rx hx ha q8 k9 λfs ws dx F' H' g hR e9 i_ rf=>?_;have s1:Same F' (upd F' a (.ins C dx ws)):=aP i_ _;have g2:Grow F1 H1 (upd F' a (.ins C dx ws)) H':=⟨g.ff.trans s1,λb o q=>by
  by_cases hb:b=a
  .subst hb;rw[av]at q;cases q;exact e9
  .rw[aj hb]at q;exact g.fh b o q,g.hh,λb q1 q2=>by
  by_cases hb:b=a
  .subst hb;exact absurd ha q2
  .rw[aj hb];exact g.out b q1 q2⟩
 exact h2 (.obj x fs) (.ref a) M1 (upd F' a (.ins C dx ws)) H' (g1.trans g2.toM) hR (rep_obj.mpr #[a,C,dx,ws,rfl,hns,av,RepF.mono s1 fs ws rf]) (m1.grow g2)
def zQ(x:JM)(S:SiD)(t:TMA):TME:=λz M R=>t z M λds M1=>S ds λfs=>∀a,a∉ao M1->R (.ptr a) ((a,.ins x fs)::M1)
def zR{S:SiD}(M:CalM X.prog X.w X.K X.mg X.base n x ps S)(hr:Room m X.A)(ha:MA X (e::es) t)(hg:autoParam (Gl X x) zA0)(hn:autoParam (n+1<=m) zA1)(d7:autoParam (zND x) zA1)
  (he:autoParam (zSE X e es) zA0) (c_:autoParam (zPL X pos es) zA0):
  ME X (.Call (.Name x p) (e::es) [] pos) (zQ x S t):=by
 obtain⟨C,f,fd,hns,j9,mk,F,hb⟩:=M;refine#[(gw mk F (hr.mono hn) hg j9 hb .nil dW ha.out d7 he c_).anti λs H Q q=>?_];obtain⟨F,z,M,k,rs,R,h1,h2⟩:=q;refine#[F,z,M,k,rs,_,h1,λds vs M1 F1 H1 g1 hx rx m1=>?_];intro a dx ha q8 k9;refine make_of (σ:=s) (z:=z) (x:=x) g1 m1 rx hx ha q8 k9 λfs ws dx F' H' g hR e9 i_ rf=>?_;have na:a∉ao M1:=λz=>m1.here z ha;have m2:=m1.grow g;refine h2 (.ptr a) (.ref a) _ F' H' (g1.trans #[g.ff,g.fh,λb o _ q=>g.hh b o q,λb _ q1 q2=>g.out b q1 q2,λb q=>?_]) (hR a na) (rep_ptr.mpr rfl) #[GC.mpr #[na,m2.nd],λb o q=>?_,λb q=>?_]
 .rcases F5.mp q with q|q
  .exact .inr (by rw[q];exact ha)
  .exact .inl q
 .rcases F5.mp q with q|q
  .cases q;exact#[C,dx,ws,hns,e9,rf]
  .exact m2.ok b o q
 .rcases F5.mp q with q|q
  .rw[q];exact i_
  .exact m2.fr b q
end
section
variable {X:Cx}{x:JM}{e:RZ}{es:List RZ}{t:TA}{p a9 pos:Sb}{n m:Nat}{ps:List JM}{S:SiD}
def gW(X:Cx)(σ:L2.St)(F1 H1:Hp)(x:JM)(fs:List (JM×D)):Prop:=∀F' H' s' e C od,Inv X [] σ H' s'->Grow F1 H1 F' H'->ErrD X.K F' x fs C od->Exd X H' s' e C od->X.xe (.ref e) s'
def zS(M:CalE X.prog X.w X.K X.mg X.base n x ps S)(hr:Room m X.A)(hc:X.calm=true)(ha:PA X (e::es) t)(e8:autoParam (X.ex=[]) zA0)(hg:autoParam (Gl X x) zA0)(hn:autoParam (n+1<=m) zA1)(d7:autoParam (zND x) zA1)
  (he:autoParam (zSE X e es) zA0) (c_:autoParam (zPL X a9 es) zA0):
  PS X (.Raise (be (.Call (.Name x p) (e::es) [] a9)) G_ pos) (λ_ σ H=>t σ H λvs H1=>vs.length<=1000/\∃F1 ds,Same F1 H1/\Reps X.K F1 ds vs/\∃T:List (JM×D)->Prop,S ds T/\∀fs,T fs->gW X σ F1 H1 x fs):=by
 obtain⟨C,N,bm,f,fd,k,hi,Lf,Fn,hb⟩:=M;intro pins s σ H D I h;obtain⟨nm,q,bs,sn,sub,ab,col,dd,k0,k1,k2,k3,k5,lk⟩:=k.obj;refine jP (nm:=nm) (q:=q) (C:=C) (N:=N) (bs:=bs) (bm:=bm) (hdct:=true) (sn:=sn) (sub:=sub) (ab:=ab) (col:=col) (dd:=dd) (k0:=k0) (k1:=k1) (k2:=k2) (k3:=k3) (k5:=k5) (newId:="ValueError.__new__") k.base (I.ok.hd hc) ?_;refine Sd (ce I hg k.mg ?_ d7);refine callWith_K (h₀:=X.base) I.ok.mod.kin k.kp (thn (ha a9 pins s σ H _ I h) λus s1 hh=>#[hh.elim λ_ h=>h.elim λ_ h=>h.1.kIn,?_]) he c_;obtain⟨vs,H1,I1,r,hl,F1,ds,NG,rx,T,hS,hT⟩:=hh;have hC:=I1.kIn _ _ lk;have QI:us.length<=sizeLine:=by rw[<-L2.Vals.length r];exact sz hl
 refine xS (g:=s1.gens) (d:=s1.drawn) (t:=s1.toks) (os:=s1.os) (rest:=us) I1.kIn (tail_of_in I1.kIn k.tail) hC hi (beq_iff_eq.mp Lf) (λh' ea hm=>?_) QI;have I2:=Inv.newx I1 e8 hm;have r2:Vals (V.ref ea::vs) (Value.ref ea::us):=.cons rfl r;have He:H1 ea=none:=fF I1.hok hm.new;have y9:lEi X.K C S (V.ref ea::vs) (upd H1 ea (XN ea C G_)) (λv H'=>v=.non/\∃fs od F',Grow F1 H1 F' H'/\gW X σ F1 H1 x fs/\H' ea=be (XN ea C od)/\F' ea=G_/\ErrF X.K F' fs od) (λ_ _ _=>False):=
  #[ea,vs,H1,F1,ds,rfl,rfl,He,NG,rx,_,hS,λfs od F' H' g hR h1 h2 h3=>#[rfl,fs,od,F',g,hT fs hR,h1,h2,h3]]
 have c5:(Value.ref ea::us).length=ps.length:=by rw[<-L2.Vals.length r2];exact Fn.len _ _ _ _ y9
 have g5:=hb {s1 with heap:=h'} (Value.ref ea::us) I2.kIn (by rw[Gw];exact c5);rw[Gw]at g5;refine SG (SA (Fn.run _ X.stack _ _ #[Value.ref ea::us,[]] (Value.ref ea::us) _ _ _ ((hr.mono hn).make C us []) (I2.env0.make C us []) g5 r2 y9) λrr s' hq=>?_);cases rr with
 |error e'=>exact(dW (X:=X) pins σ _ _ e' s' I2 hq:X.xe e' s')
 |ok fl=>
  cases fl with
  |next=>exact False.elim hq
  |brk=>exact False.elim hq
  |cont=>exact False.elim hq
  |ret u=>
   obtain⟨v,H',I3,rv,rfl,fs,od,F',g,hR,u9,QJ,er⟩:=I2.after hq;obtain rfl:u=Value.none:=rv;refine#[rfl,?_];have e0:X.s₀.heap.get? ea=none:=cA I1 e8 hm.new;have I4:=Inv.drop I3 u9 e0;obtain⟨ta,sl,j5⟩:=XN.get I3.hok u9;have g4:Grow F1 H1 F' (del H' ea):=⟨g.ff,λb o q=>by
    have:b≠ea:=λz=>by rw[z,QJ]at q;cases q
    rw[bY this];exact g.fh b o q,λb o q=>by
    have:b≠ea:=λz=>by rw[z,He]at q;cases q
    rw[bY this];exact g.hh b o q,g.out⟩
   refine#[ea,ta,od,sl,rfl,I3.kIn _ _ lk,j5,?_];exact hR F' (del H' ea) s' ea C od (Inv.nopins I4) g4 #[k.ns,er] #[fG,e0,pn_free I1 hm.new,.inl #[sl,_,j5,rfl]]
def zT(h:∃C N bm,ErrK X.K X.mg x C N bm/\ErrN X.K N)(hc:X.calm=true)(ha:PA X (e::es) t)(e8:autoParam (X.ex=[]) zA0)(hg:autoParam (Gl X x) zA0)(d7:autoParam (zND x) zA1)
  (he:autoParam (zSE X e es) zA0) (c_:autoParam (zPL X a9 es) zA0):
  PS X (.Raise (be (.Call (.Name x p) (e::es) [] a9)) G_ pos) (λ_ σ H=>t σ H λvs H1=>vs.length<=1000/\∃F1,Same F1 H1/\gW X σ F1 H1 x []):=by
 obtain⟨C,N,bm,k,kn⟩:=h;intro pins s σ H D I h;obtain⟨nm,q,bs,sn,sub,ab,col,dd,k0,k1,k2,k3,k5,lk⟩:=k.obj;refine jP (nm:=nm) (q:=q) (C:=C) (N:=N) (bs:=bs) (bm:=bm) (hdct:=true) (sn:=sn) (sub:=sub) (ab:=ab) (col:=col) (dd:=dd) (k0:=k0) (k1:=k1) (k2:=k2) (k3:=k3) (k5:=k5) (newId:="ValueError.__new__") k.base (I.ok.hd hc) ?_;refine Sd (ce I hg k.mg ?_ d7);refine callWith_K (h₀:=X.base) I.ok.mod.kin k.kp (thn (ha a9 pins s σ H _ I h) λus s1 hh=>#[hh.elim λ_ h=>h.elim λ_ h=>h.1.kIn,?_]) he c_;obtain⟨vs,H1,I1,r,hl,F1,NG,hR⟩:=hh;have hC:=I1.kIn _ _ lk;obtain⟨hp,gg,dr,tk,os⟩:=s1;refine T9 PySem.F.excBase_ValueError (tail_of_in I1.kIn k.tail) hC (.of_isNs (isNs_of_in I1.kIn kn.ok)) (nsMap_none_of_in I1.kIn kn.ok kn.no) (λh' ea hm=>?_) (by show us.length<=_;rw[<-L2.Vals.length r];exact sz hl);obtain⟨ta,h1,h2,h3⟩:=hm.there;have I2:Inv X pins σ H1 #[h',gg,dr,tk,os]:=I1.kept (t':=tk) hm.keeps;refine#[ea,ta,G_,[].toArray,rfl,hm.keeps _ _ hC,h1,?_];exact hR F1 H1 _ ea C G_ (Inv.nopins I2) (Grow.refl NG) #[k.ns,[],repf_nil.mpr rfl,.inl #[rfl,rfl]] #[fF I1.hok hm.new,cA I1 e8 hm.new,pn_free I1 hm.new,.inl #[[].toArray,_,h1,rfl]]
end
section
variable {X:Cx}[J:Jm]{x:JM}{e:RZ}{es:List RZ}{t:TMA}{p a9 pos:Sb}{n m:Nat}{ps:List JM}{S:SiD}
def zU(x:JM)(S:SiD)(t:TMA):TMS:=λ_ z M=>t z M λds M1=>ds.length<=1000/\S ds λfs=>J.RM z M1 x fs
def sX{σ:L2.St}{z:SD}{M M1:MS}{F H F1 H1:Hp}{fs:List (JM×D)}(hx:XOkM X)(k:Kept J.B J.F0 F H)(rs:RepZ X.K J.B F H z σ M)(g1:GrowM M M1 F H F1 H1)(m1:RepM X.K F1 H1 M1)(hR:J.RM z M1 x fs):gW X σ F1 H1 x fs:=λF' H' s' e C od I g er ex=>
 hx σ z M1 F' H' s' e C od x fs I ((k.growM rs.mb g1).grow g) ((rs.growM k.bh g1 m1).growM (k.growM rs.mb g1).bh g.toM (m1.grow g)) hR er ex
def zV(M:CalE X.prog X.w X.K X.mg X.base n x ps S)(hr:Room m X.A)(hx:XOkM X)(hc:X.calm=true)(ha:MA X (e::es) t)(e8:autoParam (X.ex=[]) zA0)(hg:autoParam (Gl X x) zA0)(hn:autoParam (n+1<=m) zA1)(d7:autoParam (zND x) zA1)
  (he:autoParam (zSE X e es) zA0) (c_:autoParam (zPL X a9 es) zA0):
  MSt X (.Raise (be (.Call (.Name x p) (e::es) [] a9)) G_ pos) (zU x S t):=⟨(zS M hr hc ha.out e8 hg hn d7 he c_).anti λE s H q=>by
 obtain⟨F0,F,z,M,k,rs,ED,h,ee⟩:=q;exact#[F,z,M,k.kf,rs,_,h,λds vs M1 F1 H1 g1 ge rx m1=>#[by rw[rx.length];exact ge.1,F1,ds,g1.fh,rx,_,ge.2,λfs hR=>sX hx k.kf rs g1 m1 hR]]⟩
def zW(x:JM)(t:TMA):TMS:=λ_ z M=>t z M λds M1=>ds.length<=1000/\J.RM z M1 x []
def sY(h:∃C N bm,ErrK X.K X.mg x C N bm/\ErrN X.K N)(hx:XOkM X)(hc:X.calm=true)(ha:MA X (e::es) t)(e8:autoParam (X.ex=[]) zA0)(hg:autoParam (Gl X x) zA0)(d7:autoParam (zND x) zA1)
  (he:autoParam (zSE X e es) zA0) (c_:autoParam (zPL X a9 es) zA0):
  MSt X (.Raise (be (.Call (.Name x p) (e::es) [] a9)) G_ pos) (zW x t):=⟨(zT h hc ha.out e8 hg d7 he c_).anti λE s H q=>by
 obtain⟨F0,F,z,M,k,rs,ED,h,ee⟩:=q;exact#[F,z,M,k.kf,rs,_,h,λds vs M1 F1 H1 g1 ge rx m1=>#[by rw[rx.length];exact ge.1,F1,g1.fh,sX hx k.kf rs g1 m1 ge.2]]⟩
end
section
variable {X:Cx}[J:Jm]{a b c e:RZ}{ta tb tc te:TME}{pos:Sb}{st:R3}{rest:List R3}{t u:TMS}
def zX:TMS:=λE z M=>E.nx z M
def mSeq(t u:TMS):TMS:=λE z M=>t {E with nx:=u E} z M
def aI:MSs X [] zX:=⟨pss_nil.anti λE s H q=>by
 obtain⟨F0,F,z,M,k,rs,ED,h,e⟩:=q;exact e.nx z s M F H k h rs⟩
def ai(h1:MSt X st t)(h2:MSs X rest u):MSs X (st::rest) (mSeq t u):=⟨(dO h1.out h2.out).anti λE s H q=>by
 obtain⟨F0,F,z,M,k,rs,ED,h,e⟩:=q;exact#[F0,F,z,M,k,rs,{ED with nx:=u ED},h,#[λz' s' M' F' H' k' hz r'=>#[F0,F',z',M',k',r',ED,hz,e],e.rt,e.bk,e.ct]]⟩
def am(h1:MSt X st t):MSs X [st] t:=#[pT h1.out]
def mRet(te:TME):TMS:=λE z M=>te z M E.rt
def ax(he:ME X e te):MSt X (.Return (be e) pos) (mRet te):=⟨(pU he.out).anti λE s H q=>by
 obtain⟨F0,F,z,M,k,rs,ED,h,e⟩:=q;exact#[F,z,M,k.kf,rs,_,h,λd v M' F' H' g hd rd m'=>e.rt d v M' F' H' (k.growM rs.mb g) hd rd m' (rs.growM k.bh g m').mb]⟩
def zY(te:TME):TMS:=λE z M=>te z M λ_ M1=>E.nx z M1
def bn(he:ME X e te)(hs:autoParam (Sg e G_ pos.line X.env=pure false) zA0):MSt X (.Expr e pos) (zY te):=⟨(jx he.out hs).anti λE s H q=>by
 obtain⟨F0,F,z,M,k,rs,ED,h,e⟩:=q;exact#[F,z,M,k.kf,rs,_,h,λd v M' F' H' g hd rd m'=>e.nx z s M' F' H' (k.growM rs.mb g) hd (rs.growM k.bh g m')]⟩
def mIfS(c:TMT)(t u:TMS):TMS:=λE z M=>c z M λb M1=>if b=true then t E z M1 else u E z M1
variable{l r:List R3}
def aR{c:RZ}{tc:TMT}(hc:MT X c tc)(ha:MSs X l t)(hb:MSs X r u):MSt X (.If c l r pos) (mIfS tc t u):=⟨(pV hc.out ha.out hb.out).anti λE s H q=>by
 obtain⟨F0,F,z,M,k,rs,ED,h,e⟩:=q;refine#[F,z,M,k.kf,rs,_,h,λb M1 F1 H1 g hk m1=>?_];cases b with
 |true=>exact#[F0,F1,z,M1,k.growM rs.mb g,rs.growM k.bh g m1,ED,hk,e]
 |false=>exact#[F0,F1,z,M1,k.growM rs.mb g,rs.growM k.bh g m1,ED,hk,e]⟩
def mIfJ(c:TMT)(t u:TMS):TMS:=λE z M=>∃J:SD->MS->Prop,(c z M λb M1=>if b=true then t {E with nx:=J} z M1 else u {E with nx:=J} z M1)/\∀z' M',J z' M'->E.nx z' M'
def cP{c:RZ}{tc:TMT}(hc:MT X c tc)(ha:MSs X l t)(hb:MSs X r u):MSt X (.If c l r pos) (mIfJ tc t u):=⟨(aR hc ha hb).out.anti λE s H q=>by
 obtain⟨F0,F,z,M,k,rs,ED,⟨J,h,j⟩,e⟩:=q;exact#[F0,F,z,M,k,rs,{ED with nx:=J},h,#[λz' s' M' F' H' k' hz r'=>e.nx z' s' M' F' H' k' (j z' M' hz) r',e.rt,e.bk,e.ct]]⟩
def mSet(i:Nat)(te:TME):TMS:=λE z M=>∃P:D->MS->Prop,te z M P/\∀d M',P d M'->E.nx (z.set i (be d)) M'
def aD(i:Nat){x:JM}{d4:Sb}(hN:X.N.Nodup)(he:ME X e te)(hi:autoParam (X.N[i]?=be x) zA0)(hx:autoParam (Loc X.env.scope x) zA4)(hs:autoParam (Sg e (be (.Name x d4)) pos.line X.env=pure false) zA0)
  (hf:autoParam (zFN X x) zA2):MSt X (.Assign [.Name x d4] e pos) (mSet i te):=⟨(jy hN hi hx he.out hs hf).anti λE s H q=>by
 obtain⟨F0,F,z,M,k,rs,ED,⟨P,h,j⟩,e⟩:=q;exact#[F,z,M,k.kf,rs,P,h,λd v M' F' H' g hd rd m'=>e.nx _ _ M' F' H' (k.growM rs.mb g) (j d M' hd) ((rs.growM k.bh g m').set rd)]⟩
def zZ(x f:JM)(to te:TME):TMS:=λE z M=>te z M λd M1=>to z M1 λo M2=>match o with|.ptr a=>∃fs,mget M2 a=be (.ins x fs)/\fs.length<1000/\E.nx z (mput M2 a (.ins x (putD f d fs)))|_=>False
def bI{x f:JM}{o:RZ}{to:TME}{d4:Sb}(hA:ClsA X.K x f)(ho:ME X o to)(he:ME X e te)(hs:autoParam (Sg e (be (.Attribute o f d4)) pos.line X.env=pure false) zA0):
  MSt X (.Assign [.Attribute o f d4] e pos) (zZ x f to te):=⟨(qt ho.out he.out hs).anti λE s H q=>by
 obtain⟨C,hn,hc,hf⟩:=hA;obtain⟨F0,F,z,M,k,rs,ED,h,ee⟩:=q;refine#[F,z,M,k.kf,rs,_,h,λd v M1 F1 H1 g1 hx rd m1=>?_];have k1:=k.growM rs.mb g1;have n9:=rs.growM k.bh g1 m1;refine#[F1,z,M1,k1.kf,n9,_,hx,λo' v' M2 F2 H2 g2 hy ro m2=>?_];have k2:=k1.growM n9.mb g2;have K0:=n9.growM k1.bh g2 m2;split at hy
 .rename_i a;obtain⟨fs,hm,hl,KC⟩:=hy;obtain⟨C',dx,ws,g_,hH,rf⟩:=m2.ok _ _ (bj hm);rw[hn]at g_;cases g_;have fa:=m2.fr a (bH (bj hm));refine#[a,C,dx,ws,rep_ptr.mp ro,hH,hc,hf,by rw[rf.length];exact hl,?_];have m3:RepM X.K F2 (upd H2 a (.ins C dx (putF f v ws))) (mput M2 a (.ins x (putD f d fs))):=m2.put hm #[C,dx,_,hn,av,RepF.put (rd.mono g2.ff) rf];have g3:GrowM M2 (mput M2 a (.ins x (putD f d fs))) F2 H2 F2 (upd H2 a (.ins C dx (putF f v ws))):=GrowM.put k2.fh fa hm;exact ee.nx z s _ F2 _ (k2.growM K0.mb g3) KC (K0.growM k2.bh g3 m3)
 .exact hy.elim⟩
def Aa(c:TMT)(tb:TMS):TMS:=λE z M=>∃W:Nat->SD->MS->Prop,(∃m,W m z M)/\∀m z M,W m z M->
 c z M λb M1=>if b=true then tb {E with nx:=λz' M'=>∃m',m'<m/\W m' z' M',ct:=λz' M'=>∃m',m'<m/\W m' z' M',bk:=E.nx} z M1 else E.nx z M1
def sZ{c:RZ}{body:List R3}{tc:TMT}{tb:TMS}(hp:Sq (R1 X.prog X.w) X.A X.env X.xe)(hc:MT X c tc)(hb:MSs X body tb):MSt X (.While c body [] pos) (Aa tc tb):=⟨(pW hp hc.out hb.out).anti λE s H q=>by
 obtain⟨F0,F,z,M,k,rs,ED,⟨W,⟨m0,w0⟩,d3⟩,e⟩:=q;refine#[λm s' H'=>∃F' z' M',Kept J.B F0 F' H'/\RepZ X.K J.B F' H' z' s' M'/\W m z' M',#[m0,F,z,M,k,rs,w0],?_];rintro m s1 H1⟨F1,z1,M1,k1,r1,w1⟩;refine#[F1,z1,M1,k1.kf,r1,_,d3 m z1 M1 w1,λb M2 F2 H2 g2 hk m2=>?_];cases b with
 |true=>
  refine#[λs3 H3=>∃F3 z3 M3,Kept J.B F0 F3 H3/\RepZ X.K J.B F3 H3 z3 s3 M3/\∃m',m'<m/\W m' z3 M3,λs3 H3 ⟨F3,z3,M3,k3,r3,m',l,w3⟩=>#[m',l,F3,z3,M3,k3,r3,w3],?_];exact#[F0,F2,z1,M2,k1.growM r1.mb g2,r1.growM k1.bh g2 m2,_,hk,#[λz3 s3 M3 F3 H3 k3 h3 r3=>#[F3,z3,M3,k3,r3,h3],e.rt,e.nx,λz3 s3 M3 F3 H3 k3 h3 r3=>#[F3,z3,M3,k3,r3,h3]]]
 |false=>exact e.nx z1 s1 M2 F2 H2 (k1.growM r1.mb g2) hk (r1.growM k1.bh g2 m2)⟩
end
section
variable {X:Cx}[J:Jm]{a b c e o:RZ}{ta tb tc te to:TME}{pos:Sb}{st:R3}{rest:List R3}{t u:TMS}
abbrev TMI:=SD->MS->(List D->MS->Prop)->Prop
def mItR(t:TME):TMI:=λz M R=>t z M λx M1=>match x with|.int n=>(0<=n/\n<2^62)/\R ((FY n.toNat).map λk=>D.int ((k:Nat):Int)) M1|_=>False
def mFor(i:Nat)(ti:TMI)(tb:TMS):TMS:=λE z M=>ti z M λds M1=>∃W:Nat->SD->MS->Prop,W 0 z M1/\(∀k x z M,ds[k]?=be x->W k z M->tb {E with nx:=W (k+1),ct:=W (k+1),bk:=E.nx} (z.set i (be x)) M)/\∀z M,W ds.length z M->E.nx z M
def kD(i:Nat){x:JM}{p p1 p2:Sb}{body:List R3}{tb:TMS}(hp:Sq (R1 X.prog X.w) X.A X.env X.xe)(hc:X.calm=true)(hN:X.N.Nodup)(hm:X.mg "range"=G_)(he:ME X e te)(hb:MSs X body tb)(hg:autoParam (Gl X "range") zA0)(hi:autoParam (X.N[i]?=be x) zA0)(hx:autoParam (Loc X.env.scope x) zA4)
  (hf:autoParam (zFN X x) zA2) (hs:autoParam (∀y,zFS X (.Call (.Name "range" p1) [e] [] p2) y) zA3) (p_:autoParam (zSE X e []) zA0) (f8:autoParam (R8 [e] X.env=[(false,Sa e X.env)]) zA0):
  MSt X (.For (.Name x p) (.Call (.Name "range" p1) [e] [] p2) body [] pos) (mFor i (mItR te) tb):=⟨(cS hp hc (gq hg hm (bo he.out pa_nil p_) f8) (dP hN hi hx hf) hb.out hs).anti λE s H q=>by
 obtain⟨F0,F,z,M,kp,rs,ED,h,e⟩:=q;refine#[F,z,M,kp.kf,rs,_,h,λd v M1 F1 H1 g1 hd rd m1=>?_];split at hd
 .rename_i n;obtain⟨⟨b1,b2⟩,W,w0,d3,out⟩:=hd;have hl:((FY n.toNat).map λk=>D.int ((k:Nat):Int)).length=n.toNat:=by simp
  refine#[n,by rw[rep_int.mp rd],Ko,b2,jA (lo:=0) (n:=n.toNat) (λk s' H'=>∃F' z' M',Kept J.B F0 F' H'/\RepZ X.K J.B F' H' z' s' M'/\W k z' M') #[F1,z,M1,kp.growM rs.mb g1,rs.growM kp.bh g1 m1,w0] ?_ ?_]
  .rintro k s' H' hk⟨F',z',M',k',r',w'⟩;have e1:(0:Int)+(k:Int)=(k:Int):=by lia
   exact#[F0,F',_,M',k',r'.set (d:=.int (k:Int)) (rep_int.mpr (by rw[e1])),_,d3 k (.int (k:Int)) z' M' (by simp[hk]) w',#[λz3 s3 M3 F3 H3 k3 h3 r3=>#[F3,z3,M3,k3,r3,h3],e.rt,e.nx,λz3 s3 M3 F3 H3 k3 h3 r3=>#[F3,z3,M3,k3,r3,h3]]]
  .rintro s' H'⟨F',z',M',k',r',w'⟩;exact e.nx z' s' M' F' H' k' (out z' M' (by rw[hl];exact w')) r'
 .exact hd.elim⟩
def Ab(te:TME):TME:=λz M R=>te z M λd M1=>match d with|.ptr a=>∃ds,mget M1 a=be (.lst ds)/\R (.int ds.length) M1|_=>False
def fN{p:Sb}(hm:X.mg "len"=G_)(ha:ME X e te)(hg:autoParam (Gl X "len") zA0)(he:autoParam (zSE X e []) zA0):ME X (.Call (.Name "len" p) [e] [] pos) (Ab te):=⟨(fw jE hg hm PySem.boot_len (bo ha.out pa_nil he) Ks Ks he).anti λs H Q h=>by
 obtain⟨F,z,M,k,rs,R,h1,h2⟩:=h;refine#[F,z,M,k,rs,_,h1,λd v M1 F1 H1 g1 hx rx m1=>?_];split at hx
 .rename_i a;obtain⟨ds,hm,hR⟩:=hx;obtain⟨vs,hH,rr⟩:=m1.ok _ _ (bj hm);exact#[.ref a,vs.length,by rw[rep_ptr.mp rx],.inl #[vs,SqL.of hH,rfl],h2 _ _ M1 F1 H1 g1 hR (rep_int.mpr (by rw[rr.length])) m1]
 .exact hx.elim⟩
def mIxP(ta tb:TME):TME:=λz M R=>ta z M λx M1=>tb z M1 λy M2=>kdP x λa=>kdI y λi=>∃ds,mget M2 a=be (.lst ds)/\∃d,atI ds i=be d/\R d M2
def kE(ha:ME X a ta)(hb:ME X b tb)(hs:autoParam (dR b) zA6):ME X (.Subscript a b pos) (mIxP ta tb):=⟨(pe_ix ix_list ha.out hb.out hs).anti λs H Q h=>by
 obtain⟨F,z,M,k,rs,R,h1,h2⟩:=h;refine#[F,z,M,k,rs,_,h1,λx u M1 F1 H1 g1 hx rx m1=>?_];refine#[F1,z,M1,k.growM rs.mb g1,rs.growM k.bh g1 m1,_,hx,λy v M2 F2 H2 g2 hy ry m2=>?_];obtain⟨p,rfl,LI⟩:=kdP.of hy;obtain⟨i,rfl,ds,hm,d,hd,hR⟩:=kdI.of LI;obtain⟨vs,hH,rr⟩:=m2.ok _ _ (bj hm);obtain⟨w,e2,j3⟩:=rr.at hd;exact#[p,vs,_,w,rep_ptr.mp rx,rep_int.mp ry,SqL.of hH,e2,h2 d w M2 F2 H2 (g1.trans g2) hR j3 m2]⟩
def Ac(to te:TME):TME:=λz M R=>to z M λo M1=>match o with|.ptr a=>(∃ds,mget M1 a=be (.lst ds))/\te z M1 λd M2=>∃ds,mget M2 a=be (.lst ds)/\ds.length<=100000/\R .non (mput M2 a (.lst (ds++[d])))|_=>False
def dE{b9 a9:Sb}(ho:ME X o to)(he:ME X e te)(m4:autoParam (zSE X e []) zA0)
  (c3:autoParam (R9 o "append" X.env (Sa o X.env)=Sa o X.env) zA0)
  (d_:autoParam (zHF X a9 [e]) zA0)
  (c8:autoParam ((b9.endLine==a9.line)=true) zA0):
  ME X (.Call (.Attribute o "append" b9) [e] [] a9) (Ac to te):=⟨(dS PySem.F.plainAttrs_list PySem.F.slot_list_append PySem.F.type_list_append jL ho.out (bo he.out pa_nil m4) c3 d_ c8 m4).anti λs H Q h=>by
 obtain⟨F,z,M,k,rs,R,h1,h2⟩:=h;refine#[F,z,M,k,rs,_,h1,λx u M1 F1 H1 g1 hx rx m1=>?_];split at hx
 .rename_i a;obtain⟨⟨RD,NH⟩,hx⟩:=hx;obtain⟨QK,QL,RE⟩:=m1.ok _ _ (bj NH);rw[rep_ptr.mp rx];refine#[.inl #[rfl,QK,SqL.of QL],?_];refine#[F1,z,M1,k.growM rs.mb g1,rs.growM k.bh g1 m1,_,hx,λd v M2 F2 H2 g2 hd rd m2=>?_];obtain⟨ds,hm,hl,hR⟩:=hd;obtain⟨vs,hH,rr⟩:=m2.ok _ _ (bj hm);have hz:vs.length<sizeLine:=by
   rw[rr.length];have h2:(100000:Nat)<sizeLine:=Ks
   lia
  refine#[a,vs,v,rfl,rfl,hH,hz,?_];exact h2 _ _ _ F2 _ (g1.trans (g2.trans (GrowM.put g2.fh (m2.fr a (bH (bj hm))) hm))) hR (rep_non.mpr rfl) (m2.put hm #[_,av,rr.append (eD rd)])
 .exact hx.elim⟩
def frzD:MO->D|.ins x fs=>.obj x fs|.lst ds=>.lst ds|.dti b7=>.dti b7
def mFrz(i:Nat)(t:TMS):TMS:=λE z M=>match z[i]? with|some (be (.ptr a))=>∃o,mget M a=be o/\t E (z.set i (be (frzD o))) (mdel M a)|_=>False
def tf(i:Nat){Ly:List R3}(h:MSs X Ly t):MSs X Ly (mFrz i t):=⟨PSs.anti h.out λE s H q=>by
 obtain⟨F0,F,z,M,k,rs,ED,h,e⟩:=q;unfold mFrz at h;split at h
 .rename_i a ez;obtain⟨o,hm,h⟩:=h;have mem:=bj hm;have fa:=rs.rm.fr a (bH mem);have ba:=rs.mb a (bH mem);obtain⟨v,hv,rv⟩:=rs.rs.val i _ ez rfl;have QM:=rep_ptr.mp rv;subst QM;have hok:=rs.rm.ok a o mem;obtain⟨ho,e9,NI⟩:∃ho,H a=be ho/\∀F',Same F F'->F' a=be ho->Rep X.K F' (frzD o) (.ref a):=by
   cases o with
   |ins x fs=>obtain⟨C,dx,ws,n,h1,h2⟩:=hok;exact#[_,h1,λF' s' hF=>rep_obj.mpr #[a,C,dx,ws,rfl,n,hF,RepF.mono s' fs ws h2]]
   |lst ds=>obtain⟨vs,h1,h2⟩:=hok;exact#[_,h1,λF' s' hF=>rep_lst.mpr #[a,vs,rfl,hF,h2.mono s']]
   |dti b7=>exact#[_,hok,λF' s' hF=>rep_dti.mpr #[a,rfl,hF]]
  have s1:Same F (upd F a ho):=aP fa _;have hs:s.set i (be (.ref a))=s:=by
   apply G0;intro n;by_cases hn:i=n
   .subst hn;rw[GD (Gh.mp hv).1,hv]
   .rw[Gg hn]
  have k1:Kept J.B F0 (upd F a ho) H:=⟨k.bh,λb u q=>by
   by_cases hb:b=a
   .subst hb;rw[av]at q;cases q;exact e9
   .rw[aj hb]at q;exact k.fh b u q,k.f0.trans s1,λb h1 h2=>by
   by_cases hb:b=a
   .subst hb;exact absurd ba h2
   .rw[aj hb];exact k.out b h1 h2,k.eb,k.jf,k.jo⟩
  have r0:RepS X.K J.B (upd F a ho) H z s:=#[rs.rs.len,λi d e n=>let ⟨v,q1,q2⟩:=rs.rs.val i d e n;#[v,q1,q2.mono s1],λi ds e=>absurd e (rs.no i ds),rs.rs.apart];have QN:RepM X.K (upd F a ho) H (mdel M a):=⟨rs.rm.nd.sublist del_sub,λb q hb=>by
   obtain⟨ne,hb⟩:=kA rs.rm.nd hb;exact(rs.rm.ok b q hb).mono s1 λ_ z=>z,λb hb=>by
   obtain⟨⟨b',q⟩,g5,rfl⟩:=Gp.mp hb;obtain⟨ne,Pn⟩:=kA rs.rm.nd g5;rw[aj ne];exact rs.rm.fr _ (bH Pn)⟩
  have z0:RepZ X.K J.B (upd F a ho) H z s (mdel M a):=#[r0,rs.no,QN,λb hb=>rs.mb b (del_sub.subset hb)];have z1:=z0.set (i:=i) (NI _ s1 av);rw[hs]at z1;exact#[F0,_,_,_,k1,z1,ED,h,e]
 .exact h.elim⟩
end
def kF{N:List JM}{ds:List D}(rs:Reps K F ds vs):∀(i:Nat) d,(startD N ds)[i]?≠be (be (.own d)):=by
 intro i d e;unfold startD at e;by_cases hi:i<ds.length
 .rw[GE (by simpa using hi),Gf]at e;cases q:ds[i]? with
  |none=>rw[q]at e;cases e
  |some x=>
   rw[q]at e;cases e;obtain⟨v,_,q2⟩:=rs.get q;exact rep_own q2
 .rw[GK (by simpa using hi),Hg]at e;split at e
  .cases e
  .cases e
def growM_nil(g:GrowM [] M' F H F' H'):Grow F H F' H':=#[g.ff,g.fh,λb o h=>g.hh b o (λz=>nomatch z) h,λb h1 h2=>g.out b (λz=>nomatch z) h1 h2]
section
variable {P:P3}{w:R5}{K:Ex}{mg:JM->Option KB}{base:Heap}
variable{x:JM}{ps:List JM}{S:SpM}
def CalMM.toX{n:Nat}{S0:SpX}(C:CalMM P w K mg base n x ps S)(h:∀ds R RX,S0 ds R RX->S ds [] (λd _=>R d) λx fs _=>RX x fs):CalX P w K mg base n x ps S0:=by
 obtain⟨f,fd,F,hb,hk,hm⟩:=C;refine#[f,fd,F.imp λvs H Q E q=>?_,hb,hk,hm];obtain⟨F,ds,fh,rs,R,RX,hS,q1,q2⟩:=q;exact#[F,ds,[],fh,rs,RepM.nil,_,_,h ds R RX hS,λd v M' F' H' g hd rd _=>q1 d v F' H' (growM_nil g) hd rd,λy fs C od M' F' H' g hR er _=>q2 y fs C od F' H' (growM_nil g) hR er]
open Classical in
def Fun.okM{x qual:JM}{st:R3}{f:KF}{fd:R_}{N ps:List JM}{k:Nat}{S:SpM}{dV:KB}(T:FunG K dV x qual st f fd)(F:FnScope N ps (ag st))(len:∀ds M R RX,S ds M R RX->ds.length=ps.length)
  (a_:∀(cdv:KB) (A:R6) (outer:List SU) (s:KM) (H:Hp) (E:XK) (J:Jm),Room k (A.deeper (Se qual (ag st) s.heap.objs.size f cdv))->XOkM (cxOf (CX1 P w) P w K mg base N qual (ag st) f cdv A outer s H E)->
   ∃t,MSs (cxOf (CX1 P w) P w K mg base N qual (ag st) f cdv A outer s H E) (aG st) t/\∀ds M R RX,(∀z,J.RM z=λM' x fs=>RX x fs M')->S ds M R RX->t {nx:=λ_ M'=>R .non M',rt:=R} (startD N ds) M):FnOk P w K mg base (CX1 P w) (k+1) f fd ps (lSpM K S):=by
 refine Fun.okC T F (λvs H Q E h=>?_) (λcdv A outer s H vs Q E hr h=>?_)
 .obtain⟨F,ds,M,fh,rs,rm,R,RX,h,_⟩:=h;rw[rs.length];exact len ds M R RX h
 .obtain⟨F,ds,M,fh,rs,rm,R,RX,h,q,qx⟩:=h
  let B:Hp:=λb=>if b∈ao M then G_ else H b
  have Po:∀{b:KF},b∈ao M->B b=none:=λ{b} h=>if_pos h;have Mv:∀{b:KF},b∉ao M->B b=H b:=λ{b} h=>if_neg h
  letI:Jm:={B:=B,F0:=F,RX:=λ_ _ _=>False,RM:=λ_ M' x fs=>RX x fs M'}
  have gr:∀{M':MS} {F' H':Hp},Kept B F F' H'->(∀a,a∈ao M'->B a=G_)->GrowM M M' F H F' H':=λ{M' F' H'} k mb=>⟨k.f0,k.fh,λb o nb e=>k.bh b o (by rw[Mv nb];exact e),λb nb h1 h2=>k.out b h1 (by rw[Mv nb];exact h2),λb hb=>by
   by_cases nb:b∈ao M
   .exact .inl nb
   .right;rw[<-Mv nb];exact mb b hb⟩
  have hx:XOkM (cxOf (CX1 P w) P w K mg base N qual (ag st) f cdv A outer s H E):=by
   intro σ z M' F' H' s' e C od y fs I kk rr hR er ⟨He,ne,_,hx⟩;have hE:E (.ref C) od H':=qx y fs C od M' F' H' (gr kk rr.mb) hR er rr.rm;rcases hx with⟨sl,vs,h1,h2⟩|⟨T,h1,h2,h3,_⟩
   .exact qX I h1 h2 He ne hE
   .exact sD I h1 ne h2 He h3 hE
  obtain⟨t,ht,hq⟩:=a_ cdv A outer s H E inferInstance hr hx;have k0:Kept B F F H:=⟨λb o e=>by
   by_cases nb:b∈ao M
   .rw[Po nb]at e;cases e
   .rw[Mv nb]at e;exact e,fh,Same.refl F,λ_ h _=>h,rfl,Same.refl F,λ_ h _=>h⟩
  have r0:RepZ K B F H (startD N ds) (L2.start N vs) M:=#[dq rs,kF rs,rm,λa h=>Po h];exact#[_,ht.out,F,F,startD N ds,M,k0,r0,_,hq ds M R RX (λ_=>rfl) h,#[λz' s' M' F' H' k hn r=>q _ _ M' F' H' (gr k r.mb) hn (rep_non.mpr rfl) r.rm,λd v M' F' H' k hd rd NJ mb=>q d v M' F' H' (gr k mb) hd rd NJ,λ_ _ _ _ _ _ h _=>h.elim,λ_ _ _ _ _ _ h _=>h.elim]]
variable{N:List JM}
def Tx.okM{st:R3}{k:Nat}(T:Tx K mg x st ps)(F:FnScope N ps (ag st))(len:∀ds M R RX,S ds M R RX->ds.length=ps.length)
  (a_:∀(f:KF) (cdv:KB) (A:R6) (outer:List SU) (s:KM) (H:Hp) (E:XK) (J:Jm),Room k (A.deeper (Se x (ag st) s.heap.objs.size f cdv))->XOkM (cxOf (CX1 P w) P w K mg base N x (ag st) f cdv A outer s H E)->
   ∃t,MSs (cxOf (CX1 P w) P w K mg base N x (ag st) f cdv A outer s H E) (aG st) t/\∀ds M R RX,(∀z,J.RM z=λM' x fs=>RX x fs M')->S ds M R RX->t {nx:=λ_ M'=>R .non M',rt:=R} (startD N ds) M):CalMM P w K mg base (k+1) x ps S:=by
 obtain⟨f,fd,T,hb,hm⟩:=T;exact#[f,fd,Fun.okM T F len λcdv A outer s H E J hr hx=>a_ f cdv A outer s H E J hr hx,hb,T.kp,hm]
def Txm(K:Ex)(x m:JM)(qual:JM)(st:R3)(ps:List JM):Prop:=
 ∃C f fd,nsIn K Pi x=be (be (.ref C))/\Cls K C/\Meth K C m f/\Fun K m qual st f fd/\Binds K fd ps []
def Txm.okM{m qual:JM}{st:R3}{k:Nat}(T:Txm K x m qual st ps)(F:FnScope N ps (ag st))(len:∀ds M R RX,S ds M R RX->ds.length=ps.length)
  (a_:∀(f:KF) (cdv:KB) (A:R6) (outer:List SU) (s:KM) (H:Hp) (E:XK) (J:Jm),Room k (A.deeper (Se qual (ag st) s.heap.objs.size f cdv))->XOkM (cxOf (CX1 P w) P w K mg base N qual (ag st) f cdv A outer s H E)->
   ∃t,MSs (cxOf (CX1 P w) P w K mg base N qual (ag st) f cdv A outer s H E) (aG st) t/\∀ds M R RX,(∀z,J.RM z=λM' x fs=>RX x fs M')->S ds M R RX->t {nx:=λ_ M'=>R .non M',rt:=R} (startD N ds) M):CalMth P w K mg base (k+1) x m ps (lSpM K S):=by
 obtain⟨C,f,fd,h1,h2,h3,T,hb⟩:=T;exact#[C,f,fd,h1,h2,h3,Fun.okM T F len λcdv A outer s H E J hr hx=>a_ f cdv A outer s H E J hr hx,hb]
end
end My
namespace L2
section
variable {X:Cx}{pins:List (KF×Sj)}{σ:St}{H:Hp}{s:KM}{h':Heap}
def Inv.turned2{t':Nat}{e it:KF}(I:Inv X pins σ H s)(k:∀b o,b≠e->b≠it->s.heap.get? b=be o->h'.get? b=be o)(he:FpOk X pins H e)(hi:FpOk X pins H it):Inv X pins σ H {s with heap:=h',toks:=t'}:=by
 obtain⟨e0,e1,e2,e3,e4,e5⟩:=he;obtain⟨i0,i1,i2,i3,i4,i5⟩:=hi;have Kn:∀b u,H b=be u->b≠e/\b≠it:=λb u q=>#[(λz=>by rw[z,e0]at q;cases q),(λz=>by rw[z,i0]at q;cases q)];have nc:∀{b:KF},b∉[e,it]->b≠e/\b≠it:=λ{b} h=>#[λz=>h (by simp[z]),λz=>h (by simp[z])];refine I.step (g':=s.gens) (d':=s.drawn) (ch:=[e,it]) (λb hb=>?_) (λb o _ _ hc q _=>k b o (nc hc).1 (nc hc).2 q) (λb o _ _ hc q _=>#[o.slots,k b o (nc hc).1 (nc hc).2 q]) (λ_ _ _ _ n=>n)
  (λb o hc q=>#[o,k b o (nc hc).1 (nc hc).2 q]) (λ_ _ q=>q) (λ_ _ _ q=>q) (λb ps q=>#[[].toArray,by rw[q];simp]) (λm hm=>?_) (λb u q=>?_) I.bare
 .rcases F5.mp hb with z|z
  .rw[z];exact#[e3,e1,e4,e5]
  .rw[FW.mp z];exact#[i3,i1,i4,i5]
 .obtain⟨o,es,ep,ho,r⟩:=hm;exact#[o,es,ep,k _ o (Ne.symm e1) (Ne.symm i1) ho,r]
 .refine(I.hok b u q).stay (λc v hc q'=>k c v ?_ ?_ q') (λ_ q=>q) λ_ _ q=>q
  .rcases hc with z|z
   .rw[z];exact(Kn b u q).1
   .exact(Kn c _ z).1
  .rcases hc with z|z
   .rw[z];exact(Kn b u q).2
   .exact(Kn c _ z).2
end
def Itel(K:Ex)(a:KF):It:=
 #[λi H=>∃xs x,SqL K H a xs/\xs[i]?=be x,λi H x H'=>∃T v,H T=G_/\x=.ref T/\H'=upd H T (.tup [.int i,v])/\∀xs,SqL K H a xs->xs[i]?=be v,λi H=>∃xs,SqL K H a xs/\xs.length<=i]
def Ites(x:JM):It:=#[λi _=>i<x.length,λi H v H'=>∃T c,H T=G_/\v=.ref T/\H'=upd H T (.tup [.int i,.str #[[c].toArray]])/\x.cps[i]?=be c,λi _=>i=x.length]
variable{P:P3}{w:R5}
def Ad{H:Hp}{h:Heap}{T:KF}{i:Int}{t:Ul}{v:V}{u:KB}(r:RelV v u)(q:h.get? T=be {cls:=.type "tuple",data:=.seq [.int i t,u].toArray}):ObjOk P w H h T (.tup [.int i,v]):=
 #[by show 2<=sizeLine;decide,[.int i t,u],.cons #[t,rfl] (.cons r .nil),#[_,q,rfl,_,rfl]]
def tm{X:Cx}{pins:List (KF×Sj)}{σ:St}{H:Hp}{s:KM}{h':Heap}{t':Nat}{e it:KF}{i:Int}{t:Ul}{v:V}{u:KB}(I:Inv X pins σ H s)(he:FpOk X pins H e)(hi:FpOk X pins H it)(le:e<s.heap.objs.size)(li:it<s.heap.objs.size)(r:RelV v u)
  (hT:h'.get? s.heap.objs.size=be {cls:=.type "tuple",data:=.seq [.int i t,u].toArray}) (hk:∀b o,b≠e->b≠it->s.heap.get? b=be o->h'.get? b=be o):Inv X pins σ (upd H s.heap.objs.size (.tup [.int i,v])) {s with heap:=h',toks:=t'}:=by
 have I1:Inv X pins σ (upd H s.heap.objs.size (.tup [.int i,v])) {s with heap:=s.heap.push {cls:=.type "tuple",data:=.seq [.int i t,u].toArray},toks:=t'}:=
  I.laid (λb o q=>Heap.get?_push_of_some _ q) (FX _) (Ad r (Heap.get?_push_size _ rfl))
 have fp:∀{b:KF},FpOk X pins H b->b<s.heap.objs.size->FpOk X pins (upd H s.heap.objs.size (.tup [.int i,v])) b:=λ{b} h l=>#[by rw[aj (F6 l)];exact h.1,h.2];refine I1.turned2 (h':=h') (t':=t') (λb o h1 h2 q=>?_) (fp he le) (fp hi li);rcases Heap.get?_push_cases (show(s.heap.push {cls:=.type "tuple",data:=.seq [.int i t,u].toArray}).get? b=be o from q)with⟨rfl,rfl⟩|q2
 .exact hT
 .exact hk b o h1 h2 q2
variable{v3:List RZ}
def Ae{K:Ex}{x1:Nat}{tp:Sb}(a e it:KF)(K1:e≠it):Turn P w K (.Tuple v3 x1 tp) (Itel K a) [e,it] e (λi h=>(∃m_,IsEnum h e it i m_)/\h.IsListIter it a i) where
 mem:=KK
 obj:=λi h st b hb=>by
  obtain⟨⟨m_,he⟩,hit⟩:=st;rcases F5.mp hb with z|z
  .rw[z];exact#[_,he,λv z=>by cases z]
  .rw[FW.mp z];obtain⟨o,ho,c,d⟩:=hit;exact#[o,ho,λv z=>by rw[d]at z;cases z]
 keep:=λi h h' st k=>#[let ⟨m_,he⟩:=st.1;#[m_,k e KK _ he],st.2.at λo q=>k it KK o q]
 item:=by
  intro X hP hw hK hc i pins s σ H E I hf st hg;subst hP hw hK;obtain⟨xs,x,hq,hx⟩:=hg;obtain⟨its,rv,p,hz⟩:=I.list hq;obtain⟨u,hu,ru⟩:=rv.get hx;obtain⟨⟨m_,he⟩,hit⟩:=st;have fe:=hf e KK;have fi:=hf it KK;have le:e<s.heap.objs.size:=Heap.lt_size he;have li:it<s.heap.objs.size:=by obtain⟨o,ho,_⟩:=hit;exact Heap.lt_size ho
  refine wpAny_pyNext_enum_item he hit p.isList (x:=u) (by simpa using hu) K1 λh' F_ KI hT k6 hk=>?_;refine#[_,rfl,Tt F_ λh2 NK n4=>?_];have q9:Heap.SameBut e h' h2:=n4;have nT:s.heap.objs.size≠e:=GO le;have I1:Inv X pins σ (upd H s.heap.objs.size (.tup [.int i,x])) {s with heap:=h2,toks:=s.toks+1}:=tm I fe fi le li ru ((q9.2 _ nT).trans hT) λb o h1 h3 q=>(q9.2 b h1).trans (hk b o h1 h3 q);refine#[.ref s.heap.objs.size,_,I1,rfl,#[_,x,I.hok.fresh (FX _),rfl,rfl,λys hy=>by rw[I.list_inj hy hq];exact hx],#[#[u,by simpa using NK],KI.at λo q=>(q9.2 it (Ne.symm K1)).trans q],λb hb=>?_];rcases F5.mp hb with z|z
  .rw[z,aj (F6 le)];exact fe.1
  .rw[FW.mp z,aj (F6 li)];exact fi.1
 done:=by
  intro X hP hw hK hc i pins s σ H E I hf st hg;subst hP hw hK;obtain⟨xs,hq,hx⟩:=hg;obtain⟨its,rv,p,hz⟩:=I.list hq;obtain⟨⟨m_,he⟩,hit⟩:=st;have hl:=rv.length;obtain⟨f0,f1,f2,f3,f4,f5⟩:=hf it KK;exact wpAny_pyNext_enum_end (I.ok.hd hc) he hit p.isList Tl λh' eb=>#[rfl,I.turned (t':=s.toks) (λb o hb q=>eb b o hb q) f0 f1 f3 f4 f5]
 self:=λ_ _ _ _ _ st h=>let ⟨⟨m_,he⟩,_⟩:=st;SV he h
def Af{K:Ex}{x1:Nat}{tp:Sb}(x:JM)(t:Ul)(e it:KF)(K1:e≠it):Turn P w K (.Tuple v3 x1 tp) (Ites x) [e,it] e (λi h=>(∃m_,IsEnum h e it i m_)/\h.IsStrIter it "str_ascii_iterator" x t i) where
 mem:=KK
 obj:=λi h st b hb=>by
  obtain⟨⟨m_,he⟩,hit⟩:=st;rcases F5.mp hb with z|z
  .rw[z];exact#[_,he,λv z=>by cases z]
  .rw[FW.mp z];obtain⟨o,ho,c,d⟩:=hit;exact#[o,ho,λv z=>by rw[d]at z;cases z]
 keep:=λi h h' st k=>#[let ⟨m_,he⟩:=st.1;#[m_,k e KK _ he],let ⟨o,ho,r⟩:=st.2;#[o,k it KK o ho,r]]
 item:=by
  intro X hP hw hK hc i pins s σ H E I hf st hg;subst hP hw hK;have hi:i<x.cps.size:=hg;obtain⟨⟨m_,he⟩,hit⟩:=st;have fe:=hf e KK;have fi:=hf it KK;have le:e<s.heap.objs.size:=Heap.lt_size he;have li:it<s.heap.objs.size:=by obtain⟨o,ho,_⟩:=hit;exact Heap.lt_size ho
  refine wpAny_pyNext_enum_itemD (Draws.strAscii (A:=X.A.in1) (by exact I.ok.hd hc) it x t) he hit hi K1 (by simp[K1]) λu h' tk hP F_ KI hT k6 hk=>?_;obtain⟨c,tu,J8,rfl⟩:=hP;refine#[_,rfl,Tt F_ λh2 NK n4=>?_];have q9:Heap.SameBut e h' h2:=n4;have nT:s.heap.objs.size≠e:=GO le;have I1:Inv X pins σ (upd H s.heap.objs.size (.tup [.int i,.str #[[c].toArray]])) {s with heap:=h2,toks:=tk+1}:=tm I fe fi le li #[tu,rfl] ((q9.2 _ nT).trans hT) λb o h1 h3 q=>(q9.2 b h1).trans (hk b o h1 h3 q);refine#[.ref s.heap.objs.size,_,I1,rfl,#[_,c,I.hok.fresh (FX _),rfl,rfl,J8],#[#[_,by simpa using NK],let ⟨o,ho,r⟩:=KI;#[o,(q9.2 it (Ne.symm K1)).trans ho,r]],λb hb=>?_];rcases F5.mp hb with z|z
  .rw[z,aj (F6 le)];exact fe.1
  .rw[FW.mp z,aj (F6 li)];exact fi.1
 done:=by
  intro X hP hw hK hc i pins s σ H E I hf st hg;subst hP hw hK;have hi:i=x.cps.size:=hg;subst hi;obtain⟨⟨m_,he⟩,hit⟩:=st;obtain⟨f0,f1,f2,f3,f4,f5⟩:=hf it KK;exact wpAny_pyNext_enum_endD (Draws.strAscii (A:=X.A.in1) (by exact I.ok.hd hc) it x t) he hit λh' eb=>#[rfl,I.turned (t':=s.toks) (λb o hb q=>eb b o hb q) f0 f1 f3 f4 f5]
 self:=λ_ _ _ _ _ st h=>let ⟨⟨m_,he⟩,_⟩:=st;SV he h
def iEnL(K:Ex)(ta:TA):TI:=λσ H R=>ta σ H λvs H1=>∃a,vs=[.ref a]/\(∃xs,SqL K H1 a xs)/\R (Itel K a) H1
def iEnS(ta:TA):TI:=λσ H R=>ta σ H λvs H1=>∃x,vs=[.str x]/\x.cps.all (·<128)=true/\R (Ites x) H1
section
variable {X:Cx}{v3:List RZ}{x1:Nat}{tp p pos:Sb}{l:RZ}{ta:TA}
def Ag(hg:Gl X "enumerate")(hm:X.mg "enumerate"=G_)(ha:PA X [l] ta)(hs:autoParam (R8 [l] X.env=[(false,Sa l X.env)]) zA0):PI X (.Tuple v3 x1 tp) (.Call (.Name "enumerate" p) [l] [] pos) (iEnL X.K ta):=by
 intro pins s σ H R I h;refine Call_ (dm I hg hm PyProof.Rows.boot_enumerate (PyProof.Rows.callWith_type1 (thn (ha pos pins s σ H _ I h) λus s1 ⟨vs,H1,I1,r1,q1⟩=>?_) hs rfl));obtain⟨a,rfl,⟨xs,hq⟩,q⟩:=q1;obtain⟨u,rfl,ru⟩:=bR r1;cases ru;obtain⟨its,rv,pl,hz⟩:=I1.list hq;refine call_enumerate_list pl.isList λh' he hit k6 hk=>?_;have I2:Inv X pins σ H1 {s1 with heap:=h'}:=I1.kept (t':=s1.toks) hk;refine SV he ?_;have ne:s1.heap.objs.size+1≠s1.heap.objs.size:=IV _;refine#[s1.heap.objs.size+1,[s1.heap.objs.size+1,s1.heap.objs.size],_,_,H1,rfl,I2,Ae a _ _ ne,#[#[_,he],hit],λb hb=>?_,q];rcases F5.mp hb with z|z
 .rw[z];exact I1.fpOk (GY _) (I1.hok.fresh (GY _))
 .rw[FW.mp z];exact I1.fpOk (FX _) (I1.hok.fresh (FX _))
def tw(hg:Gl X "enumerate")(hm:X.mg "enumerate"=G_)(ha:PA X [l] ta)(hs:autoParam (R8 [l] X.env=[(false,Sa l X.env)]) zA0):PI X (.Tuple v3 x1 tp) (.Call (.Name "enumerate" p) [l] [] pos) (iEnS ta):=by
 intro pins s σ H R I h;refine Call_ (dm I hg hm PyProof.Rows.boot_enumerate (PyProof.Rows.callWith_type1 (thn (ha pos pins s σ H _ I h) λus s1 ⟨vs,H1,I1,r1,q1⟩=>?_) hs rfl));obtain⟨x,rfl,NL,q⟩:=q1;obtain⟨u,rfl,t,rfl⟩:=bR r1;refine call_enumerate_str λh' he hit k6 hk=>?_;have I2:Inv X pins σ H1 {s1 with heap:=h'}:=I1.kept (t':=s1.toks) hk;refine SV he ?_;have ne:s1.heap.objs.size+1≠s1.heap.objs.size:=IV _;have QO:strIterType x="str_ascii_iterator":=by unfold strIterType;rw[NL];rfl
 rw[QO]at hit;refine#[s1.heap.objs.size+1,[s1.heap.objs.size+1,s1.heap.objs.size],_,_,H1,rfl,I2,Af x t _ _ ne,#[#[_,he],hit],λb hb=>?_,q];rcases F5.mp hb with z|z
 .rw[z];exact I1.fpOk (GY _) (I1.hok.fresh (GY _))
 .rw[FW.mp z];exact I1.fpOk (FX _) (I1.hok.fresh (FX _))
end
end L2
namespace My
open Exc
section
variable {X:Cx}[J:Jm]{a b c e o:RZ}{ta tb tc te to:TME}{pos:Sb}{st:R3}{rest:List R3}{t u:TMS}
def gX{K:Ex}{F:Hp}:∀(is:List Nat) (ds:List D) (vs:List V) (z:SD),Reps K F ds vs->(∀(i:Nat) d,z[i]?≠be (be (.own d)))->∀(i:Nat) d,(bO is ds z)[i]?≠be (be (.own d))
 |[],_,_,z,_,h=>h
 |_::_,[],_,z,_,h=>h
 |i::is,d::ds,vs,z,r,h=>by
  obtain⟨v,vr,rfl,r1,r2⟩:=reps_cons.mp r;refine gX is ds vr _ r2 λj q e=>?_;by_cases hj:i=j
  .subst hj;rw[GZ]at e;simp at e;have:=r1.noown;rw[e.2]at this;cases this
  .rw[Gg hj]at e;exact h j q e
def mItE(t:TME):TMI:=λz M R=>t z M λx M1=>match x with|.lst ds=>R ds M1|_=>False
def Ah(t:TME):TMI:=λz M R=>t z M λx M1=>match x with|.str x=>x.cps.all (·<128)=true/\R (bt x) M1|_=>False
def tz(is:List Nat)(ti:TMI)(tb:TMS):TMS:=λE z M=>ti z M λds M1=>∃W:Nat->SD->MS->Prop,W 0 z M1/\(∀(k:Nat) x z M,ds[k]?=be x->W k z M->tb {E with nx:=W (k+1),ct:=W (k+1),bk:=E.nx} (bO is [.int k,x] z) M)/\∀z M,W ds.length z M->E.nx z M
variable{is:List Nat}
def tD{K:Ex}{F0 F1 H1:Hp}{z:SD}{s:L2.St}{M1:MS}{E:Ends}{ED:EndsM}{It':It}{g:TG}{tb:TMS}{LJ:TS}{ds:List D}(hK:K=X.K)(k1:Kept J.B F0 F1 H1)(n9:RepZ K J.B F1 H1 z s M1)(e:EndsOkM K F0 ED E)(c5:is.length=2)
  (go:∀k F' H',Same F1 F'->Same F' H'->k<ds.length->It'.go k H') (stop:∀F' H',Same F1 F'->Same F' H'->It'.stop ds.length H')
  (yld:∀k F' H' x H'',Same F1 F'->Same F' H'->k<ds.length->It'.yld k H' x H''->∃T d v,H' T=G_/\x=.ref T/\H''=upd H' T (.tup [.int k,v])/\ds[k]?=be d/\Rep K F' d v)
  (hg:∀(dd:List D) (vs:List V) (T:KF) (z:SD) (s:L2.St) (F H:Hp) (Q:L2.St->Hp->Prop),dd.length=2->H T=be (.tup vs)->Reps K F dd vs->RepS K J.B F H z s->(∀s',RepS K J.B F H (bO is dd z) s'->Q s' H)->g (.ref T) s H Q)
  (NM:∀E s H,mS K tb E s H->LJ E s H)
  (hd:∃W:Nat->SD->MS->Prop,W 0 z M1/\(∀(k:Nat) x z M,ds[k]?=be x->W k z M->tb {ED with nx:=W (k+1),ct:=W (k+1),bk:=ED.nx} (bO is [.int k,x] z) M)/\∀z M,W ds.length z M->ED.nx z M):
  ∃W:Nat->Nat->L2.St->Hp->Prop,(∃m,W 0 m s H1)/\∀i m σ H,W i m σ H->
   (It'.stop i H/\E.nx σ H)\/(It'.go i H/\∃N:L2.St->Hp->Prop,(∀σ' H',N σ' H'->∃m',m'<m/\W (i+1) m' σ' H')/\∀x H',It'.yld i H x H'->g x σ H' λσ2 H2=>LJ {E with nx:=N,ct:=N,bk:=E.nx} σ2 H2):=by
 obtain⟨W,w0,d3,out⟩:=hd;refine#[λk m s' H'=>m=ds.length-k/\k<=ds.length/\∃F' z' M',Kept J.B F0 F' H'/\Same F1 F'/\RepZ K J.B F' H' z' s' M'/\W k z' M',#[ds.length,KK,Go _,F1,z,M1,k1,Same.refl F1,n9,w0],?_];rintro k m s' H'⟨rfl,hk,F',z',M',k',g',r',w'⟩;by_cases f9:k<ds.length
 .refine .inr #[go k F' H' g' k'.fh f9,λs3 H3=>∃F3 z3 M3,Kept J.B F0 F3 H3/\Same F1 F3/\RepZ K J.B F3 H3 z3 s3 M3/\W (k+1) z3 M3,λs3 H3 h3=>#[ds.length-(k+1),Ko,rfl,f9,h3],λx H'' hy=>?_];obtain⟨T,d,v,hT,rfl,rfl,hd,rd⟩:=yld k F' H' x H'' g' k'.fh f9 hy;have gn:=Grow.new k'.fh hT (.tup [.int k,v]);have k2:=k'.grow gn;have r2:=r'.growM k'.bh gn.toM (r'.rm.grow gn);have rp:Reps K (upd F' T (.tup [.int k,v])) [.int k,d] [.int k,v]:=reps_cons.mpr #[_,_,rfl,rep_int.mpr rfl,eD (rd.mono gn.ff)];refine hg [.int k,d] _ T z' s' _ _ _ rfl av rp r2.rs λs2 K0=>NM _ _ _ ?_;have gF:Same F1 (upd F' T (.tup [.int k,v])):=g'.trans gn.ff;refine#[upd F' T (.tup [.int k,v]),upd F' T (.tup [.int k,v]),_,M',#[k2.bh,k2.fh,Same.refl _,λb h1 _=>h1,k2.eb,k2.jf.trans k2.f0,λb h1 h2=>k2.out b (k2.jo b h1 h2) h2],#[K0,gX is _ _ z' rp r2.no,r2.rm,r2.mb],_,d3 k d z' M' hd w',?_];have up:∀{F3 H3:Hp},Kept J.B (upd F' T (.tup [.int k,v])) F3 H3->Kept J.B F0 F3 H3:=λk3=>#[k3.bh,k3.fh,k2.f0.trans k3.f0,λb h1 h2=>k3.out b (k2.out b h1 h2) h2,k2.eb,k2.jf,k2.jo];exact#[λz3 s3 M3 F3 H3 k3 h3 r3=>#[F3,z3,M3,up k3,gF.trans k3.f0,r3,h3],λd v M3 F3 H3 k3=>e.rt d v M3 F3 H3 (up k3),λz3 s3 M3 F3 H3 k3=>e.nx z3 s3 M3 F3 H3 (up k3),λz3 s3 M3 F3 H3 k3 h3 r3=>#[F3,z3,M3,up k3,gF.trans k3.f0,r3,h3]]
 .have ek:k=ds.length:=by lia
  subst ek;exact .inl #[stop F' H' g' k'.fh,e.nx z' s' M' F' H' k' (out z' M' w') r']
variable{es:List RZ}{body:List R3}
def Ai{x1:Nat}{tp p1 p2:Sb}{tb:TMS}(hp:Sq (R1 X.prog X.w) X.A X.env X.xe)(hc:X.calm=true)(hm:X.mg "enumerate"=G_)(he:ME X e te)(hG:DGs X es is)(hb:MSs X body tb)(c5:autoParam (is.length=2) zA0)(hg:autoParam (Gl X "enumerate") zA0)
  (hn:autoParam ((R7 es X.env).length=2) zA0) (j8:autoParam ((R7 es X.env).findIdx? (·.1)=none) zA0)
  (hs:autoParam (∀y,zFS X (.Call (.Name "enumerate" p1) [e] [] p2) y) zA3) (p_:autoParam (zSE X e []) zA0) (f8:autoParam (R8 [e] X.env=[(false,Sa e X.env)]) zA0):
  MSt X (.For (.Tuple es x1 tp) (.Call (.Name "enumerate" p1) [e] [] p2) body [] pos) (tz is (mItE te) tb):=by
 obtain⟨ug,LK,kk⟩:=hG;refine#[(cS hp hc (Ag hg hm (bo he.out pa_nil p_) f8) (fq hc LK hn j8) hb.out hs).anti λE s H q=>?_];obtain⟨F0,F,z,M,kp,rs,ED,h,e⟩:=q;refine#[F,z,M,kp.kf,rs,_,h,λd v M1 F1 H1 g1 hd rd m1=>?_];split at hd
 .rename_i ds;obtain⟨p,vs,rfl,hq,rr⟩:=rep_lst.mp rd;refine#[p,rfl,#[vs,SqL.of (g1.fh _ _ hq)],tD (It':=Itel X.K p) rfl (kp.growM rs.mb g1) (rs.growM kp.bh g1 m1) e c5 (λk F' H' s1 s2 hk=>?_) (λF' H' s1 s2=>?_) (λk F' H' x H'' s1 s2 hk hy=>?_) (λdd n8 T z s F H Q hl hT rp B_ hQ=>?_) (λ_ _ _ h=>h) hd]
  .have QP:k<vs.length:=by rw[rr.length];exact hk
   exact#[vs,vs[k],SqL.of (s2 _ _ (s1 _ _ hq)),by simp[QP]]
  .exact#[vs,SqL.of (s2 _ _ (s1 _ _ hq)),by rw[rr.length];exact FX _]
  .obtain⟨T,v,hT,e1,e2,hv⟩:=hy;obtain⟨d,hd,rd⟩:=rr.get' (hv vs (SqL.of (s2 _ _ (s1 _ _ hq))));exact#[T,d,v,hT,e1,e2,hd,rd.mono s1]
  .exact#[T,n8,rfl,SqT.of hT,by rw[rp.length];exact hl,kk dd n8 z s J.B F H Q (by rw[hl,c5]) rp B_ hQ]
 .exact hd.elim
def Aj{x1:Nat}{tp p1 p2:Sb}{tb:TMS}(hp:Sq (R1 X.prog X.w) X.A X.env X.xe)(hc:X.calm=true)(hm:X.mg "enumerate"=G_)(he:ME X e te)(hG:DGs X es is)(hb:MSs X body tb)(c5:autoParam (is.length=2) zA0)(hg:autoParam (Gl X "enumerate") zA0)
  (hn:autoParam ((R7 es X.env).length=2) zA0) (j8:autoParam ((R7 es X.env).findIdx? (·.1)=none) zA0)
  (hs:autoParam (∀y,zFS X (.Call (.Name "enumerate" p1) [e] [] p2) y) zA3) (p_:autoParam (zSE X e []) zA0) (f8:autoParam (R8 [e] X.env=[(false,Sa e X.env)]) zA0):
  MSt X (.For (.Tuple es x1 tp) (.Call (.Name "enumerate" p1) [e] [] p2) body [] pos) (tz is (Ah te) tb):=by
 obtain⟨ug,LK,kk⟩:=hG;refine#[(cS hp hc (tw hg hm (bo he.out pa_nil p_) f8) (fq hc LK hn j8) hb.out hs).anti λE s H q=>?_];obtain⟨F0,F,z,M,kp,rs,ED,h,e⟩:=q;refine#[F,z,M,kp.kf,rs,_,h,λd v M1 F1 H1 g1 hd rd m1=>?_];split at hd
 .rename_i x;obtain⟨ha,hd⟩:=hd;have hl:=eL x;refine#[x,by rw[rep_str.mp rd],ha,tD (It':=Ites x) rfl (kp.growM rs.mb g1) (rs.growM kp.bh g1 m1) e c5 (λk F' H' s1 s2 hk=>?_) (λF' H' s1 s2=>?_) (λk F' H' x H'' s1 s2 hk hy=>?_) (λdd n8 T z s F H Q hl hT rp B_ hQ=>?_) (λ_ _ _ h=>h) hd]
  .rw[hl]at hk;exact hk
  .exact hl
  .obtain⟨T,c,hT,e1,e2,hc⟩:=hy;exact#[T,.str #[[c].toArray],.str #[[c].toArray],hT,e1,e2,gO hc,rep_str.mpr rfl]
  .exact#[T,n8,rfl,SqT.of hT,by rw[rp.length];exact hl,kk dd n8 z s J.B F H Q (by rw[hl,c5]) rp B_ hQ]
 .exact hd.elim
end
end My
namespace L2
section
variable {prog:P3}{w:R5}{K:Type}[DecidableEq K]{l6:HeapKind prog w K}{A:R6}{E:KB->KM->Prop}{s:KM}{d a:KF}{k:K}{xs:List (K×KF×KB)}
def Ak{v:KB}{Q:KB->KM->Prop}(hu:l6.room A)(p8:l6.is s.heap k a)(hm:s.heap.DictOfH l6 d xs)
  (h1:∀p,Tp xs k=be p->Q p.2 {s with toks:=s.toks+l6.draws k})
  (h2:Tp xs k=G_->∀h',h'.DictOfH l6 d (xs++[(k,a,v)])->Heap.SameBut d s.heap h'->Q v {s with heap:=h',toks:=s.toks+l6.draws k})
  (k6:xs.length<=sizeLine):R4 (R1 prog w) A (Tv d (.ref a) v) Q E s:=by
 obtain⟨o,es,ep,ho,hc,hd,he,Pp,hn⟩:=hm;unfold Tv
 try with_reducible refine So ?_
 refine Os (l6.pyHash hu p8 ?_);refine Os (wpAny_dictFind_heap (s:={s with toks:=s.toks+l6.draws k}) hu p8 ho hd he Pp hn ?_ ?_)
 .intro KW;have NN:k∉xs.map (·.1):=not_mem_keys_of_get KW;refine Os (wpAny_rule (Os (wpAny_updateDictKeys (hz:=by have e:=size_of_entries he;lia) (s:={s with toks:=s.toks+l6.draws k}) ho hd (RY (h2 (atKey_none_of_get KW) _ ⟨_,_,ep+1,Heap.get?_update_self _ ho (Obj.isFreed_of_dict (Obj.data_mapDictKeys hd _)),
   hc.mapDictKeys _,Obj.data_mapDictKeys hd _,?_,?_,?_⟩ (Heap.SameBut.update ..))))))
  .simp[he,entryOfKey]
  .intro x hx;rcases GA.mp hx with hx|hx
   .exact l6.keeps (Pp x hx) ho hd (Heap.SameBut.update ..)
   .simp only[FW]at hx;subst hx;exact l6.keeps p8 ho hd (Heap.SameBut.update ..)
  .rw[Gm,Ha];refine#[hn,KK,?_];intro x hx y hy;simp only[Gs,HE,FW]at hy;subst hy;exact λe=>NN (e ▸ hx)
 .intro j p hj;refine Os (wpAny_dictEntries (s:={s with toks:=s.toks+l6.draws k}) ho hd ?_);rw[entry_at he j,hj];exact Os (wpAny_rule (RY (h1 p (atKey_of_get hn hj))))
def Al(l6:HeapKind prog w K)(d a:KF)(hd:(d==Su)=false)(v:KB):
  MeetsIn prog w (Builtin.«dict.setdefault» #[[.ref d,.ref a,v],[]]) (λA R s=>l6.room A.in1/\∃k xs,l6.is s.heap k a/\s.heap.DictOfH l6 d xs/\xs.length<=sizeLine/\
   (∀p,Tp xs k=be p->R (.ok (.ret p.2)) {s with toks:=s.toks+l6.draws k})/\
   (Tp xs k=G_->∀h',h'.DictOfH l6 d (xs++[(k,a,v)])->Heap.SameBut d s.heap h'->R (.ok (.ret v)) {s with heap:=h',toks:=s.toks+l6.draws k})):=
 .of_wp λA R s hh=>by
  obtain⟨hu,k,xs,p8,hm,hz,h1,h2⟩:=hh;unfold Builtin.«dict.setdefault»;refine Os ?_;unfold Builtin.Dict.keyAndDefault;refine Os (wpAny_notOrdered_dict hm.typeIs ?_);show R4 _ _ (pure (d,Value.ref a,be v)) _ _ s;refine RY ?_;show R4 _ _ (if(d==Su)=true then _ else(Tv d (.ref a) v>>=_)) _ _ s;rw[if_neg (by rw[hd];exact Ge)];exact Os (Ak hu p8 hm (λp hp=>RY #[p.2,rfl,h1 p hp]) (λhn h' Kt Mr=>RY #[v,rfl,h2 hn h' Kt Mr]) hz)
end
end L2
namespace My
open Exc
def lookD:List ((Int×Int)×Int)->Int->Int->Option Int
 |[],_,_=>G_
 |((a,b),h)::r,x,y=>if a=x/\b=y then be h else lookD r x y
def kG(x y:Int):∀b7:List ((Int×Int)×Int),valV (dtiV b7) [.inl x,.inl y]=(lookD b7 x y).map V.int
 |[]=>rfl
 |((a,b),h)::r=>by
  show valV (([.inl a,.inl b],V.int h)::dtiV r) _=_;unfold lookD;by_cases e:a=x/\b=y
  .rw[if_pos e,jM (by rw[e.1,e.2])];rfl
  .rw[if_neg e,jN (λz=>e (by
    have z':([Sum.inl a,Sum.inl b]:List Key)=[.inl x,.inl y]:=z;injection z' with z1 z2;injection z2 with z2 _;exact#[Sum.inl.inj z1,Sum.inl.inj z2])),kG x y r]
def sdD(b7:List ((Int×Int)×Int))(x y v:Int):List ((Int×Int)×Int):=if(lookD b7 x y).isSome then b7 else b7++[((x,y),v)]
def Am:V->List V->Hp->VK->Prop:=λx vs H Q=>∃a b i j d b7,x=.ref a/\vs=[.ref b,.int d]/\H a=be (.dT (dtiV b7))/\H b=be (.tup [.int i,.int j])/\Q (.int ((lookD b7 i j).getD d)) H
def An{X:Cx}(hu:X.A.units+1<Ta):MtR X "dict.get" Am:=by
 intro pins s σ H x vs v us Q I rx rv h;obtain⟨a,b,i,j,d,b7,rfl,rfl,ha,hb,q⟩:=h;obtain⟨u,u',rfl,ru,rd⟩:=fu rv;cases(show v=Value.ref a from rx);refine xN hu I (DGet.t (k:=[.inl i,.inl j]) ha hb) ru rd λw' s' I' j3=>#[.int ((lookD b7 i j).getD d),H,I',?_,q];rw[kG]at j3;cases e:lookD b7 i j with
 |none=>rw[e]at j3;exact j3
 |some z=>rw[e]at j3;exact j3
def rSdT:V->List V->Hp->VK->Prop:=λx vs H Q=>∃a b i j d b7,x=.ref a/\vs=[.ref b,.int d]/\H a=be (.dT (dtiV b7))/\H b=be (.tup [.int i,.int j])/\b7.length<100000/\∀w,Q (.int w) (upd H a (.dT (dtiV (sdD b7 i j d))))
variable{H:Hp}{a:KF}
def Ao{o:HO}(h:H a=be o):upd H a o=H:=by
 funext b;by_cases e:b=a
 .subst e;rw[av,h]
 .rw[aj e]
def Ap{X:Cx}(hu:X.A.units+1<Ta):MtR X "dict.setdefault" rSdT:=by
 intro pins s σ H x vs v us Q I rx rv h;obtain⟨a,b,i,j,d,b7,rfl,rfl,ha,hb,hl,q⟩:=h;obtain⟨u,u',rfl,ru,t,rfl⟩:=fu rv;cases(show v=Value.ref a from rx);cases(show u=Value.ref b from ru);obtain⟨z,hd,xs,w6,dd⟩:=xJ I.hok ha;have c5:xs.length=b7.length:=by rw[<-Paired.length w6];simp[dtiV]
 have big:(100000:Nat)<sizeLine:=Ks
 have g5:H b=be (.tup (([.inl i,.inl j]:List Key).map kV)):=hb;have l7:=w6.val [.inl i,.inl j];rw[kG]at l7;refine TV PySem.F.slot_dict_setdefault dd.typeIs PySem.F.entry_dict_setdefault (PySem.F.args_dict_setdefault_3 _ _ _) (Al (S2 (bD X.prog X.w)) a b hd (.int d t)) #[Ud hu,[.inl i,.inl j],xs,key_of I.hok g5,dd,Ko,λp hp=>?_,λhn h' LF hs=>?_]
 .rw[hp]at l7;cases e:lookD b7 i j with
  |none=>rw[e]at l7;exact l7.elim
  |some w=>
   rw[e]at l7;have:=q w;unfold sdD at this;rw[e]at this;have e2:(if(be w:Option Int).isSome then b7 else b7++[((i,j),d)])=b7:=rfl;rw[e2,Ao ha]at this;exact#[.int w,H,I.tok _,l7,this]
 .rw[hn]at l7;cases e:lookD b7 i j with
  |some w=>rw[e]at l7;exact l7.elim
  |none=>
   have e2:sdD b7 i j d=b7++[((i,j),d)]:=by unfold sdD;rw[e];rfl
   have e3:dtiV (sdD b7 i j d)=dtiV b7++[([.inl i,.inl j],.int d)]:=by rw[e2];simp[dtiV]
   obtain⟨o,es,ep,ho,hx,h3,h4,_,h5⟩:=LF;have new:ObjOk X.prog X.w (upd H a (.dT (dtiV (sdD b7 i j d)))) h' a (.dT (dtiV (sdD b7 i j d))):=by
    refine#[by rw[e3,Gc];simp[dtiV];lia,hd,_,?_,o,es,ep,ho,hx,h3,h4,h5];rw[e3];refine KT.keeps (H:=H) (Paired.snoc (a:=(([.inl i,.inl j]:List Key),V.int d)) (b:=(([.inl i,.inl j]:List Key),b,Value.int d t)) w6 #[rfl,g5,#[t,rfl]]) λc ys ec=>?_;rw[aj (vI ec ha (λz=>nomatch z))];exact ec
   exact#[.int d,_,xK I (by rw[ha];exact True.intro) hs #[o,ho] new,#[t,rfl],q d]
section
variable {X:Cx}[J:Jm]{a b c e o f:RZ}{ta tb tc te to:TME}{pos b9 a9:Sb}{t:TMA}
def mD0:TME:=λ_ M R=>R (.dti []) M
def Aq:ME X (.Dict [] [] pos) mD0:=⟨pe_dnewT.anti λs H Q q=>by
 obtain⟨F,z,M,k,rs,R,h1,h2⟩:=q;intro p hp;have gn:=Grow.new k.fh hp (.dT []);exact h2 _ _ M _ _ gn.toM h1 (rep_dti.mpr #[p,rfl,av]) (rs.rm.grow gn)⟩
def mDN:TME:=λ_ M R=>∀p,p∉ao M->R (.ptr p) ((p,.dti [])::M)
def Ar:ME X (.Dict [] [] pos) mDN:=⟨pe_dnewT.anti λs H Q q=>by
 obtain⟨F,z,M,k,rs,R,h1,h2⟩:=q;intro p hp;exact h2 _ _ _ F _ (GrowM.new k.fh hp) (h1 p λz=>rs.rm.here z hp) (rep_ptr.mpr rfl) (rs.rm.new k.fh hp av)⟩
def kdK(ds:List D)(k:Int->Int->Int->Prop):Prop:=kd2 ds λa b=>kdT a λl=>kd2 l λx y=>kdI x λi=>kdI y λj=>kdI b (k i j)
def kdK.of{ds:List D}{k:Int->Int->Int->Prop}(h:kdK ds k):∃i j x,ds=[.tup [.int i,.int j],.int x]/\k i j x:=by
 obtain⟨a,b,rfl,h2⟩:=kd2.of h;obtain⟨l,rfl,h3⟩:=kdT.of h2;obtain⟨x,y,rfl,h4⟩:=kd2.of h3;obtain⟨i,rfl,h5⟩:=kdI.of h4;obtain⟨j,rfl,h6⟩:=kdI.of h5;obtain⟨v,rfl,h7⟩:=kdI.of h6;exact#[i,j,v,rfl,h7]
def As(to:TME)(t:TMA):TME:=λz M R=>to z M λd M1=>match d with|.dti b7=>(t z M1 λds M2=>kdK ds λi j x=>R (.int ((lookD b7 i j).getD x)) M2)|_=>False
def Au(hu:X.A.units+1<Ta)(ho:ME X o to)(ha:MA X [e,f] t)(c3:autoParam (R9 o "get" X.env (Sa o X.env)=Sa o X.env) zA0)
  (d_:autoParam (zHF X a9 [e,f]) zA0)
  (c8:autoParam ((b9.endLine==a9.line)=true) zA0) (m4:autoParam (zSE X e [f]) zA0) (c_:autoParam (zPL X a9 [f]) zA0):
  ME X (.Call (.Attribute o "get" b9) [e,f] [] a9) (As to t):=⟨(dS PySem.F.plainAttrs_dict PySem.F.slot_dict_get PySem.F.type_dict_get (An hu) ho.out ha.out c3 d_ c8 m4 c_).anti λs H Q h=>by
 obtain⟨F,z,M,k,rs,R,h1,h2⟩:=h;refine#[F,z,M,k,rs,_,h1,λx u M1 F1 H1 g1 hx rx m1=>?_];split at hx
 .rename_i b7;obtain⟨p,rfl,hp⟩:=rep_dti.mp rx;refine#[.inr (.inr (.inl #[rfl,.inr #[_,g1.fh _ _ hp]])),?_];refine#[F1,z,M1,k.growM rs.mb g1,rs.growM k.bh g1 m1,_,hx,λds vs M2 F2 H2 g2 hd rd m2=>?_];obtain⟨i,j,x,rfl,hd⟩:=kdK.of hd
  focus
   obtain⟨v1,r1,rfl,q1,q2⟩:=reps_cons.mp rd;obtain⟨v2,r2,rfl,q3,q4⟩:=reps_cons.mp q2;rw[reps_nil.mp q4,rep_int.mp q3];obtain⟨b,us,rfl,hb,ru⟩:=rep_tupS.mp q1;have NO:us=[.int i,.int j]:=(Reps.ints (ns:=[i,j])).mp ru;subst NO;exact#[p,b,i,j,x,b7,rfl,rfl,g2.fh _ _ (g2.ff _ _ hp),g2.fh _ _ hb,h2 _ _ M2 F2 H2 (g1.trans g2) hd (rep_int.mpr rfl) m2]
 .exact hx.elim⟩
def mDsd(to:TME)(t:TMA):TME:=λz M R=>to z M λd M1=>match d with|.ptr a=>(∃b7,mget M1 a=be (.dti b7))/\(t z M1 λds M2=>kdK ds λi j x=>∃b7,mget M2 a=be (.dti b7)/\b7.length<100000/\∀w,R (.int w) (mput M2 a (.dti (sdD b7 i j x))))|_=>False
def Av(hu:X.A.units+1<Ta)(ho:ME X o to)(ha:MA X [e,f] t)(c3:autoParam (R9 o "setdefault" X.env (Sa o X.env)=Sa o X.env) zA0)
  (d_:autoParam (zHF X a9 [e,f]) zA0)
  (c8:autoParam ((b9.endLine==a9.line)=true) zA0) (m4:autoParam (zSE X e [f]) zA0) (c_:autoParam (zPL X a9 [f]) zA0):
  ME X (.Call (.Attribute o "setdefault" b9) [e,f] [] a9) (mDsd to t):=⟨(dS PySem.F.plainAttrs_dict PySem.F.slot_dict_setdefault PySem.F.type_dict_setdefault (Ap hu) ho.out ha.out c3 d_ c8 m4 c_).anti λs H Q h=>by
 obtain⟨F,z,M,k,rs,R,h1,h2⟩:=h;refine#[F,z,M,k,rs,_,h1,λx u M1 F1 H1 g1 hx rx m1=>?_];split at hx
 .rename_i a;obtain⟨⟨RF,NH⟩,hx⟩:=hx;rw[rep_ptr.mp rx];refine#[.inr (.inr (.inl #[rfl,.inr #[_,m1.ok _ _ (bj NH)]])),?_];refine#[F1,z,M1,k.growM rs.mb g1,rs.growM k.bh g1 m1,_,hx,λds vs M2 F2 H2 g2 hd rd m2=>?_];obtain⟨i,j,x,rfl,b7,hm,hl,hR⟩:=kdK.of hd
  focus
   obtain⟨v1,r1,rfl,q1,q2⟩:=reps_cons.mp rd;obtain⟨v2,r2,rfl,q3,q4⟩:=reps_cons.mp q2;rw[reps_nil.mp q4,rep_int.mp q3];obtain⟨b,us,rfl,hb,ru⟩:=rep_tupS.mp q1;have NO:us=[.int i,.int j]:=(Reps.ints (ns:=[i,j])).mp ru;subst NO;refine#[a,b,i,j,x,b7,rfl,rfl,m2.ok _ _ (bj hm),g2.fh _ _ hb,hl,λw=>?_];exact h2 _ _ _ F2 _ (g1.trans (g2.trans (GrowM.put g2.fh (m2.fr a (bH (bj hm))) hm))) (hR w) (rep_int.mpr rfl) (m2.put hm av)
 .exact hx.elim⟩
end
section
variable {P:P3}{w:R5}{K:Ex}{mg:JM->Option KB}{base:Heap}
open Classical in
def Cls.okIM{x qual:JM}{st:R3}{f C:KF}{fd:R_}{N:List JM}{p0:JM}{ps:List JM}{k:Nat}{S:SiD}(T:Fun K "__init__" qual st f fd)(hb:Binds K fd (p0::ps) [])(F:FnScope N (p0::ps) (ag st))(len:∀ds R,S ds R->ds.length=ps.length)
  (hns:nsIn K Pi x=be (be (.ref C))) (j9:mg x=be (.ref C)) (mk:Mk K C f)
  (a_:∀(cdv:KB) (A:R6) (outer:List SU) (s:KM) (H:Hp) (E:XK) (J:Jm),Room k (A.deeper (Se qual (ag st) s.heap.objs.size f cdv))->XOkM (cxOf (CX1 P w) P w K mg base N qual (ag st) f cdv A outer s H E).nox->
   ∃t,MSs (cxOf (CX1 P w) P w K mg base N qual (ag st) f cdv A outer s H E).nox (aG st) t/\∀a ds R,(∀z M x fs,¬J.RM z M x fs)->S ds R->t {nx:=λ_ M'=>∃fs,M'=[(a,.ins x fs)]/\R fs,rt:=λ_ _=>False} (startD N (.ptr a::ds)) [(a,.ins x [])]):CalM P w K mg base (k+1) x (p0::ps) S:=by
 refine#[C,f,fd,hns,j9,mk,Fun.okC T F (λvs H Q E h=>?_) (λcdv A outer s H vs Q E hr h=>?_),hb]
 .obtain⟨a,dx,us,H1,F,ds,rfl,_,_,_,_,_,rs,R,h,_⟩:=h;rw[F7,F7,rs.length,len ds R h]
 .obtain⟨a,dx,us,H1,F1,ds,rfl,rfl,ha,q8,k9,fh,rs,R,h,q⟩:=h
  let H:Hp:=upd (upd H1 dx (.own a)) a (.ins C dx [])
  let B:Hp:=λb=>if b=a then G_ else H b
  have LL:B a=none:=if_pos rfl;have hB:∀{b:KF},b≠a->B b=H b:=λ{b} h=>if_neg h;have n6:∀{b:KF} {o:HO},H1 b=be o->b≠a/\H b=be o:=λ{b o} e=>by
   have n1:b≠a:=bx e ha;exact#[n1,by show upd _ _ _ b=_;rw[aj n1,aj (bx e q8)];exact e]
  letI:Jm:={B:=B,F0:=F1,RX:=λ_ _ _=>False,RM:=λ_ _ _ _=>False}
  have hx:XOkM (cxOf (CX1 P w) P w K mg base N qual (ag st) f cdv A outer s H E).nox:=λσ z M' F' H' s' e C od y fs I kk rr hR er _=>hR.elim;obtain⟨t,ht,hq⟩:=a_ cdv A outer s H E inferInstance hr hx;have Fa:F1 a=none:=fh.free ha;have k0:Kept B F1 F1 H:=⟨λb o e=>by
   by_cases n:b=a
   .rw[n,LL]at e;cases e
   .rw[hB n]at e;exact e,λb o e=>(n6 (fh b o e)).2,Same.refl F1,λ_ h _=>h,rfl,Same.refl F1,λ_ h _=>h⟩
  have B_:Reps K F1 (.ptr a::ds) (.ref a::us):=reps_cons.mpr #[_,_,rfl,rep_ptr.mpr rfl,rs];have NP:RepM K F1 H [(a,.ins x [])]:=⟨by simp[ao],λb o hb=>by
   have e:=FW.mp hb;cases e;exact#[C,dx,[],hns,av,repf_nil.mpr rfl],λb hb=>by
   have e:b=a:=by simpa[ao]using hb
   rw[e];exact Fa⟩
  have r0:RepZ K B F1 H (startD N (.ptr a::ds)) (L2.start N (.ref a::us)) [(a,.ins x [])]:=⟨dq B_,kF B_,NP,λb hb=>by
   have e:b=a:=by simpa[ao]using hb
   rw[e];exact LL⟩
  refine#[_,ht.out.nox,F1,F1,_,_,k0,r0,_,hq a ds R (λ_ _ _ _ z=>z) h,#[λz' s' M' F' H' kk hn r=>?_,λd v M' F' H' kk hd rd NJ mb=>hd.elim,λ_ _ _ _ _ _ h _=>h.elim,λ_ _ _ _ _ _ h _=>h.elim]];obtain⟨fs,rfl,hR⟩:=hn;obtain⟨C',JV,ws,g_,e9,rf⟩:=r.rm.ok a _ (FW.mpr rfl);have Kp:nsIn K Pi x=be (be (.ref C')):=g_;rw[hns]at Kp;cases Kp;exact q fs ws JV F' H' ⟨kk.f0,kk.fh,λb o e=>kk.bh b o (by show B b=be o;rw[hB (n6 e).1];exact(n6 e).2),λb h1 h2=>kk.out b h1 (by
   show B b≠G_;cases e:H1 b with
   |none=>exact absurd e h2
   |some o=>rw[hB (n6 e).1,(n6 e).2];exact λz=>nomatch z)⟩ hR e9 (r.rm.fr a (by simp[ao])) rf
end
section
variable {P:P3}{w:R5}{K:Ex}{mg:JM->Option KB}{base:Heap}{n:Nat}{x m:JM}{ps:List JM}
variable{S:SpM}
def CalMth.one(h:CalMth P w K mg base n x m ps (lSpM K S)):∀y,y∈[x]->CalMth P w K mg base n y m ps (lSpM K ((λ_=>S) y)):=λy hy=>by
 rw[FW.mp hy];exact h
def tE{f:KF}{fd:R_}{sp:Sp}(h:∀vs H Q E,¬sp vs H Q E):FnOk P w K mg base (CX1 P w) n f fd ps sp:=#[λvs H Q E q=>(h _ _ _ _ q).elim,λA outer s H args us vs Q E _ _ _ _ q=>(h _ _ _ _ q).elim]
def tF(h:∀ds M R RX,¬S ds M R RX):∀vs H Q E,¬lSpM K S vs H Q E:=by
 rintro vs H Q E⟨F,ds,M,_,_,_,R,RX,q,_⟩;exact h ds M R RX q
def CalMth.never{qual:JM}{st:R3}(T:Txm K x m qual st ps)(h:∀ds M R RX,¬S ds M R RX):CalMth P w K mg base n x m ps (lSpM K S):=by
 obtain⟨C,f,fd,h1,h2,h3,T,hb⟩:=T;exact#[C,f,fd,h1,h2,h3,tE (tF h),hb]
def CalMM.never{st:R3}(T:Tx K mg x st ps)(h:∀ds M R RX,¬S ds M R RX):CalMM P w K mg base n x ps S:=by
 obtain⟨f,fd,T,hb,hm⟩:=T;exact#[f,fd,tE (tF h),hb,T.kp,hm]
end
section
variable {X:Cx}[J:Jm]{a b c e:RZ}{ta tb:TME}{pos:Sb}
def mUn(r:D->(D->Prop)->Prop)(ta:TME):TME:=λz M R=>ta z M λx M1=>r x λd=>R d M1
end
def kH(S:SpM):SpM:=λds M R RX=>∃M1 M2,M=M1++M2/\S ds M2 (λd M'=>R d (M1++M')) λx fs M'=>RX x fs (M1++M')
def keys_app{M1 M2:MS}:a∈ao (M1++M2)↔a∈ao M1\/a∈ao M2:=by unfold ao;rw[Gm,GA]
variable{K:Ex}{vs:List V}
def kI{S:SpM}{Q:VK}{E:XK}(h:lSpM K (kH S) vs H Q E):lSpM K S vs H Q E:=by
 obtain⟨F,ds,M,fh,rs,rm,R,RX,⟨M1,M2,rfl,hS⟩,q,qx⟩:=h;have nd:(ao M1++ao M2).Nodup:=by have:=rm.nd;unfold ao at this ⊢;rw[Gm]at this;exact this
 have NR:∀{a:KF},a∈ao M1->a∉ao M2:=λ{a} h1 h2=>(Ha.mp nd).2.2 a h1 a h2 rfl;have QQ:RepM K F H M2:=#[(Ha.mp nd).2.1,λa o h=>rm.ok a o (Gn _ h),λa h=>rm.fr a (keys_app.mpr (.inr h))];have up:∀{M':MS} {F' H':Hp},GrowM M2 M' F H F' H'->RepM K F' H' M'->GrowM (M1++M2) (M1++M') F H F' H'/\RepM K F' H' (M1++M'):=λ{M' F' H'} g r=>by
  have Pq:∀{a:KF},a∈ao M1->H a≠none:=λ{a} h=>rm.here (keys_app.mpr (.inl h));have NS:∀{a:KF},a∈ao M1->a∉ao M':=λ{a} h1 h2=>by
   rcases g.ks a h2 with z|z
   .exact NR h1 z
   .exact Pq h1 z
  refine#[#[g.ff,g.fh,λb o nb e=>g.hh b o (λz=>nb (keys_app.mpr (.inr z))) e,λb nb h1 h2=>g.out b (λz=>nb (keys_app.mpr (.inr z))) h1 h2,λb hb=>?_],#[?_,λa o h=>?_,λa h=>?_]]
  .rcases keys_app.mp hb with z|z
   .exact .inl (keys_app.mpr (.inl z))
   .exact(g.ks b z).imp (λz=>keys_app.mpr (.inr z)) id
  .unfold ao;rw[Gm];exact Ha.mpr #[(Ha.mp nd).1,r.nd,λa h1 b h2 e=>NS h1 (e ▸ h2)]
  .rcases GA.mp h with z|z
   .have ka:a∈ao M1:=bH z;exact(rm.ok a o (G4 _ z)).mono g.ff λo e=>g.hh a o (NR ka) e
   .exact r.ok a o z
  .rcases keys_app.mp h with z|z
   .exact g.out a (NR z) (rm.fr a (keys_app.mpr (.inl z))) (Pq z)
   .exact r.fr a z
 exact#[F,ds,M2,fh,rs,QQ,_,_,hS,λd v M' F' H' g hd rd m'=>q d v _ F' H' (up g m').1 hd rd (up g m').2,λx fs C od M' F' H' g hR er m'=>qx x fs C od _ F' H' (up g m').1 hR er (up g m').2]
section
variable {P:P3}{w:R5}{K:Ex}{mg:JM->Option KB}{base:Heap}{n:Nat}{x m:JM}{ps:List JM}{S:SpM}
def CalMM.frame(C:CalMM P w K mg base n x ps S):CalMM P w K mg base n x ps (kH S):=C.imp λ_ _ _ _ h=>kI h
def CalMth.frame(C:CalMth P w K mg base n x m ps (lSpM K S)):CalMth P w K mg base n x m ps (lSpM K (kH S)):=C.imp λ_ _ _ _ h=>kI h
end
def nilX(S:SpX):SpM:=λds M R RX=>M=[]/\∃(R0:D->Prop) (J0:XD),S ds R0 J0/\(∀d M',R0 d->R d M')/\∀x fs M',J0 x fs->RX x fs M'
def CalMM.nilX{P:P3}{w:R5}{mg:JM->Option KB}{base:Heap}{n:Nat}{x:JM}{ps:List JM}{S:SpX}(C:CalMM P w K mg base n x ps (nilX S)):CalX P w K mg base n x ps S:=C.toX λ_ R RX h=>#[rfl,R,RX,h,λ_ _ h=>h,λ_ _ _ h=>h]
mutual
def bZ:D->Bool
 |.non=>true|.bl _=>true|.int _=>true|.str _=>true|.ptr _=>true
 |.tup ds=>flats ds
 |.lst ds=>flats ds
 |_=>false
def flats:List D->Bool
 |[]=>true
 |d::ds=>bZ d&&flats ds
end
def cutF(F:Hp)(a:KF):Hp:=λb=>if b=a then G_ else F b
variable{F:Hp}
def fO{b:KF}(h:b≠a):cutF F a b=F b:=if_neg h
mutual
def Rep.cutF{K:Ex}{F:Hp}{a:KF}{C:KF}{dx:KF}{ws:List (JM×V)}(ea:F a=be (.ins C dx ws)):∀(d:D) (v:V),bZ d=true->Rep K F d v->Rep K (My.cutF F a) d v
 |.non,v,_,h=>by unfold Rep at h ⊢;exact h
 |.bl b,v,_,h=>by unfold Rep at h ⊢;exact h
 |.int b,v,_,h=>by unfold Rep at h ⊢;exact h
 |.str b,v,_,h=>by unfold Rep at h ⊢;exact h
 |.ptr b,v,_,h=>by unfold Rep at h ⊢;exact h
 |.tup ds,v,n,h=>by
  unfold Rep at h ⊢;obtain⟨p,vs,e,q,r⟩:=h;have ne:p≠a:=λz=>by rw[z,ea]at q;cases q
  exact#[p,vs,e,by rw[fO ne];exact q,Reps.cutF ea ds vs (by unfold bZ at n;exact n) r]
 |.lst ds,v,n,h=>by
  unfold Rep at h ⊢;obtain⟨p,vs,e,q,r⟩:=h;have ne:p≠a:=λz=>by rw[z,ea]at q;cases q
  exact#[p,vs,e,by rw[fO ne];exact q,Reps.cutF ea ds vs (by unfold bZ at n;exact n) r]
 |.rol _,_,n,_=>by unfold bZ at n;cases n
 |.obj _ _,_,n,_=>by unfold bZ at n;cases n
 |.exc _ _,_,n,_=>by unfold bZ at n;cases n
 |.own _,_,n,_=>by unfold bZ at n;cases n
 |.dti _,_,n,_=>by unfold bZ at n;cases n
def Reps.cutF{K:Ex}{F:Hp}{a:KF}{C:KF}{dx:KF}{ws:List (JM×V)}(ea:F a=be (.ins C dx ws)):∀(ds:List D) (vs:List V),flats ds=true->Reps K F ds vs->Reps K (My.cutF F a) ds vs
 |[],vs,_,h=>by unfold Reps at h ⊢;exact h
 |d::ds,vs,n,h=>by
  unfold flats at n;rw[Gu]at n;unfold Reps at h ⊢;obtain⟨v,r,e,q1,q2⟩:=h;exact#[v,r,e,Rep.cutF ea d v n.1 q1,Reps.cutF ea ds r n.2 q2]
end
def lendD(a:KF)(o:D)(d:D):D:=match d with|.ptr b=>if b=a then o else .ptr b|d=>d
def lend(S:SpX):SpM:=λds M R _=>∃a x fs,mget M a=be (.ins x fs)/\S (ds.map (lendD a (.obj x fs))) (λd=>bZ d=true/\R d M) λ_ _=>False
def Aw{F2:Hp}{o d:D}{v:V}(g:Same F F2)(ro:Rep K F2 o (.ref a))(h:Rep K F d v):Rep K F2 (lendD a o d) v:=by
 unfold lendD;split
 .rename_i b;split
  .rename_i e;rw[rep_ptr.mp h,e];exact ro
  .exact rep_ptr.mpr (rep_ptr.mp h)
 .exact h.mono g
def Ax{F2:Hp}{o:D}(g:Same F F2)(ro:Rep K F2 o (.ref a)){ds:List D}:∀{vs:List V},Reps K F ds vs->Reps K F2 (ds.map (lendD a o)) vs:=by
 induction ds with
 |nil=>intro vs h;rw[reps_nil.mp h];exact reps_nil.mpr rfl
 |cons d ds ih=>
  intro vs h;obtain⟨v,r,rfl,q1,q2⟩:=reps_cons.mp h;exact reps_cons.mpr #[v,r,rfl,Aw g ro q1,ih q2]
def Ay{S:SpX}{Q:VK}{E:XK}(h:lSpM K (lend S) vs H Q E):lSpX K S vs H Q E:=by
 obtain⟨F,ds,M,fh,rs,rm,R,RX,⟨a,x,fs,hm,hS⟩,q,qx⟩:=h;have ma:=bj hm;obtain⟨C,dx,ws,n,hH,rf⟩:=rm.ok _ _ ma;have fa:=rm.fr a (bH ma);have g:Same F (upd F a (.ins C dx ws)):=aP fa _;have g2:Same (upd F a (.ins C dx ws)) H:=λb o e=>by
  by_cases hb:b=a
  .subst hb;rw[av]at e;cases e;exact hH
  .rw[aj hb]at e;exact fh b o e
 have ro:Rep K (upd F a (.ins C dx ws)) (.obj x fs) (.ref a):=by
  unfold Rep;exact#[a,C,dx,ws,rfl,n,av,RepF.mono g fs ws rf]
 refine#[upd F a (.ins C dx ws),_,g2,Ax g ro rs,_,_,hS,λd v F' H' g' hd rd=>?_,λ_ _ _ _ _ _ _ z=>z.elim];have ea:F' a=be (.ins C dx ws):=g'.ff a _ av;have ff:Same F (cutF F' a):=λb o e=>by
  have ne:b≠a:=λz=>by rw[z,fa]at e;cases e
  rw[fO ne];exact g'.ff b o (by rw[aj ne];exact e)
 have QR:Same (cutF F' a) H':=λb o e=>by
  by_cases hb:b=a
  .subst hb;unfold cutF at e;rw[if_pos rfl]at e;cases e
  .rw[fO hb]at e;exact g'.fh b o e
 have out:∀b,F b=G_->H b≠G_->cutF F' a b=none:=λb h1 h2=>by
  by_cases hb:b=a
  .subst hb;exact if_pos rfl
  .rw[fO hb];exact g'.out b (by rw[aj hb];exact h1) h2
 exact q d v M (cutF F' a) H' #[ff,QR,λb o _ e=>g'.hh b o e,λb _ h1 h2=>out b h1 h2,λb z=>.inl z] hd.2 (Rep.cutF ea d v hd.1 rd)
  #[rm.nd,λb o hb=>(rm.ok b o hb).mono ff λo e=>g'.hh b o e,λb hb=>out b (rm.fr b hb) (rm.here hb)]
def NoOwn(z:SD):Prop:=∀(i:Nat) ds,z[i]?≠be (be (.own ds))
def ofB(B H:Hp)(M:MS):Hp:=λb=>if b∈ao M then H b else B b
def jOf(B H F:Hp)(M:MS):Jx:=#[ofB B H M,F,λ_ _ _=>False]
def endD(E:EndsM)(M:MS):EndsD:=#[λz=>E.nx z M/\NoOwn z,λd=>E.rt d M,λz=>E.bk z M/\NoOwn z,λz=>E.ct z M/\NoOwn z]
def mPS(t:TSD):TMS:=λE z M=>t (endD E M) z
section
variable {X:Cx}[J:Jm]
variable{B H:Hp}{M:MS}
def kJ{b:KF}(h:b∈ao M):ofB B H M b=H b:=if_pos h
def kK{b:KF}(h:b∉ao M):ofB B H M b=B b:=if_neg h
variable{K:Ex}{F0 F:Hp}{z:SD}{s:L2.St}
def cZ{F' H':Hp}(k:Kept J.B F0 F H)(rz:RepZ K J.B F H z s M)(k':@Kept (jOf J.B H F M) (ofB J.B H M) F F' H'):Kept J.B F0 F' H'/\RepM K F' H' M:=by
 have nk:∀b,J.B b≠G_->b∉ao M:=λb e z=>e (rz.mb b z);obtain⟨bh,fh,f0,out,_,_,_⟩:=k';refine#[#[λb o e=>?_,fh,k.f0.trans f0,λb h1 h2=>?_,k.eb,k.jf,k.jo],rz.rm.nd,λb o hb=>(rz.rm.ok b o hb).mono f0 λo e=>?_,λb hb=>?_]
 .exact bh b o (by rw[kK (nk b (by rw[e];exact λz=>nomatch z))];exact e)
 .exact out b (k.out b h1 h2) (by rw[kK (nk b h2)];exact h2)
 .exact bh b o (by rw[kJ (bH hb)];exact e)
 .exact out b (rz.rm.fr b hb) (by rw[kJ hb];exact rz.rm.here hb)
def fP{B':Hp}(r:RepS K B F H z s)(no:NoOwn z):RepS K B' F H z s:=#[r.len,r.val,λi ds e=>absurd e (no i ds),r.apart]
def tG(k:Kept J.B F0 F H):@Kept (jOf J.B H F M) (ofB J.B H M) F F H:=
 @Kept.mk (jOf J.B H F M) _ _ _ _ (λb o e=>by
  by_cases hb:b∈ao M
  .rw[kJ hb]at e;exact e
  .rw[kK hb]at e;exact k.bh b o e) k.fh (Same.refl F) (λ_ h _=>h) rfl (Same.refl F) (λ_ h _=>h)
def tH{ED:EndsM}{D:Ends}(k:Kept J.B F0 F H)(rz:RepZ K J.B F H z s M)(e:EndsOkM K F0 ED D):@EndsOk (jOf J.B H F M) K (ofB J.B H M) F (endD ED M) D:=
 @EndsOk.mk (jOf J.B H F M) _ _ _ _ _ (λz' s' F' H' k' hz r'=>e.nx z' s' M F' H' (cZ k rz k').1 hz.1 #[fP r' hz.2,hz.2,(cZ k rz k').2,rz.mb])
  (λd v F' H' k' hd rd=>e.rt d v M F' H' (cZ k rz k').1 hd rd (cZ k rz k').2 rz.mb)
  (λz' s' F' H' k' hz r'=>e.bk z' s' M F' H' (cZ k rz k').1 hz.1 #[fP r' hz.2,hz.2,(cZ k rz k').2,rz.mb])
  (λz' s' F' H' k' hz r'=>e.ct z' s' M F' H' (cZ k rz k').1 hz.1 #[fP r' hz.2,hz.2,(cZ k rz k').2,rz.mb])
def Az{st:R3}{t:TSD}(h:∀J':Jx,@WDS X J' st t):MSt X st (mPS t):=⟨λpins s σ H D I q=>by
 obtain⟨F0,F,z,M,k,rz,ED,ht,e⟩:=q;exact @WDS.out X (jOf J.B H F M) st t (h _) pins s σ H D I #[ofB J.B H M,F,F,z,tG k,fP rz.rs rz.no,_,ht,tH k rz e]⟩
def mTry(tb:Jm->TMS)(th:TH):TMS:=λE z M=>∃RM:SD->MS->XD,(∀J':Jm,J'.RM=RM->tb J' E z M)/\∀z' M' x fs,RM z' M' x fs->th x fs (endD E M') z'
def jTry(B F0:Hp)(RM:SD->MS->XD):Jm:={B:=B,F0:=F0,RX:=λ_ _ _=>False,RM:=RM}
variable{RM:SD->MS->XD}
def Kept.reM(k:Kept J.B F0 F H):@Kept (jTry J.B F0 RM).toJx J.B F0 F H:=@Kept.mk (jTry J.B F0 RM).toJx J.B F0 F H k.bh k.fh k.f0 k.out rfl (Same.refl F0) (λ_ h _=>h)
def Kept.unM{F' H':Hp}(k:Kept J.B F0 F H)(k':@Kept (jTry J.B F0 RM).toJx J.B F0 F' H'):Kept J.B F0 F' H':=by
 obtain⟨a,b,c,d,_,_,_⟩:=k';exact#[a,b,c,d,k.eb,k.jf,k.jo]
def tI{body:List R3}{h₀:Sx}{hs:List Sx}{pos:Sb}{tb:Jm->TMS}{th:TH}
  (hb:∀(pn:List (KF×Sj)) (xe:KB->KM->Prop) (J':Jm),Sq (R1 X.prog X.w) X.A X.env xe->@XOkM (X.tried pn xe) J'->@MSs (X.tried pn xe) J' body (tb J'))
  (hh:∀J':Jx,@WDH X J' (h₀::hs) th) (e8:autoParam (X.ex=[]) zA0) (A':autoParam (X.stack=X.env::X.outer) zA0) (l_:autoParam (X.env.frame=be X.env.locals) zA0):MSt X (.Try body (h₀::hs) [] [] pos) (mTry tb th):=⟨by
 intro pins s σ H D I h;obtain⟨F0,F,z,M,k,rz,ED,⟨RM,h1,h2⟩,ee⟩:=h;have ok:=I.ok;have hx:@XOkM (X.tried (X.pn++pins) (λe s₁=>R4 (R1 X.prog X.w) X.A (S3 e X.env) (λ_ s₂=>R4 (R1 X.prog X.w) X.A (Tj e G_) (λ_ s₃=>R4 (R1 X.prog X.w) X.A (Tu e X.env (h₀::hs)) (SP X pins D) X.xe s₃) X.xe s₂) X.xe s₁)) (jTry J.B F0 RM):=by
  intro σ' z' M' F' H' s' e C od x fs I1 kk rr hR er hd;have k2:Kept J.B F0 F' H':=Kept.unM k kk;exact zo (Inv.untried ok I1) hd e8 A' l_ λs4 T2 I4 hl=>@WDH.out X (jOf J.B H' F' M') _ _ (hh _) pins s4 σ' H' D e C od T2 x fs (ofB J.B H' M') F' F' z' (endD ED M') I4 hl (tG k2) (fP rr.rs rr.no) er (h2 z' M' x fs hR) (tH k2 rr ee)
 refine wpAny_Try_except (Sf (@MSs.out _ (jTry J.B F0 RM) _ _ (hb (X.pn++pins) _ (jTry J.B F0 RM) PassesOwn.looking hx) [] s σ H D (Inv.tried I) ?_) (λf s1 q=>?_) λe s1 q=>q)
 .exact#[F0,F,z,M,Kept.reM k,rz,ED,h1 (jTry J.B F0 RM) rfl,@EndsOkM.mk (jTry J.B F0 RM) _ _ _ _ (λz' s' M' F' H' k'=>ee.nx z' s' M' F' H' (Kept.unM k k')) (λd v M' F' H' k'=>ee.rt d v M' F' H' (Kept.unM k k')) (λz' s' M' F' H' k'=>ee.bk z' s' M' F' H' (Kept.unM k k')) (λz' s' M' F' H' k'=>ee.ct z' s' M' F' H' (Kept.unM k k'))]
 .have q:=SP.untried ok q;cases f with
  |next=>exact SQ q
  |ret v=>exact q
  |brk=>exact q
  |cont=>exact q⟩
end
end My
namespace My
section
variable {K:Ex}{h:Heap}{mg:JM->Option KB}{x y m q f:JM}{st:R3}{ps:List JM}
abbrev NsC(K:Ex)(x:JM)(C:KF):Prop:=nsIn K Pi x=be (be (.ref C))
variable{C:KF}
def NsC.uniq{D:KF}(a:NsC K x C)(b:NsC K x D):C=D:=by
 have e:=a.symm.trans b;cases e;rfl
abbrev BindA(x q:JM)(st:R3)(ps:List JM):Prop:=∀(kV doc pm:KB) (an:Option KF) (cdv ct:KB) (us:List KB),us.length=ps.length->SN (fnOf x q (br st) (aG st) (ag st) .none kV doc pm an cdv ct) #[us,[]]=pure (ps.zip us)
def FnIn(K:Ex)(x:JM)(st:R3):Prop:=∃f fd,NsC K x f/\Fun K x x st f fd
variable{oc kV dc pm cd ct:KB}{od an:Option KF}{sl:Array (Option KB)}
def fnIn_mk{f:KF}(a:nsIn K Pi x=be (be (.ref f)))(l:K.lookup f=be #[oc,od,.func (fnOf x x (br st) (aG st) (ag st) .none kV dc pm an cd ct),sl])(c:codeIn K cd x=true)(k:keepIn K (.ref f)=true):FnIn K x st:=#[f,_,a,gx l c k]
def FnIn.tx(T:FnIn K x st)(X:K.In h)(G:h.Ns Pi mg)(b:BindA x x st ps):Tx K mg x st ps:=by
 obtain⟨f,fd,a,F⟩:=T;exact#[f,fd,F,F.binds b,mg_of X G a]
def FnIn.law{p:JM}(T:FnIn K x st)(X:K.In h)(G:h.Ns Pi mg){fa:KF}(KD:mg x=be (.ref fa))(b:∀(kV doc pm:KB) (an:Option KF) (cdv ct v:KB),SN (fnOf x x (br st) (aG st) (ag st) .none kV doc pm an cdv ct) #[[v],[]]=pure [(p,v)]):∃fd,(∀(s:KM) (v:KB),S5 s fd #[[v],[]] [(p,v)])/\Fun K x x st fa fd:=by
 obtain⟨f,fd,a,F⟩:=T;have e:=KD.symm.trans (mg_of X G a);cases e;refine#[fd,λs v=>?_,F];obtain⟨oc,od,kV,doc,pm,an,cdv,ct,osl,rfl,lk,gV⟩:=F.ex;exact .of_eq (b _ _ _ _ _ _ v)
variable{us:List KB}
def aX{x:JM}{xs:List JM}(h:us.length=(x::xs).length):∃u t,us=u::t/\t.length=xs.length:=by
 cases us with
 |nil=>cases h
 |cons u t=>exact#[u,t,rfl,Nat.succ.inj h]
def len_0(h:us.length=([]:List JM).length):us=[]:=Hn h
variable{x0:JM}
def AA(b:∀(kV doc pm:KB) (an:Option KF) (cdv ct u0:KB),SN (fnOf x q (br st) (aG st) (ag st) .none kV doc pm an cdv ct) #[[u0],[]]=pure [(x0,u0)]):BindA x q st [x0]:=λkV doc pm an cdv ct us hl=>by
 obtain⟨u0,t0,rfl,h0⟩:=aX hl;cases len_0 h0;exact b kV doc pm an cdv ct u0
variable{x1:JM}
def bind2(b:∀(kV doc pm:KB) (an:Option KF) (cdv ct u0 u1:KB),SN (fnOf x q (br st) (aG st) (ag st) .none kV doc pm an cdv ct) #[[u0,u1],[]]=pure [(x0,u0),(x1,u1)]):BindA x q st [x0,x1]:=λkV doc pm an cdv ct us hl=>by
 obtain⟨u0,t0,rfl,h0⟩:=aX hl;obtain⟨u1,t1,rfl,h1⟩:=aX h0;cases len_0 h1;exact b kV doc pm an cdv ct u0 u1
variable{x2:JM}
def bind3(b:∀(kV doc pm:KB) (an:Option KF) (cdv ct u0 u1 u2:KB),SN (fnOf x q (br st) (aG st) (ag st) .none kV doc pm an cdv ct) #[[u0,u1,u2],[]]=pure [(x0,u0),(x1,u1),(x2,u2)]):BindA x q st [x0,x1,x2]:=λkV doc pm an cdv ct us hl=>by
 obtain⟨u0,t0,rfl,h0⟩:=aX hl;obtain⟨u1,t1,rfl,h1⟩:=aX h0;obtain⟨u2,t2,rfl,h2⟩:=aX h1;cases len_0 h2;exact b kV doc pm an cdv ct u0 u1 u2
variable{x3:JM}
def bind4(b:∀(kV doc pm:KB) (an:Option KF) (cdv ct u0 u1 u2 u3:KB),SN (fnOf x q (br st) (aG st) (ag st) .none kV doc pm an cdv ct) #[[u0,u1,u2,u3],[]]=pure [(x0,u0),(x1,u1),(x2,u2),(x3,u3)]):BindA x q st [x0,x1,x2,x3]:=λkV doc pm an cdv ct us hl=>by
 obtain⟨u0,t0,rfl,h0⟩:=aX hl;obtain⟨u1,t1,rfl,h1⟩:=aX h0;obtain⟨u2,t2,rfl,h2⟩:=aX h1;obtain⟨u3,t3,rfl,h3⟩:=aX h2;cases len_0 h3;exact b kV doc pm an cdv ct u0 u1 u2 u3
def bind5{x4:JM}(b:∀(kV doc pm:KB) (an:Option KF) (cdv ct u0 u1 u2 u3 u4:KB),SN (fnOf x q (br st) (aG st) (ag st) .none kV doc pm an cdv ct) #[[u0,u1,u2,u3,u4],[]]=pure [(x0,u0),(x1,u1),(x2,u2),(x3,u3),(x4,u4)]):BindA x q st [x0,x1,x2,x3,x4]:=λkV doc pm an cdv ct us hl=>by
 obtain⟨u0,t0,rfl,h0⟩:=aX hl;obtain⟨u1,t1,rfl,h1⟩:=aX h0;obtain⟨u2,t2,rfl,h2⟩:=aX h1;obtain⟨u3,t3,rfl,h3⟩:=aX h2;obtain⟨u4,t4,rfl,h4⟩:=aX h3;cases len_0 h4;exact b kV doc pm an cdv ct u0 u1 u2 u3 u4
def bind6{x4 x5:JM}(b:∀(kV doc pm:KB) (an:Option KF) (cdv ct u0 u1 u2 u3 u4 u5:KB),SN (fnOf x q (br st) (aG st) (ag st) .none kV doc pm an cdv ct) #[[u0,u1,u2,u3,u4,u5],[]]=pure [(x0,u0),(x1,u1),(x2,u2),(x3,u3),(x4,u4),(x5,u5)]):BindA x q st [x0,x1,x2,x3,x4,x5]:=λkV doc pm an cdv ct us hl=>by
 obtain⟨u0,t0,rfl,h0⟩:=aX hl;obtain⟨u1,t1,rfl,h1⟩:=aX h0;obtain⟨u2,t2,rfl,h2⟩:=aX h1;obtain⟨u3,t3,rfl,h3⟩:=aX h2;obtain⟨u4,t4,rfl,h4⟩:=aX h3;obtain⟨u5,t5,rfl,h5⟩:=aX h4;cases len_0 h5;exact b kV doc pm an cdv ct u0 u1 u2 u3 u4 u5
structure ClF(K:Ex)(x:Str)(C:KF):Prop where
 ns:NsC K x C
 cl:Cls K C
 ha:FZ K (.ref C) "__class__"=be (be (.builtin "object.__class__"))
 hn:specialIn K (.builtin "object.__class__") "__get__"=be (be (.builtin "getset_descriptor.__get__"))
 ht:takesIn K (.builtin "object.__class__")=be true
 hm:GP K C (.type "object")=be true
def ClIn(K:Ex)(x:JM):Prop:=∃C,ClF K x C
def clIn_mk(a:nsIn K Pi x=be (be (.ref C)))(pg:plainGet K C Str.empty=true)(hd:hasDictIn K C=true)(po:plainOver K C=true)(sa:FZ K (.ref C) "__setattr__"=be (be (.builtin "object.__setattr__")))
  (ha:FZ K (.ref C) "__class__"=be (be (.builtin "object.__class__"))) (hn:specialIn K (.builtin "object.__class__") "__get__"=be (be (.builtin "getset_descriptor.__get__"))) (ht:takesIn K (.builtin "object.__class__")=be true) (hm:GP K C (.type "object")=be true):ClIn K x:=#[C,a,#[pg,hd,po,sa],ha,hn,ht,hm]
def NoIn(K:Ex)(x f:JM):Prop:=∃C,NsC K x C/\FZ K (.ref C) f=be G_
def noIn_mk(a:nsIn K Pi x=be (be (.ref C)))(b:FZ K (.ref C) f=be G_):NoIn K x f:=#[C,a,b]
def ClIn.a(c:ClIn K x)(n:NoIn K x f):ClsA K x f:=by
 obtain⟨C,k⟩:=c;obtain⟨D,a,b⟩:=n;cases NsC.uniq k.ns a;exact#[C,a,k.cl,b]
def NoIn.all(n:NoIn K x f):∀C,nsIn K Pi x=be (be (.ref C))->FZ K (.ref C) f=be none:=λC hC=>by
 obtain⟨D,a,b⟩:=n;cases NsC.uniq hC a;exact b
def MtIn(K:Ex)(x m q:JM)(st:R3):Prop:=∃C f fd,NsC K x C/\Meth K C m f/\Fun K m q st f fd
def mtIn_mk{f:KF}(a:nsIn K Pi x=be (be (.ref C)))(b:FZ K (.ref C) m=be (be (.ref f)))(i:isFn K (.ref f)=true)(l:K.lookup f=be #[oc,od,.func (fnOf m q (br st) (aG st) (ag st) .none kV dc pm an cd ct),sl])(c:codeIn K cd q=true)(k:keepIn K (.ref f)=true):MtIn K x m q st:=#[C,f,_,a,#[b,i,k],gx l c k]
def MtIn.txm(T:MtIn K x m q st)(c:ClIn K x)(b:BindA m q st ps):Txm K x m q st ps:=by
 obtain⟨C,k⟩:=c;obtain⟨D,f,fd,a,mt,F⟩:=T;cases NsC.uniq k.ns a;exact#[C,f,fd,a,k.cl,mt,F,F.binds b]
def InIn(K:Ex)(x q:JM)(st:R3):Prop:=∃C f fd,NsC K x C/\Mk K C f/\Fun K "__init__" q st f fd
def inIn_mk{f:KF}(a:nsIn K Pi x=be (be (.ref C)))(mk:makesIn K C=true)(b:FZ K (.ref C) "__init__"=be (be (.ref f)))(i:isFn K (.ref f)=true)(kp:keepIn K (.ref C)=true)(l:K.lookup f=be #[oc,od,.func (fnOf "__init__" q (br st) (aG st) (ag st) .none kV dc pm an cd ct),sl])(c:codeIn K cd q=true)(k:keepIn K (.ref f)=true):InIn K x q st:=#[C,f,_,a,#[mk,b,i,kp],gx l c k]
def Txi(K:Ex)(mg:JM->Option KB)(x q:JM)(st:R3)(ps:List JM):Prop:=∃C f fd,NsC K x C/\mg x=be (.ref C)/\Mk K C f/\Fun K "__init__" q st f fd/\Binds K fd ps []
def InIn.txi(T:InIn K x q st)(X:K.In h)(G:h.Ns Pi mg)(b:BindA "__init__" q st ps):Txi K mg x q st ps:=by
 obtain⟨C,f,fd,a,mk,F⟩:=T;exact#[C,f,fd,a,mg_of X G a,mk,F,F.binds b]
def CiIn(K:Ex)(x:JM)(i:Int):Prop:=∃t,nsIn K Pi x=be (be (.int i t))
def CsIn(K:Ex)(x y:JM):Prop:=∃t,nsIn K Pi x=be (be (.str y t))
def ciIn_mk{i:Int}{t:Ul}(a:nsIn K Pi x=be (be (.int i t))):CiIn K x i:=#[t,a]
def csIn_mk{t:Ul}(a:nsIn K Pi x=be (be (.str y t))):CsIn K x y:=#[t,a]
def CiIn.g{i:Int}(c:CiIn K x i)(X:K.In h)(G:h.Ns Pi mg):∃t,mg x=be (.int i t):=let ⟨t,a⟩:=c;#[t,mg_of X G a]
def CsIn.g(c:CsIn K x y)(X:K.In h)(G:h.Ns Pi mg):∃t,mg x=be (.str y t):=let ⟨t,a⟩:=c;#[t,mg_of X G a]
def NnIn(K:Ex)(x:JM):Prop:=nsIn K Pi x=be G_
def nnIn_mk(a:nsIn K Pi x=be G_):NnIn K x:=a
structure ErF(K:Ex)(x:Str)(bm:List KB)(C N:KF):Prop where
 ns:NsC K x C
 kp:keepIn K (.ref C)=true
 ob:∃nm q bs sn sub ab col dd k0 k1 k2 k3 k5,K.lookup C=be (Sm nm q C N bs bm true sn sub ab col dd k0 k1 k2 k3 k5 "ValueError.__new__")
structure ErN(K:Ex)(N:KF):Prop where
 ok:nsOkIn K N=true
 no:nsIn K N "__init__"=be G_
def EbIn(K:Ex):Prop:=∃C N,ErF K "MotifError" Exc.veLine C N/\ErN K N
def EdIn(K:Ex)(x:JM)(C N:KF):Prop:=∃B,NsC K "MotifError" B/\ErF K x (.ref B::Exc.veLine) C N
def E0In(K:Ex)(x:JM):Prop:=∃C N,EdIn K x C N/\ErN K N
def E1In(K:Ex)(x q:JM)(st:R3):Prop:=∃C N f fd,EdIn K x C N/\FZ K (.ref C) "__init__"=be (be (.ref f))/\isFn K (.ref f)=true/\Fun K "__init__" q st f fd
def EaIn(K:Ex)(x:JM):Prop:=∃C,NsC K x C/\FZ K (.ref C) "__setattr__"=be (be (.builtin "object.__setattr__"))
def EgIn(K:Ex)(x:JM):Prop:=∃C,NsC K x C/\FZ K (.ref C) "__getattribute__"=be (be (.builtin "BaseException.__getattribute__"))/\FZ K (.ref C) "__getattr__"=be G_
def EiIn(K:Ex)(x:JM):Prop:=∃M,NsC K x M/\readsIn K M (.type "type")=true/\findCls K (.ref M) (.type "type") "__init__"=be (.val (.builtin "ValueError.__init__"))/\specialIn K (.ref M) "__getattribute__"=be (be (.builtin "type.__getattribute__"))
def EmIn(K:Ex)(x y:JM):Prop:=∃C D,NsC K x C/\NsC K y D/\GP K C (.ref D)=be (subE x y)
section
variable {B C D N:KF}{nm qn:JM}{bs:List KB}{sn:List JM}{sub:List KB}{ab:Bool}{col:Option Bool}{dd:Option KF}{k0 k1 k2 k3 k5:Option KB}{nc:KB}{nd:Option KF}{ne:Array DictEntry}{np:Nat}{nl:Array (Option KB)}
def ebIn_mk(a:nsIn K Pi "MotifError"=be (be (.ref C)))(kp:keepIn K (.ref C)=true)(o:K.lookup C=be (Sm nm qn C N bs Exc.veLine true sn sub ab col dd k0 k1 k2 k3 k5 "ValueError.__new__"))(nk:K.lookup N=be #[nc,nd,.dict ne np,nl])(al:ne.toList.all (λe=>match e.key with|.str _ _=>true|_=>false)=true)(ni:nsIn K N "__init__"=be G_):EbIn K:=#[C,N,#[a,kp,_,_,_,_,_,_,_,_,_,_,_,_,_,o],sI nk al,ni]
def e0In_mk(b:nsIn K Pi "MotifError"=be (be (.ref B)))(a:nsIn K Pi x=be (be (.ref C)))(kp:keepIn K (.ref C)=true)(o:K.lookup C=be (Sm nm qn C N bs (.ref B::Exc.veLine) true sn sub ab col dd k0 k1 k2 k3 k5 "ValueError.__new__"))(nk:K.lookup N=be #[nc,nd,.dict ne np,nl])(al:ne.toList.all (λe=>match e.key with|.str _ _=>true|_=>false)=true)(ni:nsIn K N "__init__"=be G_):E0In K x:=#[C,N,#[B,b,a,kp,_,_,_,_,_,_,_,_,_,_,_,_,_,o],sI nk al,ni]
def e1In_mk{f:KF}{oc:KB}{od an:Option KF}{sl:Array (Option KB)}{kV dc pm cd ct:KB}(b:nsIn K Pi "MotifError"=be (be (.ref B)))(a:nsIn K Pi x=be (be (.ref C)))(kp:keepIn K (.ref C)=true)(o:K.lookup C=be (Sm nm qn C N bs (.ref B::Exc.veLine) true sn sub ab col dd k0 k1 k2 k3 k5 "ValueError.__new__"))
  (j:FZ K (.ref C) "__init__"=be (be (.ref f))) (i:isFn K (.ref f)=true) (l:K.lookup f=be #[oc,od,.func (fnOf "__init__" q (br st) (aG st) (ag st) .none kV dc pm an cd ct),sl]) (c:codeIn K cd q=true) (k:keepIn K (.ref f)=true):E1In K x q st:=#[C,N,f,_,#[B,b,a,kp,_,_,_,_,_,_,_,_,_,_,_,_,_,o],j,i,gx l c k]
def eaIn_mk(a:nsIn K Pi x=be (be (.ref C)))(b:FZ K (.ref C) "__setattr__"=be (be (.builtin "object.__setattr__"))):EaIn K x:=#[C,a,b]
def egIn_mk(a:nsIn K Pi x=be (be (.ref C)))(b:FZ K (.ref C) "__getattribute__"=be (be (.builtin "BaseException.__getattribute__")))(c:FZ K (.ref C) "__getattr__"=be G_):EgIn K x:=#[C,a,b,c]
def eiIn_mk(a:nsIn K Pi x=be (be (.ref C)))(b:readsIn K C (.type "type")=true)(c:findCls K (.ref C) (.type "type") "__init__"=be (.val (.builtin "ValueError.__init__")))(d:specialIn K (.ref C) "__getattribute__"=be (be (.builtin "type.__getattribute__"))):EiIn K x:=#[C,a,b,c,d]
def emIn_mkT(e:subE x y=true)(a:nsIn K Pi x=be (be (.ref C)))(c:nsIn K Pi y=be (be (.ref D)))(d:GP K C (.ref D)=be true):EmIn K x y:=#[C,D,a,c,e ▸ d]
def emIn_mkF(e:subE x y=false)(a:nsIn K Pi x=be (be (.ref C)))(c:nsIn K Pi y=be (be (.ref D)))(d:GP K C (.ref D)=be false):EmIn K x y:=#[C,D,a,c,e ▸ d]
end
def EdIn.k{N:KF}(e:EdIn K x C N)(b:EbIn K)(X:K.In h)(G:h.Ns Pi mg):∃bm,ErrK K mg x C N bm:=by
 obtain⟨B,hB,k⟩:=e;obtain⟨B',N',kb,n⟩:=b;cases NsC.uniq kb.ns hB;obtain⟨_,_,_,_,_,_,_,_,_,_,_,_,_,o⟩:=kb.ob;exact#[_,k.ns,mg_of X G k.ns,k.kp,k.ob,zr o rfl n.ok n.no]
def E0In.k(e:E0In K x)(b:EbIn K)(X:K.In h)(G:h.Ns Pi mg):∃C N bm,ErrK K mg x C N bm/\ErrN K N:=by
 obtain⟨C,N,k,n⟩:=e;obtain⟨bm,z⟩:=k.k b X G;exact#[C,N,bm,z,n.ok,n.no]
def Txe(K:Ex)(mg:JM->Option KB)(x q:JM)(st:R3)(ps:List JM):Prop:=∃C N bm f fd,ErrK K mg x C N bm/\FZ K (.ref C) "__init__"=be (be (.ref f))/\isFn K (.ref f)=true/\Fun K "__init__" q st f fd/\Binds K fd ps []
def E1In.txe(e:E1In K x q st)(b:EbIn K)(X:K.In h)(G:h.Ns Pi mg)(bi:BindA "__init__" q st ps):Txe K mg x q st ps:=by
 obtain⟨C,N,f,fd,k,i,j,F⟩:=e;obtain⟨bm,z⟩:=k.k b X G;exact#[C,N,bm,f,fd,z,i,j,F,F.binds bi]
def ErrK.a'{N:KF}{bm:List KB}(k:ErrK K mg x C N bm)(a:EaIn K x):∃C cd,ErrA K x C cd:=by
 obtain⟨D,hD,sa⟩:=a;cases NsC.uniq k.ns hD;exact#[C,k.a sa]
def E1In.a(e:E1In K x q st)(b:EbIn K)(a:EaIn K x)(X:K.In h)(G:h.Ns Pi mg):∃C cd,ErrA K x C cd:=by
 obtain⟨C,N,f,fd,k,_⟩:=e;obtain⟨bm,z⟩:=k.k b X G;exact z.a' a
def E1In.c(e:E1In K x q st)(b:EbIn K)(X:K.In h)(G:h.Ns Pi mg):∃C N bm,ErrK K mg x C N bm:=by
 obtain⟨C,N,f,fd,k,_⟩:=e;obtain⟨bm,z⟩:=k.k b X G;exact#[C,N,bm,z]
def EiIn.b(e:EiIn K x)(X:K.In h)(G:h.Ns Pi mg):∃M,BaseK K mg x M:=by
 obtain⟨M,a,b,c,d⟩:=e;exact#[M,mg_of X G a,b,c,d]
def EgIn.g(e:EgIn K x)(a:∃C cd,ErrA K x C cd)(n:NoIn K x f):ErrG K f x:=by
 obtain⟨C,h1,h2,h3⟩:=e;obtain⟨D,cd,ea⟩:=a;cases NsC.uniq ea.ns h1;exact#[C,cd,ea,h2,h3,n.all C h1]
def AllP(p:JM->Prop):List JM->Prop
 |[]=>True
 |a::l=>p a/\AllP p l
def AllP.mem{p:JM->Prop}:∀{l:List JM},AllP p l->∀x∈l,p x
 |_::_,h,_,.head _=>h.1
 |_::_,h,_,.tail _ m=>AllP.mem h.2 _ m
def AB{es:List JM}(c:AllP (λx=>∃C N bm,ErrK K mg x C N bm) es)(s:AllP (λx=>AllP (λy=>EmIn K x y) es) es):ErrsK K mg es:=by
 refine#[c.mem,λx hx y hy C C' h1 h2=>?_];obtain⟨A,B,a,b,m⟩:=(s.mem x hx).mem y hy;cases NsC.uniq a h1;cases NsC.uniq b h2;exact m
end
structure Bx where
 P:P3
 w:R5
 K:Ex
 mg:JM->Option KB
 base:Heap
abbrev Bx.T(V:Bx)(x:JM)(st:R3)(ps:List JM):Prop:=Tx V.K V.mg x st ps
abbrev Bx.Tm(V:Bx)(x m q:JM)(st:R3)(ps:List JM):Prop:=Txm V.K x m q st ps
abbrev Bx.Ti(V:Bx)(x q:JM)(st:R3)(ps:List JM):Prop:=Txi V.K V.mg x q st ps
abbrev Bx.Te(V:Bx)(x q:JM)(st:R3)(ps:List JM):Prop:=Txe V.K V.mg x q st ps
abbrev Bx.Ek(V:Bx)(es:List JM):Prop:=ErrsK V.K V.mg es
abbrev Bx.m(V:Bx)(x:JM):Prop:=V.mg x=G_
abbrev Bx.gi(V:Bx)(x:JM)(i:Int):Prop:=∃t,V.mg x=be (.int i t)
abbrev Bx.gs(V:Bx)(x y:JM):Prop:=∃t,V.mg x=be (.str y t)
abbrev Bx.a(V:Bx)(x f:JM):Prop:=ClsA V.K x f
abbrev Bx.D(V:Bx)(n:Nat)(x:JM)(ps:List JM)(S:SpD):Prop:=CalD V.P V.w V.K V.mg V.base n x ps S
abbrev Bx.X(V:Bx)(n:Nat)(x:JM)(ps:List JM)(S:SpX):Prop:=CalX V.P V.w V.K V.mg V.base n x ps S
abbrev Bx.MM(V:Bx)(n:Nat)(x:JM)(ps:List JM)(S:SpM):Prop:=CalMM V.P V.w V.K V.mg V.base n x ps S
abbrev Bx.M(V:Bx)(n:Nat)(x:JM)(ps:List JM)(S:SiD):Prop:=CalM V.P V.w V.K V.mg V.base n x ps S
abbrev Bx.E(V:Bx)(n:Nat)(x:JM)(ps:List JM)(S:SiD):Prop:=CalE V.P V.w V.K V.mg V.base n x ps S
abbrev Bx.Q(V:Bx)(n:Nat)(x m:JM)(ps:List JM)(S:SpM):Prop:=CalMth V.P V.w V.K V.mg V.base n x m ps (lSpM V.K S)
abbrev Bx.n(V:Bx)(x:JM):Prop:=∃C N bm,ErrK V.K V.mg x C N bm/\ErrN V.K N
abbrev Bx.b(V:Bx)(x:JM):Prop:=∃M,BaseK V.K V.mg x M
abbrev Bx.ea(V:Bx)(x:JM):Prop:=∃C cd,ErrA V.K x C cd
abbrev Bx.xf(V:Bx)(x f:JM):Prop:=∀C,nsIn V.K Pi x=be (be (.ref C))->FZ V.K (.ref C) f=be G_
abbrev Bx.x(V:Bx)(f:JM)(ys:List JM):Prop:=∀y∈ys,ErrG V.K f y
section
variable {P:P3}{w:R5}{K:Ex}{mg:JM->Option KB}{base:Heap}
variable{x qual p0:JM}{st:R3}{N ps:List JM}{k:Nat}{S:SiD}
def Txi.okI(T:Txi K mg x qual st (p0::ps))(F:FnScope (p0::N) (p0::ps) (ag st))(len:∀ds R,S ds R->ds.length=ps.length)
  (a_:∀(f:KF) (cdv:KB) (A:R6) (outer:List SU) (s:KM) (H:Hp) (E:XK) (J:Jx),Room k (A.deeper (Se qual (ag st) s.heap.objs.size f cdv))->
   ∃t,WDI (cxOf (Exc.CX1 P w) P w K mg base (p0::N) qual (ag st) f cdv A outer s H E).nox x (aG st) t/\∀ds R,S ds R->t (G_::startD N ds) [] R):CalM P w K mg base (k+1) x (p0::ps) S:=by
 obtain⟨C,f,fd,a,b,c,d,e⟩:=T;exact Cls.okIW d e F len a b c (a_ f)
def Txi.okIM(T:Txi K mg x qual st (p0::ps))(F:FnScope N (p0::ps) (ag st))(len:∀ds R,S ds R->ds.length=ps.length)
  (a_:∀(f:KF) (cdv:KB) (A:R6) (outer:List SU) (s:KM) (H:Hp) (E:XK) (J:Jm),Room k (A.deeper (Se qual (ag st) s.heap.objs.size f cdv))->XOkM (cxOf (Exc.CX1 P w) P w K mg base N qual (ag st) f cdv A outer s H E).nox->
   ∃t,MSs (cxOf (Exc.CX1 P w) P w K mg base N qual (ag st) f cdv A outer s H E).nox (aG st) t/\∀a ds R,(∀z M x fs,¬J.RM z M x fs)->S ds R->t {nx:=λ_ M'=>∃fs,M'=[(a,.ins x fs)]/\R fs,rt:=λ_ _=>False} (startD N (.ptr a::ds)) [(a,.ins x [])]):CalM P w K mg base (k+1) x (p0::ps) S:=by
 obtain⟨C,f,fd,a,b,c,d,e⟩:=T;exact Cls.okIM d e F len a b c (a_ f)
def Txe.okE(T:Txe K mg x qual st (p0::ps))(F:FnScope (p0::N) (p0::ps) (ag st))(len:∀ds R,S ds R->ds.length=ps.length)
  (a_:∀(f:KF) (cdv:KB) (A:R6) (outer:List SU) (s:KM) (H:Hp) (E:XK) (J:Jx),Room k (A.deeper (Se qual (ag st) s.heap.objs.size f cdv))->
   ∃t,WDX (cxOf (Exc.CX1 P w) P w K mg base (p0::N) qual (ag st) f cdv A outer s H E).nox x (aG st) t/\∀ds R,S ds R->t (G_::startD N ds) [] R):CalE P w K mg base (k+1) x (p0::ps) S:=by
 obtain⟨C,N',bm,f,fd,a,b,c,d,e⟩:=T;exact Cls.okEW d e F len a b c (a_ f)
end
section
variable {X:Cx}[J:Jx]{a b c e o h_ iter:RZ}{es:List RZ}{ta tb tc te to ti tj:TD}{tt:TDT}{t:TDA}{pos px:Sb}{x:JM}{scope:Sw}
def kL(ix:Nat)(Ky:TDI)(te:TD):TSD:=λE z=>Ky z (cmpP te z λd=>match d with|.lst ys=>E.nx (z.set ix (be (.own ys)))|_=>False)
def tJ{K:Ex}{E:Ends}{s:L2.St}{H:Hp}{ix:Nat}{wi:TI}{Ky:TDI}(hI:ItOk K wi Ky)(q:lS K (kL ix Ky te) E s H):tAsg (gJ wi (lT K dT1) (lE K te)) (gp ix) E s H:=by
 obtain⟨B,F0,F,z,k,rs,ED,h,e⟩:=q;refine hI k.kf rs h λitems J F1 H1 g1 hg it=>sq (Q:=λv H=>E.nx (s.set ix (be v)) H) k.kf g1 rs (λD ys us F' H' hH hF GG hu ry hR=>?_) it (cmpP.g hg);have r2:=(rs.grow GG).setOwn (i:=ix) (a:=D) (k.bh.free hH) hF ry λj dj _ q1 q2=>by
  obtain⟨a,vs,p1,p2,_⟩:=rs.own j dj q1;rw[p1]at q2;cases q2;rw[hH]at p2;cases p2
 rw[sE hu]at r2;exact e.nx _ _ F' H' (k.grow GG) hR r2
def AC(ix:Nat){y:JM}{py n5:Sb}(hc:X.calm=true)(S:CompScope X scope x)(hN:X.N.Nodup)(hi:WDE X iter ti)(he:∀cl s₀ H₀ fp,WDE (bT X scope cl x s₀ H₀ fp) h_ te)(LB:autoParam (X.N[ix]?=be y) zA0)(hy:autoParam (Loc X.env.scope y) zA4)
  (hf:autoParam (zFN X y) zA2) (Kb:autoParam (Sg (.ListComp h_ [#[.Name x px,iter,[],0]] scope pos) (be (.Name y py)) n5.line X.env=pure true) zA0) (hs:autoParam (∀y,zFS X iter y) zA3):
  WDS X (.Assign [.Name y py] (.ListComp h_ [#[.Name x px,iter,[],0]] scope pos) n5) (kL ix (dItS ti) te):=#[(so hc S (sN hi.out) (λ_ _ _ _=>ko) (λa b c d=>(he a b c d).out) hN LB hy hf Kb hs).anti λE s H q=>tJ itS q]
variable{p1 p2:Sb}
def AD(ix:Nat){y:JM}{py n5:Sb}(hc:X.calm=true)(S:CompScope X scope x)(hN:X.N.Nodup)(hm:X.mg "range"=G_)(hi:WDE X iter ti)(he:∀cl s₀ H₀ fp,WDE (bT X scope cl x s₀ H₀ fp) h_ te)(hg:autoParam (Gl X "range") zA0)(LB:autoParam (X.N[ix]?=be y) zA0)(hy:autoParam (Loc X.env.scope y) zA4)
  (hf:autoParam (zFN X y) zA2) (Kb:autoParam (Sg (.ListComp h_ [#[.Name x px,.Call (.Name "range" p1) [iter] [] p2,[],0]] scope pos) (be (.Name y py)) n5.line X.env=pure true) zA0)
  (hs:autoParam (∀y,zFS X (.Call (.Name "range" p1) [iter] [] p2) y) zA3) (p_:autoParam (zSE X iter []) zA0) (f8:autoParam (R8 [iter] X.env=[(false,Sa iter X.env)]) zA0):
  WDS X (.Assign [.Name y py] (.ListComp h_ [#[.Name x px,.Call (.Name "range" p1) [iter] [] p2,[],0]] scope pos) n5) (kL ix (dItR ti) te):=#[(so hc S (gq hg hm (bo hi.out pa_nil p_) f8) (λ_ _ _ _=>ko) (λa b c d=>(he a b c d).out) hN LB hy hf Kb hs).anti λE s H q=>tJ itR q]
def FU:RDn:=λds R=>match ds with|[.lst xs]=>∃ns:List Int,xs=ns.map D.int/\0<ns.length/\∀m,m∈ns->(∀a∈ns,m<=a)->R (.int m)|_=>False
def rSCount:RTx:=λy ds R=>match ds with|[.str p]=>R (.int (Builtin.Str.occurrences y p 0 y.length (y.length+1)).length)|_=>False
def AE:MtS X "str.count" rSCount:=by
 refine#[λx vs H Q=>∃y p,x=.str y/\vs=[.str p]/\Q (.int (Builtin.Str.occurrences y p 0 y.length (y.length+1)).length) H,?_,?_]
 .intro pins s σ H x vs v us Q I rx rv h;obtain⟨y,p,rfl,rfl,q⟩:=h;obtain⟨t,rfl⟩:=rx;obtain⟨u,rfl,t',rfl⟩:=bR rv;exact SC.count #[.int _,H,I.tok _,#[_,rfl],q]
 .intro y ds vs F H R Q r h q;unfold rSCount at h;split at h
  .obtain⟨v,vr,rfl,h1,h2⟩:=reps_cons.mp r;rw[reps_nil.mp h2,rep_str.mp h1];exact#[_,_,rfl,rfl,q _ _ (λ_=>rep_int.mpr rfl) h]
  .exact h.elim
def tK{b9 a9:Sb}(ho:WDE X o to)(ha:WDA X [e] t)(c3:autoParam (R9 o "count" X.env (Sa o X.env)=Sa o X.env) zA0)
  (d_:autoParam (zHF X a9 [e]) zA0)
  (c8:autoParam ((b9.endLine==a9.line)=true) zA0) (hs:autoParam (zSE X e []) zA0):WDE X (.Call (.Attribute o "count" b9) [e] [] a9) (dTx rSCount to t):=#[kz PySem.F.slot_str_count PySem.F.type_str_count AE ho.out ha.out c3 d_ c8 hs]
def AF(is:List Nat)(ti:TDI)(tb:TSD):TSD:=λE z=>ti z λds=>∃W:Nat->SD->Prop,W 0 z/\(∀(k:Nat) x z,ds[k]?=be x->W k z->tb {E with nx:=W (k+1),ct:=W (k+1),bk:=E.nx} (bO is [.int k,x] z))/\∀z,W ds.length z->E.nx z
variable{is:List Nat}
def AG{K:Ex}{B F0 F1 H1:Hp}{z:SD}{s:L2.St}{E:Ends}{ED:EndsD}{It':It}{g:TG}{tb:TSD}{LJ:TS}{ds:List D}(k1:Kept B F0 F1 H1)(n9:RepS K B F1 H1 z s)(e:EndsOk K B F0 ED E)
  (go:∀k F' H',Same F1 F'->Same F' H'->k<ds.length->It'.go k H') (stop:∀F' H',Same F1 F'->Same F' H'->It'.stop ds.length H')
  (yld:∀k F' H' x H'',Same F1 F'->Same F' H'->k<ds.length->It'.yld k H' x H''->∃T d v,H' T=G_/\x=.ref T/\H''=upd H' T (.tup [.int k,v])/\ds[k]?=be d/\Rep K F' d v)
  (hg:∀(dd:List D) (vs:List V) (T:KF) (z:SD) (s:L2.St) (F H:Hp) (Q:L2.St->Hp->Prop),dd.length=2->H T=be (.tup vs)->Reps K F dd vs->RepS K B F H z s->(∀s',RepS K B F H (bO is dd z) s'->Q s' H)->g (.ref T) s H Q)
  (NM:∀E s H,lS K tb E s H->LJ E s H)
  (hd:∃W:Nat->SD->Prop,W 0 z/\(∀(k:Nat) x z,ds[k]?=be x->W k z->tb {ED with nx:=W (k+1),ct:=W (k+1),bk:=ED.nx} (bO is [.int k,x] z))/\∀z,W ds.length z->ED.nx z):
  ∃W:Nat->Nat->L2.St->Hp->Prop,(∃m,W 0 m s H1)/\∀i m σ H,W i m σ H->
   (It'.stop i H/\E.nx σ H)\/(It'.go i H/\∃N:L2.St->Hp->Prop,(∀σ' H',N σ' H'->∃m',m'<m/\W (i+1) m' σ' H')/\∀x H',It'.yld i H x H'->g x σ H' λσ2 H2=>LJ {E with nx:=N,ct:=N,bk:=E.nx} σ2 H2):=by
 obtain⟨W,w0,d3,out⟩:=hd;refine#[λk m s' H'=>m=ds.length-k/\k<=ds.length/\∃F' z',Kept B F0 F' H'/\Same F1 F'/\RepS K B F' H' z' s'/\W k z',#[ds.length,KK,Go _,F1,z,k1,Same.refl F1,n9,w0],?_];rintro k m s' H'⟨rfl,hk,F',z',k',g',r',w'⟩;by_cases f9:k<ds.length
 .refine .inr #[go k F' H' g' k'.fh f9,λs3 H3=>∃F3 z3,Kept B F0 F3 H3/\Same F1 F3/\RepS K B F3 H3 z3 s3/\W (k+1) z3,λs3 H3 h3=>#[ds.length-(k+1),Ko,rfl,f9,h3],λx H'' hy=>?_];obtain⟨T,d,v,hT,rfl,rfl,hd,rd⟩:=yld k F' H' x H'' g' k'.fh f9 hy;have gn:=Grow.new k'.fh hT (.tup [.int k,v]);have k2:=k'.grow gn;have rp:Reps K (upd F' T (.tup [.int k,v])) [.int k,d] [.int k,v]:=reps_cons.mpr #[_,_,rfl,rep_int.mpr rfl,eD (rd.mono gn.ff)];refine hg [.int k,d] _ T z' s' _ _ _ rfl av rp (r'.grow gn) λs2 K0=>NM _ _ _ ?_;have gF:Same F1 (upd F' T (.tup [.int k,v])):=g'.trans gn.ff;refine#[B,upd F' T (.tup [.int k,v]),upd F' T (.tup [.int k,v]),_,#[k2.bh,k2.fh,Same.refl _,λb h1 _=>h1,k2.eb,k2.jf.trans k2.f0,λb h1 h2=>k2.out b (k2.jo b h1 h2) h2],K0,_,d3 k d z' hd w',?_];have up:∀{F3 H3:Hp},Kept B (upd F' T (.tup [.int k,v])) F3 H3->Kept B F0 F3 H3:=λk3=>#[k3.bh,k3.fh,k2.f0.trans k3.f0,λb h1 h2=>k3.out b (k2.out b h1 h2) h2,k2.eb,k2.jf,k2.jo];exact#[λz3 s3 F3 H3 k3 h3 r3=>#[F3,z3,up k3,gF.trans k3.f0,r3,h3],λd v F3 H3 k3=>e.rt d v F3 H3 (up k3),λz3 s3 F3 H3 k3=>e.nx z3 s3 F3 H3 (up k3),λz3 s3 F3 H3 k3 h3 r3=>#[F3,z3,up k3,gF.trans k3.f0,r3,h3]]
 .have ek:k=ds.length:=by lia
  subst ek;exact .inl #[stop F' H' g' k'.fh,e.nx z' s' F' H' k' (out z' w') r']
def AH{es:List RZ}{x1:Nat}{tp:Sb}{body:List R3}{tb:TSD}(hp:Sq (R1 X.prog X.w) X.A X.env X.xe)(hc:X.calm=true)(hm:X.mg "enumerate"=G_)(he:WDE X e te)(hG:DGs X es is)(hb:WDSs X body tb)(c5:autoParam (is.length=2) zA0)(hg:autoParam (Gl X "enumerate") zA0)
  (hn:autoParam ((R7 es X.env).length=2) zA0) (j8:autoParam ((R7 es X.env).findIdx? (·.1)=none) zA0)
  (hs:autoParam (∀y,zFS X (.Call (.Name "enumerate" p1) [e] [] p2) y) zA3) (p_:autoParam (zSE X e []) zA0) (f8:autoParam (R8 [e] X.env=[(false,Sa e X.env)]) zA0):
  WDS X (.For (.Tuple es x1 tp) (.Call (.Name "enumerate" p1) [e] [] p2) body [] pos) (AF is (dItS te) tb):=by
 obtain⟨ug,LK,kk⟩:=hG;refine#[(cS hp hc (tw hg hm (bo he.out pa_nil p_) f8) (fq hc LK hn j8) hb.out hs).anti λE s H q=>?_];obtain⟨B,F0,F,z,kp,rs,ED,h,e⟩:=q;refine#[B,F,z,kp.kf,rs,_,h,λd v F1 H1 g1 hd rd=>?_];split at hd
 .rename_i x;obtain⟨ha,hd⟩:=hd;have hl:=eL x;refine#[x,by rw[rep_str.mp rd],ha,AG (It':=Ites x) (kp.grow g1) (rs.grow g1) e (λk F' H' s1 s2 hk=>?_) (λF' H' s1 s2=>?_) (λk F' H' x H'' s1 s2 hk hy=>?_) (λdd n8 T z s F H Q hl hT rp B_ hQ=>?_) (λ_ _ _ h=>h) hd]
  .rw[hl]at hk;exact hk
  .exact hl
  .obtain⟨T,c,hT,e1,e2,hc⟩:=hy;exact#[T,.str #[[c].toArray],.str #[[c].toArray],hT,e1,e2,gO hc,rep_str.mpr rfl]
  .exact#[T,n8,rfl,SqT.of hT,by rw[rp.length];exact hl,kk dd n8 z s B F H Q (by rw[hl,c5]) rp B_ hQ]
 .exact hd.elim
def AI(K:Ex):R2:=λx y H Q=>∃p xs i z,x=.ref p/\y=.int i/\0<=i/\SqL K H p xs/\xs[i.toNat]?=be z/\Q z H
def AJ:PGet X (AI X.K):=by
 intro pins s σ H x y v u Q I rx ry h;obtain⟨p,xs,i,z,rfl,rfl,h0,hq,he,q⟩:=h;cases rx;obtain⟨t,rfl⟩:=ry;obtain⟨its,r,pl,hz⟩:=I.list hq;obtain⟨w,ew,j3⟩:=r.get he;have hl:=r.length;have hn:=line63;have hi:=(Gh.mp he).1;exact wpAny_getItem_list pl.isList h0 Ko (by simpa using ew) #[z,H,I,j3,q]
def tL(i:Nat)(ti te:TD):TSD:=λE z=>match z[i]? with
 |some (be (.own ds))=>ti z λy=>(match y with|.int k=>∃n,0<=k/\ds[k.toNat]?=be (.int n)/\te z λd=>(match d with|.int m=>E.nx (z.set i (be (.own (ds.set k.toNat (.int (n+m))))))|_=>False)|_=>False)
 |_=>False
def AK(i:Nat){x:JM}(hb:WDE X b tb)(he:WDE X e te)(hN:autoParam (X.N[i]?=be x) zA0)(hv:autoParam (Vis X.env.scope x) zA5)(hd:autoParam (zND x) zA1)
  (gV:autoParam (zNC x) zA1)
  (ha:autoParam (∀ov iv new,augStore b ov iv new=(do Sv [new,ov,iv] (TM ov iv new);Ui [new,ov,iv] [];pure .next)) zA7):
  WDS X (.AugAssign (.Subscript (.Name x p1) b p2) .Add e pos) (tL i tb te):=⟨(wj (cJ hN hv hd gV) hb.out AJ he.out wk qK ha).anti λE s H q=>by
 obtain⟨B,F0,F,z,k,rs,ED,h,e⟩:=q;unfold tL at h;split at h
 .rename_i ds ez;obtain⟨a,vs,q1,q2,q3,q4,q5⟩:=rs.own i ds ez;refine#[.ref a,q1,B,F,z,k.kf,rs,_,h,λy w F2 H2 g2 hy ry=>?_];split at hy
  .rename_i k';obtain⟨n,k0,en,hn⟩:=hy;have JU:F2 a=none:=g2.out a q4 (by rw[q2];exact λz=>nomatch z);obtain⟨v,ev,rv⟩:=q5.get en;refine#[a,vs,_,v,rfl,rep_int.mp ry,k0,SqL.of (g2.hh _ _ q2),ev,B,F2,z,k.kf.grow g2,rs.grow g2,_,hn,λd u F3 H3 g3 hd rd=>?_];split at hd
   .have r2:=(rs.grow g2).grow g3;have k2:=(k.grow g2).grow g3;have Ms:F3 a=none:=g3.out a JU (by rw[g2.hh _ _ q2];exact λz=>nomatch z);rw[rep_int.mp rv,rep_int.mp rd];have f9:=(Gh.mp en).1;refine#[_,_,rfl,rfl,a,vs,_,k'.toNat,rfl,rep_int.mp ry,g3.hh _ _ (g2.hh _ _ q2),by unfold ixN;rw[q5.length,if_pos k0,if_pos Ko],?_];obtain⟨k3,r3⟩:=r2.change k2 ez q1 q3 Ms (Reps.put (d:=.int _) (v:=.int _) (rep_int.mpr rfl) k'.toNat ((q5.mono g2.ff).mono g3.ff));exact e.nx _ s F3 _ k3 hd r3
   .exact hd.elim
  .exact hy.elim
 .exact h.elim⟩
end
section
variable {X:Cx}[J:Jx]{a b c e o:RZ}{es:List RZ}{ta tb tc te to:TD}{t:TDA}{pos:Sb}
def FV:RTx:=λy ds R=>match ds with|[.str p,.int i]=>∃k rest,Builtin.Str.occurrences y p (PySem.fromIndex y.length i) y.length 1=k::rest/\R (.int (k:Nat))|_=>False
def chV(x:JM):List V:=x.cps.toList.map λc=>V.str #[[c].toArray]
def AL{α β:Type}{F:α->β->Prop}:∀{l:List α} {m:List β},l.length=m.length->(∀(k:Nat) a b,l[k]?=be a->m[k]?=be b->F a b)->Paired F l m:=by
 intro l;induction l with
 |nil=>intro m h _;cases m with|nil=>exact .nil|cons _ _=>cases h
 |cons a l ih=>
  intro m h g;cases m with
  |nil=>cases h
  |cons b m=>exact .cons (g 0 a b rfl rfl) (ih (by simpa using h) λk a b h1 h2=>g (k+1) a b h1 h2)
def AM(hc:X.calm=true):bE X (.type "list") (λxs H Q=>∃z,xs=[.str z]/\z.length<=1000000/\∀l,H l=G_->Q (.ref l) (upd H l (.lst (chV z)))):=by
 intro pins s σ H xs us Q I r h;obtain⟨z,rfl,hz,q⟩:=h;obtain⟨u,rfl,t,rfl⟩:=bR r;have RG:1000000<=sizeLine:=Ks
 have hl:z.cps.size=z.length:=rfl;refine PySem.call_list_str (I.ok.hd hc) z t (λh' tk f7 c' kp e it=>?_) Ko;have r':Vals (chV z) f7.toList:=AL (by unfold chV;rw[Gb];simp[it.1]) λk a b h1 h2=>by
  unfold chV at h1;rw[Gf]at h1;obtain⟨c,u,e1,rfl⟩:=it.2 k b (by simpa using h2);have e2:z.cps.toList[k]?=be c:=by simpa using e1
  rw[e2]at h1;cases h1;exact#[u,rfl]
 exact#[.ref s.heap.objs.size,_,I.laid (t':=tk) kp (FX _) (show ObjOk X.prog X.w _ h' _ (.lst (chV z))from#[by unfold chV;rw[Gb];simp;lia,f7.toList,c',r',by simpa using e]),rfl,q _ (I.hok.fresh (FX _))]
def rdListS:RDn:=λds R=>match ds with|[.str z]=>z.length<=1000000/\R (.lst (bt z))|_=>False
def AN{K:Ex}{H:Hp}(l:List Nat):Reps K H (l.map λc=>D.str #[[c].toArray]) (l.map λc=>V.str #[[c].toArray]):=by
 induction l with
 |nil=>exact reps_nil.mpr rfl
 |cons c l ih=>exact reps_cons.mpr #[_,_,rfl,rep_str.mpr rfl,ih]
def AO{K:Ex}:ck K (λxs H Q=>∃z,xs=[.str z]/\z.length<=1000000/\∀l,H l=G_->Q (.ref l) (upd H l (.lst (chV z)))) rdListS:=by
 intro ds vs F H R Q fh h rx q;unfold rdListS at h;split at h
 .obtain⟨v,r,rfl,h1,h2⟩:=reps_cons.mp rx;rw[reps_nil.mp h2,rep_str.mp h1];exact#[_,rfl,h.1,λl hl=>q _ _ _ _ (Grow.new fh hl _) h.2 (rep_lst.mpr #[l,_,rfl,av,AN _])]
 .exact h.elim
def AQ{p:Sb}(hc:X.calm=true)(hm:X.mg "list"=G_)(ha:WDA X [e] t)(hg:autoParam (Gl X "list") zA0)(he:autoParam (zSE X e []) zA0):WDE X (.Call (.Name "list" p) [e] [] pos) (dCB rdListS t):=#[have ha:=ha.out;kg (AM hc) AO hm PyProof.Rows.boot_list ha hg Ks Ks he]
end
mutual
def noL:D->Bool
 |.non=>true|.bl _=>true|.int _=>true|.str _=>true|.ptr _=>true|.dti _=>true
 |.tup ds=>noLs ds
 |.obj _ fs=>noLF fs
 |_=>false
def noLs:List D->Bool
 |[]=>true
 |d::ds=>noL d&&noLs ds
def noLF:List (JM×D)->Bool
 |[]=>true
 |(_,d)::ds=>noL d&&noLF ds
end
def nlF(F:Hp):Hp:=λb=>match F b with|some (.lst _)=>G_|o=>o
def kM{F:Hp}{b:KF}{o:HO}(e:F b=be o)(h:∀vs,o≠.lst vs):nlF F b=be o:=by
 unfold nlF;rw[e];cases o with
 |lst vs=>exact absurd rfl (h vs)
 |_=>rfl
mutual
def Rep.nl{K:Ex}{F:Hp}:∀(d:D) (v:V),noL d=true->Rep K F d v->Rep K (nlF F) d v
 |.non,v,_,h=>by unfold Rep at h ⊢;exact h
 |.bl b,v,_,h=>by unfold Rep at h ⊢;exact h
 |.int b,v,_,h=>by unfold Rep at h ⊢;exact h
 |.str b,v,_,h=>by unfold Rep at h ⊢;exact h
 |.ptr b,v,_,h=>by unfold Rep at h ⊢;exact h
 |.dti b7,v,_,h=>by
  unfold Rep at h ⊢;obtain⟨a,e,q⟩:=h;exact#[a,e,kM q λ_ z=>nomatch z]
 |.tup ds,v,n,h=>by
  unfold Rep at h ⊢;obtain⟨a,vs,e,q,r⟩:=h;exact#[a,vs,e,kM q (λ_ z=>nomatch z),Reps.nl ds vs (by unfold noL at n;exact n) r]
 |.obj x fs,v,n,h=>by
  unfold Rep at h ⊢;obtain⟨a,C,dx,vs,e,n1,q,r⟩:=h;exact#[a,C,dx,vs,e,n1,kM q (λ_ z=>nomatch z),RepF.nl fs vs (by unfold noL at n;exact n) r]
 |.lst _,_,n,_=>by unfold noL at n;cases n
 |.rol _,_,n,_=>by unfold noL at n;cases n
 |.exc _ _,_,n,_=>by unfold noL at n;cases n
 |.own _,_,n,_=>by unfold noL at n;cases n
def RepF.nl{K:Ex}{F:Hp}:∀(ds:List (JM×D)) (vs:List (JM×V)),noLF ds=true->RepF K F ds vs->RepF K (nlF F) ds vs
 |[],vs,_,h=>by unfold RepF at h ⊢;exact h
 |(f,d)::ds,vs,n,h=>by
  unfold noLF at n;rw[Gu]at n;unfold RepF at h ⊢;obtain⟨v,r,e,q1,q2⟩:=h;exact#[v,r,e,Rep.nl d v n.1 q1,RepF.nl ds r n.2 q2]
def Reps.nl{K:Ex}{F:Hp}:∀(ds:List D) (vs:List V),noLs ds=true->Reps K F ds vs->Reps K (nlF F) ds vs
 |[],vs,_,h=>by unfold Reps at h ⊢;exact h
 |d::ds,vs,n,h=>by
  unfold noLs at n;rw[Gu]at n;unfold Reps at h ⊢;obtain⟨v,r,e,q1,q2⟩:=h;exact#[v,r,e,Rep.nl d v n.1 q1,Reps.nl ds r n.2 q2]
end
end My
end
section
namespace My
open PySem PySem.Spec PyProof.Rows L2
variable{w:Int}
def b64B(h:0<w)(h':w<=33554432):-(2^64)<w/\w<2^64:=Ko
variable{s:Int}
def s64B(h:0<=s)(h':s<w)(RH:w<=33554432):-(2^64)<s/\s<2^64:=Ko
def d30B(h:0<w)(h':w<=33554432):0<w/\w<1073741824:=Ko
def AR{X Y Z A B r:Nat}(h1:X<=Y)(h2:X=Z+2*B)(h3:1*A<=Z)(h5:Y<=A+r)(h6:r<B):False:=Kw
def fdm(a b:Int)(hb:b≠0):(a-a.fdiv b*b).natAbs<b.natAbs/\(a.fdiv b).natAbs<=a.natAbs+1:=by
 have e:=Int.fmod_def a b;have e2:a-a.fdiv b*b=a.fmod b:=by rw[e,Gj]
 rw[e2];have r:(a.fmod b).natAbs<b.natAbs:=by
  rcases(Ko:0<b\/b<0)with h|h
  .have h1:=IW a h;have h2:=IY a h;lia
  .have h1:=IW (-a) (show 0< -b by lia);have h2:=IY (-a) (show 0< -b by lia);rw[Int.neg_fmod_neg]at h1 h2;lia
 refine#[r,?_];have e3:(b*a.fdiv b).natAbs=b.natAbs*(a.fdiv b).natAbs:=HI _ _;have e4:=Int.mul_fdiv_self a b;rcases Ib (a.natAbs+1) (a.fdiv b).natAbs with c|c
 .have h1:b.natAbs*(a.natAbs+2)<=b.natAbs*(a.fdiv b).natAbs:=IS _ c;have h2:b.natAbs*(a.natAbs+2)=b.natAbs*a.natAbs+2*b.natAbs:=by rw[Nat.mul_add,HY _ 2]
  have h3:1*a.natAbs<=b.natAbs*a.natAbs:=Nat.mul_le_mul_right _ Ko;have h5:(b*a.fdiv b).natAbs<=a.natAbs+(a.fmod b).natAbs:=by rw[e4];exact Int.natAbs_sub_le a _
  rw[e3]at h5;exact(AR h1 h2 h3 h5 r).elim
 .exact c
def Uni(a b c d p0 p1 q0 q1:Int):Prop:=∃m n k l:Int,(m*l-n*k=1\/m*l-n*k=-1)/\p0=m*a+n*c/\p1=m*b+n*d/\q0=k*a+l*c/\q1=k*b+l*d
def Uni.refl(a b c d:Int):Uni a b c d a b c d:=#[1,0,0,1,.inl Ks,Ko,Ko,Ko,Ko]
variable{a b c d p0 p1 q0 q1:Int}
def Uni.step(t:Int)(h:Uni a b c d p0 p1 q0 q1):Uni a b c d q0 q1 (p0-t*q0) (p1-t*q1):=by
 obtain⟨m,n,k,l,hd,rfl,rfl,rfl,rfl⟩:=h;refine#[k,l,m-t*k,n-t*l,?_,rfl,rfl,Lz,Lz];rcases hd with h|h
 .right;grind
 .left;grind
def Uni.neg(h:Uni a b c d p0 p1 q0 q1):Uni a b c d (-p0) (-p1) q0 q1:=by
 obtain⟨m,n,k,l,hd,rfl,rfl,rfl,rfl⟩:=h;refine#[-m,-n,k,l,?_,Lz,Lz,rfl,rfl];rcases hd with h|h
 .right;grind
 .left;grind
def Uni.inv(h:Uni a b c d p0 p1 q0 q1):Uni p0 p1 q0 q1 a b c d:=by
 obtain⟨m,n,k,l,hd,rfl,rfl,rfl,rfl⟩:=h;rcases hd with h|h
 .exact#[l,-n,-k,m,.inl Lz,Lz,Lz,Lz,Lz]
 .exact#[-l,n,k,-m,.inr Lz,Lz,Lz,Lz,Lz]
def Uni.det(h:Uni a b c d p0 p1 q0 q1):p0*q1-p1*q0=a*d-b*c\/p0*q1-p1*q0=-(a*d-b*c):=by
 obtain⟨m,n,k,l,hd,rfl,rfl,rfl,rfl⟩:=h;rcases hd with h|h
 .left;grind
 .right;grind
def Lev(a b c d p0 p1 q0:Int):Prop:=0<=p1/\Uni a b c d p0 p1 q0 0
def FamOf(a b c d w h s:Int):Prop:=0<w/\0<h/\0<=s/\s<w/\Uni a b c d w 0 s h
def AS(x:Int):(if x<0 then -x else x)=x\/(if x<0 then -x else x)=-x:=by
 split<;>simp
variable{x:Int}
def AT(h:x≠0):0<(if x<0 then -x else x):=by split<;>lia
def kN(hn:¬a*d=b*c)(h:Lev a b c d p0 p1 q0):FamOf a b c d (if q0<0 then -q0 else q0) p1 (p0%(if q0<0 then -q0 else q0)):=by
 obtain⟨hp,hu⟩:=h;have dt:=hu.det;have QS:q0≠0:=by
  rintro rfl;simp at dt;lia
 have RI:p1≠0:=by
  rintro rfl;simp at dt;lia
 have hw:=AT QS;have hs:=AS q0;generalize (if q0<0 then -q0 else q0)=w at hw hs;refine#[hw,Ko,Gy _ Ko,Gz _ hw,?_];have em:=G1 p0 w;generalize p0%w=s at em;generalize p0/w=t at em;obtain⟨m,n,k,l,hd,e1,e2,e3,e4⟩:=hu;rcases hs with e|e
 .refine#[k,l,m-t*k,n-t*l,?_,Lz,Lz,Lz,Lz];rcases hd with h|h
  .right;grind
  .left;grind
 .refine#[-k,-l,m+t*k,n+t*l,?_,Lz,Lz,Lz,Lz];rcases hd with h|h
  .left;grind
  .right;grind
variable{u v:Int}
def on_of{i j:Int}(eu:u=i*a+j*c)(ev:v=i*b+j*d):(u*d-v*c).fmod (a*d-b*c)=0/\(a*v-b*u).fmod (a*d-b*c)=0:=by
 subst eu ev;refine#[Ih #[i,Lz],Ih #[j,Lz]]
variable{h:Int}
def FamOf.cells(f:FamOf a b c d w h s):w*h=a*d-b*c\/w*h=-(a*d-b*c):=by
 have:=f.2.2.2.2.det;simpa using this
def bv{A B:Nat}(h1:a.natAbs<=A)(h2:d.natAbs<=B):(a*d).natAbs<=A*B:=by
 rw[HI];exact HJ h1 h2
variable{g:Int}
def AU{gap:Int}{N:Nat}(hg:0<g)(c0:0<=c)(cg:c<=g)(h:gap.natAbs<=N):(c*gap/g).natAbs<=N:=by
 have h1:(c*gap).natAbs<=g.natAbs*N:=by rw[HI];exact HJ Kw h
 have e:((g.natAbs*N:Nat):Int)=N*g:=by rw[Int.natCast_mul,Int.natAbs_of_nonneg Kw,Gj]
 have l1:=IR (a:=-(N:Int)) (b:=c*gap) hg (by rw[IZ];omega);have l2:=Int.ediv_le_of_le_mul (a:=c*gap) (b:=(N:Int)) hg Kw;omega
def fQ(hw:0<w)(hh:0<h):w<=w*h/\h<=w*h:=by
 have h1:=Int.mul_le_mul_of_nonneg_left (show 1<=h by lia) (show 0<=w by lia);have h2:=G2 (show 1<=w by lia) (show 0<=h by lia);lia
def FamOf.bd(f:FamOf a b c d w h s){N:Nat}(hN:(a*d-b*c).natAbs<=N):w<=N/\h<=N/\s<N:=by
 obtain⟨h1,h2⟩:=fQ f.1 f.2.1;have h3:w*h<=N:=by
  rcases f.cells with e|e<;>rw[e]
  .exact GJ Ja (Jb.mpr hN)
  .exact GJ Ja (Jb.mpr (by rw[Jc];exact hN))
 exact#[GJ h1 h3,GJ h2 h3,Int.lt_of_lt_of_le f.2.2.2.1 (GJ h1 h3)]
def Meas(x y g u:Int):Prop:=0<=g/\(∃i,x=i*g)/\(∃j,y=j*g)/\∃n,g=u*x+n*y
variable{y q:Int}
def tM(h:0<=g/\∃m n k l:Int,(m*l-n*k=1\/m*l-n*k=-1)/\u=m*1+n*0/\g=m*x+n*y/\q=k*1+l*0/\0=k*x+l*y):Meas x y g u:=by
 obtain⟨h0,m,n,k,l,hd,e1,e2,e3,e4⟩:=h;refine#[h0,?_,?_,n,Lz]
 .rcases hd with h|h
  .exact#[l,Lz]
  .exact#[-l,Lz]
 .rcases hd with h|h
  .exact#[-k,Lz]
  .exact#[k,Lz]
def Meas.pos(h:Meas x y g u)(hx:0<x):0<g:=by
 obtain⟨h0,⟨i,hi⟩,_⟩:=h;rcases(Ko:g=0\/0<g)with e|e
 .subst e;simp at hi;lia
 .exact e
def Meas.le(h:Meas x y g u)(hx:0<x):g<=x:=by
 have hg:=h.pos hx;obtain⟨h0,⟨i,hi⟩,_⟩:=h;have RJ:0<i:=by
  rcases(Ko:i<=0\/0<i)with e|e
  .have:=HK e h0;lia
  .exact e
 have:=G2 (show 1<=i by lia) h0;lia
structure MetR(w1 h1 s1 w2 h2 s2 w h s A:Int):Prop where
 w0:0<w
 h0:0<h
 s0:0<=s
 sw:s<w
 in1:∃i,w=i*w1
 in2:∃i,w=i*w2
 up1:∃i j,s=i*w1+j*s1/\h=j*h1
 up2:∃i j,s=i*w2+j*s2/\h=j*h2
 A0:0<A
 cells:w*h*A=w1*h1*w2*h2
 d11:A∣w1*h1
 d12:A∣w1*h2
 d21:A∣w2*h1
 d22:A∣w2*h2
 ds:A∣s1*h2-h1*s2
 all:∀x y:Int,(∃i j,x=i*w1+j*s1/\y=j*h1)->(∃i j,x=i*w2+j*s2/\y=j*h2)->∃i j,x=i*w+j*s/\y=j*h
 comb:∀G:Int,G∣w1*h1->G∣w1*h2->G∣w2*h1->G∣w2*h2->G∣s1*h2-h1*s2->G∣A
def dF(h:0<x*y)(hy:0<y):0<x:=by
 rcases(Ko:x<=0\/0<x)with e|e
 .have:=HK e (show 0<=y by lia);lia
 .exact e
def kO(ha:0<a)(h:a*b=a*c):b=c:=Ii Ko h
def r1(k j c:Int):k*(j*c)=j*(c*k):=Lz
def r2(j u c n d:Int):j*(u*c+n*d)=u*(j*c)+n*d*j:=Lz
def r3(u j d n j1:Int):u*(j*d)+n*d*j1=d*(u*j+n*j1):=Lz
def r4(j u c n d:Int):j*(u*c+n*d)=u*c*j+n*(j*d):=Lz
def r5(u c j n j1:Int):u*c*j+n*(j1*c)=c*(u*j+n*j1):=Lz
def r6(g e i1 a i2 b d T s1 c s2:Int)(q:i1*(a*(e*g))+d*T*s1=i2*(b*(e*g))+c*T*s2):g*(e*(i1*a-i2*b))=T*(c*s2-d*s1):=Lz
def r7(g T f:Int):g*(T*f)=T*(f*g):=Lz
def r8(T v e q f:Int):T*(v*e+q*f)=v*T*e+q*(T*f):=Lz
def r9(v T e q m:Int):v*T*e+q*(e*m)=e*(v*T+q*m):=Lz
def r10(e r f:Int):e*r*f=e*(r*f):=Lz
def r11(i u a n b:Int):i*(u*a+n*b)=u*(i*a)+n*b*i:=Lz
def r12(u r f i2 b n i1:Int):u*(r*f+i2*b)+n*b*i1=u*(r*f)+b*(u*i2+n*i1):=Lz
def r13(u r f b M a e g d s1 t:Int):(u*(r*f)+b*M)*(a*(e*g))+d*(e*r)*s1=(M+r*t)*(a*b*(e*g))+r*(e*(d*s1)+f*u*(a*(e*g))-a*b*(e*g)*t):=Lz
def r14(d e r c k:Int):d*(e*r)*(c*k)=r*(c*d*k*e):=Lz
variable{e f k gg u' s1 s2:Int}
def AV{n n' t i1 j1 i2 j2:Int}(hk:0<k)(J1:0<gg)(he:0<e)
  (v4:u*a+n*b=1) (q_:u'*c+n'*d=1) (gap:c*s2-d*s1=f*gg) (v5:v*e+q*f=1)
  (hs:s=e*(d*s1)+f*u*(a*(e*gg))-a*b*(e*gg)*t) (x1:x=i1*(a*(e*gg))+j1*s1) (y1:y=j1*(c*k)) (x2:x=i2*(b*(e*gg))+j2*s2) (y2:y=j2*(d*k)):
  ∃i j,x=i*(a*b*(e*gg))+j*s/\y=j*(c*d*k*e):=by
 have h1:j1*c=j2*d:=kO hk (by rw[r1 k j1 c,r1 k j2 d,<-y1,<-y2]);have Mw:j1=d*(u'*j2+n'*j1):=by
  have p:=r2 j1 u' c n' d;rw[q_,h1,r3]at p;lia
 have Pr:j2=c*(u'*j2+n'*j1):=by
  have p:=r4 j2 u' c n' d;rw[q_,<-h1,r5]at p;lia
 generalize u'*j2+n'*j1=T at Mw Pr;have q1:i1*(a*(e*gg))+d*T*s1=i2*(b*(e*gg))+c*T*s2:=by rw[<-Mw,<-Pr,<-x1,<-x2]
 have h2:e*(i1*a-i2*b)=T*f:=kO J1 (by rw[r6 gg e i1 a i2 b d T s1 c s2 q1,r7,gap]);have eT:T=e*(v*T+q*(i1*a-i2*b)):=by
  have p:=r8 T v e q f;rw[v5,<-h2,r9]at p;lia
 generalize hr:v*T+q*(i1*a-i2*b)=r at eT;have h3:i1*a-i2*b=r*f:=kO he (by rw[h2,eT,r10]);have h4:i1=u*(r*f)+b*(u*i2+n*i1):=by
  have p:=r11 i1 u a n b;have q3:i1*a=r*f+i2*b:=Ko
  rw[v4,q3,r12]at p;lia
 generalize u*i2+n*i1=M at h4;refine#[M+r*t,r,?_,?_]
 .rw[hs,x1,Mw,eT,<-r13,<-h4]
 .rw[y1,Mw,eT,r14]
def AW{n n' t:Int}(ha:0<a)(hb:0<b)(hc:0<c)(hd:0<d)(he:0<e)(hk:0<k)(J1:0<gg)
  (v4:u*a+n*b=1) (q_:u'*c+n'*d=1) (gap:c*s2-d*s1=f*gg) (v5:v*e+q*f=1)
  (hs:s=e*(d*s1)+f*u*(a*(e*gg))-a*b*(e*gg)*t) (m1:0<=s) (m2:s<a*b*(e*gg)):
  MetR (a*(e*gg)) (c*k) s1 (b*(e*gg)) (d*k) s2 (a*b*(e*gg)) (c*d*k*e) s (k*gg):=by
 have hg:0<e*gg:=Gq he J1;have hW:0<a*b*(e*gg):=Gq (Gq ha hb) hg;have NT:d*s1=c*s2-f*gg:=Ko
 have ua:u*a=1-n*b:=Ko
 refine#[hW,Gq (Gq (Gq hc hd) hk) he,m1,m2,#[b,?_],#[a,?_],#[f*u-t*b,d*e,?_,?_],#[-(f*n)-t*a,c*e,?_,?_],Gq hk J1,?_,#[a*e*c,?_],#[a*e*d,?_],#[b*e*c,?_],#[b*e*d,?_],#[-f,?_],?_,?_]
 .grind
 .grind
 .grind
 .grind
 .rw[hs,NT];have x2:f*u*(a*(e*gg))=f*(u*a)*(e*gg):=by grind
  rw[x2,ua];grind
 .grind
 .grind
 .grind
 .grind
 .grind
 .grind
 .have:s1*(d*k)-c*k*s2=-(k*(c*s2-d*s1)):=by grind
  rw[this,gap];grind
 .rintro x y⟨i1,j1,x1,z1⟩ ⟨i2,j2,x2,z2⟩;exact AV hk J1 he v4 q_ gap v5 hs x1 z1 x2 z2
 .rintro G⟨y1,z1⟩ ⟨y2,z2⟩ ⟨y3,z3⟩ ⟨y4,z4⟩ ⟨y5,z5⟩;refine#[v*(u'*u*y1+n'*u*y2+u'*n*y3+n'*n*y4)-q*y5,?_];have k1:k*(e*gg)=G*(u'*u*y1+n'*u*y2+u'*n*y3+n'*n*y4):=by
   have p1:k*(e*gg)=(u'*c+n'*d)*(u*a+n*b)*(k*(e*gg)):=by rw[v4,q_];grind
   have p2:(u'*c+n'*d)*(u*a+n*b)*(k*(e*gg))=u'*u*(a*(e*gg)*(c*k))+n'*u*(a*(e*gg)*(d*k))+u'*n*(b*(e*gg)*(c*k))+n'*n*(b*(e*gg)*(d*k)):=Lz
   rw[p1,p2,z1,z2,z3,z4];grind
  have k2:k*(f*gg)=-(G*y5):=by
   rw[<-z5,<-gap];grind
  have k3:k*gg=(v*e+q*f)*(k*gg):=by rw[v5];grind
  have k4:(v*e+q*f)*(k*gg)=v*(k*(e*gg))+q*(k*(f*gg)):=Lz
  rw[k3,k4,k1,k2];grind
variable{w1 h1 w2 h2:Int}
def tN{C_:Int}(Ps:0<w1)(Pt:0<w2)(Pu:0<h1)(Kc:0<h2)
  (M1:Meas w1 w2 g u) (M2:Meas h1 h2 k u')
  (M3:Meas g (h1*h2/k/h2*s2-h1*h2/k/h1*s1) gg C_):
  MetR w1 h1 s1 w2 h2 s2 (w1*w2/g) (h1*h2/k*(g/gg)) ((g/gg*(h1*h2/k/h1*s1)+g/gg*(h1*h2/k/h2*s2-h1*h2/k/h1*s1)/g*u*w1)%(w1*w2/g)) (k*gg):=by
 have hg:=M1.pos Ps;have hk:=M2.pos Pu;have J1:=M3.pos hg;obtain⟨_,⟨a,ea⟩,⟨b,eb⟩,n,en⟩:=M1;obtain⟨_,⟨c,ec⟩,⟨d,ed⟩,n',RK⟩:=M2;have ha:0<a:=dF (ea ▸ Ps) hg;have hb:0<b:=dF (eb ▸ Pt) hg;have hc:0<c:=dF (ec ▸ Pu) hk;have hd:0<d:=dF (ed ▸ Kc) hk;have v4:u*a+n*b=1:=by
  have p:(u*a+n*b)*g=1*g:=by
   have:(u*a+n*b)*g=u*(a*g)+n*(b*g):=by grind
   rw[this,<-ea,<-eb];lia
  exact HL Ko p
 have q_:u'*c+n'*d=1:=by
  have p:(u'*c+n'*d)*k=1*k:=by
   have:(u'*c+n'*d)*k=u'*(c*k)+n'*(d*k):=by grind
   rw[this,<-ec,<-ed];lia
  exact HL Ko p
 have eW:w1*w2/g=a*b*g:=by
  have:w1*w2=(a*b*g)*g:=by rw[ea,eb];grind
  rw[this];exact GM _ Ko
 have eR:h1*h2/k=c*d*k:=by
  have:h1*h2=(c*d*k)*k:=by rw[ec,ed];grind
  rw[this];exact GM _ Ko
 have QT:h1*h2/k/h1=d:=by
  rw[eR];have:c*d*k=d*h1:=by rw[ec];grind
  rw[this];exact GM _ Ko
 have QU:h1*h2/k/h2=c:=by
  rw[eR];have:c*d*k=c*h2:=by rw[ed];grind
  rw[this];exact GM _ Ko
 rw[QT,QU]at M3 ⊢;obtain⟨_,⟨e,ee⟩,⟨f,ef⟩,q,eq⟩:=M3;have he:0<e:=dF (ee ▸ hg) J1;have v5:C_*e+q*f=1:=by
  have p:(C_*e+q*f)*gg=1*gg:=by
   have:(C_*e+q*f)*gg=C_*(e*gg)+q*(f*gg):=by grind
   rw[this,<-ee,<-ef];lia
  exact HL Ko p
 have eC:g/gg=e:=by rw[ee];exact GM _ Ko
 have eS:e*(c*s2-d*s1)/g=f:=by
  have:e*(c*s2-d*s1)=f*g:=by rw[ef,ee];grind
  rw[this];exact GM _ Ko
 rw[eC,eS,eW,eR];have hW:0<a*b*g:=Gq (Gq ha hb) hg;have em:=G1 (e*(d*s1)+f*u*w1) (a*b*g);have m1:=Gy (e*(d*s1)+f*u*w1) (show a*b*g≠0 by lia);have m2:=Gz (e*(d*s1)+f*u*w1) hW;generalize (e*(d*s1)+f*u*w1)%(a*b*g)=s at em m1 m2 ⊢;generalize (e*(d*s1)+f*u*w1)/(a*b*g)=t at em;subst ea eb ec ed;subst ee;exact AW ha hb hc hd he hk J1 v4 q_ ef v5 em m1 m2
def tO(hx:0<x)(hy:0<y)(M:Meas x y g u):0<x*y/g/\x*y/g<=x*y/\x*y/g/x*1<=y/\0<=x*y/g/x/\x*y/g/y<=x/\0<=x*y/g/y:=by
 have hg:=M.pos hx;obtain⟨_,⟨a,ea⟩,⟨b,eb⟩,_⟩:=M;have ha:0<a:=dF (ea ▸ hx) hg;have hb:0<b:=dF (eb ▸ hy) hg;have e1:x*y/g=a*b*g:=by
  have:x*y=(a*b*g)*g:=by rw[ea,eb];grind
  rw[this];exact GM _ Ko
 have e2:a*b*g/x=b:=by
  have:a*b*g=b*x:=by rw[ea];grind
  rw[this];exact GM _ Ko
 have e3:a*b*g/y=a:=by
  have:a*b*g=a*y:=by rw[eb];grind
  rw[this];exact GM _ Ko
 have p1:0<a*b*g:=Gq (Gq ha hb) hg;have q1:=(fQ (w:=b) (h:=g) hb hg).1;have q2:=(fQ (w:=a) (h:=g) ha hg).1;have q3:x*y=a*b*g*g:=by rw[ea,eb];grind
 have q4:=(fQ (w:=a*b*g) (h:=g) p1 hg).1;rw[e1,e2,e3];lia
def cell(ns:List Int)(k:Int):Int:=ns.getD k.toNat 0
variable{ns:List Int}
def tP(h0:0<=k)(h1:k<(ns.length:Int)):atI (ns.map D.int) k=be (.int (cell ns k)):=by
 obtain⟨j,rfl⟩:∃j:Nat,k=(j:Int):=#[k.toNat,Ko];have hk:j<ns.length:=Ko
 refine cT ?_;rw[Gf,Gv hk];simp[cell,GH,Gv hk]
def AX(h1:(ns.length:Int)<=k):cell ns k=0:=by
 have hk:ns.length<=k.toNat:=Ko
 simp[cell,GH,GI hk]
def fR(h:0<b):0<=a%b:=Gy a Ko
def fS(h:0<b):a%b<b:=Gz a h
def AY:SpD:=λds R=>∃(ns:List Int) (k:Int),ds=[.rol (ns.map D.int),.int k]/\0<=k/\R (.int (cell ns k))
def AZ:SpD:=λds R=>∃i:Int,ds=[.int i]/\R (.bl true)
def A1:SpD:=λds R=>∃w h s x y:Int,ds=[.tup [.int w,.int h,.int s],.int x,.int y]/\0<w/\0<h/\h<1073741824/\0<=s/\s<1073741824/\
 R (.tup [.int ((x-y/h*s)%w),.int (y%h)])
def A2:SpD:=λds R=>∃a b c d:Int,ds=[.tup [.int a,.int b],.tup [.int c,.int d]]/\b.natAbs<4611686018427387904/\d.natAbs<4611686018427387904/\
 ∀p0 p1 q0,Lev a b c d p0 p1 q0->R (.tup [.tup [.int p0,.int p1],.tup [.int q0,.int 0]])
def A3:SpD:=λds R=>∃a b c d:Int,ds=[.tup [.int a,.int b],.tup [.int c,.int d]]/\a.natAbs<4611686018427387904/\b.natAbs<4611686018427387904/\c.natAbs<4611686018427387904/\d.natAbs<4611686018427387904/\
 (a*d=b*c->R .non)/\(¬a*d=b*c->∀w h s,FamOf a b c d w h s->R (.tup [.int w,.int h,.int s]))
def A4:SpD:=λds R=>∃w h s:Int,ds=[.tup [.int w,.int h,.int s]]/\0<w/\R (.tup [.int w,.int h,.int (-s%w)])
def A5:SpD:=λds R=>∃w h s:Int,ds=[.tup [.int w,.int h,.int s]]/\0<w/\0<h/\w<4611686018427387904/\h<4611686018427387904/\0<=s/\s<4611686018427387904/\
 ∀w' h' s',FamOf 0 w (-h) s w' h' s'->R (.tup [.int w',.int h',.int s'])
def A6:SpD:=λds R=>∃x y:Int,ds=[.int x,.int y]/\x.natAbs<4611686018427387904/\y.natAbs<4611686018427387904/\∀g u,Meas x y g u->R (.tup [.int g,.int u])
def A7:SpD:=λds R=>∃w1 h1 s1 w2 h2 s2:Int,ds=[.tup [.int w1,.int h1,.int s1],.tup [.int w2,.int h2,.int s2]]/\0<w1/\w1<=33554432/\0<h1/\h1<=33554432/\0<=s1/\s1<w1/\0<w2/\w2<=33554432/\0<h2/\h2<=33554432/\0<=s2/\s2<w2/\
 ∀w h s A,MetR w1 h1 s1 w2 h2 s2 w h s A->R (.tup [.int w,.int h,.int s])
def Drawn(xs:List Int):Prop:=∀x∈xs,0<=x/\x<5040
variable{xs:List Int}
def Drawn.at(h:Drawn xs)(k:Int):0<=cell xs k/\cell xs k<5040:=by
 by_cases hk:k.toNat<xs.length
 .have:cell xs k=xs[k.toNat]:=by simp[cell,GH,Gv hk]
  rw[this];exact h _ (Hk hk)
 .have:cell xs k=0:=by simp[cell,GH,GI (HF hk)]
  lia
def A8(h0:0<=k)(h:k.toNat<xs.length):atI (xs.map D.int) k=be (.int (cell xs k)):=tP h0 Ko
def tQ:xs.map D.int++[D.int v]=(xs++[v]).map D.int:=KK
def tR(h:Drawn xs)(h1:0<=v)(h2:v<5040):Drawn (xs++[v]):=by
 intro x hx;rcases GA.mp hx with q|q
 .exact h x q
 .rw[FW.mp q];exact#[h1,h2]
def A9:SpD:=λds R=>∃(ns:List Int) (k:Int) (n:Nat),ds=[.rol (ns.map D.int),.int k,.int n]/\0<=k/\n<=100/\∀xs:List Int,xs.length=n->Drawn xs->R (.lst (xs.map D.int))
abbrev cs(x:JM):List Nat:=x.cps.toList
def bq(x:JM):(cs x).length=x.length:=by simp[Str.length]
def Ba:cs ""=[]:=rfl
def aY(x y:JM):cs (x++y)=cs x++cs y:=by
 show((x++y:JM)).cps.toList=_;rw[show(x++y:JM).cps=x.cps++y.cps from rfl,Array.toList_append]
def aQ(x y:JM):(x++y).length=x.length+y.length:=by rw[<-bq,aY,Gc,bq,bq]
def bB(c:Nat):Prop:=c=46\/(49<=c/\c<=54)
def kP:∀(L:List JM),cO (L.map D.str)=be L
 |[]=>rfl
 |x::L=>by simp[cO,kP L]
structure Rows(L:List Str):Prop where
 many:1<=L.length/\L.length<=8
 wide:∃w,(1<=w/\w<=8)/\∀l∈L,l.length=w/\∀c∈cs l,bB c
variable{L:List JM}
def Rows.of{w t:Nat}(h1:1<=t)(h2:t<=8)(hl:L.length=t)(w1:1<=w)(w2:w<=8)(h:∀l∈L,l.length=w/\∀c∈cs l,bB c):Rows L:=#[Ko,w,#[w1,w2],h]
def eQ(L:List JM)(a b c d:Int):Str:=("["++Txt.join "/" L)++((((((((";":JM)++(toString a:String))++",")++(toString b:String))++";")++(toString c:String))++",")++(toString d:String))++"]"
def cn(h:-12<=a/\a<=12):((toString a:String):JM).length<=3:=by
 have key:∀k:Fin 25,((toString (((k.val:Nat):Int)-12):String):JM).length<=3:=Kv
 have:=key #[(a+12).toNat,Ko];have e:(((a+12).toNat:Nat):Int)-12=a:=Ko
 rw[e]at this;exact this
def B12(a:Int):Prop:=-12<=a/\a<=12
def kQ{w:Nat}(h:∀l∈L,l.length=w):(L.map (·.length)).sum=L.length*w:=by
 induction L with
 |nil=>simp
 |cons x L ih=>
  rw[Gs,List.sum_cons,ih (λl hl=>h l (F8 _ hl)),h x Gd,F7,HD,Hj]
def Bb(h:Rows L):(L.map (·.length)).sum+L.length*("/":JM).length<=72:=by
 obtain⟨h1,w,hw,h2⟩:=h;rw[kQ (λl hl=>(h2 l hl).1)];have e:("/":JM).length=1:=rfl;rw[e];have:=HJ h1.2 hw.2;lia
structure Leaf where
 rows:List JM
 a:Int
 b:Int
 c:Int
 d:Int
 w0:Int
 w1:Int
 w2:Int
 w3:Int
 w4:Int
 w5:Int
 hues:List Int
structure Leaf.Ok(l:Leaf):Prop where
 rows:Rows l.rows
 a:B12 l.a
 b:B12 l.b
 c:B12 l.c
 d:B12 l.d
 ne:¬l.a*l.d=l.b*l.c
 w0:l.w0.natAbs<=1
 w1:l.w1.natAbs<=1
 w2:l.w2.natAbs<=1
 w3:l.w3.natAbs<=1
 w4:l.w4.natAbs<=1000
 w5:l.w5.natAbs<=1000
 many:l.hues.length=7
 hue:∀h∈l.hues,0<=h/\h<=6
def onB(a b c d u v:Int):Bool:=decide ((u*d-v*c).fmod (a*d-b*c)=0/\(a*v-b*u).fmod (a*d-b*c)=0)
def scanRow(f:Int->Bool):Nat->List Nat->Option Nat
 |_,[]=>G_
 |i,c::r=>if c≠46/\f i=true then be c else scanRow f (i+1) r
def bV(f:Int->Int->Bool):Nat->List JM->Option Nat
 |_,[]=>G_
 |j,l::r=>match scanRow (λi=>f i j) 0 (cs l)with|some c=>be c|none=>bV f (j+1) r
def Leaf.hit(l:Leaf)(x y:Int):Option Nat:=bV (λi j=>onB l.a l.b l.c l.d (l.w0*x+l.w1*y+l.w4-i) (l.w2*x+l.w3*y+l.w5-j)) 0 l.rows
def Leaf.shows(l:Leaf)(x y:Int):Int:=match l.hit x y with|some c=>cell l.hues ((c:Int)-48)|none=>0
def Bc{c:Nat}:(#[[c].toArray]:JM)="."↔c=46:=by
 constructor
 .intro h;have:([c].toArray:Array Nat)=(".":JM).cps:=congrArg Str.cps h;have e:([c].toArray:Array Nat).toList=(".":JM).cps.toList:=by rw[this]
  have e2:(".":JM).cps.toList=[46]:=rfl;rw[e2]at e;simpa using e
 .rintro rfl;rfl
def digit_of{c:Nat}(h:49<=c/\c<=54):PySem.intText? (#[[c].toArray]:JM)=be ((c:Int)-48):=by
 rcases(Ko:c=49\/c=50\/c=51\/c=52\/c=53\/c=54)with e|e|e|e|e|e<;>subst e<;>decide+kernel
def range_int{n:Int}{k:Nat}{x:D}(h:((FY n.toNat).map λk=>D.int ((k:Nat):Int))[k]?=be x):k<n.toNat/\x=.int (k:Int):=by
 have hk:k<n.toNat:=by simpa using(Gh.mp h).1
 refine#[hk,?_];simp[hk]at h;exact h.symm
def bC{n:Int}:((FY n.toNat).map λk=>D.int ((k:Nat):Int)).length=n.toNat:=KK
def bf:List Leaf->Int->Int->Int
 |[],_,_=>0
 |l::r,x,y=>if l.shows x y≠0 then l.shows x y else bf r x y
variable{hs:List Int}
def Bd(h:∀h∈hs,0<=h/\h<=6)(k:Int):0<=cell hs k/\cell hs k<=6:=by
 by_cases hk:k.toNat<hs.length
 .have:cell hs k=hs[k.toNat]:=by simp[cell,GH,Gv hk]
  rw[this];exact h _ (Hk hk)
 .have:cell hs k=0:=by simp[cell,GH,GI (HF hk)]
  lia
variable{l:Leaf}
def Leaf.shows_le(h:l.Ok)(x y:Int):0<=l.shows x y/\l.shows x y<=6:=by
 unfold Leaf.shows;split
 .exact Bd h.hue _
 .lia
def tS:∀{ls:List Leaf} (x y:Int),(∀l∈ls,l.Ok)->0<=bf ls x y/\bf ls x y<=6
 |[],_,_,_=>by simp[bf]
 |l::r,x,y,h=>by
  unfold bf;split
  .exact Leaf.shows_le (h l Gd) x y
  .exact tS x y λl' q=>h l' (F8 _ q)
def bJ(L:List JM)(a b c d:Int):Leaf:=#[L,a,b,c,d,1,0,0,1,0,0,[0,1,2,3,4,5,6]]
inductive Pat where
 |mot (L:List Str) (a b c d:Int)
 |over (p q:Pat)
 |sh (a b:Int) (p:Pat)
 |mir (p:Pat)
 |tur (p:Pat)
 |hue (f g:Int) (p:Pat)
def Pat.text:Pat->JM
 |.mot L a b c d=>eQ L a b c d
 |.over p q=>(((("(":JM)++p.text)++"|")++q.text)++")"
 |.sh a b p=>((((("s":JM)++(toString a:String))++",")++(toString b:String))++":")++p.text
 |.mir p=>("m":JM)++p.text
 |.tur p=>("t":JM)++p.text
 |.hue f g p=>((("h":JM)++(toString f:String))++(toString g:String))++p.text
def Pat.depth:Pat->Nat
 |.mot ..=>0
 |.over p q=>1+max p.depth q.depth
 |.sh _ _ p=>p.depth+1
 |.mir p=>p.depth+1
 |.tur p=>p.depth+1
 |.hue _ _ p=>p.depth+1
def Leaf.by(l:Leaf)(b0 b1 b2 b3 b4 b5:Int):Leaf:=
 {l with w0:=l.w0*b0+l.w1*b2,w1:=l.w0*b1+l.w1*b3,w2:=l.w2*b0+l.w3*b2,w3:=l.w2*b1+l.w3*b3,w4:=l.w4+l.w0*b4+l.w1*b5,w5:=l.w5+l.w2*b4+l.w3*b5}
def ca(f g h:Int):Int:=if h=f then g else h
def Leaf.dye(l:Leaf)(f g:Int):Leaf:={l with hues:=l.hues.map (ca f g)}
def Pat.leaves:Pat->List Leaf
 |.mot L a b c d=>[bJ L a b c d]
 |.over p q=>p.leaves++q.leaves
 |.sh a b p=>p.leaves.map (λl=>l.by 1 0 0 1 (-a) (-b))
 |.mir p=>p.leaves.map (λl=>l.by (-1) 0 0 1 0 0)
 |.tur p=>p.leaves.map (λl=>l.by 0 1 (-1) 0 0 0)
 |.hue f g p=>p.leaves.map (λl=>(l.by 1 0 0 1 0 0).dye f g)
def Pat.show:Pat->Int->Int->Int
 |.mot L a b c d,x,y=>(bJ L a b c d).shows x y
 |.over p q,x,y=>if p.show x y≠0 then p.show x y else q.show x y
 |.sh a b p,x,y=>p.show (x-a) (y-b)
 |.mir p,x,y=>p.show (-x) y
 |.tur p,x,y=>p.show y (-x)
 |.hue f g p,x,y=>ca f g (p.show x y)
def Pat.Wf:Pat->Prop
 |.mot L a b c d=>Rows L/\B12 a/\B12 b/\B12 c/\B12 d/\¬a*d=b*c
 |.over p q=>p.Wf/\q.Wf
 |.sh a b p=>B12 a/\B12 b/\p.Wf
 |.mir p=>p.Wf
 |.tur p=>p.Wf
 |.hue f g p=>(1<=f/\f<=6)/\(1<=g/\g<=6)/\p.Wf
def Leaf.by_shows(l:Leaf)(b0 b1 b2 b3 b4 b5 x y:Int):(l.by b0 b1 b2 b3 b4 b5).shows x y=l.shows (b0*x+b1*y+b4) (b2*x+b3*y+b5):=by
 have e1:(l.w0*b0+l.w1*b2)*x+(l.w0*b1+l.w1*b3)*y+(l.w4+l.w0*b4+l.w1*b5)=l.w0*(b0*x+b1*y+b4)+l.w1*(b2*x+b3*y+b5)+l.w4:=Lz
 have e2:(l.w2*b0+l.w3*b2)*x+(l.w2*b1+l.w3*b3)*y+(l.w5+l.w2*b4+l.w3*b5)=l.w2*(b0*x+b1*y+b4)+l.w3*(b2*x+b3*y+b5)+l.w5:=Lz
 simp only[Leaf.shows,Leaf.hit,Leaf.by,e1,e2]
def fT(b0 b1 b2 b3 b4 b5 x y:Int):∀ls:List Leaf,bf (ls.map (λl=>l.by b0 b1 b2 b3 b4 b5)) x y=bf ls (b0*x+b1*y+b4) (b2*x+b3*y+b5)
 |[]=>rfl
 |l::r=>by
  rw[Gs,bf,bf,Leaf.by_shows,fT b0 b1 b2 b3 b4 b5 x y r]
def scanRow_sign{f:Int->Bool}:∀{cs:List Nat} {i c:Nat},(∀c∈cs,bB c)->scanRow f i cs=be c->49<=c/\c<=54
 |[],_,_,_,h=>by cases h
 |a::r,i,c,hs,h=>by
  rw[scanRow]at h;split at h
  .rename_i q;cases h;have:=hs a Gd;unfold bB at this;have:=q.1;lia
  .exact scanRow_sign (λc q=>hs c (F8 _ q)) h
def kR{f:Int->Int->Bool}:∀{L:List JM} {j c:Nat},(∀l∈L,∀c∈cs l,bB c)->bV f j L=be c->49<=c/\c<=54
 |[],_,_,_,h=>by cases h
 |a::r,j,c,hs,h=>by
  rw[bV]at h;split at h
  .rename_i q;cases h;exact scanRow_sign (hs a Gd) q
  .exact kR (λl q=>hs l (F8 _ q)) h
def Be(h:k.toNat<hs.length):cell (hs.map (ca f g)) k=ca f g (cell hs k):=by
 simp[cell,GH,Gf,Gv h]
def Leaf.dye_shows(ok:l.Ok)(hf:1<=f)(x y:Int):(l.dye f g).shows x y=ca f g (l.shows x y):=by
 have e:(l.dye f g).hit x y=l.hit x y:=rfl;unfold Leaf.shows;rw[e];cases h:l.hit x y with
 |none=>simp[ca];lia
 |some c=>
  have hc:49<=c/\c<=54:=kR (λl' q=>let ⟨_,_,_,h⟩:=ok.rows;(h l' q).2) h;exact Be (by rw[ok.many];lia)
def tT(hf:1<=f)(hg:1<=g):ca f g h=0↔h=0:=by
 unfold ca;split<;>lia
def tU{f g:Int}(hf:1<=f)(hg:1<=g)(x y:Int):∀ls:List Leaf,(∀l∈ls,l.Ok)->bf (ls.map (λl=>l.dye f g)) x y=ca f g (bf ls x y)
 |[],_=>by simp[bf,ca];lia
 |l::r,h=>by
  rw[Gs,bf,bf,Leaf.dye_shows (h l Gd) hf,tU hf hg x y r λl q=>h l (F8 _ q)];by_cases z:l.shows x y=0
  .rw[if_neg (λq=>q ((tT hf hg).mpr z)),if_neg (λq=>q z)]
  .rw[if_pos (λq=>z ((tT hf hg).mp q)),if_pos z]
def tV(x y:Int):∀(a b:List Leaf),bf (a++b) x y=if bf a x y≠0 then bf a x y else bf b x y
 |[],b=>by simp[bf]
 |l::r,b=>by
  rw[GU,bf,bf];by_cases z:l.shows x y≠0
  .rw[if_pos z,if_pos z,if_pos z]
  .rw[if_neg z,if_neg z,tV x y r b]
structure Leaf.Near(l:Leaf)(n:Nat):Prop where
 u0:(l.w0.natAbs=1/\l.w1=0/\l.w2=0/\l.w3.natAbs=1)\/(l.w0=0/\l.w1.natAbs=1/\l.w2.natAbs=1/\l.w3=0)
 w4:l.w4.natAbs<=24*n
 w5:l.w5.natAbs<=24*n
variable{n:Nat}
def Leaf.Near.mono{m:Nat}(h:l.Near n)(k:n<=m):l.Near m:=#[h.u0,by have:=h.w4;lia,by have:=h.w5;lia]
def Leaf.Near.unit(h:l.Near n):(l.w0=1\/l.w0=-1\/l.w0=0)/\(l.w1=1\/l.w1=-1\/l.w1=0)/\(l.w2=1\/l.w2=-1\/l.w2=0)/\(l.w3=1\/l.w3=-1\/l.w3=0):=by
 have k:∀{w:Int},w.natAbs=1->w=1\/w=-1\/w=0:=λ{w} e=>(Int.natAbs_eq w).imp (λz=>by rw[z,e];rfl) λz=>.inl (by rw[z,e];rfl);rcases h.u0 with⟨p,q,r,t⟩|⟨p,q,r,t⟩
 .exact#[k p,.inr (.inr q),.inr (.inr r),k t]
 .exact#[.inr (.inr p),k q,k r,.inr (.inr t)]
def Bf(h:w=1\/w=-1\/w=0):w.natAbs<=1:=by rcases h with rfl|rfl|rfl<;>decide
def near_add(h:e.natAbs<=24*n)(hw:w=1\/w=-1\/w=0)(hv:v=1\/v=-1\/v=0)(ha:B12 a)(hb:B12 b):(e+w* -a+v* -b).natAbs<=24*(n+1):=by
 have m:∀{w a:Int},(w=1\/w=-1\/w=0)->B12 a->(w* -a).natAbs<=12:=λ{w a} hw ha=>by
  rw[HI,Jc];exact HJ (Bf hw) (show a.natAbs<=12 by unfold B12 at ha;clear hw;lia)
 rw[show 24*(n+1)=24*n+12+12 from rfl];exact Ga (Jd _ _) (Je (Ga (Jd _ _) (Je h (m hw ha))) (m hv hb))
def Bg(h:l.Near n)(ha:B12 a)(hb:B12 b):(l.by 1 0 0 1 (-a) (-b)).Near (n+1):=by
 obtain⟨h0,h1,h2,h3⟩:=h.unit;exact#[by simpa[Leaf.by]using h.u0,near_add h.w4 h0 h1 ha hb,near_add h.w5 h2 h3 ha hb]
def Bh(h:l.Near n):(l.by (-1) 0 0 1 0 0).Near (n+1):=by
 have p:=h.w4;have q:=h.w5;exact#[by simpa[Leaf.by]using h.u0,by simp[Leaf.by];lia,by simp[Leaf.by];lia]
def Bi(h:l.Near n):(l.by 0 1 (-1) 0 0 0).Near (n+1):=by
 have p:=h.w4;have q:=h.w5;refine#[?_,by simp[Leaf.by];lia,by simp[Leaf.by];lia];rcases h.u0 with⟨a,b,c,d⟩|⟨a,b,c,d⟩
 .exact .inr (by simp[Leaf.by,a,b,c,d])
 .exact .inl (by simp[Leaf.by,a,b,c,d])
def tW(h:l.Near n):((l.by 1 0 0 1 0 0).dye f g).Near (n+1):=by
 have p:=h.w4;have q:=h.w5;exact#[by simpa[Leaf.by,Leaf.dye]using h.u0,by simp[Leaf.by,Leaf.dye];lia,by simp[Leaf.by,Leaf.dye];lia]
structure Leaf.Good(l:Leaf):Prop where
 rows:Rows l.rows
 a:B12 l.a
 b:B12 l.b
 c:B12 l.c
 d:B12 l.d
 ne:¬l.a*l.d=l.b*l.c
 many:l.hues.length=7
 hue:∀h∈l.hues,0<=h/\h<=6
def Leaf.ok_of(g:l.Good)(h:l.Near n)(hn:n<=40):l.Ok:=by
 have:=h.u0;have:=h.w4;have:=h.w5;exact#[g.rows,g.a,g.b,g.c,g.d,g.ne,Ko,Ko,Ko,Ko,Ko,Ko,g.many,g.hue]
def Pat.leaf_good:∀{p:Pat},p.Wf->∀l∈p.leaves,l.Good/\l.Near p.depth
 |.mot L a b c d,h,l,q=>by
  have:l=bJ L a b c d:=by simpa[Pat.leaves]using q
  subst this;obtain⟨h1,h2,h3,h4,h5,h6⟩:=h;exact#[#[h1,h2,h3,h4,h5,h6,rfl,by intro h q;simp[bJ]at q;lia],#[by simp[bJ],by simp[bJ],by simp[bJ]]]
 |.over p r,h,l,q=>by
  rcases GA.mp q with q|q
  .obtain⟨g,n⟩:=Pat.leaf_good h.1 l q;exact#[g,n.mono (by simp only[Pat.depth];lia)]
  .obtain⟨g,n⟩:=Pat.leaf_good h.2 l q;exact#[g,n.mono (by simp only[Pat.depth];lia)]
 |.sh a b p,h,l,q=>by
  obtain⟨l',q',rfl⟩:=Gp.mp q;obtain⟨g,n⟩:=Pat.leaf_good h.2.2 l' q';exact#[#[g.rows,g.a,g.b,g.c,g.d,g.ne,g.many,g.hue],Bg n h.1 h.2.1]
 |.mir p,h,l,q=>by
  obtain⟨l',q',rfl⟩:=Gp.mp q;obtain⟨g,n⟩:=Pat.leaf_good (p:=p) h l' q';exact#[#[g.rows,g.a,g.b,g.c,g.d,g.ne,g.many,g.hue],Bh n]
 |.tur p,h,l,q=>by
  obtain⟨l',q',rfl⟩:=Gp.mp q;obtain⟨g,n⟩:=Pat.leaf_good (p:=p) h l' q';exact#[#[g.rows,g.a,g.b,g.c,g.d,g.ne,g.many,g.hue],Bi n]
 |.hue f k p,h,l,q=>by
  obtain⟨l',q',rfl⟩:=Gp.mp q;obtain⟨g,n⟩:=Pat.leaf_good (p:=p) h.2.2 l' q';refine#[#[g.rows,g.a,g.b,g.c,g.d,g.ne,?_,λv hv=>?_],tW n]
  .show(l'.hues.map _).length=7;rw[Gb];exact g.many
  .obtain⟨u,hu,rfl⟩:=Gp.mp hv;have:=g.hue u hu;have:=h.2.1;unfold ca;split<;>lia
variable{p:Pat}
def Pat.leaf_ok(h:p.Wf)(hd:p.depth<=40):∀l∈p.leaves,l.Ok:=λl q=>Leaf.ok_of (Pat.leaf_good h l q).1 (Pat.leaf_good h l q).2 hd
def Pat.show_leaves:∀{p:Pat},p.Wf->p.depth<=40->∀x y,bf p.leaves x y=p.show x y
 |.mot L a b c d,_,_,x,y=>by
  simp only[Pat.leaves,Pat.show,bf];split
  .rfl
  .lia
 |.over p q,h,hd,x,y=>by
  simp only[Pat.depth]at hd;rw[Pat.leaves,tV,Pat.show_leaves h.1 Ko,Pat.show_leaves h.2 Ko,Pat.show]
 |.sh a b p,h,hd,x,y=>by
  simp only[Pat.depth]at hd;rw[Pat.leaves,fT,Pat.show_leaves h.2.2 Ko,Pat.show];congr 1<;>lia
 |.mir p,h,hd,x,y=>by
  simp only[Pat.depth]at hd;rw[Pat.leaves,fT,Pat.show_leaves (p:=p) h Ko,Pat.show];congr 1<;>lia
 |.tur p,h,hd,x,y=>by
  simp only[Pat.depth]at hd;rw[Pat.leaves,fT,Pat.show_leaves (p:=p) h Ko,Pat.show];congr 1<;>lia
 |.hue f g p,h,hd,x,y=>by
  simp only[Pat.depth]at hd;have e:p.leaves.map (λl=>(l.by 1 0 0 1 0 0).dye f g)=(p.leaves.map (λl=>l.by 1 0 0 1 0 0)).map (λl=>l.dye f g):=by rw[Hb];rfl
  rw[Pat.leaves,e,tU h.1.1 h.2.1.1,fT,Pat.show_leaves h.2.2 Ko,Pat.show]
  .congr 2<;>lia
  .intro l q;obtain⟨l',q',rfl⟩:=Gp.mp q;obtain⟨g',n⟩:=Pat.leaf_good h.2.2 l' q';have n':=tW (f:=f) (g:=g) n;have:(l'.by 1 0 0 1 0 0).Near (p.depth+1):=#[n'.u0,n'.w4,n'.w5];exact Leaf.ok_of #[g'.rows,g'.a,g'.b,g'.c,g'.d,g'.ne,g'.many,g'.hue] this Ko
def tX(h:1<=a/\a<=6):((toString a:String):JM).length<=3:=cn Ko
def tY(hn:¬a*d=b*c)(h:(u*d-v*c).fmod (a*d-b*c)=0/\(a*v-b*u).fmod (a*d-b*c)=0):∃i j,u=i*a+j*c/\v=i*b+j*d:=by
 have hz:a*d-b*c≠0:=Kw
 obtain⟨i,ei⟩:(a*d-b*c)∣(u*d-v*c):=#[_,(Jf h.1).symm];obtain⟨j,ej⟩:(a*d-b*c)∣(a*v-b*u):=#[_,(Jf h.2).symm];refine#[i,j,?_,?_]
 .have:(a*d-b*c)*u=(a*d-b*c)*(i*a+j*c):=by
   have q1:(a*d-b*c)*u=a*(u*d-v*c)+c*(a*v-b*u):=Lz
   rw[q1,ei,ej];grind
  exact Ii hz this
 .have:(a*d-b*c)*v=(a*d-b*c)*(i*b+j*d):=by
   have q1:(a*d-b*c)*v=b*(u*d-v*c)+d*(a*v-b*u):=Lz
   rw[q1,ei,ej];grind
  exact Ii hz this
def Uni.trans{x0 x1 y0 y1:Int}(h:Uni a b c d p0 p1 q0 q1)(k:Uni p0 p1 q0 q1 x0 x1 y0 y1):Uni a b c d x0 x1 y0 y1:=by
 obtain⟨m,n,k1,l,hd,rfl,rfl,rfl,rfl⟩:=h;obtain⟨m',n',k',l',g7,rfl,rfl,rfl,rfl⟩:=k;have dt:(m'*m+n'*k1)*(k'*n+l'*l)-(m'*n+n'*l)*(k'*m+l'*k1)=(m'*l'-n'*k')*(m*l-n*k1):=Lz
 refine#[m'*m+n'*k1,m'*n+n'*l,k'*m+l'*k1,k'*n+l'*l,?_,Lz,Lz,Lz,Lz];rw[dt];rcases hd with e|e<;>rcases g7 with e'|e'<;>rw[e,e']<;>decide
def gY:∀(n:Nat) (a b c d:Int),d.natAbs<=n->∃p0 p1 q0,Lev a b c d p0 p1 q0
 |n,a,b,c,d,hn=>by
  by_cases hd:d=0
  .subst hd;by_cases hb:0<=b
   .exact#[a,b,c,hb,Uni.refl a b c 0]
   .exact#[-a,-b,c,Ko,(Uni.refl a b c 0).neg]
  .match n,hn with
   |0,hn=>exact absurd (Ko:d=0) hd
   |n+1,hn=>
    have lt:=(fdm b d hd).1;obtain⟨p0,p1,q0,h0,hu⟩:=gY n c d (a-b.fdiv d*c) (b-b.fdiv d*d) Ko;exact#[p0,p1,q0,h0,((Uni.refl a b c d).step (b.fdiv d)).trans hu]
def kS(x y:Int):∃g u,Meas x y g u:=by
 obtain⟨p0,p1,q0,hL⟩:=gY y.natAbs 1 x 0 y (FX _);exact#[p1,p0,tM #[hL.1,hL.2]]
def InF(w h s x y:Int):Prop:=∃i j,x=i*w+j*s/\y=j*h
def FamOf.lat(f:FamOf a b c d w h s)(x y:Int):InF w h s x y↔∃i j,x=i*a+j*c/\y=i*b+j*d:=by
 obtain⟨_,_,_,_,hu⟩:=f;obtain⟨m,n,k,l,_,e1,e2,e3,e4⟩:=id hu;obtain⟨m',n',k',l',_,f1,f2,f3,f4⟩:=hu.inv;constructor
 .rintro⟨i,j,rfl,rfl⟩;refine#[i*m+j*k,i*n+j*l,by rw[e1,e3];grind,?_];have z:i*0+j*h=(i*m+j*k)*b+(i*n+j*l)*d:=by rw[e2,e4];grind
  lia
 .rintro⟨i,j,rfl,rfl⟩;refine#[i*m'+j*k',i*n'+j*l',by rw[f1,f3];grind,by rw[f2,f4];grind]
def MetR.lat{A:Int}(M:MetR w1 h1 s1 w2 h2 s2 w h s A)(x y:Int):InF w h s x y↔InF w1 h1 s1 x y/\InF w2 h2 s2 x y:=by
 constructor
 .rintro⟨i,j,rfl,rfl⟩;obtain⟨a1,e1⟩:=M.in1;obtain⟨a2,e2⟩:=M.in2;obtain⟨b1,c1,e3,e4⟩:=M.up1;obtain⟨b2,c2,e5,e6⟩:=M.up2;refine#[#[i*a1+j*b1,j*c1,?_,?_],#[i*a2+j*b2,j*c2,?_,?_]]
  .rw[e1,e3];grind
  .rw[e4];grind
  .rw[e2,e5];grind
  .rw[e6];grind
 .rintro⟨h1,h2⟩;exact M.all x y h1 h2
variable{w' h' s':Int}
def InF.le(hw:0<w)(hh:0<h)(NU:0<w')(NV:0<h')(sub:∀x y,InF w' h' s' x y->InF w h s x y):w*h<=w'*h'/\w<=w'/\h<=h':=by
 obtain⟨i,j,e1,e2⟩:=sub w' 0 #[1,0,Ko,Ko];have j0:j=0:=by
  rcases Int.mul_eq_zero.mp e2.symm with z|z
  .exact z
  .lia
 subst j0;have i1:1<=i:=by
  rcases(Ko:i<=0\/1<=i)with z|z
  .have:=HK z (show 0<=w by lia);lia
  .exact z
 obtain⟨i',j',e3,e4⟩:=sub s' h' #[0,1,Ko,Ko];have j1:1<=j':=by
  rcases(Ko:j'<=0\/1<=j')with z|z
  .have:=HK z (show 0<=h by lia);lia
  .exact z
 have a1:=G2 i1 (show 0<=w by lia);have a2:=G2 j1 (show 0<=h by lia);have b1:w<=w':=Ko
 have b2:h<=h':=Ko
 exact#[Int.mul_le_mul b1 b2 Ko Ko,b1,b2]
def InF.uniq(hw:0<w)(hh:0<h)(hs:0<=s)(Kb:s<w)(NU:0<w')(NV:0<h')(Mr:0<=s')(QV:s'<w')(e:∀x y,InF w h s x y↔InF w' h' s' x y):w=w'/\h=h'/\s=s':=by
 obtain⟨_,a1,a2⟩:=InF.le hw hh NU NV (λx y q=>(e x y).mpr q);obtain⟨_,b1,b2⟩:=InF.le NU NV hw hh (λx y q=>(e x y).mp q);have ew:w=w':=Ko
 have eh:h=h':=Ko
 subst ew eh;refine#[rfl,rfl,?_];obtain⟨i,j,e1,e2⟩:=(e s h).mp #[0,1,Ko,Ko];have j1:j=1:=by
  have:j*h=1*h:=by lia
  exact HL Ko this
 subst j1;have:i*w=s-s':=Ko
 rcases(Ko:i<=-1\/i=0\/1<=i)with z|z|z
 .have:=G2 z (show 0<=w by lia);lia
 .subst z;lia
 .have:=G2 z (show 0<=w by lia);lia
structure Fam0(w h s:Int):Prop where
 w0:0<w
 h0:0<h
 s0:0<=s
 sw:s<w
def Bj(f:Fam0 w1 h1 s1)(k:Fam0 w2 h2 s2):∃w h s,Fam0 w h s/\∀x y,InF w h s x y↔InF w1 h1 s1 x y/\InF w2 h2 s2 x y:=by
 obtain⟨g,u,M1⟩:=kS w1 w2;obtain⟨k',u',M2⟩:=kS h1 h2;obtain⟨gg,C_,M3⟩:=kS g (h1*h2/k'/h2*s2-h1*h2/k'/h1*s1);have M:=tN f.w0 k.w0 f.h0 k.h0 M1 M2 M3;exact#[_,_,_,#[M.w0,M.h0,M.s0,M.sw],M.lat]
def Pat.Lat:Pat->Int->Int->Prop
 |.mot _ a b c d,x,y=>∃i j,x=i*a+j*c/\y=i*b+j*d
 |.over p q,x,y=>p.Lat x y/\q.Lat x y
 |.sh _ _ p,x,y=>p.Lat x y
 |.mir p,x,y=>p.Lat (-x) y
 |.tur p,x,y=>p.Lat y (-x)
 |.hue _ _ p,x,y=>p.Lat x y
structure Pat.Fam(p:Pat)(w h s:Int):Prop where
 f:Fam0 w h s
 lat:∀x y,InF w h s x y↔p.Lat x y
def Pat.Fam.uniq(a:p.Fam w h s)(b:p.Fam w' h' s'):w=w'/\h=h'/\s=s':=
 InF.uniq a.f.w0 a.f.h0 a.f.s0 a.f.sw b.f.w0 b.f.h0 b.f.s0 b.f.sw λx y=>(a.lat x y).trans (b.lat x y).symm
def Pat.Fam.mot(k:FamOf a b c d w h s):(Pat.mot L a b c d).Fam w h s:=#[#[k.1,k.2.1,k.2.2.1,k.2.2.2.1],k.lat]
def Pat.Fam.sh(a b:Int)(k:p.Fam w h s):(Pat.sh a b p).Fam w h s:=#[k.f,k.lat]
def Pat.Fam.hue(a b:Int)(k:p.Fam w h s):(Pat.hue a b p).Fam w h s:=#[k.f,k.lat]
def Pat.Fam.mir(k:p.Fam w h s):(Pat.mir p).Fam w h (-s%w):=by
 refine#[#[k.f.w0,k.f.h0,fR k.f.w0,fS k.f.w0],λx y=>?_];show _↔p.Lat (-x) y;rw[<-k.lat];have e:=G1 (-s) w;generalize -s%w=r at e;generalize -s/w=t at e;constructor
 .rintro⟨i,j,rfl,rfl⟩;exact#[j*t-i,j,by rw[e];grind,rfl]
 .rintro⟨i,j,ex,rfl⟩;exact#[j*t-i,j,by rw[e];grind,rfl]
def Pat.Fam.tur(k:p.Fam w h s)(f:FamOf 0 w (-h) s w' h' s'):(Pat.tur p).Fam w' h' s':=by
 refine#[#[f.1,f.2.1,f.2.2.1,f.2.2.2.1],λx y=>?_];show _↔p.Lat y (-x);rw[<-k.lat,f.lat];constructor
 .rintro⟨i,j,rfl,rfl⟩;exact#[i,j,Lz,Lz]
 .rintro⟨i,j,ex,ey⟩;exact#[i,j,Lz,Lz]
def Pat.Fam.over{q:Pat}{A:Int}(k1:p.Fam w1 h1 s1)(k2:q.Fam w2 h2 s2)(M:MetR w1 h1 s1 w2 h2 s2 w h s A):(Pat.over p q).Fam w h s:=by
 refine#[#[M.w0,M.h0,M.s0,M.sw],λx y=>?_];rw[M.lat,k1.lat,k2.lat];exact Iff.rfl
def tZ(hw:0<w)(hh:0<h):∃w' h' s',FamOf 0 w (-h) s w' h' s'/\w'*h'=w*h:=by
 have hp:0<w*h:=Gq hw hh;have hn:¬0*s=w* -h:=by rw[Ij];lia
 obtain⟨p0,p1,q0,hL⟩:=gY s.natAbs 0 w (-h) s (FX _);have f:=kN hn hL;refine#[_,_,_,f,?_];have KZ:=Gq f.1 f.2.1;have c:=f.cells;rw[Ij]at c;lia
def ub(hn:¬a*d=b*c):∃w h s,FamOf a b c d w h s/\(Pat.mot L a b c d).Fam w h s:=by
 obtain⟨p0,p1,q0,hL⟩:=gY d.natAbs a b c d (FX _);have f:=kN hn hL;exact#[_,_,_,f,.mot f]
def Pat.fam_ex:∀{p:Pat},p.Wf->∃w h s,p.Fam w h s
 |.mot L a b c d,h=>by
  obtain⟨w,k,s,_,f⟩:=ub (L:=L) h.2.2.2.2.2;exact#[w,k,s,f]
 |.over p q,h=>by
  obtain⟨w1,h1,s1,f1⟩:=Pat.fam_ex h.1;obtain⟨w2,h2,s2,f2⟩:=Pat.fam_ex h.2;obtain⟨w,k,s,f,e⟩:=Bj f1.f f2.f;refine#[w,k,s,f,λx y=>?_];rw[e,f1.lat,f2.lat];exact Iff.rfl
 |.sh a b p,h=>by
  obtain⟨w,k,s,f⟩:=Pat.fam_ex h.2.2;exact#[w,k,s,f.sh a b]
 |.mir p,h=>by
  obtain⟨w,k,s,f⟩:=Pat.fam_ex (p:=p) h;exact#[w,k,_,f.mir]
 |.tur p,h=>by
  obtain⟨w,k,s,f⟩:=Pat.fam_ex (p:=p) h;obtain⟨w',k',s',f',_⟩:=tZ (s:=s) f.f.w0 f.f.h0;exact#[w',k',s',f.tur f']
 |.hue a b p,h=>by
  obtain⟨w,k,s,f⟩:=Pat.fam_ex h.2.2;exact#[w,k,s,f.hue a b]
def Pat.Fits(p:Pat):Prop:=∃w h s,p.Fam w h s/\w*h<=720
def Pat.fits_mot(ha:B12 a)(hb:B12 b)(hc:B12 c)(hd:B12 d)(hn:¬a*d=b*c):(Pat.mot L a b c d).Fits:=by
 obtain⟨w,h,s,k,f⟩:=ub (L:=L) hn;refine#[w,h,s,f,?_];have kc:=k.cells;unfold B12 at*;have m1:=bv (a:=a) (d:=d) (A:=12) (B:=12) Ko Ko;have m2:=bv (a:=b) (d:=c) (A:=12) (B:=12) Ko Ko;lia
def Bk(hL:Rows L)(ha:B12 a)(hb:B12 b)(hc:B12 c)(hd:B12 d):(eQ L a b c d).length<=100:=by
 have la:=cn ha;have lb:=cn hb;have lc:=cn hc;have ld:=cn hd;have l1:(";":JM).length=1:=rfl;have l2:(",":JM).length=1:=rfl;have l3:("[":JM).length=1:=rfl;have l4:("]":JM).length=1:=rfl;have ls:=Bb hL;have lj:=StrLaws.join_length_le "/" L;have lg:(Txt.join "/" L).length<=72:=by
  have e:Txt.join "/" L=Str.join "/" L:=StrLaws.glued_eq_join _ _;rw[e];exact Ga lj ls
 unfold eQ
 repeat rw[aQ]
 lia
def Pat.text_len:∀{p:Pat},p.Wf->p.text.length+10<=110*2^p.depth
 |.mot L a b c d,h=>by
  have:=Bk h.1 h.2.1 h.2.2.1 h.2.2.2.1 h.2.2.2.2.1;show(eQ L a b c d).length+10<=110*2^0;lia
 |.over p q,h=>by
  have h1:=Pat.text_len h.1;have h2:=Pat.text_len h.2;have m1:2^p.depth<=2^(max p.depth q.depth):=Ik Ks (Nat.le_max_left _ _);have m2:2^q.depth<=2^(max p.depth q.depth):=Ik Ks (Nat.le_max_right _ _);have l1:("(":JM).length=1:=rfl;have l2:("|":JM).length=1:=rfl;have l3:(")":JM).length=1:=rfl;rw[Pat.text,Pat.depth,Nat.pow_add]
  repeat rw[aQ]
  lia
 |.sh a b p,h=>by
  have h1:=Pat.text_len h.2.2;have la:=cn h.1;have lb:=cn h.2.1;have l1:("s":JM).length=1:=rfl;have l2:(",":JM).length=1:=rfl;have l3:(":":JM).length=1:=rfl;have:0<2^p.depth:=HN Ks;rw[Pat.text,Pat.depth,HP]
  repeat rw[aQ]
  lia
 |.mir p,h=>by
  have h1:=Pat.text_len (p:=p) h;have l1:("m":JM).length=1:=rfl;have:0<2^p.depth:=HN Ks;rw[Pat.text,Pat.depth,HP,aQ];lia
 |.tur p,h=>by
  have h1:=Pat.text_len (p:=p) h;have l1:("t":JM).length=1:=rfl;have:0<2^p.depth:=HN Ks;rw[Pat.text,Pat.depth,HP,aQ];lia
 |.hue f g p,h=>by
  have h1:=Pat.text_len h.2.2;have la:=tX h.1;have lb:=tX h.2.1;have l1:("h":JM).length=1:=rfl;have:0<2^p.depth:=HN Ks;rw[Pat.text,Pat.depth,HP]
  repeat rw[aQ]
  lia
def Pat.text_short(h:p.Wf)(hd:p.depth<=5):p.text.length<=3510:=by
 have h1:=Pat.text_len h;have h2:2^p.depth<=2^5:=Ik Ks hd;lia
structure Pat.Ok(p:Pat):Prop where
 wf:p.Wf
 deep:p.depth<=5
 fits:p.Fits
end My
end
section
open PySem PySem.Spec PyProof.Rows L2
namespace My
def Bl:TMS:=λ_ _ _=>False
def gZ{X:Cx}[Jm]{st:R3}:MSt X st Bl:=⟨ps_never.anti λE s H q=>by
 obtain⟨F0,F,z,M,k,rs,ED,h,e⟩:=q;exact h.elim⟩
end My
end
section
namespace My
open PySem PySem.Spec PyProof.Rows L2
abbrev isSg(c:Nat):Bool:=c==46||(49<=c&&c<=54)
def numL(a:Int):List Nat:=cs (toString a:String)
variable{a:Int}
def uc(h:B12 a){P:Int->Prop}(hP:∀k:Fin 25,P (((k.val:Nat):Int)-12)):P a:=by
 unfold B12 at h;have:=hP #[(a+12).toNat,Ko];have e:(((a+12).toNat:Nat):Int)-12=a:=Ko
 rw[e]at this;exact this
def isNumL(l:List Nat):Prop:=(∃c,(48<=c/\c<=57)/\l=[c])\/(∃c,(48<=c/\c<=50)/\l=[49,c])\/(∃c,(49<=c/\c<=57)/\l=[45,c])\/∃c,(48<=c/\c<=50)/\l=[45,49,c]
def numL_is(h:B12 a):isNumL (numL a):=by
 have key:∀k:Fin 25,(numL (((k.val:Nat):Int)-12))∈([[45,49,50],[45,49,49],[45,49,48],[45,57],[45,56],[45,55],[45,54],[45,53],[45,52],[45,51],[45,50],[45,49],[48],[49],[50],[51],[52],[53],[54],[55],[56],[57],[49,48],[49,49],[49,50]]:List (List Nat)):=Kv
 have h1:=uc (P:=λa=>numL a∈([[45,49,50],[45,49,49],[45,49,48],[45,57],[45,56],[45,55],[45,54],[45,53],[45,52],[45,51],[45,50],[45,49],[48],[49],[50],[51],[52],[53],[54],[55],[56],[57],[49,48],[49,49],[49,50]]:List (List Nat))) h key;revert h1;generalize numL a=l;intro h1;unfold isNumL;simp only[F5,Ho,or_false]at h1;rcases h1 with e|e|e|e|e|e|e|e|e|e|e|e|e|e|e|e|e|e|e|e|e|e|e|e|e<;>subst e
 all_goals first
  |exact .inl ⟨_,Ks,rfl⟩
  |exact .inr (.inl ⟨_,Ks,rfl⟩)
  |exact .inr (.inr (.inl ⟨_,Ks,rfl⟩))
  |exact .inr (.inr (.inr ⟨_,Ks,rfl⟩))
def endS(c:Nat):Prop:=c=44\/c=59\/c=58\/c=93
def rowsL:List (List Nat)->List Nat
 |[]=>[]
 |[x]=>x
 |x::y::r=>x++47::rowsL (y::r)
variable{c:Nat}
def Bm(h:bB c):isSg c=true:=by
 unfold bB at h;unfold isSg;rcases h with h|h
 .subst h;rfl
 .have:(decide (49<=c)&&decide (c<=54))=true:=by simp[h]
  rw[this,HG]
def motL(L:List (List Nat))(a b c d:Int):List Nat:=91::(rowsL L++59::(numL a++44::(numL b++59::(numL c++44::(numL d++[93])))))
def Pat.tl:Pat->List Nat
 |.mot L a b c d=>motL (L.map cs) a b c d
 |.over p q=>40::(p.tl++124::(q.tl++[41]))
 |.sh a b p=>115::(numL a++44::(numL b++58::p.tl))
 |.mir p=>109::p.tl
 |.tur p=>116::p.tl
 |.hue f g p=>104::(numL f++(numL g++p.tl))
def kT:∀L:List JM,cs (Str.join "/" L)=rowsL (L.map cs)
 |[]=>rfl
 |[x]=>rfl
 |x::y::L=>by
  show cs (x++"/"++Str.join "/" (y::L))=cs x++47::rowsL ((y::L).map cs);rw[aY,aY,kT (y::L),Gx];rfl
def cq:∀p:Pat,cs p.text=p.tl
 |.mot L a b c d=>by
  show cs (eQ L a b c d)=motL (L.map cs) a b c d;unfold eQ motL;have e:Txt.join "/" L=Str.join "/" L:=StrLaws.glued_eq_join _ _;rw[e]
  repeat rw[aY]
  rw[kT];simp only[Gx];rfl
 |.over p q=>by
  rw[Pat.text,Pat.tl]
  repeat rw[aY]
  rw[cq p,cq q];simp only[Gx];rfl
 |.sh a b p=>by
  rw[Pat.text,Pat.tl]
  repeat rw[aY]
  rw[cq p];simp only[Gx];rfl
 |.mir p=>by
  rw[Pat.text,Pat.tl,aY,cq p];rfl
 |.tur p=>by
  rw[Pat.text,Pat.tl,aY,cq p];rfl
 |.hue f g p=>by
  rw[Pat.text,Pat.tl]
  repeat rw[aY]
  rw[cq p];simp only[Gx];rfl
def hueL{f:Int}(h:1<=f/\f<=6):numL f=[(48+f).toNat]:=by
 have key:∀k:Fin 6,numL (((k.val:Nat):Int)+1)=[49+k.val]:=Kv
 have:=key #[(f-1).toNat,Ko];have e:(((f-1).toNat:Nat):Int)+1=f:=Ko
 rw[e]at this;rw[this];congr 1;show 49+(f-1).toNat=(48+f).toNat;lia
def rowsT(L:List (List Nat)):List Nat:=L.flatMap λy=>47::y
def ud:∀(x:List Nat) (L:List (List Nat)),rowsL (x::L)=x++rowsT L
 |x,[]=>by simp[rowsL,rowsT]
 |x,y::L=>by
  rw[rowsL,ud y L];simp[rowsT]
def cQ{x y:JM}(h:cs x=cs y):x=y:=by
 obtain⟨a⟩:=x;obtain⟨b⟩:=y;have:a=b:=Jg.mp h;rw[this]
variable{x:Int}
def numS(h:B12 x):numL x=[48]\/∃pre c y,(pre=[]\/pre=[45])/\(49<=c/\c<=57)/\numL x=pre++c::y/\(y=[]\/(c=49/\∃d,(48<=d/\d<=50)/\y=[d])):=by
 rcases numL_is h with⟨c,hc,e⟩|⟨c,hc,e⟩|⟨c,hc,e⟩|⟨c,hc,e⟩
 .by_cases z:c=48
  .exact .inl (by rw[e,z])
  .exact .inr #[[],c,[],.inl rfl,Ko,e,.inl rfl]
 .exact .inr #[[],49,[c],.inl rfl,Ks,e,.inr #[rfl,c,hc,rfl]]
 .exact .inr #[[45],c,[],.inr rfl,hc,e,.inl rfl]
 .exact .inr #[[45],49,[c],.inr rfl,Ks,e,.inr #[rfl,c,hc,rfl]]
variable{A B:Prop}
def ifT{c:Prop}[Decidable c](h:c)(a:A):if c then A else B:=by rw[if_pos h];exact a
def ifdT{p:Prop}[Decidable p](h:p)(a:A):if decide p=true then A else B:=by rw[if_pos (decide_eq_true h)];exact a
def ifdF{p:Prop}[Decidable p](h:¬p)(b:B):if decide p=true then A else B:=by rw[if_neg (by simpa using h)];exact b
def rdF(t:JM)(k:Nat):List (JM×D):=[("text",.str t),("place",.int k)]
def RdM(a:KF)(t:JM)(k:Nat):MS:=[(a,.ins "Reading" (rdF t k))]
variable{o:MO}
def dG{a:KF}:mget [(a,o)] a=be o:=by unfold mget;rw[if_pos rfl]
def hU{a:KF}{o':MO}:mput [(a,o)] a o'=[(a,o')]:=by unfold mput;rw[if_pos rfl]
variable{t:JM}{k:Nat}
def aT{a:KF}:mget (RdM a t k) a=be (.ins "Reading" (rdF t k)):=dG
def kU:(rdF t k).lookup ("text":JM)=be (.str t):=rfl
def eU:(rdF t k).lookup ("place":JM)=be (.int k):=by
 unfold rdF;rw[Gi,show(("place":JM)==("text":JM))=false by decide+kernel];rfl
def Bn:putD ("place":JM) (.int ((k:Int)+1)) (rdF t k)=rdF t (k+1):=by
 unfold rdF putD;rw[if_neg Kv];unfold putD;rw[if_pos rfl];rfl
def df:(rdF t k).lookup ("may_take":JM)=none:=by
 unfold rdF;rw[Gi,show(("may_take":JM)==("text":JM))=false by decide+kernel,Gi,show(("may_take":JM)==("place":JM))=false by decide+kernel];rfl
def cb:(rdF t k).lookup ("take":JM)=none:=by
 unfold rdF;rw[Gi,show(("take":JM)==("text":JM))=false by decide+kernel,Gi,show(("take":JM)==("place":JM))=false by decide+kernel];rfl
structure At(t:Str)(k:Nat)(l:List Nat):Prop where
 eq:(cs t).drop k=l
 le:k<=t.length
 sz:t.length<=100000
def At.nil(h:At t k []):k=t.length:=by
 have h1:=congrArg Hy h.eq;rw[G5,bq]at h1;have:=h.le;simp at h1;lia
variable{l:List Nat}
def At.lt(h:At t k (c::l)):k<t.length:=by
 have h1:=congrArg Hy h.eq;rw[G5,bq]at h1;simp at h1;lia
def At.get(h:At t k (c::l)):(cs t)[k]?=be c:=by
 have h1:=congrArg (·[0]?) h.eq;simpa using h1
def At.next(h:At t k (c::l)):At t (k+1) l:=by
 refine#[?_,h.lt,h.sz];have h1:=congrArg (Hm 1) h.eq;rw[List.drop_drop]at h1;simpa using h1
def At.app{t:JM}:∀{x l:List Nat} {k:Nat},At t k (x++l)->At t (k+x.length) l
 |[],_,_,h=>h
 |c::x,l,k,h=>by
  have h1:At t (k+1+x.length) l:=At.app (At.next h);have e:k+1+x.length=k+(c::x).length:=by rw[F7];lia
  rw[e]at h1;exact h1
variable{al:JM}
def ue:(!(!(Builtin.Str.occurrences al #[[c].toArray] 0 al.length 1).isEmpty))=!decide (c∈cs al):=by
 rw[StrLaws.found_one]
def mayS(al:JM):List Nat->JM|c::_=>if c∈cs al then#[[c].toArray]else ""|[]=>""
def mayN(al:JM):List Nat->Nat|c::_=>if c∈cs al then 1 else 0|[]=>0
def eV(h:c∈cs al):mayS al (c::l)=#[[c].toArray]:=if_pos h
def eX(h:c∈cs al):mayN al (c::l)=1:=if_pos h
def dH(h:c∉cs al):mayS al (c::l)="":=if_neg h
def dI(h:c∉cs al):mayN al (c::l)=0:=if_neg h
def Bo:SiD:=λds R=>∃t:JM,ds=[.str t]/\R (rdF t 0)
def Bp:SpM:=λds M R RX=>∃(a:KF) (t:JM) (k:Nat) (l:List Nat) (al:JM),ds=[.ptr a,.str al]/\M=RdM a t k/\At t k l/\R (.str (mayS al l)) (RdM a t (k+mayN al l))
def Bq:SpM:=λds M R _=>∃(a:KF) (t:JM) (k c:Nat) (l:List Nat) (al:JM),ds=[.ptr a,.str al]/\M=RdM a t k/\At t k (c::l)/\c∈cs al/\R (.str #[[c].toArray]) (RdM a t (k+1))
def Br(h:B12 x):PySem.intText? #[(numL x).toArray]=be x:=
 uc (P:=λx=>PySem.intText? #[(numL x).toArray]=be x) h Kv
def fU(x y:List Nat):((#[x.toArray]:JM)++#[y.toArray]:JM)=#[(x++y).toArray]:=by
 apply cQ;rw[aY]
def digits19:c∈cs "123456789"↔49<=c/\c<=57:=by
 refine#[λh=>?_,λ⟨h1,h2⟩=>?_]
 .exact(show ∀c∈cs "123456789",49<=c/\c<=57 by decide+kernel) c h
 .obtain⟨k,rfl⟩:=Nat.le.dest h1;exact(show ∀k,k<9->49+k∈cs "123456789" by decide+kernel) k Ko
def digits02:c∈cs "012"↔48<=c/\c<=50:=by
 have e:cs "012"=[48,49,50]:=rfl;rw[e];simp;lia
def Bs(w:List Nat)(c:Nat):Txt.endswith #[(w++[c]).toArray] "1"=decide (c=49):=by
 unfold Txt.endswith;have e1:("1":JM).length=1:=rfl;have e2:(#[(w++[c]).toArray]:JM).length=w.length+1:=by simp[Str.length]
 rw[e1,e2];have e3:decide (0+1<=w.length+1)=true:=KK
 rw[e3,Bool.true_and,Nat.add_sub_cancel];unfold Builtin.Str.subAt;have e4:(#[(w++[c]).toArray]:JM).cps.extract w.length (w.length+("1":JM).length)=[c].toArray:=by
  apply Jg.mp;simp[Array.toList_extract,e1]
 rw[e4];have e5:("1":JM).cps=[49].toArray:=rfl;rw[e5];by_cases h:c=49
 .subst h;rfl
 .simp[h]
def Bt:SpM:=λds M R _=>∃(a:KF) (t:JM) (k:Nat) (x:Int) (e:Nat) (l:List Nat),ds=[.ptr a]/\M=RdM a t k/\B12 x/\endS e/\At t k (numL x++e::l)/\R (.int x) (RdM a t (k+(numL x).length))
def Bu:SpM:=λds M R _=>∃(a:KF) (t:JM) (k:Nat) (x y:Int) (e:Nat) (l:List Nat),ds=[.ptr a]/\M=RdM a t k/\B12 x/\B12 y/\endS e/\At t k (numL x++44::(numL y++e::l))/\R (.tup [.int x,.int y]) (RdM a t (k+(numL x).length+1+(numL y).length))
def signs_is:c∈cs ".123456"↔isSg c=true:=by
 have e:cs ".123456"=[46,49,50,51,52,53,54]:=rfl;rw[e];simp;lia
def eY(x:List Nat):(#[x.toArray]:JM).length=x.length:=by simp[Str.length]
def uf(h:isSg c=false):c∉cs ".123456":=λz=>by rw[signs_is.mp z]at h;cases h
def S_line_from:SpM:=λds M R _=>∃(a:KF) (t:JM) (k n m:Nat) (x l:List Nat),ds=[.ptr a,.int n,.int m]/\M=RdM a t k/\At t k (x++l)/\(∀c∈x,bB c)/\n<=x.length/\x.length<=m/\m<=8/\(x.length=m\/∃c l',l=c::l'/\isSg c=false)/\R (.str #[x.toArray]) (RdM a t (k+x.length))
def Bv{p a:KF}(h:p≠a):mget ((p,o)::RdM a t k) a=be (.ins "Reading" (rdF t k)):=by
 unfold mget;rw[if_neg h];exact dG
variable{M:MS}
def cR{p:KF}:mget ((p,o)::M) p=be o:=by unfold mget;rw[if_pos rfl]
def uh{p:KF}{o':MO}:mput ((p,o)::M) p o'=(p,o')::M:=by unfold mput;rw[if_pos rfl]
def kW{p:KF}:mdel ((p,o)::M) p=M:=by unfold mdel;rw[if_pos rfl]
structure RowsL(L:List (List Nat))(w:Nat):Prop where
 many:1<=L.length/\L.length<=8
 w1:1<=w
 w8:w<=8
 each:∀x∈L,x.length=w/\∀c∈x,bB c
def lstD(L:List (List Nat)):List D:=L.map λx=>D.str #[x.toArray]
def Bw:SpM:=λds M R _=>∃(a:KF) (t:JM) (k:Nat) (L:List (List Nat)) (w:Nat) (l:List Nat),ds=[.ptr a]/\M=RdM a t k/\RowsL L w/\At t k (rowsL L++59::l)/\R (.lst (lstD L)) (RdM a t (k+(rowsL L).length))
def hmX(w h s:Int)(i j:Int):Int:=(i-j/h*s)%w
def hRow(w h s:Int)(j:Nat):Nat->List Nat->List ((Int×Int)×Int)->List ((Int×Int)×Int)
 |_,[],kv=>kv
 |i,c::r,kv=>hRow w h s j (i+1) r (if c=46 then kv else sdD kv (hmX w h s i j) ((j:Int)%h) ((c:Int)-48))
def hAll(w h s:Int):Nat->List (List Nat)->List ((Int×Int)×Int)->List ((Int×Int)×Int)
 |_,[],kv=>kv
 |j,x::r,kv=>hAll w h s (j+1) r (hRow w h s j 0 x kv)
def ui(kv:List ((Int×Int)×Int))(x y v:Int):(sdD kv x y v).length<=kv.length+1:=by
 unfold sdD;split
 .lia
 .rw[Gc];simp
def By(h:49<=c/\c<=54):∃i rest,Builtin.Str.occurrences ".123456" #[[c].toArray] 0 (".123456":JM).length 1=i::rest/\((i:Nat):Int)=(c:Int)-48:=by
 rcases(Ko:c=49\/c=50\/c=51\/c=52\/c=53\/c=54)with e|e|e|e|e|e<;>subst e
 .exact#[1,[],Kv,Ks]
 .exact#[2,[],Kv,Ks]
 .exact#[3,[],Kv,Ks]
 .exact#[4,[],Kv,Ks]
 .exact#[5,[],Kv,Ks]
 .exact#[6,[],Kv,Ks]
def Bz{x:List Nat}(h:∀c∈x,bB c):(#[x.toArray]:JM).cps.all (·<128)=true:=by
 rw[<-Ig,GL];intro c hc;have:=h c hc;unfold bB at this;simp;lia
def BA{L:List (List Nat)}{j:Nat}{d:D}(h:(lstD L)[j]?=be d):∃x,L[j]?=be x/\d=.str #[x.toArray]:=by
 unfold lstD at h;rw[Gf]at h;cases e:L[j]? with
 |none=>rw[e]at h;cases h
 |some x=>rw[e]at h;cases h;exact#[x,rfl,rfl]
variable{i:Nat}
def BB{x:List Nat}{d:D}(h:(bt #[x.toArray])[i]?=be d):∃c,x[i]?=be c/\d=.str #[[c].toArray]:=by
 unfold bt at h;rw[Gf]at h;cases e:x[i]? with
 |none=>simp[e]at h
 |some c=>simp[e]at h;exact#[c,rfl,h.symm]
def uj{α:Type}{l:List α}{x:α}(h:l[i]?=be x):l.drop i=x::l.drop (i+1):=by
 have hi:i<l.length:=(Gh.mp h).1;rw[Il hi];congr 1;rw[Gv hi]at h;exact Option.some.inj h
def BC:SpM:=λds M R RX=>∃(L:List (List Nat)) (wd:Nat) (w h s:Int),ds=[.lst (lstD L),.tup [.int w,.int h,.int s]]/\RowsL L wd/\0<w/\0<h/\h<1073741824/\0<=s/\s<1073741824/\R (.dti (hAll w h s 0 L [])) M
def moF(k:Nat)(sh:D)(hu:List ((Int×Int)×Int)):List (JM×D):=[("place",.int k),("shifts",sh),("hues",.dti hu)]
def BD:SiD:=λds R=>∃(k:Nat) (L:List (List Nat)) (wd:Nat) (a b c d:Int),ds=[.int k,.lst (lstD L),.tup [.int a,.int b],.tup [.int c,.int d]]/\RowsL L wd/\B12 a/\B12 b/\B12 c/\B12 d/\¬a*d=b*c/\
 ∀w h s,FamOf a b c d w h s->R (moF k (.tup [.int w,.int h,.int s]) (hAll w h s 0 L []))
variable{v:My.D}
def BE:putD ("place":JM) v []=([("place",v)]:List (JM×D)):=rfl
variable{u:My.D}
def BF:putD ("shifts":JM) v [("place",u)]=([("place",u),("shifts",v)]:List (JM×D)):=by
 unfold putD;rw[if_neg Kv];rfl
def BG{t:D}:putD ("hues":JM) v [("place",t),("shifts",u)]=([("place",t),("shifts",u),("hues",v)]:List (JM×D)):=by
 unfold putD;rw[if_neg Kv];unfold putD;rw[if_neg Kv];rfl
def uk:([("place",u),("shifts",v)]:List (JM×D)).lookup ("shifts":JM)=be v:=by
 rw[Gi,show(("shifts":JM)==("place":JM))=false by decide+kernel];rfl
def BH:SiD:=λds R=>∃(x y:JM) (fs gs:List (JM×D)),ds=[.obj x fs,.obj y gs]/\R [("above",.obj x fs),("below",.obj y gs)]
def BI:SiD:=λds R=>∃(x:JM) (fs:List (JM×D)) (a b:Int),ds=[.obj x fs,.int a,.int b]/\R [("form",.obj x fs),("x",.int a),("y",.int b)]
def BJ:SiD:=λds R=>∃(x:JM) (fs:List (JM×D)),ds=[.obj x fs]/\R [("form",.obj x fs)]
def BK:SiD:=λds R=>∃(x:JM) (fs:List (JM×D)),ds=[.obj x fs]/\R [("form",.obj x fs)]
def BL:SiD:=λds R=>∃(x:JM) (fs:List (JM×D)) (a b:Int),ds=[.obj x fs,.int a,.int b]/\R [("form",.obj x fs),("old",.int a),("new",.int b)]
def FormOf:Pat->D->Prop
 |.mot L a b c d,v=>∃(k:Nat) (w h s:Int),v=.obj "Motif" (moF k (.tup [.int w,.int h,.int s]) (hAll w h s 0 (L.map cs) []))/\FamOf a b c d w h s
 |.over p q,v=>∃u u',v=.obj "Over" [("above",u),("below",u')]/\FormOf p u/\FormOf q u'
 |.sh a b p,v=>∃u,v=.obj "Shifted" [("form",u),("x",.int a),("y",.int b)]/\FormOf p u
 |.mir p,v=>∃u,v=.obj "Mirror" [("form",u)]/\FormOf p u
 |.tur p,v=>∃u,v=.obj "Turn" [("form",u)]/\FormOf p u
 |.hue f g p,v=>∃u,v=.obj "Rehue" [("form",u),("old",.int f),("new",.int g)]/\FormOf p u
def Pat.cls:Pat->JM
 |.mot ..=>"Motif"|.over ..=>"Over"|.sh ..=>"Shifted"|.mir ..=>"Mirror"|.tur ..=>"Turn"|.hue ..=>"Rehue"
variable{f g:JM}{r:List (JM×My.D)}
def bK(h:(f==g)=false)(hr:r.lookup f=G_):(((g,v)::r:List (JM×D))).lookup f=none:=by
 rw[Gi,h];exact hr
structure ObjM(p:Pat)(fs:List (Str×D)):Prop where
 nl:noLF fs=true
 fam:fs.lookup ("family":JM)=G_
 shw:fs.lookup ("shows":JM)=G_
variable{p:Pat}
def FormOf.objm:∀{v:D},FormOf p v->∃fs,v=.obj p.cls fs/\ObjM p fs:=by
 have n1 {g:JM} {u:D} {f:JM} (h:(f==g)=false):([(g,u)]:List (JM×D)).lookup f=none:=bK h rfl;have nn {fs:List (JM×D)} {x:JM} (h:noLF fs=true):noL (.obj x fs)=true:=by simp[noL,h]
 induction p with
 |mot L a b c d=>
  rintro _⟨k,w,h,s,rfl,_⟩;exact#[_,rfl,by simp[noL,noLF,noLs,moF],bK Kv (bK Kv (n1 Kv)),bK Kv (bK Kv (n1 Kv))]
 |over p q i j=>
  rintro _⟨u,u',rfl,h1,h2⟩;obtain⟨fs,rfl,o1⟩:=i h1;obtain⟨gs,rfl,o2⟩:=j h2;exact#[_,rfl,by simp[noLF,nn o1.nl,nn o2.nl],bK Kv (n1 Kv),bK Kv (n1 Kv)]
 |sh a b p i=>
  rintro _⟨u,rfl,h1⟩;obtain⟨fs,rfl,o1⟩:=i h1;exact#[_,rfl,by simp[noL,noLF,o1.nl],bK Kv (bK Kv (n1 Kv)),bK Kv (bK Kv (n1 Kv))]
 |mir p i=>
  rintro _⟨u,rfl,h1⟩;obtain⟨fs,rfl,o1⟩:=i h1;exact#[_,rfl,by simp[noLF,nn o1.nl],n1 Kv,n1 Kv]
 |tur p i=>
  rintro _⟨u,rfl,h1⟩;obtain⟨fs,rfl,o1⟩:=i h1;exact#[_,rfl,by simp[noLF,nn o1.nl],n1 Kv,n1 Kv]
 |hue f g p i=>
  rintro _⟨u,rfl,h1⟩;obtain⟨fs,rfl,o1⟩:=i h1;exact#[_,rfl,by simp[noL,noLF,o1.nl],bK Kv (bK Kv (n1 Kv)),bK Kv (bK Kv (n1 Kv))]
variable{L:List JM}
def BM(h:Rows L):∃w,RowsL (L.map cs) w:=by
 obtain⟨h1,w,h2,h3⟩:=h;refine#[w,by rw[Gb];exact h1,h2.1,h2.2,λx hx=>?_];obtain⟨l,hl,rfl⟩:=Gp.mp hx;rw[bq];exact h3 l hl
def ul{f:Int}(h:1<=f/\f<=6):(48+f).toNat∈cs "123456":=by
 have e:cs "123456"=[49,50,51,52,53,54]:=rfl;rw[e];simp;lia
def BN:SpM:=λds M R _=>∃(g:KF) (t:JM) (k:Nat) (L:List JM) (a b c d:Int) (l:List Nat),ds=[.ptr g]/\M=RdM g t k/\At t k (motL (L.map cs) a b c d++l)/\(Pat.mot L a b c d).Wf/\∀v,FormOf (.mot L a b c d) v->R v (RdM g t (k+(motL (L.map cs) a b c d).length))
def dg(j:Nat):SpM:=λds M R _=>∃(a:KF) (t:JM) (k:Nat) (p:Pat) (l:List Nat) (d:Nat),ds=[.ptr a,.int d]/\M=RdM a t k/\At t k (p.tl++l)/\d+j=6/\1<=j/\p.Wf/\p.depth+d<=5/\∀v,FormOf p v->R v (RdM a t (k+p.tl.length))
variable{ds:List My.D}{R:My.D->MS->Prop}{RX:XDM}
def BO:¬dg 0 ds M R RX:=by
 rintro⟨_,_,_,_,_,_,_,_,_,_,h,_⟩;exact absurd h Ks
def um(j:Nat):SpM:=λds M R _=>∃(a:KF) (t:JM) (k:Nat) (p q:Pat) (l:List Nat) (d:Nat),ds=[.ptr a,.int d]/\M=RdM a t k/\At t k (p.tl++124::(q.tl++41::l))/\d+j=6/\1<=j/\p.Wf/\q.Wf/\p.depth+d<=5/\q.depth+d<=5/\∀u u',FormOf p u->FormOf q u'->R (.obj "Over" [("above",u),("below",u')]) (RdM a t (k+p.tl.length+1+q.tl.length+1))
def uo(j:Nat):SpM:=λds M R _=>∃(a:KF) (t:JM) (k:Nat) (x y:Int) (p:Pat) (l:List Nat) (d:Nat),ds=[.ptr a,.int d]/\M=RdM a t k/\At t k (numL x++44::(numL y++58::(p.tl++l)))/\d+j=6/\1<=j/\B12 x/\B12 y/\p.Wf/\p.depth+d<=5/\∀u,FormOf p u->R (.obj "Shifted" [("form",u),("x",.int x),("y",.int y)]) (RdM a t (k+(numL x).length+1+(numL y).length+1+p.tl.length))
def uq(j:Nat):SpM:=λds M R _=>∃(a:KF) (t:JM) (k:Nat) (f g:Int) (p:Pat) (l:List Nat) (d:Nat),ds=[.ptr a,.int d]/\M=RdM a t k/\At t k ((48+f).toNat::(48+g).toNat::(p.tl++l))/\d+j=6/\1<=j/\(1<=f/\f<=6)/\(1<=g/\g<=6)/\p.Wf/\p.depth+d<=5/\∀u,FormOf p u->R (.obj "Rehue" [("form",u),("old",.int f),("new",.int g)]) (RdM a t (k+2+p.tl.length))
def Pat.cls_mem(p:Pat):p.cls∈(["Motif","Over","Shifted","Mirror","Turn","Rehue"]:List JM):=by
 cases p<;>simp[Pat.cls]
variable{hu:List ((Int×Int)×Int)}
def mo_shifts{sh:D}:(moF k sh hu).lookup ("shifts":JM)=be sh:=by
 unfold moF;rw[Gi,show(("shifts":JM)==("place":JM))=false by decide+kernel];rfl
def BP{sh:D}:(moF k sh hu).lookup ("hues":JM)=be (.dti hu):=by
 unfold moF;rw[Gi,show(("hues":JM)==("place":JM))=false by decide+kernel,Gi,show(("hues":JM)==("shifts":JM))=false by decide+kernel];rfl
def eZ(h:(g==f)=false):(((f,u)::(g,v)::r:List (JM×D))).lookup g=be v:=by
 rw[Gi,h,Gi,beq_self_eq_true]
def kX{e:JM}{t:D}(h1:(g==e)=false)(h2:(g==f)=false):(((e,t)::(f,u)::(g,v)::r:List (JM×D))).lookup g=be v:=by
 rw[Gi,h1];exact eZ h2
variable{w s:Int}
def Pat.Fits.small(h:p.Fits){k:Int}(f:p.Fam w k s):0<w/\w<=720/\0<k/\k<=720/\0<=s/\s<w:=by
 obtain⟨w',k',s',f',hb⟩:=h;obtain⟨rfl,rfl,rfl⟩:=f.uniq f';obtain⟨h1,h2⟩:=fQ f.f.w0 f.f.h0;exact#[f.f.w0,Ko,f.f.h0,Ko,f.f.s0,f.f.sw]
def Pat.Fits.over_parts{q:Pat}(hp:p.Wf)(hq:q.Wf)(h:(Pat.over p q).Fits):p.Fits/\q.Fits:=by
 obtain⟨w,k,s,f,hb⟩:=h;obtain⟨w1,k1,s1,f1⟩:=Pat.fam_ex hp;obtain⟨w2,k2,s2,f2⟩:=Pat.fam_ex hq;have l1:=(InF.le f1.f.w0 f1.f.h0 f.f.w0 f.f.h0 (λx y z=>(f1.lat x y).mpr ((f.lat x y).mp z).1)).1;have l2:=(InF.le f2.f.w0 f2.f.h0 f.f.w0 f.f.h0 (λx y z=>(f2.lat x y).mpr ((f.lat x y).mp z).2)).1;exact#[#[w1,k1,s1,f1,Ko],#[w2,k2,s2,f2,Ko]]
variable{b:Int}
def Pat.Fits.of_sh(h:(Pat.sh a b p).Fits):p.Fits:=by
 obtain⟨w,k,s,f,hb⟩:=h;exact#[w,k,s,#[f.f,f.lat],hb]
def Pat.Fits.of_hue(h:(Pat.hue a b p).Fits):p.Fits:=by
 obtain⟨w,k,s,f,hb⟩:=h;exact#[w,k,s,#[f.f,f.lat],hb]
def Pat.Fits.of_mir(hp:p.Wf)(h:(Pat.mir p).Fits):p.Fits:=by
 obtain⟨w,k,s,f,hb⟩:=h;obtain⟨w1,k1,s1,f1⟩:=Pat.fam_ex hp;obtain⟨rfl,rfl,_⟩:=f.uniq f1.mir;exact#[_,_,_,f1,hb]
def Pat.Fits.of_tur(hp:p.Wf)(h:(Pat.tur p).Fits):p.Fits:=by
 obtain⟨w,k,s,f,hb⟩:=h;obtain⟨w1,k1,s1,f1⟩:=Pat.fam_ex hp;obtain⟨w',k',s',f',e⟩:=tZ (s:=s1) f1.f.w0 f1.f.h0;obtain⟨rfl,rfl,_⟩:=f.uniq (f1.tur f');exact#[_,_,_,f1,Ko]
def bP(j:Nat)(x:JM):SpX:=λds R _=>∃(p:Pat) (v:D),ds=[v]/\FormOf p v/\p.Wf/\p.depth<j/\p.cls=x/\p.Fits/\∀w h s,p.Fam w h s->R (.tup [.int w,.int h,.int s])
def fb{x:JM}:¬ofX (bP 0 x) ds M R RX:=by
 rintro⟨_,_,_,_,_,h,_⟩;exact absurd h (Hq _)
def lookD_app(x y v X Y:Int):∀kv:List ((Int×Int)×Int),lookD (kv++[((x,y),v)]) X Y=match lookD kv X Y with|some u=>be u|none=>if x=X/\y=Y then be v else G_
 |[]=>rfl
 |((a,b),h)::r=>by
  show lookD (((a,b),h)::(r++[((x,y),v)])) X Y=_;unfold lookD;by_cases e:a=X/\b=Y
  .rw[if_pos e,if_pos e]
  .rw[if_neg e,if_neg e];exact lookD_app x y v X Y r
def BQ(kv:List ((Int×Int)×Int))(x y v X Y:Int):lookD (sdD kv x y v) X Y=match lookD kv X Y with|some u=>be u|none=>if x=X/\y=Y then be v else none:=by
 unfold sdD;split
 .rename_i hs;cases e:lookD kv X Y with
  |some u=>rfl
  |none=>
   show G_=_;rw[if_neg];rintro⟨rfl,rfl⟩;rw[e]at hs;cases hs
 .exact lookD_app x y v X Y kv
def look_row(w h s:Int)(j:Nat)(X Y:Int):∀(x:List Nat) (i:Nat) (kv:List ((Int×Int)×Int)),lookD (hRow w h s j i x kv) X Y=match lookD kv X Y with|some u=>be u|none=>(scanRow (λi=>decide (hmX w h s i j=X/\(j:Int)%h=Y)) i x).map λc=>(c:Int)-48
 |[],i,kv=>by
  rw[hRow,scanRow];cases lookD kv X Y<;>rfl
 |c::r,i,kv=>by
  rw[hRow,look_row w h s j X Y r (i+1),scanRow];by_cases v7:c=46
  .rw[if_pos v7,if_neg (c:=c≠46/\_) (λz=>z.1 v7)]
  .rw[if_neg v7,BQ];cases lookD kv X Y with
   |some u=>rfl
   |none=>
    by_cases e:hmX w h s i j=X/\(j:Int)%h=Y
    .rw[if_pos (c:=c≠46/\_) #[v7,decide_eq_true e]];show(match (if hmX w h s i j=X/\(j:Int)%h=Y then be ((c:Int)-48)else G_)with|some u=>be u|none=>_)=_;rw[if_pos e];rfl
    .rw[if_neg (c:=c≠46/\_) (λz=>e (of_decide_eq_true z.2))];show(match (if hmX w h s i j=X/\(j:Int)%h=Y then be ((c:Int)-48)else G_)with|some u=>be u|none=>_)=_;rw[if_neg e]
def ut(w h s X Y:Int):∀(L:List JM) (j:Nat) (kv:List ((Int×Int)×Int)),lookD (hAll w h s j (L.map cs) kv) X Y=match lookD kv X Y with|some u=>be u|none=>(bV (λi j=>decide (hmX w h s i j=X/\j%h=Y)) j L).map λc=>(c:Int)-48
 |[],j,kv=>by
  rw[HE,hAll,bV];cases lookD kv X Y<;>rfl
 |x::r,j,kv=>by
  rw[Gs,hAll,ut w h s X Y r (j+1),look_row,bV];cases lookD kv X Y with
  |some u=>rfl
  |none=>
   show(match (scanRow (λi=>decide (hmX w h s i j=X/\(j:Int)%h=Y)) 0 (cs x)).map (λc=>(c:Int)-48)with|some u=>be u|none=>_)=_;cases scanRow (λi=>decide (hmX w h s i j=X/\(j:Int)%h=Y)) 0 (cs x)<;>rfl
variable{h:Int}
def BR{c d:Int}(F:FamOf a b c d w h s)(hn:¬a*d=b*c)(x y i j:Int):decide (hmX w h s i j=hmX w h s x y/\j%h=y%h)=onB a b c d (x-i) (y-j):=by
 have hw:=F.1;have hh:=F.2.1;have key:(hmX w h s i j=hmX w h s x y/\j%h=y%h)↔InF w h s (x-i) (y-j):=by
  unfold hmX;constructor
  .rintro⟨e1,e2⟩;have dy:=HQ y h;have dj:=HQ j h;have m1:=HQ (x-y/h*s) w;have m2:=HQ (i-j/h*s) w;refine#[(x-y/h*s)/w-(i-j/h*s)/w,y/h-j/h,?_,?_]
   .rw[HR,HR,Gj ((x-y/h*s)/w) w,Gj ((i-j/h*s)/w) w];lia
   .rw[HR,Gj (y/h) h,Gj (j/h) h];lia
  .rintro⟨m,q,ex,ey⟩;have NW:y=j+q*h:=by lia
   have OU:x=i+(m*w+q*s):=Ko
   subst OU NW;rw[Jh,Ji _ _ Ko];refine#[?_,rfl];have e:i+(m*w+q*s)-(j/h+q)*s=i-j/h*s+m*w:=by rw[HS];lia
   rw[e,Jh]
 unfold onB;congr 1;apply propext;rw[key,F.lat];constructor
 .rintro⟨m,q,eu,ev⟩;exact on_of eu ev
 .exact λz=>tY hn z
def BS(h:49<=c/\c<=54):cell [0,1,2,3,4,5,6] ((c:Int)-48)=(c:Int)-48:=by
 rcases(Ko:c=49\/c=50\/c=51\/c=52\/c=53\/c=54)with e|e|e|e|e|e<;>subst e<;>rfl
def motif_shows{c d:Int}(hL:Rows L)(F:FamOf a b c d w h s)(hn:¬a*d=b*c)(x y:Int):(lookD (hAll w h s 0 (L.map cs) []) (hmX w h s x y) (y%h)).getD 0=(bJ L a b c d).shows x y:=by
 rw[ut];show((bV (λi j=>decide (hmX w h s i j=hmX w h s x y/\j%h=y%h)) 0 L).map λc=>(c:Int)-48).getD 0=_;have e:(λi j=>decide (hmX w h s i j=hmX w h s x y/\j%h=y%h))=λi j=>onB a b c d (1*x+0*y+0-i) (0*x+1*y+0-j):=by
  funext i j;rw[BR F hn];congr 1<;>lia
 rw[e];show _=match bV (λi j=>onB a b c d (1*x+0*y+0-i) (0*x+1*y+0-j)) 0 L with|some c=>cell [0,1,2,3,4,5,6] ((c:Int)-48)|none=>0
 cases q:bV (λi j=>onB a b c d (1*x+0*y+0-i) (0*x+1*y+0-j)) 0 L with
 |none=>rfl
 |some c=>
  have hc:49<=c/\c<=54:=kR (λl' q=>let ⟨_,_,_,h⟩:=hL;(h l' q).2) q;exact(BS hc).symm
def bQ(j:Nat)(x:JM):SpX:=λds R _=>∃(p:Pat) (v:D) (X Y:Int),ds=[v,.int X,.int Y]/\FormOf p v/\p.Wf/\p.depth<j/\p.cls=x/\R (.int (p.show X Y))
def fg{x:JM}:¬ofX (bQ 0 x) ds M R RX:=by
 rintro⟨_,_,_,_,_,_,_,h,_⟩;exact absurd h (Hq _)
structure PatOf(p:Pat)(w h s:Int)(fs:List (Str×D)):Prop extends Pat.Fam p w h s where
 form:∃v,fs.lookup ("form":JM)=be v/\FormOf p v
 nl:noLF fs=true
def aZ(p:Pat)(d:D):Prop:=∃w h s fs,d=.obj "Pattern" fs/\fs.lookup ("text":JM)=be (.str p.text)/\fs.lookup ("shifts":JM)=be (.tup [.int w,.int h,.int s])/\PatOf p w h s fs
def bb(x:Int):Prop:=-1000000000000<=x/\x<=1000000000000
def Pat.show_le(h:p.Wf)(hd:p.depth<=40)(x y:Int):0<=p.show x y/\p.show x y<=6:=by
 rw[<-Pat.show_leaves h hd];exact tS x y (Pat.leaf_ok h hd)
def signOf(h:Int):Nat:=if h=0 then 46 else(48+h).toNat
def aE(p:Pat)(x y:Int)(n:Nat):Str:=#[((FY n).map λ(k:Nat)=>signOf (p.show (x+(k:Int)) y)).toArray]
def fV(p:Pat)(x y:Int)(n:Nat):(aE p x y n).length=n:=by simp[aE,Str.length]
def kY(h0:0<=h)(h6:h<=6):atI (cs ".123456") h=be (signOf h):=by
 rcases(Ko:h=0\/h=1\/h=2\/h=3\/h=4\/h=5\/h=6)with e|e|e|e|e|e|e<;>subst e<;>decide+kernel
def range2_int{i j:Int}{x:D}(h:((FY (j-i).toNat).map λk=>D.int (i+((k:Nat):Int)))[k]?=be x):k<(j-i).toNat/\x=.int (i+(k:Int)):=by
 have hk:k<(j-i).toNat:=by simpa using(Gh.mp h).1
 refine#[hk,?_];simp[hk]at h;exact h.symm
def uu:∀L:List JM,cs (Str.join "" L)=L.flatMap cs
 |[]=>rfl
 |[x]=>by simp[Str.join]
 |x::y::r=>by
  show cs (x++""++Str.join "" (y::r))=_;rw[aY,aY,uu (y::r),Ba];simp
def BT(f:Nat->Nat)(n:Nat):Str.join "" ((FY n).map λi=>(#[[f i].toArray]:JM))=#[((FY n).map f).toArray]:=by
 apply cQ;rw[uu,List.flatMap_map];show(FY n).flatMap (λi=>[f i])=(FY n).map f;rw[List.map_eq_flatMap]
def BU:SiD:=λds R=>∃(t:JM) (w h s:Int) (x:JM) (fs:List (JM×D)),ds=[.str t,.tup [.int w,.int h,.int s],.obj x fs]/\R [("text",.str t),("shifts",.tup [.int w,.int h,.int s]),("form",.obj x fs)]
def S_read:SpX:=λds R _=>∃p:Pat,ds=[.str p.text]/\p.Ok/\∀d,aZ p d->R d
def S_read.mono{R R':D->Prop}{RX RX':XD}(h:S_read ds R RX)(hR:∀d,R d->R' d):S_read ds R' RX':=by
 obtain⟨p,e,ok,h⟩:=h;exact#[p,e,ok,λd i=>hR d (h d i)]
def uw{R:D->Prop}{RX:XD}(ok:p.Ok)(h:∀d,aZ p d->R d):S_read [.str p.text] R RX:=#[p,rfl,ok,h]
def BV:SpX:=λds R RX=>∃x y:Int,ds=[.int x,.int y]/\(bb x/\bb y->R .non)/\(¬(bb x/\bb y)->RX "TooFar" [])
def BW:SpX:=λds R RX=>∃(p:Pat) (d:D) (x y:Int),ds=[d,.int x,.int y]/\aZ p d/\p.Ok/\(bb x/\bb y->R (.int (p.show x y)))/\(¬(bb x/\bb y)->RX "TooFar" [])
def BX:SpD:=λds R=>∃(p:Pat) (d:D) (x y:Int) (n:Nat),ds=[d,.int x,.int y,.int n]/\aZ p d/\p.Ok/\n<=1000/\bb x/\bb (x+n-1)/\bb y/\R (.str (aE p x y n))
def rowD(p:Pat)(x y:Int)(n:Nat):List D:=(FY n).map λ(i:Nat)=>D.str #[[signOf (p.show (x+(i:Int)) y)].toArray]
def BY(p:Pat)(x y:Int)(k:Nat):rowD p x y k++[D.str #[[signOf (p.show (x+(k:Int)) y)].toArray]]=rowD p x y (k+1):=by
 unfold rowD;rw[G8,Gm];rfl
variable{n:Nat}
def BZ(p:Pat)(x y:Int)(hn:n<=1000):∃ys,cO (rowD p x y n)=be ys/\(ys.map (·.length)).sum+ys.length*("":JM).length<=1000000/\Txt.join "" ys=aE p x y n:=by
 have e1:rowD p x y n=((FY n).map λ(i:Nat)=>(#[[signOf (p.show (x+(i:Int)) y)].toArray]:JM)).map D.str:=by unfold rowD;rw[Hb];rfl
 rw[e1];refine#[_,kP _,?_,(StrLaws.glued_eq_join _ _).trans (BT (λi=>signOf (p.show (x+(i:Int)) y)) n)];rw[kQ (w:=1) (λl hl=>by obtain⟨i,_,rfl⟩:=Gp.mp hl;rfl),Gb,Im,show("":JM).length=0 from rfl];lia
def B0{n:Int}:x.fmod n=0↔n∣x:=#[Int.dvd_of_fmod_eq_zero,Ih]
def B1(a b c d u v i j:Int):onB a b c d (u+(i*a+j*c)) (v+(i*b+j*d))=onB a b c d u v:=by
 unfold onB;have e1:(u+(i*a+j*c))*d-(v+(i*b+j*d))*c=(u*d-v*c)+(a*d-b*c)*i:=Lz
 have e2:a*(v+(i*b+j*d))-b*(u+(i*a+j*c))=(a*v-b*u)+(a*d-b*c)*j:=Lz
 rw[e1,e2];simp only[B0];have h1:(a*d-b*c∣u*d-v*c+(a*d-b*c)*i)↔a*d-b*c∣u*d-v*c:=Jj (Jk _ _);have h2:(a*d-b*c∣a*v-b*u+(a*d-b*c)*j)↔a*d-b*c∣a*v-b*u:=Jj (Jk _ _);simp only[h1,h2]
def Pat.Keeps(p:Pat)(X Y:Int):Prop:=∀x y,p.show (x+X) (y+Y)=p.show x y
def Pat.lat_keeps:∀{p:Pat} {X Y:Int},p.Lat X Y->p.Keeps X Y
 | .mot L a b c d,_,_,⟨i,j,rfl,rfl⟩,x,y=>by
  have e:∀u v:Int,onB a b c d (1*(x+(i*a+j*c))+0*(y+(i*b+j*d))+0-u) (0*(x+(i*a+j*c))+1*(y+(i*b+j*d))+0-v)=onB a b c d (1*x+0*y+0-u) (0*x+1*y+0-v):=λu v=>by
   rw[<-B1 a b c d (1*x+0*y+0-u) (0*x+1*y+0-v) i j];congr 1<;>lia
  show Leaf.shows _ _ _=Leaf.shows _ _ _;unfold Leaf.shows Leaf.hit;simp only[bJ,e]
 |.over p q,X,Y,h,x,y=>by
  simp only[Pat.show];rw[Pat.lat_keeps h.1 x y,Pat.lat_keeps h.2 x y]
 |.sh a b p,X,Y,h,x,y=>by
  have:=Pat.lat_keeps (p:=p) h (x-a) (y-b);simp only[Pat.show];rw[<-this];congr 1<;>lia
 |.mir p,X,Y,h,x,y=>by
  have:=Pat.lat_keeps (p:=p) h (-x) y;simp only[Pat.show];rw[<-this];congr 1;lia
 |.tur p,X,Y,h,x,y=>by
  have:=Pat.lat_keeps (p:=p) h y (-x);simp only[Pat.show];rw[<-this];congr 1;lia
 |.hue f g p,X,Y,h,x,y=>by
  simp only[Pat.show];rw[Pat.lat_keeps (p:=p) h x y]
def InF.one(w h s:Int):InF w h s w 0:=#[1,0,Ko,Ko]
def Pat.Fam.keeps{y:Int}(f:p.Fam w h s)(q:InF w h s x y):p.Keeps x y:=Pat.lat_keeps ((f.lat x y).mp q)
def B2(hw:0<w)(hh:0<h)(x y:Int):InF w h s (x-hmX w h s x y) (y-y%h):=by
 have e1:=G1 y h;have e2:=G1 (x-y/h*s) w;refine#[(x-y/h*s)/w,y/h,?_,by rw[e1,Gj];lia];unfold hmX;rw[e2,Gj w];lia
def Pat.show_home(hw:0<w)(hh:0<h)(k:∀x y,InF w h s x y->p.Keeps x y)(x y:Int):p.show (hmX w h s x y) (y%h)=p.show x y:=by
 have:=k _ _ (B2 (s:=s) hw hh x y) (hmX w h s x y) (y%h);rw[<-this];congr 1<;>lia
def B3(f:Nat->Nat){w:Nat}(h:c<w):((FY w).map f).drop c++((FY w).map f).take c=(FY w).map λk=>f ((c+k)%w):=by
 apply G0;intro i;by_cases h1:i<w-c
 .rw[GE (by simp;exact h1),Io,Gf,Gf,GB Ko,GB Ko];simp[Jl (show c+i<w by lia)]
 .rw[GK Tl];simp only[G5,Gb,Im];by_cases h2:i<w
  .rw[HA Ko,Gf,Gf,GB Ko,GB Ko];have e:(c+i)%w=i-(w-c):=by
    rw[show c+i=(i-(w-c))+w by lia,Nat.add_mod_right,Jl Ko]
   simp[e]
  .rw[GI Tl,GI Tl]
def fj(l:List Nat):cs (#[l.toArray]:JM)=l:=KK
def B4{c:Int}(ht:cs t=l)(c0:0<=c)(cl:c<l.length):Txt.slice t (be c) G_++Txt.slice t G_ (be c)=(#[(l.drop c.toNat++l.take c.toNat).toArray]:JM):=by
 have hl:t.length=l.length:=by rw[<-ht,bq]
 apply cQ;rw[aY,slice_cps,slice_cps,fj,fj,fj,show t.cps.toList=l from ht,hl];have e1:HT.sIx l.length 0 (be c)=c.toNat:=by show(if c<0 then _ else min c.toNat l.length)=_;rw[if_neg Ko];lia
 have e2:HT.sIx l.length l.length G_=l.length:=rfl;have e3:HT.sIx l.length 0 G_=0:=rfl;have e4:HT.sIx l.length l.length (be c)=c.toNat:=by show(if c<0 then _ else min c.toNat l.length)=_;rw[if_neg Ko];lia
 rw[e1,e2,e3,e4,Ip,G9 KK];rfl
def cr(p:Pat)(x y:Int)(n:Nat):cs (aE p x y n)=(FY n).map λ(k:Nat)=>signOf (p.show (x+(k:Int)) y):=fj _
def B5(hw:0<w)(hh:0<h)(k:∀x y,InF w h s x y->p.Keeps x y)(x y:Int):
  Txt.slice (aE p 0 (y%h) w.toNat) (be (hmX w h s x y)) G_++Txt.slice (aE p 0 (y%h) w.toNat) G_ (be (hmX w h s x y))=aE p x y w.toNat:=by
 have c0:0<=hmX w h s x y:=Gy _ Ko;have c1:hmX w h s x y<w:=Gz _ hw;rw[B4 (cr p 0 (y%h) w.toNat) c0 Tl,B3 _ Ko];unfold aE;congr 2;apply Hl;intro i _;have e:=Pat.show_home hw hh k (x+(i:Int)) y;rw[<-e];congr 2;have q:hmX w h s (x+(i:Int)) y=(hmX w h s x y+i)%w:=by
  unfold hmX;rw[Int.emod_add_emod];congr 1;lia
 rw[q,Hc,Jn,Hr,Gr c0,Gr Ko]
def fW(p:Pat)(w h:Int):D:=.lst ((FY h.toNat).map λ(y:Nat)=>D.str (aE p 0 (y:Int) w.toNat))
def B6:SpD:=λds R=>∃(p:Pat) (d:D),ds=[d]/\aZ p d/\p.Ok/\∀w h s,p.Fam w h s->w*h<=720->w<=720->h<=720->R (fW p w h)
def B7:SpD:=λds R=>∃(p:Pat) (w h s x y:Int),ds=[.tup [.int w,.int h,.int s],fW p w h,.int x,.int y]/\p.Fam w h s/\w<=720/\h<=720/\R (.str (aE p x y w.toNat))
def B8(a0:0<=a)(a6:a<=6)(b0:0<=b)(b6:b<=6)(e:signOf a=signOf b):a=b:=by
 unfold signOf at e;split at e<;>split at e<;>lia
def sumN(g:Nat->Int):Nat->Int
 |0=>0
 |n+1=>sumN g n+g n
def dJ{g f:Nat->Int}:∀{n:Nat},(∀k,k<n->g k=f k)->sumN g n=sumN f n
 |0,_=>rfl
 |n+1,h=>by rw[sumN,sumN,dJ λk hk=>h k Ko,h n Ko]
def hV(g:Nat->Int)(n:Nat):∀m:Nat,sumN g (n+m)=sumN g n+sumN (λk=>g (n+k)) m
 |0=>by simp[sumN]
 |m+1=>by rw[<-Nat.add_assoc,sumN,sumN,hV g n m];lia
def ux(g f:Nat->Int):∀n:Nat,sumN (λk=>g k+f k) n=sumN g n+sumN f n
 |0=>rfl
 |n+1=>by simp only[sumN,ux g f n];lia
variable{N:Nat}
def B9{g:Nat->Int}(hN:0<N)(K2:∀k,g (k+N)=g k)(n:Nat):sumN (λj=>(((n:Int)-1-j)/N+1)*g j) (min n N)=sumN g n:=by
 induction n using Nat.strongRecOn with
 |ind n ih=>
  by_cases h:n<=N
  .rw[Hd h];refine dJ λk hk=>?_;rw[Jo Ko Ko];simp
  .have e1:n=N+(n-N):=by lia
   have i:=ih (n-N) Ko;have NX:sumN (λk=>g (N+k)) (n-N)=sumN g (n-N):=dJ λk _=>by rw[Hj];exact K2 k
   rw[HU Ko];have e2:sumN g n=sumN g N+sumN g (n-N):=by
    conv=>lhs;rw[e1]
    rw[hV,NX]
   rw[e2,<-i];have e3:min (n-N) N+(N-min (n-N) N)=N:=Ko
   have split:∀f:Nat->Int,sumN f N=sumN f (min (n-N) N)+sumN (λk=>f (min (n-N) N+k)) (N-min (n-N) N):=λf=>by
    conv=>lhs;rw[<-e3]
    exact hV _ _ _
   rw[split,split g];have a:sumN (λj=>(((n:Int)-1-j)/N+1)*g j) (min (n-N) N)=sumN g (min (n-N) N)+sumN (λj=>((((n-N:Nat):Int)-1-j)/N+1)*g j) (min (n-N) N):=by
    rw[<-ux];refine dJ λk hk=>?_;have q:((n:Int)-1-k)/N=(((n-N:Nat):Int)-1-k)/N+1:=by
     rw[show((n:Int)-1-k)=(((n-N:Nat):Int)-1-k)+1*N by lia,Ji _ _ Ko]
    rw[q,HS];lia
   have b:sumN (λk=>(((n:Int)-1-((min (n-N) N+k:Nat):Int))/N+1)*g (min (n-N) N+k)) (N-min (n-N) N)=sumN (λk=>g (min (n-N) N+k)) (N-min (n-N) N):=by
    refine dJ λk hk=>?_;rw[Jo Ko Ko];simp
   rw[a,b];lia
def cntN(f:Nat->Int)(v:Int)(n:Nat):Int:=sumN (λk=>if f k=v then 1 else 0) n
def uy(f:Nat->Int)(v:Int):∀n,0<=cntN f v n/\cntN f v n<=n
 |0=>by simp[cntN,sumN]
 |n+1=>by
  have:=uy f v n;unfold cntN at this ⊢;rw[sumN];split<;>lia
def Ca{f:Nat->Int}{w:Nat}(hw:0<w)(K2:∀k,f (k+w)=f k)(v:Int)(m:Nat):((m/w:Nat):Int)*cntN f v w+cntN f v (m%w)=cntN f v m:=by
 have key:∀q r:Nat,cntN f v (w*q+r)=(q:Int)*cntN f v w+cntN f v r:=λq=>by
  have sh:∀q k,f (w*q+k)=f k:=λq=>by
   induction q with
   |zero=>intro k;rw[Nat.mul_zero,Iq]
   |succ q ih=>intro k;rw[Jp,show w*q+w+k=w*q+k+w by lia,K2];exact ih k
  induction q with
  |zero=>intro r;simp
  |succ q ih=>
   intro r;rw[Jp,show w*q+w+r=w*q+(w+r)by lia,ih,Hr,HS];have e:cntN f v (w+r)=cntN f v w+cntN f v r:=by
    unfold cntN;rw[hV];congr 1;refine dJ λk _=>?_;rw[Hj w k,K2]
   rw[e];simp;lia
 have:=key (m/w) (m%w);rw[Nat.div_add_mod]at this;exact this.symm
def hZ(y:JM)(c:Nat):∀(m a:Nat) (st:Array Nat×Nat),a+m=y.length+1->st.2<=a->st.1.size<=a->(forIn (List.range' a m) st (StrLaws.occBody y #[[c].toArray] y.length (y.length+1))).run.fst.size=st.1.size+(((cs y).drop a).filter (·==c)).length
 |0,a,st,h,_,_=>by
  rw[Ir (by rw[bq];lia)];rfl
 |m+1,a,st,h,h1,h2=>by
  have l1:(#[[c].toArray]:JM).length=1:=rfl;have q:=StrLaws.subAt_eq y #[[c].toArray] a;rw[List.range'_succ,Ia];by_cases ha:a<y.length
  .have hd:(cs y).drop a=(cs y)[a]'(by rw[bq];exact ha)::(cs y).drop (a+1):=Il (by rw[bq];exact ha);rw[show y.cps.toList.drop a=_ from hd,l1]at q;rw[hd,List.filter_cons];by_cases e:(cs y)[a]'(by rw[bq];exact ha)=c
   .have eb:StrLaws.occBody y #[[c].toArray] y.length (y.length+1) a st=pure (.yield (st.1.push a,a+1)):=by
     unfold StrLaws.occBody;rw[if_pos #[#[#[Ko,h1],by rw[l1];lia],by rw[q];simp[e]],l1]
    rw[eb];have:=hZ y c m (a+1) (st.1.push a,a+1) Ko (FX _) Tl;simp only[e,beq_self_eq_true,if_true,F7];refine Eq.trans this ?_;simp only[Array.size_push];lia
   .have eb:StrLaws.occBody y #[[c].toArray] y.length (y.length+1) a st=pure (.yield (st.1,st.2)):=by
     unfold StrLaws.occBody;rw[if_neg];rintro⟨_,z⟩;rw[q]at z;simp at z;exact e z
    rw[eb];have:=hZ y c m (a+1) st Ko Ko Ko;rw[if_neg (by simpa using e)];exact this
  .have eb:StrLaws.occBody y #[[c].toArray] y.length (y.length+1) a st=pure (.yield (st.1,st.2)):=by
    unfold StrLaws.occBody;rw[if_neg];rintro⟨⟨_,z⟩,_⟩;rw[l1]at z;lia
   rw[eb];have:=hZ y c m (a+1) st Ko Ko Ko;rw[Ir (by rw[bq];lia)];rw[Ir (by rw[bq];lia)]at this;exact this
def Cb(y:JM)(c:Nat):(Builtin.Str.occurrences y #[[c].toArray] 0 y.length (y.length+1)).length=((cs y).filter (·==c)).length:=by
 rw[StrLaws.occ_eq,Hw,hZ y c _ 0 _ Ko (FX _) (FX _)];simp
def uz(f:Nat->Int)(b:∀k,0<=f k/\f k<=6){v:Int}(v0:0<=v)(v6:v<=6):∀n:Nat,(((((FY n).map λk=>signOf (f k)).filter (·==signOf v)).length:Nat):Int)=cntN f v n
 |0=>rfl
 |n+1=>by
  rw[G8,Gm,List.filter_append,Gc,Hr,uz f b v0 v6 n];show _=cntN f v n+_;congr 1;by_cases e:f n=v
  .simp[e]
  .have:¬signOf (f n)=signOf v:=λz=>e (B8 (b n).1 (b n).2 v0 v6 z);simp[this,e]
def Cd(ok:p.Ok)(x y:Int){v:Int}(v0:0<=v)(v6:v<=6)(n:Nat):(((cs (aE p x y n)).filter (·==signOf v)).length:Int)=cntN (λk=>p.show (x+k) y) v n:=by
 rw[cr];exact uz _ (λk=>Pat.show_le ok.wf (by have:=ok.deep;lia) _ _) v0 v6 n
def Ce(p:Pat)(x y:Int){r:Nat}(h:r<=n):Txt.slice (aE p x y n) G_ (be (r:Int))=aE p x y r:=by
 apply cQ;rw[slice_cps,fj,cr,show(aE p x y n).cps.toList=_ from cr p x y n,fV];have e1:HT.sIx n 0 G_=0:=rfl;have e2:HT.sIx n n (be (r:Int))=r:=by show(if(r:Int)<0 then((r:Int)+n).toNat else min (r:Int).toNat n)=r;rw[if_neg Ko];lia
 rw[e1,e2,Ip,Jq,<-Jr,Js,Hd h]
def occC(t:JM)(c:Nat):Int:=((Builtin.Str.occurrences t #[[c].toArray] 0 t.length (t.length+1)).length:Nat)
def va(ok:p.Ok)(x y:Int){v:Int}(v0:0<=v)(v6:v<=6)(n:Nat):occC (aE p x y n) (signOf v)=cntN (λk=>p.show (x+k) y) v n:=by
 unfold occC;rw[Cb,Cd ok x y v0 v6]
def cC(p:Pat)(v left top:Int)(m n:Nat):Int:=sumN (λj=>cntN (λk=>p.show (left+k) (top+j)) v m) n
def cD(p:Pat)(left top:Int)(m n:Nat):List Int:=(FY 7).map λ(v:Nat)=>cC p v left top m n
def Cf:SpD:=λds R=>∃(p:Pat) (x y v m:Int) (w:Nat),ds=[.str (aE p x y w),.str #[[signOf v].toArray],.int m]/\p.Ok/\0<=v/\v<=6/\0<w/\w<=720/\0<=m/\m<2^63/\p.Keeps w 0/\R (.int (cntN (λk=>p.show (x+k) y) v m.toNat))
def Pat.Fam.across(F:p.Fam w h s):p.Keeps w 0:=F.keeps (InF.one w h s)
def Pat.Fam.down(F:p.Fam w h s):p.Keeps 0 (w*h):=F.keeps #[-s,w,by rw[IZ,Gj w s];lia,rfl]
def Cg(hN:0<N)(k:p.Keeps 0 N)(v left top:Int)(m n:Nat):sumN (λj=>(((n:Int)-1-j)/N+1)*cntN (λk=>p.show (left+k) (top+j)) v m) (min n N)=cC p v left top m n:=by
 refine B9 (g:=λj=>cntN (λk=>p.show (left+k) (top+j)) v m) hN (λj=>?_) n;unfold cntN;refine dJ λi _=>?_;have e:p.show (left+i) (top+((j+N:Nat):Int))=p.show (left+i) (top+j):=by
  have:=k (left+i) (top+j);rw[GN]at this;rw[<-this,Hr,Iu]
 simp only[e]
def vb{α:Type}(f g:Nat->α)(h:∀v,v<n->v≠i->g v=f v):((FY n).map f).set i (g i)=(FY n).map g:=by
 apply G0;intro k;rw[GZ];by_cases hk:i=k
 .subst hk;simp only[if_true,Gb,Im];by_cases hi:i<n
  .simp[hi]
  .simp[hi]
 .rw[if_neg hk];by_cases hi:k<n
  .simp[hi,h k hi (Ne.symm hk)]
  .simp[hi]
def Ch:bt ".123456"=(FY 7).map λ(v:Nat)=>D.str #[[signOf (v:Int)].toArray]:=by
 unfold bt;rw[show(".123456":JM).cps.toList=[46,49,50,51,52,53,54]by decide+kernel];rfl
def bW(p:Pat)(left top:Int)(m n N k:Nat)(v:Int):Int:=sumN (λj=>(((n:Int)-1-j)/N+1)*cntN (λi=>p.show (left+i) (top+j)) v m) k
variable{top b_:Int}
def Ci{W:Int}(hn:(b_-top+1).toNat=n)(wN:W=(N:Int)):((if top+W<b_+1 then top+W else b_+1)-top).toNat=min n N:=by split<;>lia
def Cj{W:Int}(a:-1000000000000<=top/\top<=1000000000000)(c:-1000000000000<=b_/\b_<=1000000000000)(w0:0<W)(w1:W<=720):-(2^62)<=top/\top<2^62/\-(2^62)<=(if top+W<b_+1 then top+W else b_+1)/\(if top+W<b_+1 then top+W else b_+1)<2^62:=by split<;>lia
def Ck(hn:(b_-top+1).toNat=n)(hk:k<min n N):b_-(top+k)=(n:Int)-1-k:=Ko
def vc{l r:Int}{m:Nat}(a:-1000000000000<=l/\l<=1000000000000)(b:-1000000000000<=r/\r<=1000000000000)(h:(r-l+1).toNat=m):m<=2000000000001:=Ko
def Cl(x:Int):(if 0>x then 0 else x)=(x.toNat:Int):=by split<;>lia
def Cm:SpX:=λds R RX=>∃(p:Pat) (d:D) (left top right b_:Int),ds=[d,.int left,.int top,.int right,.int b_]/\aZ p d/\p.Ok/\(bb left/\bb top/\bb right/\bb b_->R (.lst ((cD p left top (right-left+1).toNat (b_-top+1).toNat).map D.int)))/\(¬(bb left/\bb top/\bb right/\bb b_)->RX "TooFar" [])
end My
end
section
open PySem PySem.Spec PyProof.Rows L2
namespace My
open Exc
section
variable {X:Cx}[J:Jm]{a b c e:RZ}{ta tb te:TME}{pos:Sb}
def mTru(te:TME):TMT:=λz M R=>te z M λd M1=>match d with|.bl k=>R k M1|_=>False
abbrev TMO:=SD->MS->(Option Int->MS->Prop)->Prop
def Cn:TMO:=λ_ M R=>R G_ M
def Co(te:TME):TMO:=λz M R=>te z M λx M1=>match x with|.int i=>R (be i) M1|_=>False
def mO(K:Ex)[J:Jm](t:TMO):TO:=λs H Q=>∃F z M,Kept J.B J.F0 F H/\RepZ K J.B F H z s M/\∃R:Option Int->MS->Prop,t z M R/\∀o M' F' H',GrowM M M' F H F' H'->R o M'->RepM K F' H' M'->Q o H'
structure MPO(X:Cx)[Jm](e:Option RZ)(t:TMO):Prop where
 out:PO X e (mO X.K t)
def vd:MPO X G_ Cn:=⟨PO.anti qD λs H Q q=>by
 obtain⟨F,z,M,k,rs,R,h1,h2⟩:=q;exact h2 G_ M F H (GrowM.refl k.fh) h1 rs.rm⟩
def ve(he:ME X e te):MPO X (be e) (Co te):=⟨PO.anti (qE he.out) λs H Q q=>by
 obtain⟨F,z,M,k,rs,R,h1,h2⟩:=q;refine#[F,z,M,k,rs,_,h1,λx u M1 F1 H1 g1 hx rx m1=>?_];split at hx
 .exact#[_,rep_int.mp rx,h2 _ M1 F1 H1 g1 hx m1]
 .exact hx.elim⟩
def mSl(ta:TME)(tl th:TMO):TME:=λz M R=>ta z M λx M1=>tl z M1 λlo M2=>th z M2 λhi M3=>rdSl x lo hi λd=>R d M3
def Cp{lo hi:Option RZ}{tl th:TMO}{p2:Sb}(ha:ME X a ta)(hl:MPO X lo tl)(hu:MPO X hi th):ME X (.Subscript a (.Slice lo hi G_ p2) pos) (mSl ta tl th):=⟨(jI (SlR.or sM (SlR.or jJ qG)) ha.out hl.out hu.out).anti λs H Q q=>by
 obtain⟨F,z,M,k,rs,R,h1,h2⟩:=q;refine#[F,z,M,k,rs,_,h1,λx u M1 F1 H1 g1 hx rx m1=>?_];have k1:=k.growM rs.mb g1;have r1:=rs.growM k.bh g1 m1;refine#[F1,z,M1,k1,r1,_,hx,λlo M2 F2 H2 g2 hy m2=>?_];refine#[F2,z,M2,k1.growM r1.mb g2,r1.growM k1.bh g2 m2,_,hy,λhi M3 F3 H3 g3 hw m3=>?_];have g:=g1.trans (g2.trans g3);have JZ:=(rx.mono g2.ff).mono g3.ff;unfold rdSl at hw;split at hw
 .exact .inl #[_,rep_str.mp JZ,Ga hw.1 Ks,h2 _ _ M3 F3 H3 g hw.2 (rep_str.mpr rfl) m3]
 .obtain⟨l,vs,rfl,hq,rr⟩:=rep_lst.mp JZ;refine .inr (.inl #[l,vs,rfl,SqL.of (g3.fh _ _ hq),λp hp=>?_]);exact h2 _ _ M3 _ _ (g.trans (Grow.new g3.fh hp _).toM) hw (rep_lst.mpr #[p,_,rfl,av,(rr.cut _ _).mono (aP (g3.fh.free hp) _)]) (m3.grow (Grow.new g3.fh hp _))
 .obtain⟨l,vs,rfl,hq,rr⟩:=rep_rol.mp JZ;refine .inr (.inl #[l,vs,rfl,g3.fh.seq hq,λp hp=>?_]);exact h2 _ _ M3 _ _ (g.trans (Grow.new g3.fh hp _).toM) hw (rep_lst.mpr #[p,_,rfl,av,(rr.cut _ _).mono (aP (g3.fh.free hp) _)]) (m3.grow (Grow.new g3.fh hp _))
 .obtain⟨l,vs,rfl,hq,rr⟩:=rep_tup_mp JZ;refine .inr (.inr #[l,vs,rfl,g3.fh.tup hq,by rw[rr.length];exact hw.1,λp hp=>?_]);exact h2 _ _ M3 _ _ (g.trans (Grow.new g3.fh hp _).toM) hw.2 (rep_tupS.mpr #[p,_,rfl,av,(rr.cut _ _).mono (aP (g3.fh.free hp) _)]) (m3.grow (Grow.new g3.fh hp _))
 .exact hw.elim⟩
end
end My
namespace Exc
open PySem PySem.Spec PyProof.Rows PySem.W L2
section
variable {prog:P3}{w:R5}{A:R6}{E:KB->KM->Prop}{s:KM}{K:Ex}{x C dx:KF}{ox:Sj}{cd:TJ}{name:JM}{v:KB}{vs:Array KB}{mA:JM->Option KB}{ns:List JM}
def Cq{Q:Unit->KM->Prop}(X:K.In s.heap)(hx:s.heap.get? x=be ox)(i9:ox.cls=.ref C)(z6:ox.data=.fields vs)(hd:ox.dict=be dx)(Pw:s.heap.Ns1 dx mA)(hw:PySem.Within mA ns)(hz:ns.length<=1000)(hc:clsIn K C=be cd)(hm:aJ cd.mro=true)(hh:cd.hasDict=true)
  (hs:findIn K (.ref C) "__setattr__"=be (be (.builtin "object.__setattr__"))) (hf:findIn K (.ref C) name=be G_)
  (h:∀h',h'.Ns1 dx (λy=>if y=name then be v else mA y)->Heap.SameBut dx s.heap h'->∀tk,Q () {s with heap:=h',toks:=tk}):
  R4 (R1 prog w) A (Uh (.ref x) name v) Q E s:=by
 have hn:notCls ox=true:=by unfold notCls;rw[z6]
 obtain⟨od,es,ep,NY,Px⟩:=id Pw;have I:InstAt s.heap x ox C (be od):=#[hx,i9,hn,by rw[hd];exact NY];refine set_plain X I hs ?_;have SF:=PySem.F.store_object;have ne:cd.mro.isEmpty=false:=OZ
 have sub:Looks (R1 prog w) s.heap (Tb (.ref x) (.type "object")) true:=I.type.andThen (looks_mroIn X TW);refine SM SF.slot.plain SF.entry (@check_slot (R1 prog w) _ _ _ "object.__setattr__" "object" "__setattr__" (.ref x) [.str name s.toks,v] [] _ SF.kind SF.split sub (SF.args (.ref x) (.str name s.toks) v) ?_);have Kt:Looks (R1 prog w) s.heap (mroOf (.ref C)) cd.mro:=(looks_clsIn X hc).andThen .now;rw[osa_eq,refuse_eq];refine Os (Os (I.type.here (s:={s with toks:=s.toks+1}) (Os (Kt.here (s:={s with toks:=s.toks+1}) ?_))));rw[jO _ hm];refine RY (Os (I.type.here (s:={s with toks:=s.toks+1}) (Os ((looks_findIn X hf).here (s:={s with toks:=s.toks+1}) (Os (Looks.now.here (s:={s with toks:=s.toks+1}) ?_))))));obtain⟨oc,Pb,Pc,osl⟩:=ox;dsimp only at i9 hd z6;subst i9 hd z6;refine Os (RY (Os (Os (Ts hx (Os ((looks_clsIn X hc).here (s:={s with toks:=s.toks+1}) ?_))))));rw[hh];rw[if_neg Ks];refine RY ?_;show R4 _ _ (Builtin.ObjectAttr.storeInDict dx (.str name s.toks) name v) _ _ _;unfold Builtin.ObjectAttr.storeInDict Builtin.ObjectAttr.newKeyGuard;refine Os (RY (Os (TK Pw λh' g_ hs=>?_)));obtain⟨oD,O1,O2,Li,Lj,Lk⟩:=g_.count (PySem.Within.cons name v hw);refine Os (Th Li (by rw[Lj];exact Tn (Ga Lk (by rw[F7,SW];lia))) ?_);exact RY (h h' g_ hs _)
end
end Exc
namespace My
open Exc
section
variable {X:Cx}[J:Jx]{x f:JM}{e:RZ}{te:TD}{pos d4 p:Sb}{rest:List R3}{tr:TID}
def vf{β:Type}{y:JM}{z:β}:∀{ws:List (JM×β)},ws.lookup y=be z->y∈ws.map (·.1)
 |[],h=>nomatch h
 |(g,d)::ws,h=>by
  rw[Gi]at h;split at h
  .rename_i hg;rw[Gs,show y=g by simpa using hg];exact Gd
  .exact F8 _ (vf h)
def Cr(f:JM)(te:TD)(tr:TID):TID:=λz fs R=>(fs≠[]/\fs.length<=100)/\te z λd=>tr z ((f,d)::fs) R
def Cs{sx:JM}{ps:Sb}(hA:∃C cd,ErrA X.K x C cd)(hf:∀C,nsIn X.K Pi x=be (be (.ref C))->FZ X.K (.ref C) f=be G_)(he:WDE X e te)(hr:WDX X x rest tr)(hN:autoParam (X.N[0]?=be sx) zA0)(hv:autoParam (Vis X.env.scope sx) zA5)(hd:autoParam (zND sx) zA1)
  (gV:autoParam (zNC sx) zA1) (hs:autoParam (Sg e (be (.Attribute (.Name sx ps) f d4)) pos.line X.env=pure false) zA0):WDX X x (.Assign [.Attribute (.Name sx ps) f d4] e pos::rest) (Cr f te tr):=⟨by
 have he:=he.out;have hr:=hr.out;obtain⟨C,cd,er⟩:=hA;have KD:=hf C er.ns;have step:PS X (.Assign [.Attribute (.Name sx ps) f d4] e pos) (λE σ H=>∃e b ws,σ[0]?=be (be (.ref e))/\
   lE X.K te σ H (λv H1=>H1 e=be (XN e C (be b))/\H1 b=be (.xd ws)/\ws.length<=100/\E.nx σ (upd H1 b (.xd ((f,v)::ws))))):=by
  intro pins s σ H D I h;obtain⟨ea,b,ws,h0,h⟩:=h;refine SE (thn (he pins s σ H _ I h) λu s1 ⟨y,H1,I1,ry,u9,hb,hl,KC⟩=>thn (cJ (i:=0) hN hv hd gV pins s1 σ H1 (λv H'=>v=.ref ea/\H'=H1) I1 #[.ref ea,h0,rfl,rfl]) λov s2 hh=>?_) hs;obtain⟨v0,H2,I2,r0,e1,e2⟩:=hh;subst e1 e2;obtain rfl:ov=Value.ref ea:=r0;obtain⟨t0,sl,j5⟩:=XN.get I2.hok u9;obtain⟨mA,hns,w6⟩:=(show ObjOk X.prog X.w H2 s2.heap b (.xd ws)from I2.hok b _ hb);have hw:PySem.Within mA (ws.map (·.1)):=λy' hy=>by
   have:=w6 y';cases hq:ws.lookup y' with
   |none=>
    rw[hq]at this;cases hm:mA y' with
    |none=>exact absurd hm hy
    |some z=>rw[hm]at this;exact this.elim
   |some z=>exact vf hq
  refine Cq (K:=X.K) (C:=C) (cd:=cd) I2.kIn j5 rfl rfl rfl hns hw (by rw[Gb];lia) er.cl er.mro er.hd er.sa KD λh' g1 g2 tk=>?_;obtain⟨od,es,ep,NY,RL⟩:=id g1;have NZ:∀c,H2 c=G_->c≠b:=λc q z=>by rw[z,hb]at q;cases q
  have z9:∀c o,H2 c=be o->(∀fs,o≠.xd fs)->upd H2 b (.xd ((f,y)::ws)) c=be o:=λc o q n=>by
   have n1:c≠b:=λz=>by rw[z,hb]at q;cases q;exact n _ rfl
   rw[aj n1];exact q
  refine#[σ,_,?_,KC];refine I2.un (h':=h') (t':=tk) #[λc o q n _ _=>(g2.2 c (NZ c n)).trans q,λc o q n _ _=>#[o.slots,(g2.2 c (NZ c n)).trans q],λc o q n _=>?_,λc o q _=>?_,λc xs q=>z9 c _ q (λφ z=>nomatch z),λc o u q=>z9 c _ q (λφ z=>nomatch z),λc ps q=>#[[].toArray,by rw[z9 c _ q (λφ z=>nomatch z)];simp]] λa o q=>?_
  .rw[aj (NZ c n)];exact n
  .by_cases hc:c=b
   .rw[hc];exact#[od,NY]
   .exact#[o,(g2.2 c hc).trans q]
  .by_cases hc:a=b
   .subst hc;rw[av]at q;cases q;refine#[_,g1,λg=>?_];rw[Gi];by_cases hg:g=f
    .subst hg;simp;exact ry
    .have:(g==f)=false:=by simpa using hg
     rw[this,if_neg hg];exact w6 g
   .rw[aj hc]at q;refine(I2.hok a o q).stay (λc u g5 r=>?_) (λc r=>z9 c _ r (λφ z=>nomatch z)) λc xs r=>z9 c _ r (λφ z=>nomatch z);refine(g2.2 c λz=>?_).trans r;rcases g5 with e1|e1
    .exact hc (e1 ▸ z)
    .rw[z,hb]at e1;cases e1
 refine(dO step hr).anti λE s H q=>?_;obtain⟨C',a,od,ws,F,z,fs,hn,h0,e9,hB,i_,k,rs,rf,g7,R,⟨⟨k9,hl⟩,hR⟩,kk⟩:=q;rw[er.ns]at hn;cases hn;rcases g7 with⟨_,rfl⟩|⟨b,rfl,h1,h2,h3,h4,h5⟩
 .cases fs with
  |nil=>exact absurd rfl k9
  |cons c fs=>obtain⟨g,d⟩:=c;obtain⟨v,r,h,_⟩:=repf_cons.mp rf;cases h
 refine#[a,b,ws,h0,_,F,z,k,rs,_,hR,λd v F1 H1 g hx rv=>#[g.hh a _ e9,g.hh b _ h1,?_,?_]]
 .have:∀{fs:List (JM×D)} {ws:List (JM×V)},RepF X.K F fs ws->ws.length=fs.length:=λ{fs}=>by
   induction fs with
   |nil=>intro ws r;rw[repf_nil.mp r];rfl
   |cons c fs ih=>obtain⟨g,d⟩:=c;intro ws r;obtain⟨v,r',rfl,_,h⟩:=repf_cons.mp r;rw[F7,F7,ih h]
  rw[this rf];exact hl
 .have QW:=g.hh b _ h1;have KA:F1 b=none:=g.out b h3 (by rw[h1];exact λz=>nomatch z);have JW:F1 a=none:=g.out a i_ (by rw[e9];exact λz=>nomatch z);have k1:=k.grow g;have n9:=rs.grow g;have same:∀{G:Hp},G b=G_->Same G H1->Same G (upd H1 b (.xd ((f,v)::ws))):=λ{G} gb gs c o q=>by
   have n2:c≠b:=λz=>by rw[z,gb]at q;cases q
   rw[aj n2];exact gs c o q
  refine#[C,a,be b,(f,v)::ws,F1,z,(f,d)::fs,er.ns,h0,by rw[aj (Ne.symm h4)];exact g.hh a _ e9,hB,JW,#[same h2 k1.bh,same KA k1.fh,k1.f0,k1.out,k1.eb,k1.jf,k1.jo],?_,repf_cons.mpr #[v,ws,rfl,rv,RepF.mono g.ff fs ws rf],.inr #[b,rfl,av,h2,KA,h4,λz=>nomatch z],R,hx,kk];refine#[n9.len,n9.val,λi ds e'=>?_,n9.apart];obtain⟨c,vs,q1,q2,q⟩:=n9.own i ds e';have n2:c≠b:=λz=>by rw[z,QW]at q2;cases q2
  exact#[c,vs,q1,by rw[aj n2];exact q2,q]⟩
end
def subM(N M:MS):Prop:=(∀e,e∈N->e∈M)/\(ao N).Nodup
variable{M:MS}
def subM.keys{N:MS}(s:subM N M){a:KF}(h:a∈ao N):a∈ao M:=by
 obtain⟨⟨b,o⟩,h1,rfl⟩:=Gp.mp h;exact bH (s.1 _ h1)
variable{F H:Hp}
def RepM.sub{K:Ex}{N:MS}(r:RepM K F H M)(s:subM N M):RepM K F H N:=#[s.2,λa o h=>r.ok a o (s.1 _ h),λa h=>r.fr a (s.keys h)]
def GrowM.sub{F' H':Hp}{N M':MS}(g:GrowM M M' F H F' H')(s:subM N M'):GrowM M N F H F' H':=#[g.ff,g.fh,g.hh,g.out,λb h=>g.ks b (s.keys h)]
def GrowM.sub0{F' H':Hp}{N M':MS}(g:GrowM N M' F H F' H')(s:subM N M):GrowM M M' F H F' H':=#[g.ff,g.fh,λb o h=>g.hh b o λz=>h (s.keys z),λb h=>g.out b λz=>h (s.keys z),λb h=>(g.ks b h).imp s.keys id]
def fX(S:SpM):SpM:=λds M R RX=>∃(R0:D->MS->Prop) (J0:XDM),S ds M R0 J0/\R=(λd M'=>∃N,subM N M'/\R0 d N)/\RX=λx fs M'=>∃N,subM N M'/\J0 x fs N
def vg{K:Ex}{S:SpM}{vs:List V}{Q:VK}{E:XK}(h:lSpM K S vs H Q E):lSpM K (fX S) vs H Q E:=by
 obtain⟨F,ds,M,fh,rs,rm,R,RX,hS,q,qx⟩:=h;refine#[F,ds,M,fh,rs,rm,_,_,#[R,RX,hS,rfl,rfl],λd v M' F' H' g hd rd m'=>?_,λx fs C od M' F' H' g hR er m'=>?_]
 .obtain⟨N,s,hd⟩:=hd;exact q d v N F' H' (g.sub s) hd rd (m'.sub s)
 .obtain⟨N,s,hR⟩:=hR;exact qx x fs C od N F' H' (g.sub s) hR er (m'.sub s)
section
variable {P:P3}{w:R5}{K:Ex}{mg:JM->Option KB}{base:Heap}{n:Nat}{x m:JM}{ps:List JM}{S:SpM}
def CalMth.drop(C:CalMth P w K mg base n x m ps (lSpM K (fX S))):CalMth P w K mg base n x m ps (lSpM K S):=C.imp λ_ _ _ _ h=>vg h
def CalMth.lendD{S:SpD}(C:CalMth P w K mg base n x m ps (lSp K S)):CalMth P w K mg base n x m ps (lSpM K (My.lend λds R _=>S ds R)):=C.imp λ_ _ _ _ h=>by
 obtain⟨F,ds,fh,rs,R,RX,hS,q,_⟩:=Ay h;exact#[F,ds,fh,rs,R,hS,q]
def Txm.okDW{qual:JM}{st:R3}{N:List JM}{k:Nat}{S:SpD}(T:Txm K x m qual st ps)(F:FnScope N ps (ag st))(len:∀ds R,S ds R->ds.length=ps.length)
  (a_:∀(f:KF) (cdv:KB) (A:R6) (outer:List SU) (s:KM) (H:Hp) (E:XK) (J:Jx),Room k (A.deeper (Se qual (ag st) s.heap.objs.size f cdv))->
   ∃t,WDSs (cxOf (CX1 P w) P w K mg base N qual (ag st) f cdv A outer s H E).nox (aG st) t/\∀ds R,S ds R->t {nx:=λ_=>R .non,rt:=R} (startD N ds)):CalMth P w K mg base (k+1) x m ps (lSp K S):=by
 obtain⟨C,f,fd,h1,h2,h3,T,hb⟩:=T;exact#[C,f,fd,h1,h2,h3,L2.Fun.okDW T F len (a_ f),hb]
end
def ia(P:P3)(w:R5)(K:Ex)(mg:JM->Option KB)(base:Heap)(n:Nat)(x m:JM)(ps:List JM)(dd:List D)(sp:Sp):Prop:=
 ∃C f fd f_ r_,nsIn K Pi x=be (be (.ref C))/\Cls K C/\Meth K C m f/\FnOk P w K mg base (CX1 P w) n f fd ps sp/\Binds K fd ps r_/\Vals f_ r_/\∀F,Reps K F dd f_
section
variable {X:Cx}{k:Nat}{f:KF}{fd:R_}{ps:List JM}{sp:Sp}{E:XK}
def Ct{pins:List (KF×Sj)}{σ:L2.St}{H:Hp}{s:KM}{Q:VK}{us r_:List KB}{vs f_:List V}(F:FnOk X.prog X.w X.K X.mg X.base (CX1 X.prog X.w) k f fd ps sp)(hr:Room k X.A)(hb:Binds X.K fd ps r_)(hd:Vals f_ r_)
  (hx:∀e s',CX1 X.prog X.w X.stack H s E e s'->X.xe e s') (I:Inv X pins σ H s) (r:Vals vs us) (h:sp (vs++f_) H Q E):R4 (R1 X.prog X.w) X.A (call (.ref f) us) (EP X pins σ Q) X.xe s:=by
 have r2:=r.append hd;have hl:(us++r_).length=ps.length:=by rw[<-L2.Vals.length r2];exact F.len _ _ _ _ h
 have g5:=hb s us I.kIn hl;refine SG (SA (F.run X.A X.stack s H #[us,[]] (us++r_) (vs++f_) Q E hr I.env0 g5 r2 h) λr s' hq=>?_);cases r with
 |error e=>exact hx e s' hq
 |ok fl=>
  cases fl with
  |ret u=>exact I.after hq
  |next=>exact False.elim hq
  |brk=>exact False.elim hq
  |cont=>exact False.elim hq
end
section
variable {X:Cx}[J:Jm]{a b c e o:RZ}{ta tb te:TME}{pos p b9 a9:Sb}{n m:Nat}{ps:List JM}{S:SpM}{x:JM}{es:List RZ}{t:TMA}
def Cu(x m:JM)(dd:List D)(S:SpM)(to:TME):TME:=λz M R=>to z M λd M1=>∃fs,cY M1 d x fs/\fs.lookup m=G_/\S (d::dd) M1 R λx fs M'=>J.RM z M' x fs
def Cw{nm:JM}{dd:List D}{pl:TX Bool}(C:ia X.prog X.w X.K X.mg X.base n x nm ps dd (lSpM X.K S))(hx:XOkM X)(hr:Room m X.A)(ho:ME X o te)(e8:autoParam (X.ex=[]) zA0)(hn:autoParam (n<=m) zA1)
  (ht:Sa (.Call (.Attribute o nm b9) [] [] pos) X.env=(do
   let ov <-Sa o X.env
   SS b9.atName
   let (f,first) <-Sv [ov] (S' ov nm pl)
   T5 pos f first (SZ pos (R8 [] X.env)) (Tg pos (SX [] X.env))):=by rfl):
  ME X (.Call (.Attribute o nm b9) [] [] pos) (Cu x nm dd S te):=by
 refine#[λpins s σ H Q I h=>?_];obtain⟨Fr,z,M,k,rs,R,h1,h2⟩:=h;refine methodCall_KW (pl:=pl) (thn (ho.out pins s σ H (λv H1=>∃d M1 F1,GrowM M M1 Fr H F1 H1/\Rep X.K F1 d v/\RepM X.K F1 H1 M1/\∃fs,cY M1 d x fs/\fs.lookup nm=G_/\S (d::dd) M1 R λx fs M'=>J.RM z M' x fs) I #[Fr,z,M,k,rs,_,h1,λd v M1 F1 H1 g1 hd rd m1=>#[d,M1,F1,g1,rd,m1,hd]]) λu s1 hh=>?_) ht;obtain⟨v,H1,I1,rv,d,M1,F1,g1,rd,m1,fs,hi,hl,hq⟩:=hh;obtain⟨C',f,fd,f_,r_,hns,i9,Kd,F,hb,hd,QX⟩:=C;obtain⟨a,C2,dx,ws,rfl,n_,hH,rf⟩:=gR g1.fh m1 rd hi;rw[hns]at n_;cases n_;obtain rfl:u=Value.ref a:=rv;refine jG I1 hH i9 Kd (rf.none hl) ?_;refine callWith_K0 (first:=[.ref a]) I1.kIn Kd.kp (Ct (E:=EX X z σ) (us:=[.ref a]) (vs:=[.ref a]) F (hr.mono hn) hb hd (λe s' hq=>hx.out e8 I1 hq) I1 (.cons rfl .nil) ?_);exact gT k rs g1 m1 (reps_cons.mpr #[_,_,rfl,rd,QX F1]) hq h2
def Cy(ta tb:TME):TME:=λz M R=>ta z M λx M1=>tb z M1 λy M2=>kdP x λa=>kdP y λb=>∃ds es,mget M2 a=be (.lst ds)/\mget M2 b=be (.lst es)/\ds.length+es.length<=100000/\∀p,p∉ao M2->R (.ptr p) ((p,.lst (ds++es))::M2)
def Cz(ha:ME X a ta)(hb:ME X b tb):ME X (.BinOp a .Add b pos) (Cy ta tb):=⟨(jB qO ha.out hb.out).anti λs H Q h=>by
 obtain⟨F,z,M,k,rs,R,h1,h2⟩:=h;refine#[F,z,M,k,rs,_,h1,λx u M1 F1 H1 g1 hx rx m1=>?_];refine#[F1,z,M1,k.growM rs.mb g1,rs.growM k.bh g1 m1,_,hx,λy v M2 F2 H2 g2 hy ry m2=>?_];obtain⟨p,rfl,LI⟩:=kdP.of hy;obtain⟨q,rfl,ds,es,hm,Kt,hl,hR⟩:=kdP.of LI
 focus
  obtain⟨us,hH,ru⟩:=m2.ok _ _ (bj hm);obtain⟨vs,N1,rv⟩:=m2.ok _ _ (bj Kt);refine#[p,q,us,vs,rep_ptr.mp rx,rep_ptr.mp ry,hH,N1,by rw[ru.length,rv.length];exact Ga hl Ks,λr hr=>?_];exact h2 _ _ _ F2 _ ((g1.trans g2).trans (GrowM.new g2.fh hr)) (hR r λz=>m2.here z hr) (rep_ptr.mpr rfl) (m2.new g2.fh hr #[_,av,ru.append rv])⟩
def mSlP(ta:TME)(tl th:TMO):TME:=λz M R=>ta z M λx M1=>tl z M1 λlo M2=>th z M2 λhi M3=>match x with|.ptr a=>∃ds,mget M3 a=be (.lst ds)/\∀p,p∉ao M3->R (.ptr p) ((p,.lst (cutD ds lo hi))::M3)|_=>False
def CA{lo hi:Option RZ}{tl th:TMO}{p2:Sb}(ha:ME X a ta)(hl:MPO X lo tl)(hu:MPO X hi th):ME X (.Subscript a (.Slice lo hi G_ p2) pos) (mSlP ta tl th):=⟨(jI jJ ha.out hl.out hu.out).anti λs H Q q=>by
 obtain⟨F,z,M,k,rs,R,h1,h2⟩:=q;refine#[F,z,M,k,rs,_,h1,λx u M1 F1 H1 g1 hx rx m1=>?_];have k1:=k.growM rs.mb g1;have r1:=rs.growM k.bh g1 m1;refine#[F1,z,M1,k1,r1,_,hx,λlo M2 F2 H2 g2 hy m2=>?_];refine#[F2,z,M2,k1.growM r1.mb g2,r1.growM k1.bh g2 m2,_,hy,λhi M3 F3 H3 g3 hw m3=>?_];have g:=g1.trans (g2.trans g3);split at hw
 .rename_i l;obtain⟨ds,hm,hR⟩:=hw;obtain⟨us,hH,ru⟩:=m3.ok _ _ (bj hm);refine#[l,us,rep_ptr.mp rx,SqL.of hH,λr hr=>?_];exact h2 _ _ _ F3 _ (g.trans (GrowM.new g3.fh hr)) (hR r λz=>m3.here z hr) (rep_ptr.mpr rfl) (m3.new g3.fh hr #[_,av,ru.cut _ _])
 .exact hw.elim⟩
def CB(to:TME):TME:=λz M R=>to z M λo M1=>match o with|.ptr a=>∃ds d,mget M1 a=be (.lst ds)/\ds[ds.length-1]?=be d/\R d (mput M1 a (.lst ds.dropLast))|_=>False
def kZ(ho:ME X o ta)(c3:autoParam (R9 o "pop" X.env (Sa o X.env)=Sa o X.env) zA0)(c8:autoParam ((b9.endLine==a9.line)=true) zA0):ME X (.Call (.Attribute o "pop" b9) [] [] a9) (CB ta):=⟨(xu PySem.F.plainAttrs_list PySem.F.slot_list_pop PySem.F.type_list_pop xA ho.out c3 c8).anti λs H Q q=>by
 obtain⟨F,z,M,k,rs,R,h1,h2⟩:=q;refine#[F,z,M,k,rs,_,h1,λx u M1 F1 H1 g1 hx rx m1=>?_];split at hx
 .rename_i l;obtain⟨ds,d,hm,hl,hR⟩:=hx;obtain⟨us,hH,ru⟩:=m1.ok _ _ (bj hm);obtain⟨v,hv,rv⟩:=ru.get hl;rw[rep_ptr.mp rx];exact#[.inl #[rfl,us,SqL.of hH],l,us,v,rfl,rfl,hH,by rw[ru.length];exact hv,h2 _ _ _ F1 _ (g1.trans (GrowM.put g1.fh (m1.fr l (bH (bj hm))) hm)) hR rv (m1.put hm #[_,av,ru.init])]
 .exact hx.elim⟩
end
abbrev SiM:=KF->List D->(MS->Prop)->Prop
def lSiM(K:Ex)(C:KF)(S:SiM):Sp:=λvs H Q _=>∃a dx us H1 F ds,vs=.ref a::us/\H=upd (upd H1 dx (.own a)) a (.ins C dx [])/\H1 a=G_/\H1 dx=G_/\dx≠a/\Same F H1/\Reps K F ds us/\
 ∃R:MS->Prop,S a ds R/\∀M' F' H',GrowM [] M' F H1 F' H'->R M'->RepM K F' H' M'->Q .non H'
def CalN(P:P3)(w:R5)(K:Ex)(mg:JM->Option KB)(base:Heap)(n:Nat)(x:JM)(ps:List JM)(S:SiM):Prop:=
 ∃C f fd,nsIn K Pi x=be (be (.ref C))/\mg x=be (.ref C)/\Mk K C f/\FnOk P w K mg base (Exc.CX1 P w) n f fd ps (lSiM K C S)/\Binds K fd ps []
section
variable {P:P3}{w:R5}{K:Ex}{mg:JM->Option KB}{base:Heap}
open Classical in
def Txi.okIN{x qual:JM}{st:R3}{N:List JM}{p0:JM}{ps:List JM}{k:Nat}{S:SiM}(T:Txi K mg x qual st (p0::ps))(F:FnScope N (p0::ps) (ag st))(len:∀a ds R,S a ds R->ds.length=ps.length)
  (a_:∀(f:KF) (cdv:KB) (A:R6) (outer:List SU) (s:KM) (H:Hp) (E:XK) (J:Jm),Room k (A.deeper (Se qual (ag st) s.heap.objs.size f cdv))->XOkM (cxOf (CX1 P w) P w K mg base N qual (ag st) f cdv A outer s H E).nox->
   ∃t,MSs (cxOf (CX1 P w) P w K mg base N qual (ag st) f cdv A outer s H E).nox (aG st) t/\∀a ds R,(∀z M x fs,¬J.RM z M x fs)->S a ds R->t {nx:=λ_ M'=>R M',rt:=λ_ _=>False} (startD N (.ptr a::ds)) [(a,.ins x [])]):CalN P w K mg base (k+1) x (p0::ps) S:=by
 obtain⟨C,f,fd,hns,j9,mk,T,hb⟩:=T;refine#[C,f,fd,hns,j9,mk,Fun.okC T F (λvs H Q E h=>?_) (λcdv A outer s H vs Q E hr h=>?_),hb]
 .obtain⟨a,dx,us,H1,F,ds,rfl,_,_,_,_,_,rs,R,h,_⟩:=h;rw[F7,F7,rs.length,len a ds R h]
 .obtain⟨a,dx,us,H1,F1,ds,rfl,rfl,ha,q8,k9,fh,rs,R,h,q⟩:=h
  let H:Hp:=upd (upd H1 dx (.own a)) a (.ins C dx [])
  let B:Hp:=λb=>if b=a then G_ else H b
  have LL:B a=none:=if_pos rfl;have hB:∀{b:KF},b≠a->B b=H b:=λ{b} h=>if_neg h;have n6:∀{b:KF} {o:HO},H1 b=be o->b≠a/\H b=be o:=λ{b o} e=>by
   have n1:b≠a:=bx e ha;exact#[n1,by show upd _ _ _ b=_;rw[aj n1,aj (bx e q8)];exact e]
  letI:Jm:={B:=B,F0:=F1,RX:=λ_ _ _=>False,RM:=λ_ _ _ _=>False}
  have hx:XOkM (cxOf (CX1 P w) P w K mg base N qual (ag st) f cdv A outer s H E).nox:=λσ z M' F' H' s' e C od y fs I kk rr hR er _=>hR.elim;obtain⟨t,ht,hq⟩:=a_ f cdv A outer s H E inferInstance hr hx;have Fa:F1 a=none:=fh.free ha;have k0:Kept B F1 F1 H:=⟨λb o e=>by
   by_cases n:b=a
   .rw[n,LL]at e;cases e
   .rw[hB n]at e;exact e,λb o e=>(n6 (fh b o e)).2,Same.refl F1,λ_ h _=>h,rfl,Same.refl F1,λ_ h _=>h⟩
  have B_:Reps K F1 (.ptr a::ds) (.ref a::us):=reps_cons.mpr #[_,_,rfl,rep_ptr.mpr rfl,rs];have NP:RepM K F1 H [(a,.ins x [])]:=⟨by simp[ao],λb o hb=>by
   have e:=FW.mp hb;cases e;exact#[C,dx,[],hns,av,repf_nil.mpr rfl],λb hb=>by
   have e:b=a:=by simpa[ao]using hb
   rw[e];exact Fa⟩
  have r0:RepZ K B F1 H (startD N (.ptr a::ds)) (L2.start N (.ref a::us)) [(a,.ins x [])]:=⟨dq B_,kF B_,NP,λb hb=>by
   have e:b=a:=by simpa[ao]using hb
   rw[e];exact LL⟩
  refine#[_,ht.out.nox,F1,F1,_,_,k0,r0,_,hq a ds R (λ_ _ _ _ z=>z) h,#[λz' s' M' F' H' kk hn r=>?_,λd v M' F' H' kk hd rd NJ mb=>hd.elim,λ_ _ _ _ _ _ h _=>h.elim,λ_ _ _ _ _ _ h _=>h.elim]];refine q M' F' H' ⟨kk.f0,kk.fh,λb o _ e=>kk.bh b o (by show B b=be o;rw[hB (n6 e).1];exact(n6 e).2),λb _ h1 h2=>kk.out b h1 (by
   show B b≠G_;cases e:H1 b with
   |none=>exact absurd e h2
   |some o=>rw[hB (n6 e).1,(n6 e).2];exact λz=>nomatch z),λb hb=>?_⟩ hn r.rm
  cases e:H1 b with
  |none=>exact .inr rfl
  |some o=>
   have h0:B b=none:=r.mb b hb;rw[hB (n6 e).1,(n6 e).2]at h0;cases h0
end
section
variable {X:Cx}[J:Jm]{e:RZ}{es:List RZ}{pos p:Sb}{n m:Nat}{ps:List JM}{S:SiM}{x:JM}{t:TMA}
def CC(S:SiM)(t:TMA):TME:=λz M R=>t z M λds M1=>∀a,a∉ao M1->S a ds λM'=>R (.ptr a) (M'++M1)
def CD(M:CalN X.prog X.w X.K X.mg X.base n x ps S)(hr:Room m X.A)(ha:MA X (e::es) t)(hg:autoParam (Gl X x) zA0)(hn:autoParam (n+1<=m) zA1)(d7:autoParam (zND x) zA1)
  (he:autoParam (zSE X e es) zA0) (c_:autoParam (zPL X pos es) zA0):
  ME X (.Call (.Name x p) (e::es) [] pos) (CC S t):=by
 obtain⟨C,f,fd,hns,j9,mk,F,hb⟩:=M;refine#[(gw mk F (hr.mono hn) hg j9 hb .nil dW ha.out d7 he c_).anti λs H Q q=>?_];obtain⟨F,z,M,k,rs,R,h1,h2⟩:=q;refine#[F,z,M,k,rs,_,h1,λds vs M1 F1 H1 g1 hx rx m1=>?_];intro a dx ha q8 k9;have na:a∉ao M1:=λz=>m1.here z ha;refine#[a,dx,vs,H1,F1,ds,by rw[Gw],rfl,ha,q8,k9,g1.fh,rx,_,hx a na,λM' F' H' g hR m'=>#[rfl,?_]];have hh:∀b o,H1 b=be o->H' b=be o:=λb o e=>g.hh b o (λz=>nomatch z) e;have nk:∀b,b∈ao M'->H1 b=none:=λb hb=>(g.ks b hb).elim (λz=>nomatch z) id;refine h2 (.ptr a) (.ref a) _ F' H' (g1.trans #[g.ff,g.fh,λb o _ e=>hh b o e,λb _=>g.out b (λz=>nomatch z),λb hb=>?_]) hR (rep_ptr.mpr rfl) #[?_,λb o hb=>?_,λb hb=>?_]
 .rcases keys_app.mp hb with z|z
  .exact .inr (nk b z)
  .exact .inl z
 .unfold ao;rw[Gm];exact Ha.mpr #[m'.nd,m1.nd,λb h1 c h2 e=>m1.here (e ▸ h2) (nk b h1)]
 .rcases GA.mp hb with z|z
  .exact m'.ok b o z
  .exact(m1.ok b o z).mono g.ff λo e=>hh b o e
 .rcases keys_app.mp hb with z|z
  .exact m'.fr b z
  .exact g.out b (λz=>nomatch z) (m1.fr b z) (m1.here z)
end
section
variable {K:Ex}{x m q:JM}{st:R3}{ps:List JM}
def MdIn(K:Ex)(x m q:JM)(st:R3)(i:Int):Prop:=∃C f fd T,NsC K x C/\Meth K C m f/\FunG K (.ref T) m q st f fd/\∃tc td n ts t,K.lookup T=be #[tc,td,.seq [.int i t].toArray n,ts]
def mdIn_mk{C f T:KF}{i:Int}{oc tc:KB}{od an td:Option KF}{sl ts:Array (Option KB)}{n:Nat}{t:Ul}{kV dc pm cd ct:KB}(a:nsIn K Pi x=be (be (.ref C)))(b:FZ K (.ref C) m=be (be (.ref f)))(j:isFn K (.ref f)=true)(l:K.lookup f=be #[oc,od,.func (fnOf m q (br st) (aG st) (ag st) (.ref T) kV dc pm an cd ct),sl])(c:codeIn K cd q=true)(k:keepIn K (.ref f)=true)
  (d:K.lookup T=be #[tc,td,.seq [.int i t].toArray n,ts]):MdIn K x m q st i:=#[C,f,_,T,a,#[b,j,k],#[#[_,_,_,_,_,_,_,_,_,rfl,l,c],k],_,_,_,_,_,d]
def CF(m q:JM)(st:R3)(x0 x1:JM):Prop:=∀(s:KM) (T:KF) (o:Sj) (its:Array KB) (n:Nat) (v:KB) (kV doc pm:KB) (an:Option KF) (cdv ct u0 u1:KB),s.heap.get? T=be o->o.data=.seq [v].toArray n->
 S5 s (fnOf m q (br st) (aG st) (ag st) (.ref T) kV doc pm an cdv ct) #[[u0,u1],[]] [(x0,u0),(x1,u1)]/\S5 s (fnOf m q (br st) (aG st) (ag st) (.ref T) kV doc pm an cdv ct) #[[u0],[]] [(x0,u0),(x1,v)]
def Txd(K:Ex)(x m qual:JM)(st:R3)(ps:List JM)(dd:List D):Prop:=
 ∃C f fd dV f_ r_,nsIn K Pi x=be (be (.ref C))/\Cls K C/\Meth K C m f/\FunG K dV m qual st f fd/\Binds K fd ps []/\Binds K fd ps r_/\Vals f_ r_/\∀F,Reps K F dd f_
def MdIn.txd{i:Int}{x0 x1:JM}(T:MdIn K x m q st i)(c:ClIn K x)(b:CF m q st x0 x1):Txd K x m q st [x0,x1] [.int i]:=by
 obtain⟨C,k⟩:=c;obtain⟨D,f,fd,T,a,mt,F,tc,td,n,ts,t,hT⟩:=T;cases NsC.uniq k.ns a;have F':=F;obtain⟨oc,od,kV,doc,pm,an,cdv,ct,osl,rfl,lk,gV⟩:=F'.ex;refine#[C,f,_,_,[.int i],[.int i t],a,k.cl,mt,F,λs us hK hl=>?_,λs us hK hl=>?_,.cons #[t,rfl] .nil,λF=>reps_cons.mpr #[_,_,rfl,rep_int.mpr rfl,reps_nil.mpr rfl]]
 .rw[Gw]at hl ⊢;obtain⟨u0,t0,rfl,h0⟩:=aX hl;obtain⟨u1,t1,rfl,h1⟩:=aX h0;cases len_0 h1;exact(b s T _ [].toArray n (.int i t) kV doc pm an cdv ct u0 u1 (hK _ _ hT) rfl).1
 .rw[Gc]at hl;have M9:us.length=[x0].length:=Nat.succ.inj hl;obtain⟨u0,t0,rfl,h0⟩:=aX M9;cases len_0 h0;exact(b s T _ [].toArray n (.int i t) kV doc pm an cdv ct u0 u0 (hK _ _ hT) rfl).2
end
section
variable {P:P3}{w:R5}{K:Ex}{mg:JM->Option KB}{base:Heap}
variable{N ps:List JM}{dd:List My.D}
def Txd.okM{x m qual:JM}{st:R3}{k:Nat}{S:SpM}(T:Txd K x m qual st ps dd)(F:FnScope N ps (ag st))(len:∀ds M R RX,S ds M R RX->ds.length=ps.length)
  (a_:∀(f:KF) (cdv:KB) (A:R6) (outer:List SU) (s:KM) (H:Hp) (E:XK) (J:Jm),Room k (A.deeper (Se qual (ag st) s.heap.objs.size f cdv))->XOkM (cxOf (CX1 P w) P w K mg base N qual (ag st) f cdv A outer s H E)->
   ∃t,MSs (cxOf (CX1 P w) P w K mg base N qual (ag st) f cdv A outer s H E) (aG st) t/\∀ds M R RX,(∀z,J.RM z=λM' x fs=>RX x fs M')->S ds M R RX->t {nx:=λ_ M'=>R .non M',rt:=R} (startD N ds) M):CalMth P w K mg base (k+1) x m ps (lSpM K S)/\ia P w K mg base (k+1) x m ps dd (lSpM K S):=by
 obtain⟨C,f,fd,dV,f_,r_,h1,h2,h3,T,hb,g5,hv,hd⟩:=T;have ok:=Fun.okM (P:=P) (w:=w) (mg:=mg) (base:=base) T F len λcdv A outer s H E J hr hx=>a_ f cdv A outer s H E J hr hx;exact#[#[C,f,fd,h1,h2,h3,ok,hb],C,f,fd,f_,r_,h1,h2,h3,ok,g5,hv,hd]
def Txd.okMd{x m qual:JM}{st:R3}{k:Nat}{S:SpM}(T:Txd K x m qual st ps dd)(F:FnScope N ps (ag st))(len:∀ds M R RX,fX S ds M R RX->ds.length=ps.length)
  (a_:∀(f:KF) (cdv:KB) (A:R6) (outer:List SU) (s:KM) (H:Hp) (E:XK) (J:Jm),Room k (A.deeper (Se qual (ag st) s.heap.objs.size f cdv))->XOkM (cxOf (CX1 P w) P w K mg base N qual (ag st) f cdv A outer s H E)->
   ∃t,MSs (cxOf (CX1 P w) P w K mg base N qual (ag st) f cdv A outer s H E) (aG st) t/\∀ds M R RX,(∀z,J.RM z=λM' x fs=>RX x fs M')->fX S ds M R RX->t {nx:=λ_ M'=>R .non M',rt:=R} (startD N ds) M):CalMth P w K mg base (k+1) x m ps (lSpM K S)/\ia P w K mg base (k+1) x m ps dd (lSpM K S):=by
 obtain⟨a,C,f,fd,f_,r_,h1,h2,h3,ok,hb,hv,hd⟩:=Txd.okM (S:=fX S) T F len a_;exact#[a.drop,C,f,fd,f_,r_,h1,h2,h3,ok.imp λ_ _ _ _ h=>vg h,hb,hv,hd]
def nilD(S:SpD):SpM:=λds M R _=>M=[]/\∃R0:D->Prop,S ds R0/\R=λd _=>R0 d
def CG{n:Nat}{f:KF}{fd:R_}{S:SpD}(F:FnOk P w K mg base (CX1 P w) n f fd ps (lSpM K (nilD S))):FnOk P w K mg base (CX1 P w) n f fd ps (lSp K S):=F.imp λvs H Q E q=>by
 obtain⟨F,ds,fh,rs,R,hS,q1⟩:=q;exact#[F,ds,[],fh,rs,RepM.nil,_,λ_ _ _=>False,#[rfl,R,hS,rfl],λd v M' F' H' g hd rd _=>q1 d v F' H' (growM_nil g) hd rd,λ_ _ _ _ _ _ _ _ z=>z.elim]
end
section
variable {X:Cx}[J:Jm]{a:RZ}{ta:TME}{tA:TMT}{pos:Sb}
def cE(ha:ME X a ta)(he:autoParam (∀f6,isTrue a X.env f6=(do let v <-f6;SS a.pos;Sv [v] (truthy v))) zA3):MT X a (mTru ta):=⟨(ql ha.out he).anti λs H Q q=>by
 obtain⟨F,z,M,k,rs,R,h1,h2⟩:=q;refine#[F,z,M,k,rs,_,h1,λx u M1 F1 H1 g1 hx rx m1=>?_];split at hx
 .rw[rep_bl.mp rx];exact#[_,rfl,h2 _ M1 F1 H1 g1 hx m1]
 .exact hx.elim⟩
def mNot(tA:TMT):TMT:=λz M R=>tA z M λk M1=>R (!k) M1
def cF(ha:MT X a tA):MT X (.UnaryOp .Not a pos) (mNot tA):=⟨(pS ha.out).anti λs H Q q=>by
 obtain⟨F,z,M,k,rs,R,h1,h2⟩:=q;exact#[F,z,M,k,rs,_,h1,λk M1 F1 H1 g1 hx m1=>h2 _ M1 F1 H1 g1 hx m1]⟩
end
abbrev Bx.N(V:Bx)(n:Nat)(x:JM)(ps:List JM)(S:SiM):Prop:=CalN V.P V.w V.K V.mg V.base n x ps S
abbrev Bx.QD(V:Bx)(n:Nat)(x m:JM)(ps:List JM)(S:SpD):Prop:=CalMth V.P V.w V.K V.mg V.base n x m ps (lSp V.K S)
abbrev Bx.Qd(V:Bx)(n:Nat)(x m:JM)(ps:List JM)(dd:List My.D)(S:SpM):Prop:=ia V.P V.w V.K V.mg V.base n x m ps dd (lSpM V.K S)
abbrev Bx.Td(V:Bx)(x m q:JM)(st:R3)(ps:List JM)(dd:List My.D):Prop:=Txd V.K x m q st ps dd
section
variable {X:Cx}[J:Jm]{a b c e o:RZ}{ta tb te:TME}{pos:Sb}
variable{p:Sb}
def CH{p2:Sb}{y:JM}{t:String}(hm:X.mg "isinstance"=G_)(Na:X.mg y=G_)(ha:ME X a ta)(hv:Si y=be (.type t))
  (hk:∀x:D,cz x=true->kitOne X.K (.type (tyD x)) (.type t)=be (cy t x)) (hg:autoParam (Gl X "isinstance") zA0) (Nb:autoParam (Gl X y) zA0) (hn:autoParam (y≠"__name__") zA1) (d7:autoParam (zND y) zA1)
  (m4:autoParam (R8 [a,.Name y p2] X.env=(false,Sa a X.env)::R8 [.Name y p2] X.env) zA0) (n4:autoParam (R8 [.Name y p2] X.env=(false,Sa (.Name y p2) X.env)::R8 [] X.env) zA0) (c_:autoParam ((SZ pos (R8 [.Name y p2] X.env)).any (·.1)=false) zA0):ME X (.Call (.Name "isinstance" p) [a,.Name y p2] [] pos) (mUn (jZ t) ta):=⟨(fw rJ hg hm PyProof.Rows.boot_isinstance (bo ha.out (bo (pN (v:=.ty t) Nb Na hv rfl hn d7) pa_nil n4) m4) Ks Ks m4 c_).anti λs H Q q=>by
 obtain⟨F,z,M,k,rs,R,h1,h2⟩:=q;refine#[F,z,M,k,rs,_,h1,λx u M1 F1 H1 g1 hx rx m1=>?_];have no:cz x=true/\R (.bl (cy t x)) M1:=by
  cases x with
  |obj C b=>exact False.elim hx
  |exc C b=>exact False.elim hx
  |ptr b=>exact False.elim hx
  |dti b=>exact False.elim hx
  |_=>exact#[rfl,hx]
 exact#[u,tyD x,t,_,rfl,rK g1.fh rx no.1,hk x no.1,h2 _ _ M1 F1 H1 g1 no.2 (rep_bl.mpr rfl) m1]⟩
def mItL(t:TME):TMI:=λz M R=>t z M λx M1=>match x with|.lst ds=>R ds M1|_=>False
def CI(is:List Nat)(te:TME):TMS:=λE z M=>te z M λx M1=>match x with|.tup ds=>ds.length=is.length/\E.nx (bO is ds z) M1|_=>False
def CJ(is:List Nat)(te:TME):TMS:=λE z M=>te z M λx M1=>match x with|.lst ds=>ds.length=is.length/\E.nx (bO is ds z) M1|_=>False
variable{es:List RZ}{is:List Nat}
def lf{k:Nat}(hc:X.calm=true)(he:ME X e te)(hg:DGs X es is)(hn:autoParam ((R7 es X.env).length=is.length) zA0)(j8:autoParam ((R7 es X.env).findIdx? (·.1)=none) zA0)
  (hs:autoParam (SI [.Tuple es k p] e pos.line X.env=pure false) zA0) (hw:autoParam (SJ [.Tuple es k p] e X.env=pure none) zA0) (h1:autoParam ((R7 [.Tuple es k p] X.env).map (·.2)=[SB (.Tuple es k p) X.env]) zA0):MSt X (.Assign [.Tuple es k p] e pos) (CI is te):=⟨by
 obtain⟨u,hu,kk⟩:=hg;refine(ft he.out (fq hc hu hn j8) hs hw h1).anti λE s H q=>?_;obtain⟨F0,F,z,M,k,rs,ED,h,e⟩:=q;refine#[F,z,M,k.kf,rs,_,h,λd v M1 F1 H1 g hd rd m1=>?_];have r1:=rs.growM k.bh g m1;split at hd
 .obtain⟨p,vs,rfl,hq,rr⟩:=rep_tup_mp rd;exact#[p,vs,rfl,g.fh.tup hq,by rw[rr.length];exact hd.1,kk _ vs z s J.B F1 H1 _ hd.1 rr r1.rs λs' r'=>e.nx _ _ M1 F1 H1 (k.growM rs.mb g) hd.2 #[r',gX is _ _ z rr r1.no,m1,r1.mb]]
 .exact hd.elim⟩
def CK{k:Nat}(hc:X.calm=true)(he:ME X e te)(hg:DGs X es is)(hn:autoParam ((R7 es X.env).length=is.length) zA0)(j8:autoParam ((R7 es X.env).findIdx? (·.1)=none) zA0)
  (hs:autoParam (SI [.Tuple es k p] e pos.line X.env=pure false) zA0) (hw:autoParam (SJ [.Tuple es k p] e X.env=pure none) zA0) (h1:autoParam ((R7 [.Tuple es k p] X.env).map (·.2)=[SB (.Tuple es k p) X.env]) zA0):MSt X (.Assign [.Tuple es k p] e pos) (CJ is te):=⟨by
 obtain⟨u,hu,kk⟩:=hg;refine(ft he.out (se hc hu hn j8) hs hw h1).anti λE s H q=>?_;obtain⟨F0,F,z,M,k,rs,ED,h,e⟩:=q;refine#[F,z,M,k.kf,rs,_,h,λd v M1 F1 H1 g hd rd m1=>?_];have r1:=rs.growM k.bh g m1;split at hd
 .obtain⟨p,vs,rfl,hq,rr⟩:=rep_lst.mp rd;exact#[p,vs,rfl,SqL.of (g.fh _ _ hq),by rw[rr.length];exact hd.1,kk _ vs z s J.B F1 H1 _ hd.1 rr r1.rs λs' r'=>e.nx _ _ M1 F1 H1 (k.growM rs.mb g) hd.2 #[r',gX is _ _ z rr r1.no,m1,r1.mb]]
 .exact hd.elim⟩
end
end My
namespace My
section
variable {X:Cx}
def CL(K:Ex):R2:=λx y H Q=>∃a b xs,x=.ref a/\y=.ref b/\SqL K H a xs/\SqL K H b []/\Q (.bl (!xs.isEmpty)) H
def CM(hu:X.A.units<Ta):OpR X (Sh .NotEq) (CL X.K):=by
 intro pins s σ H x y v u Q I rx ry h;obtain⟨a,b,xs,rfl,rfl,ha,hb,q⟩:=h;cases rx;cases ry;obtain⟨its,r1,p1,_⟩:=I.list ha;obtain⟨u8,r2,p2,_⟩:=I.list hb;have e2:u8=[]:=Hn (L2.Vals.length r2).symm;have e1:=L2.Vals.length r1;subst e2;cases xs with
 |nil=>
  have e3:its=[]:=Hn e1.symm;subst e3;exact SeqAt.RcNeAt.lists (e:=λ_=>true) p1.isList p2.isList rfl hu (λj h1 _=>absurd h1 (Hq j)) _ _ _ _ #[.bl false,H,I,rfl,q]
 |cons x xs=>
  refine SeqAt.RcNeAt.lists_lengths p1.isList p2.isList ?_ hu _ _ _ _ #[.bl true,H,I,rfl,q];rw[F9,F9,<-e1];rfl
variable {a b c e:RZ}{ta tb:TD}{pos:Sb}
end
section
variable {X:Cx}[J:Jm]{a b c e:RZ}{ta tb te:TME}{pos p2:Sb}
def CN(ta:TME):TMT:=λz M R=>ta z M λx M1=>match x with|.ptr a=>∃ds,mget M1 a=be (.lst ds)/\R (!ds.isEmpty) M1|_=>False
def CO(hu:X.A.units+1<Ta)(ha:ME X a ta):MT X (.Compare a [.NotEq] [.List [] p2] pos) (CN ta):=⟨(jD (CM Ko) ha.out (eO (pos:=p2) aS).out (nomark _)).anti λs H Q q=>by
 obtain⟨F,z,M,k,rs,R,h1,h2⟩:=q;refine#[F,z,M,k,rs,_,h1,λx u M1 F1 H1 g1 hx rx m1=>?_];split at hx
 .rename_i p;obtain⟨ds,hm,hR⟩:=hx;refine#[F1,z,M1,k.growM rs.mb g1,rs.growM k.bh g1 m1,λy M2=>∃p',p'∉ao M1/\y=.ptr p'/\M2=(p',.lst [])::M1,#[Ks,λp' hp=>#[p',hp,rfl,rfl]],λy v M2 F2 H2 g2 hy ry m2=>?_];obtain⟨p',hp,rfl,rfl⟩:=hy;obtain⟨us,hH,ru⟩:=m2.ok _ _ (F8 _ (bj hm));obtain⟨vs,N1,rv⟩:=m2.ok _ _ Gd;have ev:=reps_nil.mp rv;subst ev;have e3:us.isEmpty=ds.isEmpty:=by have:=ru.length;cases us<;>cases ds<;>simp at this ⊢
  exact#[p,p',us,rep_ptr.mp rx,rep_ptr.mp ry,SqL.of hH,SqL.of N1,#[_,rfl,h2 _ _ F2 H2 (g1.trans #[g2.ff,g2.fh,g2.hh,g2.out,λb h=>.inl h]) (by rw[e3];exact hR) #[(GC.mp m2.nd).2,λb o hb=>m2.ok b o (F8 _ hb),λb hb=>m2.fr b (F8 _ hb)]]]
 .exact hx.elim⟩
end
def splitN(S:SpM):SpM:=λds M R RX=>∃M1 M2,subM (M1++M2) M/\S ds M2 (λd M'=>(ao (M1++M')).Nodup->R d (M1++M')) λx fs M'=>(ao (M1++M')).Nodup->RX x fs (M1++M')
def vh{K:Ex}{S:SpM}{vs:List V}{H:Hp}{Q:VK}{E:XK}(h:lSpM K (splitN S) vs H Q E):lSpM K S vs H Q E:=by
 obtain⟨F,ds,M,fh,rs,rm,R,RX,⟨M1,M2,s,hS⟩,q,qx⟩:=h;exact kI #[F,ds,M1++M2,fh,rs,rm.sub s,λd N=>(ao N).Nodup->R d N,λx fs N=>(ao N).Nodup->RX x fs N,#[M1,M2,rfl,hS],λd v M' F' H' g hR hd hm=>q d v M' F' H' (g.sub0 s) (hR hm.nd) hd hm,λx fs C od M' F' H' g hR er hm=>qx x fs C od M' F' H' (g.sub0 s) (hR hm.nd) er hm]
section
variable {P:P3}{w:R5}{K:Ex}{mg:JM->Option KB}{base:Heap}{n:Nat}{x m:JM}{ps:List JM}{S:SpM}
def CalMM.splitN(C:CalMM P w K mg base n x ps S):CalMM P w K mg base n x ps (splitN S):=C.imp λ_ _ _ _ h=>vh h
def CalMth.splitN(C:CalMth P w K mg base n x m ps (lSpM K S)):CalMth P w K mg base n x m ps (lSpM K (splitN S)):=C.imp λ_ _ _ _ h=>vh h
end
def CP(t:TME):TME:=λz M R=>t z M λd M'=>(ao M').Nodup->R d M'
def CQ{X:Cx}[J:Jm]{e:RZ}{t:TME}(h:ME X e t):ME X e (CP t):=⟨h.out.anti λs H Q q=>by
 obtain⟨F,z,M,k,rs,R,h1,h2⟩:=q;exact#[F,z,M,k,rs,_,h1,λd v M' F' H' g hR rd m'=>h2 d v M' F' H' g (hR m'.nd) rd m']⟩
end My
end
section
namespace My
local macro_rules | `(tactic| k_memK) => `(tactic| exact⟨rfl, rfl, rfl, by decide +kernel, rfl, by decide +kernel, by decide +kernel⟩)
local macro_rules | `(tactic| k_places) => `(tactic| try simp only[List.set_cons_succ, List.set_cons_zero, My.bO])
open PySem PySem.Spec PyProof.Rows L2
def top(i:Nat):Stmt:=PySem.Challenge.pw_motiffield_k31_lone_wrong_tile.main.body.getD i (.Pass #[0,0,0,0])
abbrev lh:R3:=top 58
abbrev lm:List Str:=["_law_script","_law_k"]
def CS:FnScope ["_law_script","_law_k"] lm (ag lh):=Lh
abbrev ln:R3:=top 60
abbrev lr:List Str:=["_law_script","_law_k","_law_many"]
def sc__law_draws:FnScope ["_law_script","_law_k","_law_many","_law_left","_law_drawn","_law_turn","_law_seed"] lr (ag ln):=Lh
abbrev lu:R3:=top 61
abbrev lv:List Str:=["_law_a","_law_b"]
def sc__law_lcm:FnScope ["_law_a","_law_b","_law_both"] lv (ag lu):=Lh
abbrev ib:R3:=top 62
abbrev lw:List Str:=["_law_script","_law_k"]
def sc__law_needle:FnScope ["_law_script","_law_k","_law_draws_here","_law_sizes","_law_wide","_law_high","_law_spot","_law_old","_law_new","_law_text","_law_j","_law_gap","_law_line","_law_shifts","_law_across","_law_down"] lw (ag ib):=Lh
abbrev lx:R3:=top 69
abbrev ly:List Str:=["_law_needle_here","_law_size"]
def sc__law_rows_of:FnScope ["_law_needle_here","_law_size","_law_text","_law_wide","_law_high","_law_x","_law_y","_law_old","_law_new","_law_lines","_law_j","_law_line","_law_i"] ly (ag lx):=Lh
abbrev lz:R3:=aL (top 56) 1
abbrev lC:List Str:=["self","word"]
def CT:FnScope ["self","word"] lC (ag lz):=Lh
abbrev lD:R3:=top 31
abbrev lF:List Str:=["x","y"]
def CU:FnScope ["x","y"] lF (ag lD):=Lh
abbrev lG:R3:=top 13
abbrev lH:List Str:=["family","x","y"]
def sc_home:FnScope ["family","x","y","width","height","slant"] lH (ag lG):=Lh
abbrev ic:R3:=aL (top 20) 2
abbrev cu:List Str:=["self","x","y"]
def CV:FnScope ["self","x","y"] cu (ag ic):=Lh
abbrev ie:R3:=aL (top 21) 2
abbrev ig:List Str:=["self","x","y"]
def sc_Over_shows:FnScope ["self","x","y","hue"] ig (ag ie):=Lh
abbrev ii:R3:=aL (top 22) 2
abbrev ij:List Str:=["self","x","y"]
def CW:FnScope ["self","x","y"] ij (ag ii):=Lh
abbrev ik:R3:=aL (top 23) 2
abbrev il:List Str:=["self","x","y"]
def CY:FnScope ["self","x","y"] il (ag ik):=Lh
abbrev im:R3:=aL (top 24) 2
abbrev io:List Str:=["self","x","y"]
def CZ:FnScope ["self","x","y"] io (ag im):=Lh
abbrev ip:R3:=aL (top 25) 2
abbrev iq:List Str:=["self","x","y"]
def sc_Rehue_shows:FnScope ["self","x","y","hue"] iq (ag ip):=Lh
abbrev lJ:R3:=top 32
abbrev lK:List Str:=["pattern","x","y"]
def C0:FnScope ["pattern","x","y"] lK (ag lJ):=Lh
abbrev ir:R3:=top 33
abbrev lL:List Str:=["pattern","x","y","many"]
def C1:FnScope ["pattern","x","y","many"] lL (ag ir):=Lh
abbrev iu:R3:=aL (top 56) 7
abbrev lM:List Str:=["self"]
def C3:FnScope ["self"] lM (ag iu):=Lh
abbrev lN:R3:=aL (top 56) 3
abbrev iw:List Str:=["self","many"]
def sc_Floor_lay:FnScope ["self","many","ahead"] iw (ag lN):=Lh
abbrev lP:R3:=top 67
abbrev lQ:List Str:=["_law_floor","_law_many","_law_bare"]
def sc__law_lay:FnScope ["_law_floor","_law_many","_law_bare","_law_found","_law_refused"] lQ (ag lP):=Lh
abbrev lR:R3:=top 64
abbrev lU:List Str:=["_law_found","_law_due"]
def sc__law_texts:FnScope ["_law_found","_law_due","_law_k"] lU (ag lR):=Lh
abbrev lV:R3:=top 72
abbrev lW:List Str:=["_law_floor","_law_goal","_law_split","_law_lines","_law_state","_law_words"]
def sc__law_laid:FnScope ["_law_floor","_law_goal","_law_split","_law_lines","_law_state","_law_words","_law_k","_law_stands","_law_laid_here","_law_many","_law_refused","_law_found"] lW (ag lV):=Lh
abbrev lY:R3:=top 70
abbrev lZ:List Str:=["_law_needle_here","_law_wide","_law_laid_here"]
def sc__law_first_lone:FnScope ["_law_needle_here","_law_wide","_law_laid_here","_law_j","_law_i"] lZ (ag lY):=Lh
abbrev md:R3:=aL (top 44) 1
abbrev me:List Str:=["self","allowed"]
def C4:FnScope ["self","allowed"] me (ag md):=Lh
abbrev mf:R3:=aL (top 44) 2
abbrev mh:List Str:=["self","allowed"]
def sc_Reading_take:FnScope ["self","allowed","sign"] mh (ag mf):=Lh
abbrev mi:R3:=top 47
abbrev mj:List Str:=["reading","least","most"]
def sc_line_from:FnScope ["reading","least","most","line","column"] mj (ag mi):=Lh
abbrev ml:R3:=top 48
abbrev mm:List Str:=["reading"]
def sc_lines_from:FnScope ["reading","lines","width"] mm (ag ml):=Lh
abbrev mn:R3:=top 45
abbrev mo:List Str:=["reading"]
def sc_number_from:FnScope ["reading","written"] mo (ag mn):=Lh
abbrev ms:R3:=top 46
abbrev mv:List Str:=["reading"]
def sc_shift_from:FnScope ["reading","x"] mv (ag ms):=Lh
abbrev mw:R3:=top 10
abbrev mx:List Str:=["first","second"]
def sc_levelled:FnScope ["first","second","times","rest"] mx (ag mw):=Lh
abbrev my:R3:=top 12
abbrev mz:List Str:=["first","second"]
def sc_spread:FnScope ["first","second","pair","width"] mz (ag my):=Lh
abbrev mB:R3:=top 19
abbrev mC:List Str:=["lines","family"]
def sc_hues_by_home:FnScope ["lines","family","hues","row","line","column","sign"] mC (ag mB):=Lh
abbrev mD:R3:=aL (top 20) 0
abbrev mF:List Str:=["self","place","lines","first","second"]
def C5:FnScope ["self","place","lines","first","second"] mF (ag mD):=Lh
abbrev mG:R3:=top 49
abbrev mH:List Str:=["reading"]
def sc_motif_from:FnScope ["reading","place","lines","first","second"] mH (ag mG):=Lh
abbrev mI:R3:=aL (top 23) 0
abbrev mJ:List Str:=["self","form"]
def C6:FnScope ["self","form"] mJ (ag mI):=Lh
abbrev mK:R3:=aL (top 24) 0
abbrev mL:List Str:=["self","form"]
def C7:FnScope ["self","form"] mL (ag mK):=Lh
abbrev mM:R3:=aL (top 21) 0
abbrev mN:List Str:=["self","above","below"]
def C8:FnScope ["self","above","below"] mN (ag mM):=Lh
abbrev mQ:R3:=aL (top 22) 0
abbrev mR:List Str:=["self","form","x","y"]
def C9:FnScope ["self","form","x","y"] mR (ag mQ):=Lh
abbrev mU:R3:=aL (top 25) 0
abbrev mV:List Str:=["self","form","old","new"]
def Da:FnScope ["self","form","old","new"] mV (ag mU):=Lh
abbrev iy:R3:=top 50
abbrev fY:List Str:=["reading","around"]
def sc_over_from:FnScope ["reading","around","above","below"] fY (ag iy):=Lh
abbrev iz:R3:=top 51
abbrev fZ:List Str:=["reading","around"]
def sc_shifted_from:FnScope ["reading","around","shift"] fZ (ag iz):=Lh
abbrev iA:R3:=top 52
abbrev gc:List Str:=["reading","around"]
def sc_rehue_from:FnScope ["reading","around","old","new"] gc (ag iA):=Lh
abbrev iB:R3:=top 53
abbrev cG:List Str:=["reading","around"]
def sc_form_from:FnScope ["reading","around","sign"] cG (ag iB):=Lh
abbrev mW:R3:=aL (top 44) 0
abbrev mY:List Str:=["self","text"]
def Db:FnScope ["self","text"] mY (ag mW):=Lh
abbrev mZ:R3:=aL (top 43) 0
abbrev nh:List Str:=["self","text","shifts","form"]
def Dc:FnScope ["self","text","shifts","form"] nh (ag mZ):=Lh
abbrev nj:R3:=top 11
abbrev nr:List Str:=["one","two"]
def sc_measure:FnScope ["one","two","last"] nr (ag nj):=Lh
abbrev nt:R3:=top 14
abbrev nu:List Str:=["one","two"]
def sc_met:FnScope ["one","two","common","width","rise","start","gap","climbs","steps"] nu (ag nt):=Lh
abbrev nv:R3:=top 15
abbrev nw:List Str:=["family"]
def Dd:FnScope ["family"] nw (ag nv):=Lh
abbrev ny:R3:=top 16
abbrev nz:List Str:=["family"]
def De:FnScope ["family"] nz (ag ny):=Lh
abbrev iC:R3:=aL (top 20) 1
abbrev cv:List Str:=["self"]
def Df:FnScope ["self"] cv (ag iC):=Lh
abbrev iD:R3:=aL (top 21) 1
abbrev iE:List Str:=["self"]
def sc_Over_family:FnScope ["self","first"] iE (ag iD):=Lh
abbrev iF:R3:=aL (top 22) 1
abbrev iG:List Str:=["self"]
def Dg:FnScope ["self"] iG (ag iF):=Lh
abbrev iH:R3:=aL (top 23) 1
abbrev iI:List Str:=["self"]
def Dh:FnScope ["self"] iI (ag iH):=Lh
abbrev iJ:R3:=aL (top 24) 1
abbrev iK:List Str:=["self"]
def Di:FnScope ["self"] iK (ag iJ):=Lh
abbrev iL:R3:=aL (top 25) 1
abbrev iM:List Str:=["self"]
def Dj:FnScope ["self"] iM (ag iL):=Lh
abbrev nA:R3:=top 54
abbrev nB:List Str:=["text"]
def sc_read:FnScope ["text","reading","form","family"] nB (ag nA):=Lh
abbrev nC:R3:=top 37
abbrev nD:List Str:=["one","two","width","height"]
def sc_first_unlike:FnScope ["one","two","width","height","y","x"] nD (ag nC):=Lh
abbrev nE:R3:=aL (top 7) 0
abbrev nF:List Str:=["self","x","y"]
def Dk:FnScope ["self","x","y"] nF (ag nE):=Lh
abbrev nG:R3:=aL (top 56) 2
abbrev nH:List Str:=["self","pattern"]
def Dl:FnScope ["self","pattern"] nH (ag nG):=Lh
abbrev nI:R3:=aL (top 56) 4
abbrev nJ:List Str:=["self","text"]
def sc_Floor_change:FnScope ["self","text","pattern","cell"] nJ (ag nI):=Lh
abbrev nK:R3:=top 68
abbrev nM:List Str:=["_law_floor","_law_text"]
def sc__law_change:FnScope ["_law_floor","_law_text","_law_found","e"] nM (ag nK):=Lh
abbrev nN:R3:=top 59
abbrev nO:List Str:=["_law_found"]
def Dm:FnScope ["_law_found"] nO (ag nN):=Lh
abbrev nP:R3:=top 71
abbrev nQ:List Str:=["_law_floor","_law_text","_law_due"]
def sc__law_turned_to:FnScope ["_law_floor","_law_text","_law_due","_law_found"] nQ (ag nP):=Lh
abbrev nR:R3:=top 73
abbrev nU:List Str:=["_law_floor","_law_both","_law_needle_here","_law_size","_law_state","_law_words"]
def sc__law_turned_about:FnScope ["_law_floor","_law_both","_law_needle_here","_law_size","_law_state","_law_words","_law_turn","_law_stands","_law_laid_here","_law_due"] nU (ag nR):=Lh
abbrev nV:R3:=top 63
abbrev nW:List Str:=["_law_found","_law_due"]
def sc__law_seven:FnScope ["_law_found","_law_due","_law_k"] nW (ag nV):=Lh
abbrev nX:R3:=top 65
abbrev nY:List Str:=["_law_lines"]
def sc__law_counts:FnScope ["_law_lines","_law_found","_law_line","_law_sign"] nY (ag nX):=Lh
abbrev iN:R3:=top 34
abbrev nZ:List Str:=["pattern"]
def Dn:FnScope ["pattern"] nZ (ag iN):=Lh
abbrev oa:R3:=top 35
abbrev og:List Str:=["family","rows","x","y"]
def sc_round_row:FnScope ["family","rows","x","y","cell","row"] og (ag oa):=Lh
abbrev oh:R3:=top 39
abbrev oi:List Str:=["row","sign","many"]
def Do:FnScope ["row","sign","many"] oi (ag oh):=Lh
abbrev iO:R3:=top 40
abbrev oj:List Str:=["pattern","left","top","right","bottom"]
def sc_count_all:FnScope ["pattern","left","top","right","bottom","family","rows","many","again","counts","y","times","row","hue","sign"] oj (ag iO):=Lh
abbrev ol:R3:=aL (top 56) 8
abbrev om:List Str:=["self"]
def Dp:FnScope ["self"] om (ag ol):=Lh
abbrev oq:R3:=aL (top 56) 9
abbrev ot:List Str:=["self"]
def Dq:FnScope ["self"] ot (ag oq):=Lh
abbrev ou:R3:=aL (top 56) 6
abbrev ow:List Str:=["self"]
def Dr:FnScope ["self"] ow (ag ou):=Lh
abbrev oy:R3:=top 66
abbrev oz:List Str:=["_law_floor","_law_text","_law_size","_law_laid_here","_law_rest","_law_many"]
def sc__law_view:FnScope ["_law_floor","_law_text","_law_size","_law_laid_here","_law_rest","_law_many","_law_found"] oz (ag oy):=Lh
abbrev oA:R3:=aL (top 56) 0
abbrev oB:List Str:=["self","text","width","height"]
def Ds:FnScope ["self","text","width","height"] oB (ag oA):=Lh
abbrev oC:R3:=aL (top 56) 5
abbrev oE:List Str:=["self"]
def sc_Floor_undo:FnScope ["self","deed"] oE (ag oC):=Lh
abbrev iP:R3:=top 74
abbrev oF:List Str:=["_law_script"]
def sc_law:FnScope ["_law_script","_law_size","_law_needle_here","_law_plain","_law_both","_law_stands","_law_floor","_law_goal","_law_state","_law_words","_law_laid_here","_law_text","_law_lines","_law_found"] oF (ag iP):=Lh
def Dt(x:List Nat){l:List (List Nat)}(h:l≠[]):rowsL (x::l)=x++47::rowsL l:=by
 cases l with
 |nil=>exact absurd rfl h
 |cons y r=>rfl
def Du{w:Nat}:∀(L:List (List Nat)),L≠[]->(∀x∈L,x.length=w)->(rowsL L).length+1=L.length*(w+1):=by
 intro L;induction L with
 |nil=>intro h;exact absurd rfl h
 |cons x L ih=>
  intro _ hw;have xw:=hw x Gd;by_cases e:L=[]
  .subst e;show x.length+1=1*(w+1);lia
  .have:=ih e λy hy=>hw y (F8 _ hy);rw[Dt _ e,Gc,F7,F7,HD];lia
def nown(z:SD):Bool:=z.all λo=>match o with|some (.own _)=>false|_=>true
def NoOwn.of{z:SD}(h:nown z=true):NoOwn z:=λi ds e=>by
 have:=GL.mp h _ (HB e);cases this
structure Deed where
 w:JM
 p:Pat
 d:D
 l:Int
def Deed.D(e:Deed):My.D:=.tup [.str e.w,e.d,.int e.l]
structure Fl where
 p:Pat
 d:D
 w:Int
 h:Int
 l:Int
 ds:List Deed
def Fl.fs(f:Fl)(q:KF):List (JM×D):=[("pattern",f.d),("text",.str f.p.text),("width",.int f.w),("height",.int f.h),("laid",.int f.l),("deeds",.ptr q)]
def Fl.M(f:Fl)(a q:KF):MS:=[(q,.lst (f.ds.map Deed.D)),(a,.ins "Floor" (f.fs q))]
variable{a:KF}
def bX{p:KF}{o:MO}{M:MS}(h:p≠a):mget ((p,o)::M) a=mget M a:=if_neg h
def bc{o:MO}{M:MS}:mget ((a,o)::M) a=be o:=if_pos rfl
def cH{p:KF}{o o':MO}{M:MS}(h:p≠a):mput ((p,o)::M) a o'=(p,o)::mput M a o':=if_neg h
def bw{o o':MO}{M:MS}:mput ((a,o)::M) a o'=(a,o')::M:=if_pos rfl
variable{f:Fl}{q:KF}
def Fl.ma(h:a≠q):mget (f.M a q) a=be (.ins "Floor" (f.fs q)):=(bX (Ne.symm h)).trans bc
def Fl.mq:mget (f.M a q) q=be (.lst (f.ds.map Deed.D)):=bc
def Fl.put{o:MO}(h:a≠q):mput (f.M a q) a o=[(q,.lst (f.ds.map Deed.D)),(a,o)]:=(cH (Ne.symm h)).trans (congrArg _ bw)
def gd:(f.fs q).lookup ("pattern":JM)=be f.d:=rfl
def vi:(f.fs q).lookup ("text":JM)=be (.str f.p.text):=rfl
def fk:(f.fs q).lookup ("width":JM)=be (.int f.w):=rfl
def iQ:(f.fs q).lookup ("height":JM)=be (.int f.h):=rfl
def dL:(f.fs q).lookup ("laid":JM)=be (.int f.l):=rfl
def iR:(f.fs q).lookup ("deeds":JM)=be (.ptr q):=rfl
structure Fl.Ok(f:Fl):Prop where
 is:aZ f.p f.d
 ok:f.p.Ok
 w1:1<=f.w
 w2:f.w<=30
 h1:1<=f.h
 h2:f.h<=30
 l0:0<=f.l
 l1:f.l<=f.h
 de:f.ds.length<=20
 dd:∀e∈f.ds,aZ e.p e.d/\e.p.Ok/\0<=e.l/\e.l<=f.h
def Fl.keep(f:Fl)(w:JM):Fl:={f with ds:=(f.ds++[Deed.mk w f.p f.d f.l]).drop (f.ds.length+1-20)}
def Fl.lay(f:Fl)(n:Int):Fl:={f.keep "lay" with l:=f.l+n}
def Fl.stand(f:Fl)(p:Pat)(d:D):Fl:={f with p:=p,d:=d}
def subM.refl{M:MS}(h:(ao M).Nodup):subM M M:=#[λ_ h=>h,h]
def Fl.nd(h:a≠q):(ao (f.M a q)).Nodup:=by
 show[q,a].Nodup;simp[Ne.symm h]
def Fl.sub(h:a≠q):subM (f.M a q) (f.M a q):=subM.refl (Fl.nd h)
def Dv(xs:List D):cutD xs (be (-20)) G_=xs.drop (xs.length-20):=by
 have e:HT.sIx xs.length 0 (be (-20))=xs.length-20:=by
  unfold HT.sIx;simp;lia
 unfold cutD;rw[e,show HT.sIx xs.length xs.length G_=xs.length from rfl];exact G9 KK
def au(p:Pat)(w lo:Int)(n:Nat):List D:=(FY n).map λ(j:Nat)=>D.str (aE p 0 (lo+(j:Int)) w.toNat)
def iS(p:Pat)(w lo:Int)(n:Nat):au p w lo n++[D.str (aE p 0 (lo+(n:Int)) w.toNat)]=au p w lo (n+1):=by
 unfold au;rw[G8,Gm];rfl
def Dw(p:Pat)(w lo:Int)(n:Nat):bZ (.lst (au p w lo n))=true:=by
 unfold bZ;induction n with
 |zero=>rfl
 |succ n ih=>
  rw[<-iS];have:∀xs:List D,flats xs=true->flats (xs++[D.str (aE p 0 (lo+(n:Int)) w.toNat)])=true:=λxs=>by
   induction xs with
   |nil=>intro _;rfl
   |cons x xs ih=>intro h;unfold flats at h;rw[Gu]at h;show flats (x::(xs++_))=true;unfold flats;rw[h.1,ih h.2];rfl
  exact this _ ih
def vj(p:Pat)(w:Int){l:Int}(n:Nat)(l0:0<=l):cutD (au p w 0 (l.toNat+n)) (be l) G_=au p w l n:=by
 have hl:(au p w 0 (l.toNat+n)).length=l.toNat+n:=by unfold au;simp
 have e:HT.sIx (l.toNat+n) 0 (be l)=l.toNat:=by
  unfold HT.sIx;simp only;rw[if_neg Ko];lia
 unfold cutD;rw[hl,e,show HT.sIx (l.toNat+n) (l.toNat+n) G_=l.toNat+n from rfl];unfold au;apply G0;intro i;by_cases h:i<n
 .rw[HA Ko,Io,Gf,Gf,GB Ko,GB h];simp;congr 1;lia
 .rw[GI Tl,GI Tl]
def Same2(p q:Pat)(w h:Int):Prop:=∀x y:Int,0<=x->x<w->0<=y->y<h->p.show x y=q.show x y
def First2(p q:Pat)(w h x y:Int):Prop:=(0<=x/\x<w/\0<=y/\y<h)/\p.show x y≠q.show x y/\∀x' y':Int,0<=x'->x'<w->0<=y'->(y'<y\/(y'=y/\x'<x))->p.show x' y'=q.show x' y'
def due7(p:Pat)(left top:Int)(m:Nat)(n k:Nat):List Int:=(FY 7).map λ(v:Nat)=>cC p v left top m n+cntN (λi=>p.show (left+i) (top+n)) v k
variable{p:Pat}
def Dx(ok:p.Ok)(left top:Int)(m n k:Nat):∃u:Nat,u<7/\p.show (left+k) (top+n)=(u:Int)/\(due7 p left top m n k)[u]?=be (cC p u left top m n+cntN (λi=>p.show (left+i) (top+n)) u k)/\((due7 p left top m n k).map D.int).set u (D.int (cC p u left top m n+cntN (λi=>p.show (left+i) (top+n)) u k+1))=(due7 p left top m n (k+1)).map D.int:=by
 have b:=Pat.show_le ok.wf (by have:=ok.deep;lia) (left+k) (top+n);obtain⟨u,hu⟩:∃u:Nat,p.show (left+k) (top+n)=(u:Int):=#[(p.show (left+k) (top+n)).toNat,Ko];have u7:u<7:=Ko
 have cs:∀v:Int,cntN (λi=>p.show (left+i) (top+n)) v (k+1)=cntN (λi=>p.show (left+i) (top+n)) v k+if p.show (left+k) (top+n)=v then 1 else 0:=λv=>rfl
 refine#[u,u7,hu,by unfold due7;simp[u7],?_];unfold due7;rw[Hb,Hb];have:=vb (n:=7) (i:=u) (λ(v:Nat)=>D.int (cC p v left top m n+cntN (λi=>p.show (left+i) (top+n)) v k)) (λ(v:Nat)=>D.int (cC p v left top m n+cntN (λi=>p.show (left+i) (top+n)) v (k+1))) (λv hv ne=>by
  show D.int _=D.int _;rw[cs,hu,if_neg Ko,GN])
 refine Eq.trans ?_ this;show List.set _ u _=List.set _ u _;rw[cs,hu,if_pos rfl,Iu];rfl
def Dy(p:Pat)(left top:Int)(m n:Nat):due7 p left top m n m=due7 p left top m (n+1) 0:=by
 unfold due7;apply Hl;intro v _;show _=(cC p v left top m n+_)+0;rw[GN]
def Dz(p:Pat)(left top:Int)(m n:Nat):due7 p left top m n 0=cD p left top m n:=by
 unfold due7 cD;apply Hl;intro v _;show _+0=_;rw[GN]
variable{w lo:Int}{n k:Nat}
def DB{v:D}(h:(au p w lo n)[k]?=be v):k<n/\v=.str (aE p 0 (lo+(k:Int)) w.toNat):=by
 have hk:k<n:=by have:=(Gh.mp h).1;unfold au at this;simpa using this
 unfold au at h;simp[hk]at h;exact#[hk,h.symm]
variable{h:Int}
def DC(h0:0<=h)(h6:h<=6):signOf h<128:=by unfold signOf;split<;>lia
def DD(ok:p.Ok)(x y:Int)(n:Nat):(aE p x y n).cps.all (·<128)=true:=by
 rw[<-Ig,GL];intro c hc;have hc:c∈cs (aE p x y n):=hc;rw[cr]at hc;obtain⟨k,_,rfl⟩:=Gp.mp hc;have b:=Pat.show_le ok.wf (by have:=ok.deep;lia) (x+(k:Int)) y;exact decide_eq_true (DC b.1 b.2)
variable{y:Int}
def DF{v:D}(h:(bt (aE p 0 y n))[k]?=be v):k<n/\v=.str #[[signOf (p.show (0+(k:Int)) y)].toArray]:=by
 unfold bt at h;have hk:k<n:=by have:=(Gh.mp h).1;rwa [Gb,show(aE p 0 y n).cps.toList.length=n by show(cs (aE p 0 y n)).length=n;rw[cr];simp]at this
 rw[Gf,show(aE p 0 y n).cps.toList=(FY n).map λ(k:Nat)=>signOf (p.show (0+(k:Int)) y)from cr p 0 y n]at h;simp[hk]at h;exact#[hk,by rw[<-h,Hc]]
def DG{u:Nat}(h:u<7):∃rest,Builtin.Str.occurrences ".123456" #[[signOf (u:Int)].toArray] 0 (".123456":JM).length 1=u::rest:=by
 rcases(Ko:u=0\/u=1\/u=2\/u=3\/u=4\/u=5\/u=6)with e|e|e|e|e|e|e<;>subst e<;>exact#[[],Kv]
def DJ(h:k<n):atI (au p w lo n) (k:Int)=be (.str (aE p 0 (lo+(k:Int)) w.toNat)):=cT (by unfold au;simp[h])
def DK(h:k<=n):cutD (au p w lo n) G_ (be (k:Int))=au p w lo k:=by
 have hl:(au p w lo n).length=n:=by unfold au;simp
 have e:HT.sIx n n (be (k:Int))=k:=by
  unfold HT.sIx;simp only;rw[if_neg Ko];lia
 unfold cutD;rw[hl,e,show HT.sIx n 0 G_=0 from rfl,Ip];unfold au;rw[<-Jr,Js,Jq,Hd h]
variable{x:Int}
def First2.uniq{q:Pat}{x' y':Int}(a:First2 p q w h x y)(b:First2 p q w h x' y'):x=x'/\y=y':=by
 obtain⟨⟨a1,a2,a3,a4⟩,a5,a6⟩:=a;obtain⟨⟨b1,b2,b3,b4⟩,b5,b6⟩:=b;have h1:¬(y'<y\/(y'=y/\x'<x)):=λz=>b5 (a6 x' y' b1 b2 b3 z);have h2:¬(y<y'\/(y=y'/\x<x')):=λz=>a5 (b6 x y a1 a2 a3 z);lia
def First2.not{q:Pat}(a:First2 p q w h x y)(s:Same2 p q w h):False:=a.2.1 (s x y a.1.1 a.1.2.1 a.1.2.2.1 a.1.2.2.2)
def oG{w:JM}(h:f.ds.length<=19):(f.keep w).ds=f.ds++[Deed.mk w f.p f.d f.l]:=by
 show(f.ds++[_]).drop _=_;rw[show f.ds.length+1-20=0 by lia];rfl
def DL{l n:Int}(l0:0<=l)(n0:0<=n)(hn:l+n<=h):cutD (au p w 0 h.toNat) (be l) (be (l+n))=au p w l n.toNat:=by
 have hl:(au p w 0 h.toNat).length=h.toNat:=by unfold au;simp
 have e1:HT.sIx h.toNat 0 (be l)=l.toNat:=by
  unfold HT.sIx;simp only;rw[if_neg Ko];lia
 have e2:HT.sIx h.toNat h.toNat (be (l+n))=(l+n).toNat:=by
  unfold HT.sIx;simp only;rw[if_neg Ko];lia
 unfold cutD;rw[hl,e1,e2];unfold au;apply G0;intro i;by_cases h:i<n.toNat
 .rw[HA Ko,Io,Gf,Gf,GB Ko,GB h];simp;congr 1;lia
 .rw[GI Tl,GI Tl]
def vk{f:Int->Bool}{U:Int}:∀(l:List Nat) (i0:Nat),(∀i:Nat,i0<=i->i<i0+l.length->f (i:Int)=decide ((i:Int)=U))->scanRow f i0 l=(if 0<=U-i0 then l[(U-i0).toNat]? else G_).bind λc=>if c=46 then G_ else be c:=by
 intro l;induction l with
 |nil=>intro i0 _;unfold scanRow;split<;>rfl
 |cons c l ih=>
  intro i0 h;have h0:=h i0 (FX _) KK;have ih:=ih (i0+1) λi h1 h2=>h i Ko Tl;unfold scanRow;by_cases e:(i0:Int)=U
  .rw[decide_eq_true e]at h0;rw[if_pos (show 0<=U-(i0:Int)by lia),show(U-(i0:Int)).toNat=0 by lia];by_cases v7:c=46
   .rw[if_neg (λz=>z.1 v7),ih,if_neg Ko];simp[v7]
   .rw[if_pos #[v7,h0]];simp[v7]
  .rw[decide_eq_false e]at h0;rw[if_neg (λz=>by rw[h0]at z;exact nomatch z.2),ih];by_cases q:0<=U-(i0:Int)
   .rw[if_pos q,if_pos Ko,show(U-(i0:Int)).toNat=(U-((i0+1:Nat):Int)).toNat+1 by lia];rfl
   .rw[if_neg q,if_neg Ko]
def oH{f:Int->Int->Bool}{U V:Int}:∀(L:List JM) (j0:Nat),(∀(j:Nat) (l:JM),L[j]?=be l->∀i:Nat,i<(cs l).length->f (i:Int) ((j0+j:Nat):Int)=decide ((i:Int)=U/\((j0+j:Nat):Int)=V))->
  bV f j0 L=(if 0<=V-j0 then L[(V-j0).toNat]? else G_).bind λl=>(if 0<=U then(cs l)[U.toNat]? else G_).bind λc=>if c=46 then G_ else be c:=by
 intro L;induction L with
 |nil=>intro j0 _;unfold bV;split<;>rfl
 |cons l L ih=>
  intro j0 h;have h0:=h 0 l rfl;have ih:=ih (j0+1) λj l' hj i hi=>by
   have:=h (j+1) l' hj i hi;rw[show j0+(j+1)=j0+1+j by lia]at this;exact this
  unfold bV;by_cases e:(j0:Int)=V
  .have r:=vk (f:=λi=>f i (j0:Int)) (U:=U) (cs l) 0 λi _ hi=>by
    have:=h0 i Ko;rw[Jt]at this;show f i (j0:Int)=_;rw[this];simp[e]
   rw[if_pos (show 0<=V-(j0:Int)by lia),show(V-(j0:Int)).toNat=0 by lia];simp only[Ju,Jv]at r;rw[if_neg (show¬0<=V-((j0+1:Nat):Int)by lia)]at ih;rw[r,ih];show _=HV ((if 0<=U then(cs l)[U.toNat]? else G_)) _;generalize (if 0<=U then(cs l)[U.toNat]? else G_).bind (λc=>if c=46 then G_ else be c)=X;cases X<;>rfl
  .have r:=vk (f:=λi=>f i (j0:Int)) (U:=-1) (cs l) 0 λi _ hi=>by
    have:=h0 i Ko;rw[Jt]at this;show f i (j0:Int)=_;rw[this,decide_eq_false (λz=>e z.2),decide_eq_false Ko]
   rw[r,if_neg Ko,ih];show HV _ _=_;by_cases q:0<=V-(j0:Int)
   .rw[if_pos q,if_pos Ko,show(V-(j0:Int)).toNat=(V-((j0+1:Nat):Int)).toNat+1 by lia];rfl
   .rw[if_neg q,if_neg Ko]
def oI{s:Int}(f:Fam0 w h s)(u v:Int):onB w 0 s h u v=true↔InF w h s u v:=by
 unfold onB;rw[decide_eq_true_eq];have w0:=f.w0;have h0:=f.h0;have hn:¬w*h=0*s:=by
  have:=Gq w0 h0;lia
 constructor
 .intro z;obtain⟨i,j,e1,e2⟩:=tY hn z;exact#[i,j,e1,Ko]
 .rintro⟨i,j,e1,e2⟩;exact on_of e1 Ko
def oJ{c:Int}(h:1<=c/\c<=6):cell [0,1,2,3,4,5,6] c=c:=by
 rcases(Ko:c=1\/c=2\/c=3\/c=4\/c=5\/c=6)with e|e|e|e|e|e<;>rw[e]<;>rfl
def inF_dvd:InF w h 0 x y↔w∣x/\h∣y:=by
 constructor
 .rintro⟨i,j,e1,e2⟩;exact#[#[i,by rw[e1,Hf,GN,Gj]],#[j,by rw[e2,Gj]]]
 .rintro⟨⟨i,e1⟩,⟨j,e2⟩⟩;exact#[i,j,by rw[e1,Hf,GN,Gj],by rw[e2,Gj]]
variable{L:List JM}
def DM{s:Int}:(Pat.mot L s 0 0 1).Lat x y↔s∣x:=by
 constructor
 .rintro⟨i,j,e1,_⟩;exact#[i,by rw[e1,Hf,GN,Gj]]
 .rintro⟨i,e1⟩;exact#[i,y,by rw[e1,Hf,GN,Gj],Ko]
def DN{s:Int}:(Pat.mot L 1 0 0 s).Lat x y↔s∣y:=by
 constructor
 .rintro⟨i,j,_,e2⟩;exact#[j,by rw[e2,Hf,Hc,Gj]]
 .rintro⟨j,e2⟩;exact#[x,j,Ko,by rw[e2,Hf,Hc,Gj]]
def vm{s i:Int}(s0:0<s)(i0:0<=i)(i1:i<s):s∣x-i↔i=x%s:=by
 constructor
 .rintro⟨k,e⟩;have:x=i+s*k:=by lia
  rw[this,Int.add_mul_emod_self_left,Int.emod_eq_of_lt i0 i1]
 .rintro rfl;exact#[x/s,by have:=G1 x s;lia]
variable{s c g:Nat}{t:JM}
def DO(s1:1<=s)(hl:(cs t).length=s)(hc:∀i,i<s->(cs t)[i]?=be (if i=g then 46 else c))(c9:49<=c/\c<=54)(x y:Int):(Pat.mot [t] s 0 0 1).show x y=if x%s=g then 0 else(c:Int)-48:=by
 have f:Fam0 (s:Int) 1 0:=#[Ko,Ks,Ks,Ko];have u0:0<=x%(s:Int):=Gy _ Ko;have u1:x%(s:Int)<s:=Gz _ Ko;have sc:=oH (f:=λi j=>onB s 0 0 1 (1*x+0*y+0-i) (0*x+1*y+0-j)) (U:=x%s) (V:=0) [t] 0 λj l hj i hi=>by
  have j0:j=0:=by have:=(Gh.mp hj).1;simp at this;exact this
  subst j0;cases hj;apply GW.mpr;rw[decide_eq_true_eq];show onB s 0 0 1 _ _=true↔_;rw[oI f,inF_dvd,show 1*x+0*y+0-(i:Int)=x-i by lia,vm Ko Ko Ko];exact#[λz=>#[z.1,rfl],λz=>#[z.1,Hs _]]
 show Leaf.shows (bJ [t] s 0 0 1) _ _=_;unfold Leaf.shows Leaf.hit;simp only[bJ];rw[sc];have k:=hc (x%(s:Int)).toNat Ko;rw[if_pos (show(0:Int)<=0-((0:Nat):Int)by decide)];show(match HV (if 0<=x%(s:Int)then(cs t)[(x%(s:Int)).toNat]? else G_) (λc=>if c=46 then G_ else be c)with|some c=>cell [0,1,2,3,4,5,6] ((c:Int)-48)|none=>0)=_;rw[if_pos u0,k,GT];by_cases e:(x%(s:Int)).toNat=g
 .rw[if_pos e,if_pos rfl,if_pos Ko]
 .rw[if_neg e,if_neg Ko,if_neg Ko];exact oJ Ko
def DP(s1:1<=s)(hl:L.length=s)(hc:∀k,k<s->L[k]?=be #[[if k=g then 46 else c].toArray])(c9:49<=c/\c<=54)(x y:Int):(Pat.mot L 1 0 0 s).show x y=if y%s=g then 0 else(c:Int)-48:=by
 have f:Fam0 (1:Int) s 0:=#[Ks,Ko,Ks,Ks];have u0:0<=y%(s:Int):=Gy _ Ko;have u1:y%(s:Int)<s:=Gz _ Ko;have sc:=oH (f:=λi j=>onB 1 0 0 s (1*x+0*y+0-i) (0*x+1*y+0-j)) (U:=0) (V:=y%s) L 0 λj l hj i hi=>by
  have js:j<s:=by rw[<-hl];exact(Gh.mp hj).1
  rw[hc j js]at hj;cases hj;have i0:i=0:=by have:i<1:=hi;lia
  subst i0;rw[Iq];apply GW.mpr;rw[decide_eq_true_eq];show onB 1 0 0 s _ _=true↔_;rw[oI f,inF_dvd,show 0*x+1*y+0-(j:Int)=y-j by lia,vm (s:=(s:Int)) (x:=y) (i:=(j:Int)) Ko Ko Ko];exact#[λz=>#[rfl,z.2],λz=>#[Hs _,z.2]]
 show Leaf.shows (bJ L 1 0 0 s) _ _=_;unfold Leaf.shows Leaf.hit;simp only[bJ];simp only[Ju,Jv]at sc;rw[sc];have k:=hc (y%(s:Int)).toNat Ko;rw[if_pos u0,k,GT,if_pos Ks];show(match HV (be (if(y%(s:Int)).toNat=g then 46 else c)) (λc=>if c=46 then G_ else be c)with|some c=>cell [0,1,2,3,4,5,6] ((c:Int)-48)|none=>0)=_;rw[GT];by_cases e:(y%(s:Int)).toNat=g
 .rw[if_pos e,if_pos rfl,if_pos Ko]
 .rw[if_neg e,if_neg Ko,if_neg Ko];exact oJ Ko
def vn{n:Int}(h0:0<=n)(h6:n<=6)(x y:Int):(Pat.mot [#[[signOf n].toArray]] 1 0 0 1).show x y=n:=by
 have f:Fam0 (1:Int) 1 0:=#[Ks,Ks,Ks,Ks];have sc:=oH (f:=λi j=>onB 1 0 0 1 (1*x+0*y+0-i) (0*x+1*y+0-j)) (U:=0) (V:=0) [#[[signOf n].toArray]] 0 λj l hj i hi=>by
  have j0:j=0:=by have:=(Gh.mp hj).1;simp at this;exact this
  subst j0;cases hj;have i0:i=0:=by have:i<1:=hi;lia
  subst i0;apply GW.mpr;rw[decide_eq_true_eq];show onB 1 0 0 1 _ _=true↔_;rw[oI f,inF_dvd];exact#[λ_=>#[rfl,rfl],λ_=>#[Hs _,Hs _]]
 show Leaf.shows (bJ [#[[signOf n].toArray]] 1 0 0 1) _ _=_;unfold Leaf.shows Leaf.hit;simp only[bJ];rw[sc];show(match (if signOf n=46 then G_ else be (signOf n))with|some c=>cell [0,1,2,3,4,5,6] ((c:Int)-48)|none=>0)=_;have Py:signOf n=46↔n=0:=by unfold signOf;split<;>lia
 by_cases e:n=0
 .rw[if_pos (Py.mpr e),e]
 .rw[if_neg (λz=>e (Py.mp z))];show cell [0,1,2,3,4,5,6] ((signOf n:Int)-48)=n;unfold signOf;rw[if_neg e,show((48+n).toNat:Int)-48=n by lia];exact oJ Ko
structure Ndl(p:Pat)(w h X Y o n:Int):Prop where
 ok:p.Ok
 fam:p.Fam w h 0
 big:w*h<=720
 x0:0<=X
 xw:X<w
 y0:0<=Y
 yh:Y<h
 sh:∀x y,p.show x y=if x%w=X/\y%h=Y then n else o
 ne:n≠o
 o1:1<=o/\o<=6
 n0:0<=n/\n<=6
structure Lcm(a b L:Int):Prop where
 pos:0<L
 da:a∣L
 db:b∣L
 all:∀m,a∣m->b∣m->L∣m
 le:L<=a*b
variable{b:Int}
def DQ{a k:Int}(a1:1<=a)(k1:1<=k)(kb:k<=b)(no:∀j,1<=j->j<k->¬b∣j*a)(hd:b∣k*a):Lcm a b (k*a):=by
 refine#[Gq Ko Ko,#[k,Gj _ _],hd,?_,by rw[Gj a b];exact G2 kb Ko];rintro m⟨t,rfl⟩ hb;have e:=G1 t k;have r0:=Gy t (show k≠0 by lia);have r1:=Gz t (show 0<k by lia);have hr:b∣t%k*a:=by
  rw[e,HR];refine Int.dvd_sub (by rw[Gj];exact hb) ?_;rw[Gj k,Jw];exact Ht hd #[t/k,Gj _ _]
 have z:t%k=0:=Classical.byContradiction λq=>no _ Ko r1 hr;rw[z]at e;refine#[t/k,?_];rw[show t=k*(t/k)by lia,Gj k a,<-Jw,Int.mul_ediv_cancel_left _ (show k≠0 by lia)]
def Lcm.uniq{a L M:Int}(h:Lcm a b L)(k:Lcm a b M):L=M:=by
 have h1:=Jy k.pos (h.all M k.da k.db);have h2:=Jy h.pos (k.all L h.da h.db);lia
def Lcm.one{a:Int}(h:1<=a):Lcm a 1 a:=#[Ko,#[1,Ko],Hs _,λ_ z _=>z,Ko]
def dM:x%w=y%w↔w∣x-y:=by
 rw[Int.emod_eq_emod_iff_emod_sub_eq_zero];exact#[Jz,JA]
variable{u:Int}
def Lcm.mod{a L:Int}(h:Lcm a b L):(x%a=u%a/\x%b=u%b)↔x%L=u%L:=by
 rw[dM,dM,dM];exact#[λz=>h.all _ z.1 z.2,λz=>#[Ht h.da z,Ht h.db z]]
def Lcm.dvd{a L:Int}(h:Lcm a b L):(a∣x/\b∣x)↔L∣x:=#[λz=>h.all _ z.1 z.2,λz=>#[Ht h.da z,Ht h.db z]]
def sv(a b c d:Int):Nat->Int
 |0=>a|1=>b|2=>c|_=>d
def tv{α:Type}(x y:α)(j:Nat):α:=if j<2 then x else y
structure NQ(s:Nat->Int)(u v o n:Int)(k:Nat)(q:Pat):Prop where
 wf:q.Wf
 dp:q.depth<=k
 yes:∀x y,(∀j,j<k->tv x y j%s j=tv u v j%s j)->q.show x y=n
 no:∀x y,¬(∀j,j<k->tv x y j%s j=tv u v j%s j)->q.show x y=o
 lat:∀x y,q.Lat x y↔∀j,j<k->s j∣tv x y j
structure Bar(s:Nat->Int)(u v o:Int)(k:Nat)(m:Pat):Prop where
 wf:m.Wf
 dp:m.depth=0
 yes:∀x y,tv x y k%s k=tv u v k%s k->m.show x y=0
 no:∀x y,¬tv x y k%s k=tv u v k%s k->m.show x y=o
 lat:∀x y,m.Lat x y↔s k∣tv x y k
def all_succ{P:Nat->Prop}:(∀j,j<k+1->P j)↔(∀j,j<k->P j)/\P k:=by
 constructor
 .exact λh=>#[λj q=>h j Ko,h k Ko]
 .rintro⟨h1,h2⟩ j q;by_cases e:j=k
  .rw[e];exact h2
  .exact h1 j Ko
variable{o v:Int}
def NQ.step{s:Nat->Int}{n:Int}{q m:Pat}(o1:1<=o)(h:NQ s u v o n k q)(b:Bar s u v o k m):NQ s u v o n (k+1) (.over m q):=by
 have sh:∀x y,(Pat.over m q).show x y=if m.show x y≠0 then m.show x y else q.show x y:=λ_ _=>rfl
 refine#[#[b.wf,h.wf],?_,λx y a=>?_,λx y a=>?_,λx y=>?_]
 .rw[Pat.depth,b.dp];have:=h.dp;lia
 .obtain⟨a1,a2⟩:=all_succ.mp a;rw[sh,b.yes x y a2,h.yes x y a1];simp
 .rw[sh];by_cases c:tv x y k%s k=tv u v k%s k
  .rw[b.yes x y c,h.no x y (λz=>a (all_succ.mpr #[z,c]))];simp
  .rw[b.no x y c,if_pos Ko]
 .rw[all_succ,<-h.lat,<-b.lat];exact And.comm
def DR{a c d W H n A B:Int}{q:Pat}(N:NQ (sv a b c d) u v o n 4 q)(l1:Lcm a b W)(l2:Lcm c d H)(big:W*H<=360)(hA:B12 A)(hB:B12 B)(ne:n≠o)(o1:1<=o/\o<=6)(n0:0<=n/\n<=6):Ndl (.sh A B q) W H ((u+A)%W) ((v+B)%H) o n:=by
 have w0:=l1.pos;have h0:=l2.pos;have LM:∀P:Nat->Prop,(∀j,j<4->P j)↔(P 0/\P 1)/\(P 2/\P 3):=λP=>⟨λh=>#[#[h 0 Ks,h 1 Ks],h 2 Ks,h 3 Ks],λh j q=>by
  rcases(Ko:j=0\/j=1\/j=2\/j=3)with rfl|rfl|rfl|rfl
  .exact h.1.1
  .exact h.1.2
  .exact h.2.1
  .exact h.2.2⟩
 have fam:(Pat.sh A B q).Fam W H 0:=⟨#[w0,h0,Ks,w0],λx y=>by
  rw[inF_dvd,<-l1.dvd,<-l2.dvd];exact((N.lat x y).trans (LM _)).symm⟩
 refine#[#[#[hA,hB,N.wf],?_,#[_,_,_,fam,Ko]],fam,Ko,Gy _ Ko,Gz _ w0,Gy _ Ko,Gz _ h0,λx y=>?_,ne,o1,n0]
 .rw[Pat.depth];have:=N.dp;lia
 .show q.show (x-A) (y-B)=_;have key:(∀j,j<4->tv (x-A) (y-B) j%sv a b c d j=tv u v j%sv a b c d j)↔(x%W=(u+A)%W/\y%H=(v+B)%H):=by
   rw[LM];show(((x-A)%a=u%a/\(x-A)%b=u%b)/\((y-B)%c=v%c/\(y-B)%d=v%d))↔_;rw[l1.mod,l2.mod,dM,dM,dM,dM,show x-A-u=x-(u+A)by lia,show y-B-v=y-(v+B)by lia]
  by_cases e:x%W=(u+A)%W/\y%H=(v+B)%H
  .rw[if_pos e];exact N.yes _ _ (key.mpr e)
  .rw[if_neg e];exact N.no _ _ (λz=>e (key.mp z))
def barL(s g c:Nat):List Nat:=F4 g c++46::F4 (s-1-g) c
def gf(h:g<s):(barL s g c).length=s:=by unfold barL;simp;lia
def vo{i:Nat}(h:g<s)(hi:i<s):(barL s g c)[i]?=be (if i=g then 46 else c):=by
 unfold barL;rcases Nat.lt_trichotomy i g with q|q|q
 .rw[GE (by simpa using q),if_neg Ko,Hg,if_pos q]
 .rw[GK Tl,if_pos q];simp[q]
 .rw[GK Tl,if_neg Ko,ID,show i-g=(i-g-1)+1 by lia,List.getElem?_cons_succ,Hg,if_pos Ko]
def vp(c9:49<=c/\c<=54):∀x∈barL s g c,bB x:=λx hx=>by
 unfold barL at hx;unfold bB;rcases GA.mp hx with q|q
 .rw[(JB.mp q).2];lia
 .rcases F5.mp q with q|q
  .exact .inl q
  .rw[(JB.mp q).2];lia
def DU{s:Nat->Int}{S:Nat}(k2:k<2)(es:s k=S)(S1:1<=S)(S8:S<=8)(eg:(g:Int)=u%S)(gS:g<S)(c9:49<=c/\c<=54)(eo:(c:Int)-48=o)(et:cs t=barL S g c):Bar s u v o k (.mot [t] S 0 0 1):=by
 have sh:=DO (t:=t) (s:=S) (g:=g) (c:=c) S1 (by rw[et,gf gS]) (λi hi=>by rw[et,vo gS hi]) c9;have ex:∀x y:Int,tv x y k=x:=λ_ _=>if_pos k2;refine#[#[Rows.of (w:=S) (t:=1) Ks Ks rfl S1 S8 λl hl=>?_,Lu,Lu,Lu,Lu,Ko],rfl,λx y q=>?_,λx y q=>?_,λx y=>?_]
 .rw[FW.mp hl];exact#[by rw[<-bq,et,gf gS],by rw[et];exact vp c9]
 .rw[ex,ex,es]at q;rw[sh,if_pos (by rw[q,eg])]
 .rw[ex,ex,es]at q;rw[sh,if_neg (λz=>q (by rw[z,eg])),eo]
 .rw[ex,es];exact DM
def DV{s:Nat->Int}{S:Nat}(k2:¬k<2)(es:s k=S)(S1:1<=S)(S8:S<=8)(eg:(g:Int)=v%S)(gS:g<S)(c9:49<=c/\c<=54)(eo:(c:Int)-48=o)(et:L=(barL S g c).map λc=>(#[[c].toArray]:JM)):Bar s u v o k (.mot L 1 0 0 S):=by
 have ll:L.length=S:=by rw[et,Gb,gf gS]
 have sh:=DP (L:=L) (s:=S) (g:=g) (c:=c) S1 ll (λi hi=>by rw[et,Gf,vo gS hi];rfl) c9;have ex:∀x y:Int,tv x y k=y:=λ_ _=>if_neg k2;refine#[#[Rows.of (w:=1) (t:=S) S1 S8 ll Ks Ks λl hl=>?_,Lu,Lu,Lu,Lu,Ko],rfl,λx y q=>?_,λx y q=>?_,λx y=>?_]
 .rw[et]at hl;obtain⟨e,he,rfl⟩:=Gp.mp hl;refine#[rfl,λz hz=>?_];have:z=e:=by simpa[cs]using hz
  rw[this];exact vp c9 e he
 .rw[ex,ex,es]at q;rw[sh,if_pos (by rw[q,eg])]
 .rw[ex,ex,es]at q;rw[sh,if_neg (λz=>q (by rw[z,eg])),eo]
 .rw[ex,es];exact DN
def oK(c n:Nat):cs (repS #[[c].toArray] n)=F4 n c:=by
 unfold repS;rw[fj];show(F4 n [c]).flatten=_;simp
def iT(h:1<=o/\o<=6):((toString o:String):JM)=#[[(48+o).toNat].toArray]:=by
 apply cQ;have:=hueL h;unfold numL at this;rw[this]
def vq(c:Nat):(("[":JM)++#[[c].toArray])++";1,0;0,1]"=(Pat.mot [#[[c].toArray]] 1 0 0 1).text:=by
 apply cQ;rw[cq,aY,aY];rfl
def DY{m q:Pat}{x y:JM}(e:91::(cs x++cs y)=m.tl++[124]):(((("([":JM)++x)++y)++q.text)++")"=(Pat.over m q).text:=by
 apply cQ;rw[cq]
 repeat rw[aY]
 rw[cq q];have e0:cs "(["=[40,91]:=rfl;have e1:cs ")"=[41]:=rfl;rw[e0,e1,Pat.tl];have e2:40::(91::(cs x++cs y))++(q.tl++[41])=40::(m.tl++[124])++(q.tl++[41]):=by rw[e]
 simpa using e2
def DZ{y:JM}{S:Int}(ey:cs y=59::(numL S++cs ",0;0,1]|")):91::(cs t++cs y)=(Pat.mot [t] S 0 0 1).tl++[124]:=by
 rw[ey];have e0:numL 0=[48]:=rfl;have e1:numL 1=[49]:=rfl;have e2:cs ",0;0,1]|"=[44,48,59,48,44,49,93,124]:=rfl;simp[Pat.tl,motL,rowsL,e0,e1,e2]
def D0{y:JM}{S:Int}(et:cs t=rowsL (L.map cs))(ey:cs y=cs ";1,0;0,"++(numL S++cs "]|")):91::(cs t++cs y)=(Pat.mot L 1 0 0 S).tl++[124]:=by
 rw[ey,et];have e0:numL 0=[48]:=rfl;have e1:numL 1=[49]:=rfl;have e2:cs ";1,0;0,"=[59,49,44,48,59,48,44]:=rfl;have e3:cs "]|"=[93,124]:=rfl;simp[Pat.tl,motL,e0,e1,e2,e3]
def D1(p:Pat)(y:Int)(k:Nat):aE p 0 y k++(#[[signOf (p.show (k:Int) y)].toArray]:JM)=aE p 0 y (k+1):=by
 apply cQ;rw[aY,cr,cr,G8,Gm];simp[cs]
def vt{xs:List D}{d:D}:atI (xs++[d]) (-1)=be d:=by
 have e:ixN (xs++[d]).length (-1)=be xs.length:=by
  rw[Gc,Hh];unfold ixN;simp;lia
 unfold atI;rw[e];simp
structure Hi(ps:Nat->Pat)(f:Fl)(s:Nat)(zs:List (Nat×Deed)):Prop where
 ds:f.ds=zs.map (·.2)
 p:f.p=ps s
 s2:s<2
 all:∀z∈zs,z.1<2/\z.2.p=ps z.1
def stD(s:Nat)(l:Int):D:=.tup [.int s,.int l]
def stL(f:Fl)(s:Nat)(zs:List (Nat×Deed)):List D:=zs.map (λz=>stD z.1 z.2.l)++[stD s f.l]
def wdL(zs:List (Nat×Deed)):List D:=zs.map λz=>.str z.2.w
def HM(b c:KF)(f:Fl)(s:Nat)(zs:List (Nat×Deed))(a q:KF):MS:=[(c,.lst (wdL zs)),(b,.lst (stL f s zs))]++f.M a q
def Hi.add(zs:List (Nat×Deed))(f:Fl)(s:Nat)(w:JM):List (Nat×Deed):=zs++[(s,Deed.mk w f.p f.d f.l)]
variable{ps:Nat->Pat}{zs:List (Nat×Deed)}
def Hi.len(h:Hi ps f s zs):f.ds.length=zs.length:=by rw[h.ds,Gb]
def Hi.next{g:Fl}{s':Nat}{w:JM}(h:Hi ps f s zs)(e:g.ds=f.ds++[Deed.mk w f.p f.d f.l])(ep:g.p=ps s')(s2:s'<2):Hi ps g s' (Hi.add zs f s w):=by
 refine#[?_,ep,s2,λz hz=>?_]
 .unfold Hi.add;rw[e,h.ds,Gm];rfl
 .rcases GA.mp hz with z|z
  .exact h.all _ z
  .rw[FW.mp z];exact#[h.s2,h.p]
def oM(f g:Fl)(s s':Nat)(zs:List (Nat×Deed))(w:JM):stL g s' (Hi.add zs f s w)=stL f s zs++[stD s' g.l]:=by
 unfold stL Hi.add;rw[Gm];rfl
def oN(f:Fl)(s:Nat)(zs:List (Nat×Deed))(w:JM):wdL (Hi.add zs f s w)=wdL zs++[.str w]:=by
 unfold wdL Hi.add;rw[Gm];rfl
def oO(f:Fl)(s:Nat)(zs:List (Nat×Deed))(w:JM):(Hi.add zs f s w).length=zs.length+1:=by
 unfold Hi.add;rw[Gc,Hh]
def iU(f:Fl)(s:Nat)(zs:List (Nat×Deed)):(stL f s zs).length=zs.length+1:=by
 unfold stL;rw[Gc,Hh,Gb]
abbrev fm(o:Int):Pat:=.mot [#[[signOf o].toArray]] 1 0 0 1
def plain_ok(ho:1<=o/\o<=6):(fm o).Ok:=by
 refine#[#[Rows.of (w:=1) (t:=1) Ks Ks rfl Ks Ks λl hl=>?_,Lu,Lu,Lu,Lu,Ks],by simp[Pat.depth],Pat.fits_mot Lu Lu Lu Lu Ks];rw[FW.mp hl];refine#[rfl,λz hz=>?_];have:z=signOf o:=by simpa[cs]using hz
 rw[this];unfold bB signOf;split<;>lia
def D2(ho:1<=o/\o<=6):(("[":JM)++(toString o:String))++";1,0;0,1]"=(fm o).text:=by
 rw[<-vq,iT ho];unfold signOf;rw[if_neg Ko]
def D3{q:Pat}(ho:1<=o/\o<=6)(hq:∀x y,q.show x y=o)(n:Nat):(F4 n [D.str (repS (toString o:String) w.toNat)]).flatten=au q w 0 n:=by
 have e:∀y:Int,repS (toString o:String) w.toNat=aE q 0 y w.toNat:=λy=>by
  apply cQ;rw[iT ho,oK,cr];apply List.ext_getElem
  .simp
  .intro i h1 h2;simp only[List.getElem_replicate,List.getElem_map,List.getElem_range];rw[hq];unfold signOf;rw[if_neg Ko]
 induction n with
 |zero=>rfl
 |succ n ih=>rw[JC,List.flatten_append,ih,<-iS,<-e];rfl
section
variable {V:Bx}
abbrev iV(V:Bx):Prop:=V.D 1 "_law_at" lm AY
def D4(T:V.T "_law_at" lh lm)(uB:V.m "len"):iV V:=by
 refine Tx.okDW T CS (λds R h=>?_) (λf cdv A outer s H E J hr=>⟨_,((aq (cB (fB (aa 1) (cL uB (ac (aa 0) af))) (az (aM (ah (aa 0) (aa 1)))) bN)
   (az (aM ae)))),λds R h=>?_⟩)
 .obtain⟨ns,k,rfl,_⟩:=h;rfl
 .obtain⟨ns,k,rfl,hk,hR⟩:=h;refine ite2 (λc=>?_) (λc=>?_)
  .have c':=of_decide_eq_true c;rw[Gb]at c';exact#[_,tP hk c',hR]
  .have c':=of_decide_eq_false (Iv.mpr c);rw[Gb]at c';rw[AX Ko]at hR;exact hR
abbrev oP(V:Bx):Prop:=V.D 2 "_law_draws" lr A9
def D5(T:V.T "_law_draws" ln lr)(uA:V.m "range")(uQ:iV V):oP V:=by
 refine Tx.okDW T sc__law_draws (λds R h=>?_) (λf cdv A outer s H E J hr=>⟨_,((aq (aC 3 sc__law_draws.nd (aF uQ hr (ac (aa 0) (ac (aa 1) af))))
   (aq (kd 4 sc__law_draws.nd af)
   (aq (cB (bM (aK (aF uQ hr (ac (aa 0) (ac (aB (aa 1) ae) af))) ae) ae) (aq (cm 5 PassesOwn.never rfl sc__law_draws.nd uA (aa 2) (aq (ke 4 (aK (aa 3) ae))
     (az (aC 3 sc__law_draws.nd (bz (aa 3) ae)))))
    (fE 4 (az (aM (aa 4))))) bN)
   (aq (aC 6 sc__law_draws.nd (aK (aB (aa 3) ae) ae))
   (aq (cm 5 PassesOwn.never rfl sc__law_draws.nd uA (aa 2) (aq (aC 6 sc__law_draws.nd (aK (aB (aB (bp (aa 6) ae) (aF uQ hr (ac (aa 0) (ac (aB (aB (aa 1) ae) (aK (aa 5) ae)) af)))) (aa 5)) ae))
    (az (ke 4 (aK (aK (bp (aa 6) ae) ae) ae)))))
   (fE 4 (az (aM (aa 4)))))))))),λds R h=>?_⟩)
 .obtain⟨_,_,_,rfl,_⟩:=h;rfl
 .obtain⟨ns,k,n,rfl,hk,hn,hR⟩:=h;refine#[λd=>∃v:Int,d=.int v,#[ns,k,rfl,hk,_,rfl],?_];rintro _⟨left,rfl⟩;k_places;refine#[KK,?_];refine#[ns,k+1,rfl,Ko,Ks,ite2 (λ_=>?_) (λ_=>?_)]
  .refine#[#[Ko,Ko],λi z=>∃(xs:List Int) (l:Int) (o p:Option D),z=[be (.rol (ns.map D.int)),be (.int k),be (.int n),be (.int l),be (.own (xs.map D.int)),o,p]/\xs.length=i/\Drawn xs,#[[],left,_,_,rfl,rfl,(λx hx=>by cases hx)],?_,?_]
   .rintro i x z hi⟨xs,l,o,p,rfl,hl,hd⟩;k_places;have l5:i<n:=by simpa using(Gh.mp hi).1
    refine#[Ks,Tl,?_];refine#[λd=>∃v:Int,d=.int v,#[#[Ks,Ks],_,rfl],?_];rintro _⟨l',rfl⟩;k_places;rw[tQ];exact#[_,l',_,_,rfl,by simp[hl],tR hd (fR Ks) (fS Ks)]
   .rintro z⟨xs,l,o,p,rfl,hl,hd⟩;k_places;exact hR xs (by simpa using hl) hd
  .refine#[λd=>∃v:Int,d=.int v/\0<=v/\v<2147483647,#[Ks,_,rfl,fR Ks,fS Ks],?_];rintro _⟨N2,rfl,s1,s2⟩;k_places;refine#[#[Ko,Ko],λi z=>∃(xs:List Int) (sd:Int) (o:Option D),z=[be (.rol (ns.map D.int)),be (.int k),be (.int n),be (.int left),be (.own (xs.map D.int)),o,be (.int sd)]/\xs.length=i/\Drawn xs/\0<=sd/\sd<2147483647,#[[],N2,_,rfl,rfl,(λx hx=>by cases hx),s1,s2],?_,?_]
   .rintro i x z hi⟨xs,sd,o,rfl,hl,hd,s1,s2⟩;k_places;have l5:i<n:=by simpa using(Gh.mp hi).1
    have ex:x=.int (i:Int):=by simp[l5]at hi;exact hi.symm
    subst ex;refine#[λd=>∃v:Int,d=.int v/\0<=v/\v<2147483647,#[.inr #[Ks,Ks],Ks,ns,_,rfl,Ko,Ks,_,rfl,fR Ks,fS Ks],?_];rintro _⟨QY,rfl,t1,t2⟩;k_places;refine#[.inr #[Ks,Ks],Ks,Ks,Tl,?_];rw[tQ];exact#[_,QY,_,rfl,by simp[hl],tR hd (fR Ks) (fS Ks),t1,t2]
   .rintro z⟨xs,sd,o,rfl,hl,hd,_⟩;k_places;exact hR xs (by simpa using hl) hd
def D6:SpD:=λds R=>∃a b:Int,ds=[.int a,.int b]/\1<=a/\1<=b/\a<=8/\b<=8/\∀L,Lcm a b L->R (.int L)
abbrev oQ(V:Bx):Prop:=V.D 1 "_law_lcm" lv D6
def D7(T:V.T "_law_lcm" lu lv):oQ V:=by
 refine Tx.okDW T sc__law_lcm (λds R h=>?_) (λf cdv A outer s H E J hr=>⟨_,((aq (aC 2 sc__law_lcm.nd (aa 0))
   (aq (rS PassesOwn.never (cw (aK (aa 2) (aa 1)) ae) (az (aC 2 sc__law_lcm.nd (aB (aa 2) (aa 0)))))
   (az (aM (aa 2)))))),λds R h=>?_⟩)
 .obtain⟨_,_,rfl,_⟩:=h;rfl
 .obtain⟨a,b,rfl,a1,b1,a8,b8,hR⟩:=h;refine#[λx=>x=.int a,rfl,?_];rintro _ rfl;k_places;refine#[λm z=>∃k:Int,z=[be (.int a),be (.int b),be (.int (k*a))]/\1<=k/\k<=b/\(∀j,1<=j->j<k->¬b∣j*a)/\m=(b-k).toNat,#[_,1,by rw[JD];rfl,Ko,Ko,λj _ _=>Ko,rfl],?_];rintro m z⟨k,rfl,k1,kb,no,hm⟩;k_places;refine#[Ko,ite2 (λc=>?_) (λc=>?_)]
  .have nd:¬b∣k*a:=λz=>by
    have:=JA z;simp[this]at c
   have RN:k≠b:=λz=>nd (z ▸ #[a,rfl]);refine#[λx=>x=.int ((k+1)*a),by show D.int _=D.int _;rw[HS,JD],?_];rintro _ rfl;k_places;refine#[(b-(k+1)).toNat,Ko,k+1,rfl,Ko,Ko,λj j1 jk=>?_,rfl];by_cases e:j=k
   .rw[e];exact nd
   .exact no j j1 Ko
  .have hd:b∣k*a:=Jz (by simpa using c);exact hR _ (DQ a1 k1 kb no hd)
def D8:SpD:=λds R=>∃(ns:List Int) (k:Int),ds=[.rol (ns.map D.int),.int k]/\0<=k/\∀(p:Pat) (w h X Y o n:Int),Ndl p w h X Y o n->R (.lst [.str p.text,.int w,.int h,.int X,.int Y,.int o,.int n])
abbrev oR(V:Bx):Prop:=V.D 3 "_law_needle" lw D8
def D9(T:V.T "_law_needle" ib lw)(uA:V.m "range")(uK:V.m "str")(J2:V.m "list")(N3:oP V)(KJ:oQ V):oR V:=by
 refine Tx.okDW T sc__law_needle (λds R h=>?_) (λf cdv A outer s H E J hr=>⟨_,((aq (aC 2 sc__law_needle.nd (aF N3 hr (ac (aa 0) (ac (aa 1) (ac ae af)))))
   (aq (AD 3 rfl (compScope (by change dA _ (ag ib) ["_law_script","_law_k","_law_draws_here","_law_sizes","_law_wide","_law_high","_law_spot","_law_old","_law_new","_law_text","_law_j","_law_gap","_law_line","_law_shifts","_law_across","_law_down"] _=true;decide+kernel)) sc__law_needle.nd uA ae (λcl s0 H0 fp=>(aB ae (aK (ah (aa 2) (aa 16)) ae))))
   (aq (gH (dZ (eJ (aF KJ hr (ac (bu 3 ae) (ac (bu 3 ae) af))) (aF KJ hr (ac (bu 3 ae) (ac (bu 3 ae) af)))) ae) (az (kt 3 ae ae)) bN)
   (aq (gH (cM (jY (dZ (eJ (aF KJ hr (ac (bu 3 ae) (ac (bu 3 ae) af))) (bu 3 ae)) ae) (jX (bM (bu 3 ae) ae)))) (az (kt 3 ae ae)) bN)
   (aq (aC 4 sc__law_needle.nd (aF KJ hr (ac (bu 3 ae) (ac (bu 3 ae) af))))
   (aq (aC 5 sc__law_needle.nd (aF KJ hr (ac (bu 3 ae) (ac (bu 3 ae) af))))
   (aq (aC 6 sc__law_needle.nd (cU (ac (aK (ah (aa 2) ae) (aa 4)) (ac (aK (ah (aa 2) ae) (aa 5)) af))))
   (aq (aC 7 sc__law_needle.nd (aB (aK (ah (aa 2) ae) ae) ae))
   (aq (aC 8 sc__law_needle.nd (aK (aB (aB (aa 7) ae) (aK (bz (ah (aa 2) ae) ae) ae)) ae))
   (aq (aC 9 sc__law_needle.nd (aB (aB ay (ah ay (aa 8))) ay))
   (aq (cm 10 PassesOwn.never rfl sc__law_needle.nd uA ae (aq (aC 11 sc__law_needle.nd (aK (ah (aa 6) (bz (aa 10) ae)) (bu 3 (aa 10))))
    (aq (aC 12 sc__law_needle.nd (aB (aB (eJ (cV uK (ac (aa 7) af)) (aa 11)) ay) (eJ (cV uK (ac (aa 7) af)) (bL (bL (bu 3 (aa 10)) ae) (aa 11)))))
    (aq (aC 13 sc__law_needle.nd (aB (aB ay (cV uK (ac (bu 3 (aa 10)) af))) ay))
    (aq (gH (dZ (aa 10) ae) (aq (aC 12 sc__law_needle.nd (rZ (AQ rfl J2 (ac (aa 12) af))))
     (az (aC 13 sc__law_needle.nd (aB (aB ay (cV uK (ac (bu 3 (aa 10)) af))) ay)))) bN)
    (az (aC 9 sc__law_needle.nd (aB (aB (aB (aB ay (aa 12)) (aa 13)) (aa 9)) ay))))))))
   (aq (aC 14 sc__law_needle.nd (bL (aK (ah (aa 2) ae) ae) ae))
   (aq (aC 15 sc__law_needle.nd (bL (aK (ah (aa 2) ae) ae) ae))
   (aq (aC 9 sc__law_needle.nd (aB (aB (aB (aB (aB ay (cV uK (ac (aa 14) af))) ay) (cV uK (ac (aa 15) af))) ay) (aa 9)))
   (az (aM (cU (ac (aa 9) (ac (aa 4) (ac (aa 5) (ac (aK (aB (ah (aa 6) ae) (aa 14)) (aa 4)) (ac (aK (aB (ah (aa 6) ae) (aa 15)) (aa 5)) (ac (aa 7) (ac (aa 8) af))))))))))))))))))))))))),λds R h=>?_⟩)
 .obtain⟨_,_,rfl,_⟩:=h;rfl
 .obtain⟨ns,k,rfl,k0,hR⟩:=h;refine#[λx=>∃xs:List Int,x=.lst (xs.map D.int)/\xs.length=9/\Drawn xs,#[ns,k,9,rfl,k0,Ks,λxs h1 h2=>#[xs,rfl,h1,h2]],?_];rintro _⟨xs,rfl,xl,xd⟩;k_places;have v8:∀j:Nat,j<9->atI (xs.map D.int) (j:Int)=be (.int (cell xs j)):=λj hj=>A8 Ko (by simpa using(Ko:j<xs.length));have a4:atI (xs.map D.int) 4=be (.int (cell xs 4)):=v8 4 Ks;have a5:atI (xs.map D.int) 5=be (.int (cell xs 5)):=v8 5 Ks;have a6:atI (xs.map D.int) 6=be (.int (cell xs 6)):=v8 6 Ks;have a7:atI (xs.map D.int) 7=be (.int (cell xs 7)):=v8 7 Ks;have a8:atI (xs.map D.int) 8=be (.int (cell xs 8)):=v8 8 Ks;refine#[#[Ks,Ks],by rw[bC];decide,λj ys=>∃ss:List Int,ys=ss.map D.int/\ss.length=j/\∀v∈ss,1<=v/\v<=8,#[[],rfl,rfl,λv hv=>nomatch hv],?_,?_]
  .rintro j v ys hj hl⟨ss,rfl,sl,sb⟩;k_places;obtain⟨LN,rfl⟩:=range_int hj;refine#[_,v8 j (by have:j<4:=LN;lia),Ks,ss++[1+cell xs j%8],by rw[Gm];rfl,by simp[sl],λv hv=>?_];rcases GA.mp hv with q|q
   .exact sb v q
   .rw[FW.mp q];lia
  rintro ys hl⟨ss,rfl,sl,sb⟩;k_places;rw[bC]at sl;obtain⟨a,b,c,d,rfl⟩:∃a b c d,ss=[a,b,c,d]:=by
   rcases ss with _|⟨a,_|⟨b,_|⟨c,_|⟨d,_|⟨e,r⟩⟩⟩⟩⟩
   .cases sl
   .cases sl
   .cases sl
   .cases sl
   .exact#[a,b,c,d,rfl]
   .simp at sl
  have ha:=sb a KK;have hb:=sb b KK;have hc:=sb c KK;have hd:=sb d KK;clear sb sl hl;refine#[λz=>∃e:Int,z=[be (.rol (ns.map D.int)),be (.int k),be (.lst (xs.map D.int)),be (.own [.int a,.int b,.int c,.int e]),G_,G_,G_,G_,G_,G_,G_,G_,G_,G_,G_,G_]/\(1<=e/\e<=8)/\(e=1\/∃L M,Lcm a b L/\Lcm c e M/\L*M<=360),?_,?_]
  .refine#[_,rfl,_,rfl,a,b,rfl,ha.1,hb.1,ha.2,hb.2,λL l1=>#[_,rfl,_,rfl,c,d,rfl,hc.1,hd.1,hc.2,hd.2,λM l2=>?_]];have b1:=bv (a:=a) (d:=b) (A:=8) (B:=8) Ko Ko;have b2:=bv (a:=c) (d:=d) (A:=8) (B:=8) Ko Ko;have:=l1.le;have:=l2.le;have:=l1.pos;have:=l2.pos;refine#[.inl #[Ko,Ko],ite2 (λ_=>?_) λc=>?_]
   .exact#[3,rfl,1,rfl,Ks,.inl rfl]
   .have c':¬L*M>360:=λz=>c (decide_eq_true z);exact#[d,rfl,hd,.inr #[L,M,l1,l2,Ko]]
  clear hd d;rintro _⟨d,rfl,hd,h1⟩;k_places;refine#[λz=>∃e:Int,z=[be (.rol (ns.map D.int)),be (.int k),be (.lst (xs.map D.int)),be (.own [.int a,.int e,.int c,.int d]),G_,G_,G_,G_,G_,G_,G_,G_,G_,G_,G_,G_]/\(1<=e/\e<=8)/\∃L M,Lcm a e L/\Lcm c d M/\L*M<=360,?_,?_]
  .refine#[_,rfl,_,rfl,a,b,rfl,ha.1,hb.1,ha.2,hb.2,λL l1=>#[_,rfl,?_]];have b1:=bv (a:=a) (d:=b) (A:=8) (B:=8) Ko Ko;have b2:=bv (a:=a) (d:=c) (A:=8) (B:=8) Ko Ko;have:=l1.le;have:=l1.pos;refine#[.inl #[Ko,Ko],ite2 (λq=>?_) λq=>?_]
   .refine#[_,rfl,ite2 (λq1=>?_) λq1=>?_]
    .have e:d=1:=of_decide_eq_true q1;subst e;exact#[1,rfl,1,rfl,Ks,a,c,Lcm.one ha.1,Lcm.one hc.1,Ko]
    .have e:¬d=1:=λz=>q1 (decide_eq_true z);rcases h1 with z|⟨L,M,g1,g2,g3⟩
     .exact absurd z e
     .exact#[b,rfl,hb,L,M,g1,g2,g3]
   .have q':¬L*c>360:=λz=>q (decide_eq_true z);rcases h1 with z|⟨L,M,g1,g2,g3⟩
    .subst z;exact#[b,rfl,hb,L,c,l1,Lcm.one hc.1,Ko]
    .exact#[b,rfl,hb,L,M,g1,g2,g3]
  clear hb h1 b;rintro _⟨b,rfl,hb,W,H,l1,l2,big⟩;k_places;have w0:=l1.pos;have h0:=l2.pos;have b1:=bv (a:=a) (d:=b) (A:=8) (B:=8) Ko Ko;have b2:=bv (a:=c) (d:=d) (A:=8) (B:=8) Ko Ko;have RO:=l1.le;have RP:=l2.le;refine#[λx=>x=.int W,#[_,rfl,_,rfl,a,b,rfl,ha.1,hb.1,ha.2,hb.2,λL g=>by rw[g.uniq l1]],?_];rintro _ rfl;k_places;refine#[λx=>x=.int H,#[_,rfl,_,rfl,c,d,rfl,hc.1,hd.1,hc.2,hd.2,λL g=>by rw[g.uniq l2]],?_];rintro _ rfl;k_places;refine#[λx=>∃u v:Int,x=.lst [.int u,.int v],#[_,a4,Ko,_,a5,Ko,Lr,_,_,rfl],?_];rintro _⟨u,v,rfl⟩;k_places;refine#[λx=>∃o:Int,x=.int o/\(1<=o/\o<=6),#[_,a6,Ks,_,rfl,Ko],?_];rintro _⟨o,rfl,ho⟩;k_places;refine#[λx=>∃n:Int,x=.int n/\(0<=n/\n<=6)/\n≠o,#[_,a6,#[Ks,Ks],Ks,Ks,_,rfl,Ko,Ko],?_];rintro _⟨n,rfl,hn,ne⟩;k_places;have QZ:("[":JM).length=1:=rfl;have RQ:(#[[signOf n].toArray]:JM).length=1:=rfl;have Q0:(";1,0;0,1]":JM).length=9:=rfl;refine#[λx=>x=.str (Pat.mot [#[[signOf n].toArray]] 1 0 0 1).text,#[_,#[Ks,kY hn.1 hn.2],Ko,by rw[aQ];lia,by rw[vq]],?_];rintro _ rfl;k_places;refine#[#[Ks,Ks],λj z=>∃(q:Pat) (m6 m7 l8 p6:Option D),z=[be (.rol (ns.map D.int)),be (.int k),be (.lst (xs.map D.int)),be (.own [.int a,.int b,.int c,.int d]),be (.int W),be (.int H),be (.lst [.int u,.int v]),be (.int o),be (.int n),be (.str q.text),m6,m7,l8,p6,G_,G_]/\NQ (sv a b c d) u v o n j q,#[_,_,_,_,_,rfl,?_],?_,?_]
  .refine#[#[Rows.of (w:=1) (t:=1) Ks Ks rfl Ks Ks λl hl=>?_,Lu,Lu,Lu,Lu,Ks],by simp[Pat.depth],λx y _=>vn hn.1 hn.2 x y,λx y z=>absurd (λj hj=>absurd hj (Hq j)) z,λx y=>#[λ_ j hj=>absurd hj (Hq j),λ_=>#[x,y,Ko,Ko]]];rw[FW.mp hl];refine#[rfl,λz hz=>?_];have:z=signOf n:=by simpa[cs]using hz
   rw[this];unfold bB signOf;split<;>lia
  .rintro j w' z hj⟨q,m6,m7,l8,p6,rfl,nq⟩;k_places;obtain⟨LN,rfl⟩:=range_int hj;have j4:j<4:=LN;obtain⟨S,eS,S1,S8,oS,oT⟩:∃S:Nat,sv a b c d j=S/\1<=S/\S<=8/\atI [D.int a,.int b,.int c,.int d] (j:Int)=be (.int S)/\atI [D.int u,.int v] ((j:Int)/2)=be (.int (tv u v j)):=by
    rcases(Ko:j=0\/j=1\/j=2\/j=3)with e|e|e|e<;>subst e
    .exact#[a.toNat,by show a=_;lia,Ko,Ko,by rw[Gr Ko];rfl,rfl]
    .exact#[b.toNat,by show b=_;lia,Ko,Ko,by rw[Gr Ko];rfl,rfl]
    .exact#[c.toNat,by show c=_;lia,Ko,Ko,by rw[Gr Ko];rfl,rfl]
    .exact#[d.toNat,by show d=_;lia,Ko,Ko,by rw[Gr Ko];rfl,rfl]
   have m0:=Gy (tv u v j) (show(S:Int)≠0 by lia);have m1:=Gz (tv u v j) (show 0<(S:Int)by lia);refine#[λx=>∃g:Nat,x=.int (g:Int)/\(g:Int)=tv u v j%S/\g<S,#[#[Ks,Ks],_,oT,_,oS,Ko,(tv u v j%S).toNat,by rw[Gr m0],by rw[Gr m0],Ko],?_];rintro _⟨g,rfl,eg,gS⟩;k_places;have ds:=iT ho;have c9:49<=(48+o).toNat/\(48+o).toNat<=54:=Ko
   have eo:(((48+o).toNat:Nat):Int)-48=o:=Ko
   generalize (48+o).toNat=C at*;have dl:((toString o:String):JM).length=1:=by rw[ds];rfl
   have ld:(".":JM).length=1:=rfl;have r1:=ky (toString o:String) ((g:Int)).toNat;have r2:=ky (toString o:String) ((S:Int)-1-(g:Int)).toNat;rw[dl,Nat.mul_one]at r1 r2;refine#[λx=>∃t:JM,x=.str t/\cs t=barL S g C,#[Ko,#[Ko,Ko,by rw[dl];lia],Ko,Ko,_,oS,#[Ko,Ko,by rw[dl];lia],by rw[aQ];lia,_,rfl,?_],?_]
   .rw[aY,aY,ds,oK,oK,G3,show((S:Int)-1-(g:Int)).toNat=S-1-g by lia];unfold barL;rw[Gx];rfl
   rintro _⟨t,rfl,et⟩;k_places;have tl:t.length=S:=by rw[<-bq,et,gf gS]
   have bS:B12 (S:Int):=Lu
   have nS:=cn bS;have y1:(";":JM).length=1:=rfl;have y2:(",0;0,1]|":JM).length=8:=rfl;have y3:(";1,0;0,":JM).length=7:=rfl;have y4:("]|":JM).length=2:=rfl;refine#[λx=>∃y:JM,x=.str y/\cs y=59::(numL S++cs ",0;0,1]|")/\y.length<=20,#[_,oS,Ko,Ko,by rw[aQ];lia,_,rfl,?_,by rw[aQ,aQ];lia],?_]
   .rw[aY,aY,Gx];rfl
   rintro _⟨y,rfl,ey,yl⟩;k_places;refine#[λz=>∃(t y:JM) (m:Pat),z=[be (.rol (ns.map D.int)),be (.int k),be (.lst (xs.map D.int)),be (.own [.int a,.int b,.int c,.int d]),be (.int W),be (.int H),be (.lst [.int u,.int v]),be (.int o),be (.int n),be (.str q.text),be (.int (j:Int)),be (.int (g:Int)),be (.str t),be (.str y),G_,G_]/\Bar (sv a b c d) u v o j m/\91::(cs t++cs y)=m.tl++[124]/\t.length<=20/\y.length<=20,ite2 (λcc=>?_) (λcc=>?_),?_]
   .have j2:¬j<2:=by have:=of_decide_eq_true cc;lia
    have N4:tv u v j=v:=if_neg j2;have sg:bt t=((barL S g C).map λc=>(#[[c].toArray]:JM)).map D.str:=by
     unfold bt;show(cs t).map _=_;rw[et,Hb];rfl
    have ll:((barL S g C).map λc=>(#[[c].toArray]:JM)).length=S:=by rw[Gb,gf gS]
    have rl:=Du (w:=1) (((barL S g C).map λc=>(#[[c].toArray]:JM)).map cs) (λz=>by
     have z2:=congrArg Hy z;rw[Gb,ll]at z2;have:S=0:=z2;lia) (λx hx=>by
     obtain⟨l,hl,rfl⟩:=Gp.mp hx;obtain⟨e,_,rfl⟩:=Gp.mp hl;rfl)
    have cj:cs (Txt.join "/" ((barL S g C).map λc=>(#[[c].toArray]:JM)))=rowsL (((barL S g C).map λc=>(#[[c].toArray]:JM)).map cs):=by
     rw[show Txt.join "/" ((barL S g C).map λc=>(#[[c].toArray]:JM))=Str.join "/" ((barL S g C).map λc=>(#[[c].toArray]:JM))from StrLaws.glued_eq_join _ _,kT]
    refine#[λx=>∃t':JM,x=.str t'/\cs t'=rowsL (((barL S g C).map λc=>(#[[c].toArray]:JM)).map cs),#[Ko,_,by rw[sg];exact kP _,?_,_,rfl,cj],?_]
    .rw[kQ (w:=1) (λl hl=>by obtain⟨e,_,rfl⟩:=Gp.mp hl;rfl),ll];show S*1+S*1<=1000000;lia
    rintro _⟨t',rfl,Pz⟩;k_places;refine#[λx=>∃y':JM,x=.str y'/\cs y'=cs ";1,0;0,"++(numL S++cs "]|")/\y'.length<=20,#[_,oS,Ko,Ko,by rw[aQ];lia,_,rfl,?_,by rw[aQ,aQ];lia],?_]
    .rw[aY,aY,Gx];rfl
    rintro _⟨y',rfl,NW,Q1⟩;k_places;exact#[t',y',_,rfl,DV j2 eS S1 S8 (by rw[eg,N4]) gS c9 eo rfl,D0 Pz NW,by rw[<-bq,Pz];rw[Gb,ll]at rl;lia,Q1]
   .have j2:j<2:=Classical.byContradiction λz=>cc (decide_eq_true Ko);have N4:tv u v j=u:=if_pos j2;exact#[t,y,_,rfl,DU j2 eS S1 S8 (by rw[eg,N4]) gS c9 eo et,DZ ey,Ko,yl]
   clear et tl ey yl t y;rintro _⟨t,y,m,rfl,Q2,Q3,tl,yl⟩;k_places;have lq:=Pat.text_short nq.wf (by have:=nq.dp;lia);have q1:("([":JM).length=2:=rfl;have q2:(")":JM).length=1:=rfl;refine#[λx=>x=.str (Pat.over m q).text,#[Ko,by rw[aQ];lia,by rw[aQ,aQ];lia,by rw[aQ,aQ,aQ];lia,by rw[DY Q3]],?_];rintro _ rfl;k_places;exact#[_,_,_,_,_,rfl,nq.step ho.1 Q2]
  rintro z⟨q,m6,m7,l8,p6,rfl,nq⟩;k_places;rw[bC]at nq;have nq:NQ (sv a b c d) u v o n 4 q:=nq;refine#[λx=>∃A:Int,x=.int A/\B12 A,#[_,a7,Ks,_,rfl,Lu],?_];rintro _⟨A,rfl,hA⟩;k_places;refine#[λx=>∃A:Int,x=.int A/\B12 A,#[_,a8,Ks,_,rfl,Lu],?_];rintro _⟨B,rfl,hB⟩;k_places;have lq:=Pat.text_short nq.wf (by have:=nq.dp;lia);have lA:=cn hA;have lB:=cn hB;have q1:("s":JM).length=1:=rfl;have q2:(",":JM).length=1:=rfl;have q3:(":":JM).length=1:=rfl;refine#[λx=>x=.str (Pat.sh A B q).text,#[by unfold B12 at hA;lia,Ko,by rw[aQ];lia,by unfold B12 at hB;lia,by rw[aQ,aQ];lia,by rw[aQ,aQ,aQ];lia,by rw[aQ,aQ,aQ,aQ];lia,rfl],?_];rintro _ rfl;k_places;exact#[_,rfl,w0,_,rfl,h0,by show(7:Nat)<=1000;decide,hR _ _ _ _ _ _ _ (DR nq l1 l2 big hA hB ne ho hn)]
def Ea:SpD:=λds R=>∃(p:Pat) (w h X Y o n W H:Int),ds=[.lst [.str p.text,.int w,.int h,.int X,.int Y,.int o,.int n],.tup [.int W,.int H]]/\Ndl p w h X Y o n/\0<=W/\W<=30/\0<=H/\H<=30/\R (.lst (au p W 0 H.toNat))
abbrev oU(V:Bx):Prop:=V.D 1 "_law_rows_of" ly Ea
def Eb(T:V.T "_law_rows_of" lx ly)(uA:V.m "range")(uM:V.m "int"):oU V:=by
 refine Tx.okDW T sc__law_rows_of (λds R h=>?_) (λf cdv A outer s H E J hr=>⟨_,((aq (yQ rfl (aa 0) (dg_cons 2 sc__law_rows_of.nd (dg_cons 3 sc__law_rows_of.nd (dg_cons 4 sc__law_rows_of.nd (dg_cons 5 sc__law_rows_of.nd (dg_cons 6 sc__law_rows_of.nd (dg_cons 7 sc__law_rows_of.nd (dg_cons 8 sc__law_rows_of.nd cN))))))))
   (aq (kd 9 sc__law_rows_of.nd af)
   (aq (cm 10 PassesOwn.never rfl sc__law_rows_of.nd uA (ah (aa 1) ae) (aq (aC 11 sc__law_rows_of.nd ay)
    (aq (cm 12 PassesOwn.never rfl sc__law_rows_of.nd uA (ah (aa 1) ae) (az (aC 11 sc__law_rows_of.nd (aB (aa 11) (ah ay (ah (cU (ac (aa 7) (ac (aa 8) af))) (ki uM (ac (fD (dX (aK (aa 12) (aa 3)) (aa 5)) (fC (dX (aK (aa 10) (aa 4)) (aa 6)))) af))))))))
    (az (ke 9 (aa 11))))))
   (fE 9 (az (aM (aa 9)))))))),λds R h=>?_⟩)
 .obtain⟨_,_,_,_,_,_,_,_,_,rfl,_⟩:=h;rfl
 .obtain⟨p,w,h,X,Y,o,n,W,H,rfl,N,W0,W7,H0,H7,hR⟩:=h;refine#[rfl,?_]
  let z0:SD:=[be (.lst [.str p.text,.int w,.int h,.int X,.int Y,.int o,.int n]),be (.tup [.int W,.int H]),be (.str p.text),be (.int w),be (.int h),be (.int X),be (.int Y),be (.int o),be (.int n)]
  show dSeq _ _ _ (z0++[G_,G_,G_,G_]);have w0:=N.fam.f.w0;have h0:=N.fam.f.h0;refine#[Ks,_,rfl,#[Ko,Ko],λj z=>∃m6 m7 l8,z=z0++[be (.own (au p W 0 j)),m6,m7,l8],#[_,_,_,rfl],?_,?_]
  .rintro j v z hj⟨m6,m7,l8,rfl⟩;k_places;obtain⟨LN,rfl⟩:=range_int hj;refine#[λd=>d=.str "",rfl,?_];rintro _ rfl;k_places;refine#[_,rfl,#[Ko,Ko],λi z=>∃l8,z=z0++[be (.own (au p W 0 j)),be (.int j),be (.str (aE p 0 j i)),l8],#[_,rfl],?_,?_]
   .rintro i v z hi⟨l8,rfl⟩;k_places;obtain⟨D',rfl⟩:=range_int hi;have b:=Pat.show_le N.ok.wf (by have:=N.ok.deep;lia) (i:Int) j;have key:∀c:Bool,c=decide ((i:Int)%w=X/\(j:Int)%h=Y)->rdIx (.lst [.int o,.int n]) (.int (if c=true then 1 else 0)) λy=>rdIx (.str ".123456") y λy=>gD (.str (aE p 0 j i)) y λd=>d=.str (aE p 0 j (i+1)):=λc hc=>by
     refine#[.int (p.show i j),?_,_,#[Ks,kY b.1 b.2],by rw[fV];show i+1<=_;lia,by rw[D1]];rw[N.sh,hc];by_cases q:(i:Int)%w=X/\(j:Int)%h=Y
     .rw[if_pos q,if_pos (decide_eq_true q)];rfl
     .rw[if_neg q,if_neg (by simp[q])];rfl
    refine#[λd=>d=.str (aE p 0 j (i+1)),#[Lr,w0,ite2 (λc=>#[h0,key _ ?_]) (λc=>key _ ?_)],?_]
    .have c':(i:Int)%w=X:=of_decide_eq_true c;simp[c']
    .have c':¬(i:Int)%w=X:=λz=>c (decide_eq_true z);simp[c']
    rintro _ rfl;k_places;exact#[_,rfl]
   .rintro z⟨l8,rfl⟩;k_places;rw[bC];refine#[by unfold au;simp;lia,be (.int j),be (.str (aE p 0 j W.toNat)),l8,?_];rw[<-iS,Hc];rfl
  .rintro z⟨m6,m7,l8,rfl⟩;k_places;rw[bC];exact hR
def Ec:SpM:=λds M R _=>∃a q f w,ds=[.ptr a,.str w]/\a≠q/\M=Fl.M f a q/\f.ds.length<=20/\∀q',a≠q'->R .non ((f.keep w).M a q')
abbrev iW(V:Bx):Prop:=V.Q 1 "Floor" "keep" lC Ec
def Ed(T:V.Tm "Floor" "keep" "Floor.keep" lz lC)(N5:V.gi "KEPT" 20)(uS:V.a "Floor" "deeds")(uD:V.a "Floor" "laid")(uE:V.a "Floor" "pattern"):iW V:=by
 refine CalMth.drop (Txm.okM T CT (λds M R RX h=>?_) (λf cdv A outer s H E J hr hx=>#[_,((am (bI uS (ad (aa 0)) (CA (Cz (aA uS (ad (aa 0))) (eO (aw (sT (aw (ad (aa 1)) (aw (aA uE (ad (aa 0))) (aw (aA uD (ad (aa 0))) aS)))) aS))) (ve (ad (cK (eH N5)))) vd)))),λds M R RX d8 h=>?_]))
 .obtain⟨_,_,⟨_,_,_,_,rfl,_⟩,_⟩:=h;rfl
 .obtain⟨R,RX,⟨a,q,f,w,rfl,ne,rfl,hl,hR⟩,rfl,rfl⟩:=h;have nk:∀{p:KF},p∉ao (f.M a q)->p≠a/\p≠q:=λ{p} h=>#[λe=>h (e ▸ F8 _ Gd),λe=>h (e ▸ Gd)];refine#[_,Fl.ma ne,_,iR,_,Fl.ma ne,_,gd,_,Fl.ma ne,_,dL,by show(3:Nat)<=1000;decide,Rx,λp1 h1=>?_];obtain⟨n1,m1⟩:=nk h1;refine#[_,_,(bX m1).trans Fl.mq,bc,by rw[Gb];show _+1<=_;lia,λp2 h2=>?_];have u_:p2≠p1/\p2∉ao (f.M a q):=#[λe=>h2 (e ▸ Gd),λz=>h2 (F8 _ z)];obtain⟨n2,m2⟩:=nk u_.2;refine#[_,bc,λp3 h3=>?_];have Q4:p3≠p2/\p3∉ao ((p1,.lst [])::f.M a q):=#[λe=>h3 (e ▸ Gd),λz=>h3 (F8 _ z)];obtain⟨n3,m3⟩:=nk λz=>Q4.2 (F8 _ z);refine#[_,(bX n3).trans ((bX n2).trans ((bX n1).trans (Fl.ma ne))),by show(6:Nat)<1000;decide,_,#[?_,?_],hR p3 (Ne.symm n3)]
  .rw[cH n3,cH n2,cH n1,show f.M a q=[(q,.lst (f.ds.map Deed.D)),(a,.ins "Floor" (f.fs q))]from rfl,cH (Ne.symm ne),bw];have e1:cutD (f.ds.map Deed.D++[D.tup [.str w,f.d,.int f.l]]) (be (-20)) G_=(f.keep w).ds.map Deed.D:=by
    rw[Dv];show _=H9 Deed.D (Hm _ _);rw[List.map_drop,Gm,Gc,Gb];rfl
   have e2:putD ("deeds":JM) (.ptr p3) (f.fs q)=(f.keep w).fs p3:=rfl;rw[e1,e2];intro e he;rcases F5.mp he with rfl|he
   .exact Gd
   .rw[FW.mp he];simp
  .exact Fl.nd (Ne.symm n3)
abbrev iX(V:Bx):Prop:=V.X 1 "refuse_far" lF BV
def Ee(T:V.T "refuse_far" lD lF)(J3:V.m "max")(KL:V.m "abs")(N6:V.gi "FAR" 1000000000000)(N7:V.n "TooFar"):iX V:=by
 refine Tx.okXW T CU (λds R RX h=>?_) (λf cdv A outer s H E J hr hx=>#[_,((az (cB (dZ (kj rfl J3 (ac (jW KL (ac (aa 0) af)) (ac (jW KL (ac (aa 1) af)) af))) (eH N6)) (az (ze N7 hx rfl (ac ay af))) bN))),λds R RX d8 h=>?_])
 .obtain⟨_,_,rfl,_⟩:=h;rfl
 .obtain⟨x,y,rfl,h1,h2⟩:=h;refine ite2 (λc=>?_) (λc=>?_)
  .have c':=of_decide_eq_true c;refine#[Rx,?_];rw[d8];refine h2 λ⟨⟨a1,a2⟩,a3,a4⟩=>?_;split at c'<;>split at c'<;>split at c'<;>lia
  .have c':¬_:=λz=>c (decide_eq_true z);refine h1 ?_;unfold bb;split at c'<;>split at c'<;>split at c'<;>lia
abbrev fo(V:Bx):Prop:=V.D 1 "home" lH A1
def Ef(T:V.T "home" lG lH):fo V:=by
 refine Tx.okDW T sc_home (λds R h=>?_) (λf cdv A outer s H E J hr=>⟨_,((aq (aC 3 sc_home.nd (ah (aa 0) ae))
   (aq (aC 4 sc_home.nd (ah (aa 0) ae))
   (aq (aC 5 sc_home.nd (ah (aa 0) ae))
   (az (aM (aW (ac (aK (bL (aa 1) (bp (bz (aa 2) (aa 4)) (aa 5))) (aa 3)) (ac (aK (aa 2) (aa 4)) af))))))))),λds R h=>?_⟩)
 .obtain⟨w,h,s,x,y,rfl,_⟩:=h;rfl
 .obtain⟨w,h,s,x,y,rfl,hw,hh,Kc,hs,n4,hR⟩:=h;refine#[λd=>d=.int w,#[_,rfl,rfl],?_];rintro _ rfl;k_places;refine#[λd=>d=.int h,#[_,rfl,rfl],?_];rintro _ rfl;k_places;refine#[λd=>d=.int s,#[_,rfl,rfl],?_];rintro _ rfl;k_places;exact#[#[hh,Kc],.inr #[Ko,Ko],hw,hh,KK,hR]
variable{n j:Nat}
def ok_Motif_shows(hL:1<=n)(T:V.Tm "Motif" "shows" "Motif.shows" ic cu)(D_:fo V)(Ke:V.a "Motif" "hues")(uO:V.a "Motif" "shifts"):V.Q (n+1) "Motif" "shows" cu (ofX (bQ (j+1) "Motif")):=by
 refine Txm.okM T CV (λds M R RX h=>?_) (λf cdv A outer s H E J hr hx=>#[_,((am (ax (Au (fz hr) (aA Ke (ad (aa 0))) (aw (aH (hn:=Kw) (CalD.toM D_) hx hr (aw (aA uO (ad (aa 0))) (aw (ad (aa 1)) (aw (ad (aa 2)) aS)))) (aw (ad ae) aS)))))),λds M R RX d8 h=>?_])
 .obtain⟨_,_,_,_,rfl,_⟩:=h;rfl
 .obtain⟨p,v,X,Y,rfl,hv,w_,hd,hc,hR⟩:=h;cases p<;>simp only[Pat.cls]at hc<;>try exact absurd hc Kv
  rename_i L a b c d;obtain⟨k,w,h,s,rfl,F⟩:=hv;obtain⟨hL,ha,hb,J8,g7,hn⟩:=w_;unfold B12 at ha hb J8 g7;obtain⟨b1,b2,b3⟩:=F.bd (N:=288) (by
   have m1:=bv (a:=a) (d:=d) (A:=12) (B:=12) Ko Ko;have m2:=bv (a:=b) (d:=c) (A:=12) (B:=12) Ko Ko;lia)
  rw[Pat.show,<-motif_shows hL F hn X Y]at hR;exact#[_,#[rfl,rfl],_,BP,_,#[rfl,rfl],_,mo_shifts,w,h,s,X,Y,rfl,F.1,F.2.1,Ko,F.2.2.1,Ko,hR]
def Eg(hL:1<=n)(T:V.Tm "Over" "shows" "Over.shows" ie ig)(uZ:V.a "Over" "above")(uT:V.a "Over" "below")(uG:∀x,x∈(["Motif","Over","Shifted","Mirror","Turn","Rehue"]:List JM)->V.Q n x "shows" cu (ofX (bQ j x))):V.Q (n+1) "Over" "shows" ig (ofX (bQ (j+1) "Over")):=by
 refine Txm.okM T sc_Over_shows (λds M R RX h=>?_) (λf cdv A outer s H E J hr hx=>⟨_,((ai (aD 3 sc_Over_shows.nd (aO (hn:=Kw) uG hx hr (aA uZ (ad (aa 0))) (ar (ac (aa 1) (ac (aa 2) af)))))
   (am (ax (fM (bg (bM (aa 3) ae)) (aO (hn:=Kw) uG hx hr (aA uT (ad (aa 0))) (ar (ac (aa 1) (ac (aa 2) af)))) (ad (aa 3))))))),λds M R RX d8 h=>?_⟩)
 .obtain⟨_,_,_,_,rfl,_⟩:=h;rfl
 .obtain⟨p,v,X,Y,rfl,hv,w_,hd,hc,hR⟩:=h;cases p<;>simp only[Pat.cls]at hc<;>try exact absurd hc Kv
  rename_i p q;obtain⟨u,u',rfl,hu,LO⟩:=hv;obtain⟨fs,rfl,o1⟩:=hu.objm;obtain⟨gs,rfl,o2⟩:=LO.objm;rw[Pat.depth]at hd;refine#[λd M'=>d=.int (p.show X Y)/\M'=M,#[_,#[rfl,rfl],_,rfl,p.cls,p.cls_mem,fs,#[rfl,rfl],o1.shw,p,_,X,Y,rfl,hu,w_.1,Ko,rfl,rfl,rfl],?_];rintro _ _⟨rfl,rfl⟩;k_places;rw[Pat.show]at hR;show if decide (p.show X Y=0)=true then _ else _
  refine ite2 (λe=>?_) (λe=>?_)
  .have e':=of_decide_eq_true e;rw[if_neg (λz=>z e')]at hR;exact#[_,#[rfl,rfl],_,eZ Kv,q.cls,q.cls_mem,gs,#[rfl,rfl],o2.shw,q,_,X,Y,rfl,LO,w_.2,Ko,rfl,hR]
  .have e':p.show X Y≠0:=λz=>e (decide_eq_true z);rw[if_pos e']at hR;exact hR
def Eh(hL:1<=n)(T:V.Tm "Shifted" "shows" "Shifted.shows" ii ij)(uX:V.a "Shifted" "form")(Kf:V.a "Shifted" "y")(Kg:V.a "Shifted" "x")(uG:∀x,x∈(["Motif","Over","Shifted","Mirror","Turn","Rehue"]:List JM)->V.Q n x "shows" cu (ofX (bQ j x))):V.Q (n+1) "Shifted" "shows" ij (ofX (bQ (j+1) "Shifted")):=by
 refine Txm.okM T CW (λds M R RX h=>?_) (λf cdv A outer s H E J hr hx=>#[_,((am (ax (aO (hn:=Kw) uG hx hr (aA uX (ad (aa 0))) (aw (cX (ad (aa 1)) (aA Kg (ad (aa 0)))) (aw (cX (ad (aa 2)) (aA Kf (ad (aa 0)))) aS)))))),λds M R RX d8 h=>?_])
 .obtain⟨_,_,_,_,rfl,_⟩:=h;rfl
 .obtain⟨p,v,X,Y,rfl,hv,w_,hd,hc,hR⟩:=h;cases p<;>simp only[Pat.cls]at hc<;>try exact absurd hc Kv
  rename_i a b p;obtain⟨u,rfl,hu⟩:=hv;obtain⟨fs,rfl,o1⟩:=hu.objm;rw[Pat.depth]at hd;exact#[_,#[rfl,rfl],_,rfl,p.cls,p.cls_mem,fs,#[rfl,rfl],o1.shw,_,#[rfl,rfl],_,eZ Kv,_,#[rfl,rfl],_,kX Kv Kv,p,_,X-a,Y-b,rfl,hu,w_.2.2,Ko,rfl,hR]
def Ei(hL:1<=n)(T:V.Tm "Mirror" "shows" "Mirror.shows" ik il)(uW:V.a "Mirror" "form")(uG:∀x,x∈(["Motif","Over","Shifted","Mirror","Turn","Rehue"]:List JM)->V.Q n x "shows" cu (ofX (bQ j x))):V.Q (n+1) "Mirror" "shows" il (ofX (bQ (j+1) "Mirror")):=by
 refine Txm.okM T CY (λds M R RX h=>?_) (λf cdv A outer s H E J hr hx=>#[_,((am (ax (aO (hn:=Kw) uG hx hr (aA uW (ad (aa 0))) (ar (ac (cK (aa 1)) (ac (aa 2) af))))))),λds M R RX d8 h=>?_])
 .obtain⟨_,_,_,_,rfl,_⟩:=h;rfl
 .obtain⟨p,v,X,Y,rfl,hv,w_,hd,hc,hR⟩:=h;cases p<;>simp only[Pat.cls]at hc<;>try exact absurd hc Kv
  rename_i p;obtain⟨u,rfl,hu⟩:=hv;obtain⟨fs,rfl,o1⟩:=hu.objm;rw[Pat.depth]at hd;exact#[_,#[rfl,rfl],_,rfl,p.cls,p.cls_mem,fs,#[rfl,rfl],o1.shw,p,_,-X,Y,rfl,hu,w_,Ko,rfl,hR]
def Ej(hL:1<=n)(T:V.Tm "Turn" "shows" "Turn.shows" im io)(uV:V.a "Turn" "form")(uG:∀x,x∈(["Motif","Over","Shifted","Mirror","Turn","Rehue"]:List JM)->V.Q n x "shows" cu (ofX (bQ j x))):V.Q (n+1) "Turn" "shows" io (ofX (bQ (j+1) "Turn")):=by
 refine Txm.okM T CZ (λds M R RX h=>?_) (λf cdv A outer s H E J hr hx=>#[_,((am (ax (aO (hn:=Kw) uG hx hr (aA uV (ad (aa 0))) (ar (ac (aa 2) (ac (cK (aa 1)) af))))))),λds M R RX d8 h=>?_])
 .obtain⟨_,_,_,_,rfl,_⟩:=h;rfl
 .obtain⟨p,v,X,Y,rfl,hv,w_,hd,hc,hR⟩:=h;cases p<;>simp only[Pat.cls]at hc<;>try exact absurd hc Kv
  rename_i p;obtain⟨u,rfl,hu⟩:=hv;obtain⟨fs,rfl,o1⟩:=hu.objm;rw[Pat.depth]at hd;exact#[_,#[rfl,rfl],_,rfl,p.cls,p.cls_mem,fs,#[rfl,rfl],o1.shw,p,_,Y,-X,rfl,hu,w_,Ko,rfl,hR]
def El(hL:1<=n)(T:V.Tm "Rehue" "shows" "Rehue.shows" ip iq)(uY:V.a "Rehue" "form")(Kh:V.a "Rehue" "old")(Ki:V.a "Rehue" "new")(uG:∀x,x∈(["Motif","Over","Shifted","Mirror","Turn","Rehue"]:List JM)->V.Q n x "shows" cu (ofX (bQ j x))):V.Q (n+1) "Rehue" "shows" iq (ofX (bQ (j+1) "Rehue")):=by
 refine Txm.okM T sc_Rehue_shows (λds M R RX h=>?_) (λf cdv A outer s H E J hr hx=>⟨_,((ai (aD 3 sc_Rehue_shows.nd (aO (hn:=Kw) uG hx hr (aA uY (ad (aa 0))) (ar (ac (aa 1) (ac (aa 2) af)))))
   (am (ax (fM (fH (ad (aa 3)) (aA Kh (ad (aa 0)))) (aA Ki (ad (aa 0))) (ad (aa 3))))))),λds M R RX d8 h=>?_⟩)
 .obtain⟨_,_,_,_,rfl,_⟩:=h;rfl
 .obtain⟨p,v,X,Y,rfl,hv,w_,hd,hc,hR⟩:=h;cases p<;>simp only[Pat.cls]at hc<;>try exact absurd hc Kv
  rename_i f g p;obtain⟨u,rfl,hu⟩:=hv;obtain⟨fs,rfl,o1⟩:=hu.objm;rw[Pat.depth]at hd;refine#[λd M'=>d=.int (p.show X Y)/\M'=M,#[_,#[rfl,rfl],_,rfl,p.cls,p.cls_mem,fs,#[rfl,rfl],o1.shw,p,_,X,Y,rfl,hu,w_.2.2,Ko,rfl,rfl,rfl],?_];rintro _ _⟨rfl,rfl⟩;k_places;rw[Pat.show]at hR;unfold ca at hR;refine#[_,#[rfl,rfl],_,eZ Kv,ite2 (λe=>?_) (λe=>?_)]
  .rw[if_pos (of_decide_eq_true e)]at hR;exact#[_,#[rfl,rfl],_,kX Kv Kv,hR]
  .rw[if_neg (λz=>e (decide_eq_true z))]at hR;exact hR
def Em(PB:V.Tm "Motif" "shows" "Motif.shows" ic cu)(PC:V.Tm "Over" "shows" "Over.shows" ie ig)(PD:V.Tm "Shifted" "shows" "Shifted.shows" ii ij)(PF:V.Tm "Mirror" "shows" "Mirror.shows" ik il)(PH:V.Tm "Turn" "shows" "Turn.shows" im io)(PJ:V.Tm "Rehue" "shows" "Rehue.shows" ip iq)(D_:fo V)(Ke:V.a "Motif" "hues")(uO:V.a "Motif" "shifts")(uZ:V.a "Over" "above")(uT:V.a "Over" "below")(uX:V.a "Shifted" "form")(Kf:V.a "Shifted" "y")(Kg:V.a "Shifted" "x")(uW:V.a "Mirror" "form")(uV:V.a "Turn" "form")(uY:V.a "Rehue" "form")(Kh:V.a "Rehue" "old")(Ki:V.a "Rehue" "new"):∀j x,x∈(["Motif","Over","Shifted","Mirror","Turn","Rehue"]:List JM)->V.Q (1+j) x "shows" cu (ofX (bQ j x)):=by
 intro j;induction j with
 |zero=>
  intro x hx;simp only[F5,Ho,or_false]at hx;rcases hx with rfl|rfl|rfl|rfl|rfl|rfl
  .exact CalMth.never PB (λds M R RX=>fg)
  .exact CalMth.never PC (λds M R RX=>fg)
  .exact CalMth.never PD (λds M R RX=>fg)
  .exact CalMth.never PF (λds M R RX=>fg)
  .exact CalMth.never PH (λds M R RX=>fg)
  .exact CalMth.never PJ (λds M R RX=>fg)
 |succ j LP=>
  intro x hx;simp only[F5,Ho,or_false]at hx;rcases hx with rfl|rfl|rfl|rfl|rfl|rfl
  .exact ok_Motif_shows (n:=1+j) (j:=j) Kw PB D_ Ke uO
  .exact Eg (n:=1+j) (j:=j) Kw PC uZ uT LP
  .exact Eh (n:=1+j) (j:=j) Kw PD uX Kf Kg LP
  .exact Ei (n:=1+j) (j:=j) Kw PF uW LP
  .exact Ej (n:=1+j) (j:=j) Kw PH uV LP
  .exact El (n:=1+j) (j:=j) Kw PJ uY Kh Ki LP
abbrev vw(V:Bx):Prop:=∀x,x∈(["Motif","Over","Shifted","Mirror","Turn","Rehue"]:List JM)->V.Q 7 x "shows" cu (ofX (bQ 6 x))
abbrev iY(V:Bx):Prop:=V.X 8 "cell_at" lK BW
def En(T:V.T "cell_at" lJ lK)(KN:iX V)(K3:V.a "Pattern" "form")(uG:vw V):iY V:=by
 refine CalMM.nilX (Tx.okM T C0 (λds M R RX h=>?_) (λf cdv A outer s H E J hr hx=>⟨_,((ai (bn (aH (CalX.toM KN) hx hr (ar (ac (aa 1) (ac (aa 2) af)))))
   (am (ax (aO uG hx hr (aA K3 (ad (aa 0))) (ar (ac (aa 1) (ac (aa 2) af)))))))),λds M R RX d8 h=>?_⟩))
 .obtain⟨_,R0,J0,⟨_,_,_,_,rfl,_⟩,_⟩:=h;rfl
 .obtain⟨rfl,R0,J0,⟨p,d,x,y,rfl,⟨w,h,s,fs,rfl,e1,e2,hp⟩,ok,h1,h2⟩,hR,hX⟩:=h;obtain⟨v,e3,hv⟩:=hp.form;obtain⟨gs,rfl,o1⟩:=hv.objm;have Q5:=ok.deep;refine#[x,y,rfl,λhn=>?_,λhn=>?_]
  .exact#[_,#[rfl,rfl],_,e3,p.cls,p.cls_mem,gs,#[rfl,rfl],o1.shw,p,_,x,y,rfl,hv,ok.wf,Ko,rfl,hR _ _ (h1 hn)]
  .rw[d8];exact hX _ _ _ (h2 hn)
abbrev iZ(V:Bx):Prop:=V.D 9 "row_from" lL BX
def Eo(T:V.T "row_from" ir lL)(uA:V.m "range")(KO:iY V)(uR:V.gs "SIGNS" ".123456"):iZ V:=by
 refine Tx.okDW T C1 (λds R h=>?_) (λf cdv A outer s H E J hr=>#[_,((az (aM (rZ (kq rfl (compScope (by change dA _ (ag ir) ["pattern","x","y","many"] _=true;decide+kernel)) uA (aa 3) (λcl s0 H0 fp=>(ah (eI uR) (aF (CalX.no KO) hr (ac (aa 0) (ac (aB (aa 1) (aa 4)) (ac (aa 2) af))))))))))),λds R h=>?_])
 .obtain⟨_,_,_,_,_,rfl,_⟩:=h;rfl
 .obtain⟨p,d,x,y,n,rfl,hd,ok,hn,J_,o_,hy,hR⟩:=h;obtain⟨w,h,s,fs,rfl,_⟩:=id hd;refine#[#[Ko,Ko],by rw[bC];lia,λk ys=>ys=rowD p x y k,rfl,?_,?_]
  .rintro k v ys hk hl rfl;obtain⟨s9,rfl⟩:=range_int hk;obtain⟨b0,b6⟩:=Pat.show_le ok.wf (by have:=ok.deep;lia) (x+(k:Int)) y;unfold bb at J_ o_;exact#[p,.obj "Pattern" fs,x+(k:Int),y,rfl,hd,ok,λ_=>#[_,#[Ks,kY b0 b6],BY p x y k],λz=>z #[#[Ko,Ko],hy]]
  .rintro ys hl rfl;rw[bC,G3];obtain⟨ys,e1,e2,e3⟩:=BZ p x y hn;refine#[ys,e1,e2,?_];rw[e3];exact hR
def vx:SpD:=λds R=>∃f q,ds=[.obj "Floor" (Fl.fs f q)]/\f.Ok/\R (.lst (au f.p f.w 0 f.l.toNat))
variable{f:Fl}
def vy{a q:KF}(ne:a≠q)(ok:f.Ok){R:D->MS->Prop}{RX:XDM}(h:R (.lst (au f.p f.w 0 f.l.toNat)) (f.M a q)):lend (λds R _=>vx ds R) [.ptr a] (f.M a q) R RX:=by
 refine#[a,_,_,Fl.ma ne,f,q,?_,ok,Dw _ _ _ _,h];show[lendD a _ (.ptr a)]=_;unfold lendD;simp
abbrev ja(V:Bx):Prop:=V.QD 10 "Floor" "rows" lM vx
def Ep(T:V.Tm "Floor" "rows" "Floor.rows" iu lM)(uA:V.m "range")(K4:iZ V)(uD:V.a "Floor" "laid")(uL:V.a "Floor" "width")(uE:V.a "Floor" "pattern"):ja V:=by
 refine Txm.okDW T C3 (λds R h=>?_) (λf cdv A outer s H E J hr=>#[_,((az (aM (kq rfl (compScope (by change dA _ (ag iu) ["self"] _=true;decide+kernel)) uA (eG uD (aa 0)) (λcl s0 H0 fp=>(aF K4 hr (ac (eG uE (aa 0)) (ac ae (ac (aa 1) (ac (eG uL (aa 0)) af)))))))))),λds R h=>?_])
 .obtain⟨_,_,rfl,_⟩:=h;rfl
 .obtain⟨f,q,rfl,ok,hR⟩:=h;have l0:=ok.l0;have l1:=ok.l1;have h2:=ok.h2;have w1:=ok.w1;have w2:=ok.w2;refine#[rfl,_,dL,#[Ko,Ko],by rw[bC];lia,λk ys=>ys=au f.p f.w 0 k,rfl,?_,?_]
  .rintro k v ys hk hl rfl;obtain⟨s9,rfl⟩:=range_int hk;refine#[rfl,_,gd,rfl,_,fk,f.p,f.d,0,k,f.w.toNat,by rw[Gr Ko],ok.is,ok.ok,Ko,#[Ko,Ko],#[Ko,Ko],#[Ko,Ko],?_];show au f.p f.w 0 k++_=au f.p f.w 0 (k+1);rw[<-iS,Hc]
  .rintro ys hl rfl;rw[bC];exact hR
def S_Floor_lay:SpM:=λds M R RX=>∃a q f n,ds=[.ptr a,.int n]/\a≠q/\M=Fl.M f a q/\f.Ok/\1<=n/\n<=1000/\(f.h-f.l<n->RX "NoRow" [] (f.M a q))/\(n<=f.h-f.l->∀q',a≠q'->R (.lst (au f.p f.w f.l n.toNat)) ((f.lay n).M a q'))
variable{p:Pat}{w h:Int}
def Fl.ok_new{d:D}(is:aZ p d)(ok:p.Ok)(w1:1<=w)(w2:w<=30)(h1:1<=h)(h2:h<=30):(Fl.mk p d w h 0 []).Ok:=#[is,ok,w1,w2,h1,h2,Int.le_refl 0,GJ (show(0:Int)<=1 by decide) h1,Go _,λ_ h=>nomatch h]
def Fl.Ok.keep(ok:f.Ok)(w:JM):(f.keep w).Ok:=by
 refine#[ok.is,ok.ok,ok.w1,ok.w2,ok.h1,ok.h2,ok.l0,ok.l1,?_,λe he=>?_]
 .show(Hm _ _).length<=20;rw[G5,Gc,Hh];have:=ok.de;lia
 .rcases GA.mp (List.mem_of_mem_drop he)with z|z
  .exact ok.dd e z
  .rw[FW.mp z];exact#[ok.is,ok.ok,ok.l0,ok.l1]
def Fl.Ok.stand{d:D}(ok:f.Ok)(is:aZ p d)(o0:p.Ok):(f.stand p d).Ok:=#[is,o0,ok.w1,ok.w2,ok.h1,ok.h2,ok.l0,ok.l1,ok.de,ok.dd]
def Fl.Ok.lay{n:Int}(ok:f.Ok)(n0:0<=n)(hn:n<=f.h-f.l):(f.lay n).Ok:=by
 have l0:=ok.l0;have k:=ok.keep "lay";exact#[ok.is,ok.ok,ok.w1,ok.w2,ok.h1,ok.h2,by show 0<=f.l+n;lia,by show f.l+n<=f.h;lia,k.de,k.dd]
abbrev oV(V:Bx):Prop:=V.Q 11 "Floor" "lay" iw S_Floor_lay/\V.Qd 11 "Floor" "lay" iw [.int 1] S_Floor_lay
def Er(T:V.Td "Floor" "lay" "Floor.lay" lN iw [.int 1])(J3:V.m "max")(uU:V.a "Floor" "height")(uD:V.a "Floor" "laid")(K5:iW V)(K6:ja V)(N8:V.n "NoRow"):oV V:=by
 refine Txd.okMd T sc_Floor_lay (λds M R RX h=>?_) (λf cdv A outer s H E J hr hx=>⟨_,((ai (aR (sS (ad (aa 1)) (cX (aA uU (ad (aa 0))) (aA uD (ad (aa 0))))) (am (sY N8 hx rfl (ar (ac ay af)))) aI)
   (ai (bn (aO (CalMth.one K5) hx hr (ad (aa 0)) (ar (ac ay af))))
   (ai (aD 2 sc_Floor_lay.nd (aA uD (ad (aa 0))))
   (ai (bI uD (ad (aa 0)) (ad (aB (aa 2) (kj rfl J3 (ac (aa 1) (ac ae af))))))
   (am (ax (Cp (bU (CalMth.one (CalMth.lendD K6)) hx hr (ad (aa 0))) (ve (ad (aa 2))) vd)))))))),λds M R RX d8 h=>?_⟩)
 .obtain⟨_,_,⟨_,_,_,_,rfl,_⟩,_⟩:=h;rfl
 .obtain⟨R,RX,⟨a,q,f,n,rfl,ne,rfl,ok,n1,n2,hX,hR⟩,rfl,rfl⟩:=h;have l0:=ok.l0;have l1:=ok.l1;refine#[_,Fl.ma ne,_,iQ,_,Fl.ma ne,_,dL,ite2 (λc=>?_) (λc=>?_)]
  .have c':=of_decide_eq_true c;refine#[Rx,?_];rw[d8];exact#[_,Fl.sub ne,hX c']
  have hc:n<=f.h-f.l:=by have:¬(f.h-f.l<n):=λz=>c (decide_eq_true z);lia
  refine#[_,FW.mpr rfl,_,Fl.ma ne,rfl,a,q,f,"lay",rfl,ne,rfl,ok.de,λq' e_=>?_];refine#[λd M'=>d=.int f.l/\M'=(f.keep "lay").M a q',#[_,Fl.ma e_,_,dL,rfl,rfl],?_];rintro _ _⟨rfl,rfl⟩;k_places;have eM:mput ((f.keep "lay").M a q') a (.ins "Floor" (putD "laid" (.int (f.l+if 0>n then 0 else n)) ((f.keep "lay").fs q')))=(f.lay n).M a q':=by
   rw[Fl.put e_,if_neg Ko];rfl
  refine#[_,Fl.ma e_,by show(6:Nat)<1000;decide,?_];rw[eM];have el:(f.lay n).l.toNat=f.l.toNat+n.toNat:=by show(f.l+n).toNat=_;lia
  refine#[_,FW.mpr rfl,_,Fl.ma e_,rfl,?_];dsimp only[mNil];refine vy e_ (ok.lay Ko hc) ?_;rw[el];show ∃N,subM N _/\R (.lst (cutD (au f.p f.w 0 _) (be f.l) G_)) N;rw[vj _ _ _ l0];exact#[_,Fl.sub e_,hR hc q' e_]
def Es:SpM:=λds M R _=>∃a q f n b,ds=[.ptr a,.int n,.bl b]/\a≠q/\M=Fl.M f a q/\f.Ok/\1<=n/\n<=1000/\(f.h-f.l<n->R (.lst [.bl true,.non]) (f.M a q))/\(n<=f.h-f.l->∀q',a≠q'->R (.lst [.bl false,.lst (au f.p f.w f.l n.toNat)]) ((f.lay n).M a q'))
abbrev oW(V:Bx):Prop:=V.Ek ["TooFar","NoRow","Parted","NothingKept"]
abbrev jb(V:Bx):Prop:=V.MM 12 "_law_lay" lQ Es
def Et(T:V.T "_law_lay" lP lQ)(Mx:oV V)(ek:oW V):jb V:=by
 refine Tx.okM T sc__law_lay (λds M R RX h=>?_) (λf cdv A outer s H E J hr hx=>⟨_,((ai (aD 3 sc__law_lay.nd (ad cf))
   (ai (aD 4 sc__law_lay.nd (ad aV))
   (ai (tI (λpn xe J hp hx=>(am (cP (bg (cM (jY (bM (aa 1) ae) (jX (cx (aa 2)))))) (am (aD 3 sc__law_lay.nd (Cw Mx.2 hx hr (ad (aa 0))))) (am (aD 3 sc__law_lay.nd (aO (CalMth.one Mx.1) hx hr (ad (aa 0)) (ar (ac (aa 1) af)))))))) (λ_=>(zm ek (λe=>(az (aC 4 sc__law_lay.nd aV))) sG)))
   (am (ax (ad (cU (ac (aa 4) (ac (aa 3) af)))))))))),λds M R RX d8 h=>?_⟩)
 .obtain⟨_,_,_,_,_,rfl,_⟩:=h;rfl
 .obtain⟨a,q,f,n,b,rfl,ne,rfl,ok,n1,n2,hX,hR⟩:=h;refine#[λd M'=>d=.non/\M'=f.M a q,#[rfl,rfl],?_];rintro _ _⟨rfl,rfl⟩;k_places;refine#[λd M'=>d=.bl false/\M'=f.M a q,#[rfl,rfl],?_];rintro _ _⟨rfl,rfl⟩;k_places;refine#[λz M' x fs=>z=[be (.ptr a),be (.int n),be (.bl b),be .non,be (.bl false)]/\M'=f.M a q/\x="NoRow"/\f.h-f.l<n,λJ hJ=>?_,?_]
  .let P:D->MS->Prop:=λd M'=>n<=f.h-f.l/\∃q',a≠q'/\d=.lst (au f.p f.w f.l n.toNat)/\M'=(f.lay n).M a q'
   have lay:S_Floor_lay [.ptr a,.int n] (f.M a q) P (λx fs M'=>J.RM [be (.ptr a),be (.int n),be (.bl b),be .non,be (.bl false)] M' x fs):=
    #[a,q,f,n,rfl,ne,rfl,ok,n1,n2,λc=>by rw[hJ];exact#[rfl,rfl,rfl,c],λc q' e_=>#[c,q',e_,rfl,rfl]]
   refine#[λz M'=>n<=f.h-f.l/\∃q',a≠q'/\z=[be (.ptr a),be (.int n),be (.bl b),be (.lst (au f.p f.w f.l n.toNat)),be (.bl false)]/\M'=(f.lay n).M a q',ite2 (λc=>ite2 (λ_=>?_) (λ_=>?_)) (λ_=>?_),λz M' ⟨c,q',e_,e1,e2⟩=>?_]
   .have c':n=1:=of_decide_eq_true c;subst c';exact#[P,#[_,Fl.ma ne,rfl,lay],λd M' ⟨c,q',e_,e1,e2⟩=>#[c,q',e_,by rw[e1];rfl,e2]]
   .exact#[P,#[_,FW.mpr rfl,_,Fl.ma ne,rfl,lay],λd M' ⟨c,q',e_,e1,e2⟩=>#[c,q',e_,by rw[e1];rfl,e2]]
   .exact#[P,#[_,FW.mpr rfl,_,Fl.ma ne,rfl,lay],λd M' ⟨c,q',e_,e1,e2⟩=>#[c,q',e_,by rw[e1];rfl,e2]]
   .subst e1 e2;exact#[Lr,hR c q' e_]
  .rintro z M' x fs⟨rfl,rfl,rfl,c⟩;k_places;refine#[#[KK,KK],?_];rw[if_pos Kv];exact#[λd=>d=.bl true,rfl,λd e=>by subst e;exact#[#[Lr,hX c],NoOwn.of rfl]]
def Eu:SpD:=λds R=>∃(p:Pat) (w lo:Int) (n:Nat),ds=[.lst (au p w lo n),.lst (au p w lo n)]/\n<=1000/\R (.bl true)
abbrev jc(V:Bx):Prop:=V.D 1 "_law_texts" lU Eu
def Ev(T:V.T "_law_texts" lR lU)(uB:V.m "len")(uF:V.m "isinstance")(J2:V.m "list")(uA:V.m "range")(uK:V.m "str"):jc V:=by
 refine Tx.okDW T sc__law_texts (λds R h=>?_) (λf cdv A outer s H E J hr=>⟨_,((aq (cB (cM (dv (dw (cx (dz uF J2 (aa 0) PyProof.Rows.boot_list kit_list))) (eA (cw (cL uB (ac (aa 0) af)) (cL uB (ac (aa 1) af)))))) (az (aM aV)) bN)
   (aq (cm 2 PassesOwn.never rfl sc__law_texts.nd uA (cL uB (ac (aa 1) af)) (az (cB (cM (dv (dw (cx (dz uF uK (ah (aa 0) (aa 2)) PyProof.Rows.boot_str kit_str))) (eA (cw (ah (aa 0) (aa 2)) (ah (aa 1) (aa 2)))))) (az (aM aV)) bN)))
   (az (aM aV))))),λds R h=>?_⟩)
 .obtain⟨_,_,_,_,rfl,_⟩:=h;rfl
 .obtain⟨p,w,lo,n,rfl,n7,hR⟩:=h;have lp:(au p w lo n).length=n:=by unfold au;simp
  refine ite2 (λc=>absurd c KK) λ_=>?_;refine#[#[Ko,by rw[lp];lia],λk z=>∃o,z=[be (.lst (au p w lo n)),be (.lst (au p w lo n)),o],#[_,rfl],?_,?_]
  .rintro k v z hk⟨o,rfl⟩;k_places;obtain⟨s9,rfl⟩:=range_int hk;rw[lp]at s9;have ak:=DJ (p:=p) (w:=w) (lo:=lo) (show k<n by lia);exact#[_,ak,_,ak,_,ak,ite2 (λc=>absurd c KK) λ_=>#[_,rfl]]
  .rintro z⟨o,rfl⟩;k_places;exact hR
def Ew:SpM:=λds M R _=>∃(ps:Nat->Pat) (a q b c:KF) (f:Fl) (s:Nat) (zs:List (Nat×Deed)) (g9 sp:Int),ds=[.ptr a,.int g9,.int sp,.lst (au (ps s) f.w 0 f.h.toNat),.ptr b,.ptr c]/\[c,b,q,a].Nodup/\M=HM b c f s zs a q/\Fl.Ok f/\Hi ps f s zs/\f.l<=g9/\g9<=f.h/\zs.length<=4/\∀g q' d9,[c,b,q',a].Nodup->g.Ok->Hi ps g s d9->g.w=f.w->g.h=f.h->d9.length<=zs.length+4->R (.bl true) (HM b c g s d9 a q')
abbrev oX(V:Bx):Prop:=V.MM 13 "_law_laid" lW Ew
def Ey(T:V.T "_law_laid" lV lW)(uA:V.m "range")(uM:V.m "int")(K7:jb V)(K8:jc V):oX V:=by
  refine Tx.okM T sc__law_laid (λds M R RX h=>?_) (λf cdv A outer s H E J hr hx=>⟨_,((ai (kD 6 PassesOwn.leaving rfl sc__law_laid.nd uA (ad ae) (ai (lf rfl (kE (ad (aa 4)) (ad (cK ae))) (dg_cons 7 sc__law_laid.nd (dg_cons 8 sc__law_laid.nd cN)))
        (ai (aD 9 sc__law_laid.nd (ad (ah (cU (ac (bz (bL (aa 1) (aa 8)) ae) (ac (bL (aa 1) (aa 8)) af))) (ki uM (ac (yo (dX (aa 6) ae) (fC (yd (aa 2) (aa 6)))) af)))))
        (am (cP (bg (dZ (aa 9) ae)) (ai (CK rfl (aH (CalMM.splitN K7) hx hr (ar (ac (aa 0) (ac (aa 9) (ac aV af))))) (dg_cons 10 sc__law_laid.nd (dg_cons 11 sc__law_laid.nd cN)))
         (ai (aR (bg (cM (dv (cx (aa 10)) (eA (dw (cx (aF K8 hr (ac (aa 11) (ac (dD (aa 3) (cW (aa 8)) (cW (aB (aa 8) (aa 9)))) af))))))))) (am (ax (ad aV))) aI)
         (ai (bn (dE (ad (aa 4)) (ad (aW (ac (aa 7) (ac (aB (aa 8) (aa 9)) af))))))
         (am (bn (dE (ad (aa 5)) (ad ay))))))) aI)))))
      (am (ax (ad aV))))),λds M R RX d8 h=>?_⟩)
  . obtain⟨_,_,_,_,_,_,_,_,_,_,rfl,_⟩:=h;rfl
  . obtain⟨ps,a,q,b,c,f,s,zs,g9,sp,rfl,nd,rfl,ok,hi,gl,gh,z4,hR⟩:=h;refine#[#[Ks,Ks],λk z M=>∃g q' d9 o6 o7 o8 o9 m6 m7,z=[be (.ptr a),be (.int g9),be (.int sp),be (.lst (au (ps s) f.w 0 f.h.toNat)),be (.ptr b),be (.ptr c),o6,o7,o8,o9,m6,m7]/\M=HM b c g s d9 a q'/\[c,b,q',a].Nodup/\g.Ok/\Hi ps g s d9/\g.w=f.w/\g.h=f.h/\g.l<=g9/\d9.length<=zs.length+k,#[f,q,zs,_,_,_,_,_,_,rfl,rfl,nd,ok,hi,rfl,rfl,gl,FX _],?_,?_]
    rotate_left
    . rintro z M⟨g,q',d9,o6,o7,o8,o9,m6,m7,rfl,rfl,m5,g6,hg,ew,eh,_,gz⟩;k_places;exact hR g q' d9 m5 g6 hg ew eh gz
    rintro k v z M hk⟨g,q,d9,o6,o7,o8,o9,m6,m7,rfl,rfl,nd,g6,hg,ew,eh,gg,gz⟩;k_places;obtain⟨s9,rfl⟩:=range_int hk;have Q6:k<4:=s9;have l0:=g6.l0;have l1:=g6.l1;have h2:=g6.h2;have n1:c≠b:=λe=>Pg
    have ne:a≠q:=λe=>Pg
    have mb:∀{xs ys:List D} {N:MS},mget ((c,.lst xs)::(b,.lst ys)::N) b=be (.lst ys):=(bX n1).trans bc;have pb:∀{xs ys KP:List D} {N:MS},mput ((c,.lst xs)::(b,.lst ys)::N) b (.lst KP)=(c,.lst xs)::(b,.lst KP)::N:=by
      intro xs ys KP N;rw[cH n1,bw]
    have key:∀u:Bool,∃d,atI [D.int ((g9-g.l)/2),.int (g9-g.l)] (if u=true then 1 else 0)=be d/\HM b c g s d9 a q=HM b c g s d9 a q/\∃n:Int,d=.int n/\0<=n/\g.l+n<=g9:=λu=>by
      cases u
      . exact#[_,rfl,rfl,_,rfl,Ko,Ko]
      . exact#[_,rfl,rfl,_,rfl,Ko,Ko]
    refine#[_,mb,_,vt,rfl,?_];refine#[λd M'=>M'=HM b c g s d9 a q/\∃n:Int,d=.int n/\0<=n/\g.l+n<=g9,#[Ks,Lr,ite2 (λ_=>key true) (λ_=>key _)],?_];rintro _ _⟨rfl,n,rfl,n0,ng⟩;k_places;refine#[_,ite2 (λcc=>?_) (λcc=>?_),λ_ _ h=>h]
    . have c':0<n:=of_decide_eq_true cc;refine#[[(c,.lst (wdL d9)),(b,.lst (stL g s d9))],g.M a q,#[λ_ h=>h,nd],a,q,g,n,true,rfl,ne,rfl,g6,Ko,Ko,λz=>absurd z Ko,λ_ q' e_ m5=>#[rfl,?_]];refine#[g.p,g.w,g.l,n.toNat,?_,Ko,?_]
      . show[D.lst (au g.p g.w g.l n.toNat),D.lst (cutD (au (ps s) f.w 0 f.h.toNat) (be g.l) (be (g.l+n)))]=_;rw[DL l0 Ko Ko,hg.p,ew]
      simp only[GU,GS];refine#[#[_,mb],Lr,_,mb,by rw[iU];lia,?_];rw[pb];refine#[#[_,bc],_,bc,by unfold wdL;rw[Gb];lia,?_];rw[bw];refine#[g.lay n,q',Hi.add d9 g s "lay",_,_,_,_,_,_,rfl,?_,m5,g6.lay Ko Ko,hg.next (oG (by rw[hg.len];lia)) hg.p hg.s2,ew,eh,ng,by rw[oO];lia];unfold HM;rw[oM,oN];rfl
    . exact#[g,q,d9,_,_,_,_,_,_,rfl,rfl,nd,g6,hg,ew,eh,gg,Ko]
def Ez:SpD:=λds R=>∃(p q:Pat) (w h X Y o n W:Int) (L:Nat),ds=[.lst [.str p.text,.int w,.int h,.int X,.int Y,.int o,.int n],.int W,.int L]/\Ndl p w h X Y o n/\(∀x y,q.show x y=o)/\0<=W/\W<=30/\L<=30/\(Same2 p q W L->R .non)/\∀x y,First2 p q W L x y->R (.tup [.int x,.int y])
abbrev oY(V:Bx):Prop:=V.D 1 "_law_first_lone" lZ Ez
def EA(T:V.T "_law_first_lone" lY lZ)(uA:V.m "range"):oY V:=by
 refine Tx.okDW T sc__law_first_lone (λds R h=>?_) (λf cdv A outer s H E J hr=>⟨_,((aq (cm 3 PassesOwn.never rfl sc__law_first_lone.nd uA (aa 2) (az (cm 4 PassesOwn.never rfl sc__law_first_lone.nd uA (aa 1) (az (cB (cM (jY (bM (aK (aa 4) (ah (aa 0) ae)) (ah (aa 0) ae)) (jX (bM (aK (aa 3) (ah (aa 0) ae)) (ah (aa 0) ae))))) (az (aM (aW (ac (aa 4) (ac (aa 3) af))))) bN)))))
   (az (aM cf)))),λds R h=>?_⟩)
 .obtain⟨_,_,_,_,_,_,_,_,_,_,rfl,_⟩:=h;rfl
 .obtain⟨p,q,w,h,X,Y,o,n,W,L,rfl,N,hq,W0,W7,L7,hN,hS⟩:=h
  let z0:SD:=[be (.lst [.str p.text,.int w,.int h,.int X,.int Y,.int o,.int n]),be (.int W),be (.int L)]
  have w0:=N.fam.f.w0;have h0:=N.fam.f.h0;have un:∀x y:Int,¬(x%w=X/\y%h=Y)->p.show x y=q.show x y:=λx y c=>by rw[N.sh,if_neg c,hq]
  refine#[#[Ko,Ko],λj z=>∃o3 o4,z=z0++[o3,o4]/\Same2 p q W j,#[_,_,rfl,λx y _ _ a b=>Ko],?_,?_]
  .rintro j v z hj⟨o3,o4,rfl,LQ⟩;k_places;obtain⟨LN,rfl⟩:=range_int hj;refine#[#[Ko,Ko],λi z=>∃o4,z=z0++[be (.int j),o4]/\∀x:Int,0<=x->x<i->p.show x j=q.show x j,#[_,rfl,λx a b=>Ko],?_,?_]
   .rintro i v z hi⟨o4,rfl,l5⟩;k_places;obtain⟨D',rfl⟩:=range_int hi;have LR:¬((i:Int)%w=X/\(j:Int)%h=Y)->∀x:Int,0<=x->x<((i+1:Nat):Int)->p.show x j=q.show x j:=λc x a b=>by
     by_cases e:x=i
     .rw[e];exact un _ _ c
     .exact l5 x a Ko
    refine#[_,rfl,w0,_,rfl,ite2 (λc=>#[_,rfl,h0,_,rfl,ite2 (λd=>?_) (λd=>#[_,rfl,LR λz=>d (decide_eq_true z.2)])]) (λc=>#[_,rfl,LR λz=>c (decide_eq_true z.1)])];refine#[Lr,hS i j #[#[Ko,Ko,Ko,Ko],?_,λx' y' a b c' d'=>?_]]
    .rw[N.sh,if_pos #[of_decide_eq_true c,of_decide_eq_true d],hq];exact N.ne
    .rcases d' with d'|⟨rfl,d'⟩
     .exact LQ x' y' a b c' Ko
     .exact l5 x' a Ko
   .rintro z⟨o4,rfl,l5⟩;k_places;rw[bC,Gr W0]at l5;refine#[_,_,rfl,λx y a b c d=>?_];by_cases e:y=j
    .rw[e];exact l5 x a Ko
    .exact LQ x y a b c Ko
  .rintro z⟨o3,o4,rfl,LQ⟩;k_places;rw[bC,G3]at LQ;exact hN LQ
abbrev dh(V:Bx):Prop:=V.Q 1 "Reading" "may_take" me Bp
def EB(T:V.Tm "Reading" "may_take" "Reading.may_take" md me)(uB:V.m "len")(Kj:V.a "Reading" "text")(uN:V.a "Reading" "place"):dh V:=by
 refine Txm.okM T C4 (λds M R RX h=>?_) (λf cdv A outer s H E J hr hx=>⟨_,((ai (aR (mt_w (fL (fH (aA uN (ad (aa 0))) (sU uB (aw (aA Kj (ad (aa 0))) aS))) (fK (zG (kB (aA Kj (ad (aa 0))) (aA uN (ad (aa 0)))) (ad (aa 1)))))) (am (ax (ad ay))) aI)
   (ai (bI uN (ad (aa 0)) (gQ (aA uN (ad (aa 0))) (ad ae)))
   (am (ax (kB (aA Kj (ad (aa 0))) (cX (aA uN (ad (aa 0))) (ad ae)))))))),λds M R RX d8 h=>?_⟩)
 .obtain⟨_,_,_,_,_,rfl,_⟩:=h;rfl
 .obtain⟨a,t,k,l,al,rfl,rfl,d5,hR⟩:=h;refine#[_,aT,_,eU,_,aT,_,kU,Ga d5.sz Ks,?_];cases l with
  |nil=>
   refine ifdT (by rw[d5.nil]) (ifT rfl ?_);exact hR
  |cons c l=>
   have lt:=d5.lt;refine ifdF Ko ?_;refine#[_,aT,_,kU,_,aT,_,eU,c,#[Ga d5.sz Ks,cT d5.get],?_];refine ite2 (λe=>?_) (λe=>?_)
   .have e2:(!(!(Builtin.Str.occurrences al #[[c].toArray] 0 al.length 1).isEmpty))=true:=e;rw[ue]at e2;have nc:c∉cs al:=by simpa using e2
    rw[dH nc,dI nc]at hR;exact hR
   .have e2:¬(!(!(Builtin.Str.occurrences al #[[c].toArray] 0 al.length 1).isEmpty))=true:=e;rw[ue]at e2;have nc:c∈cs al:=by simpa using e2
    rw[eV nc,eX nc]at hR;refine#[_,aT,_,eU,_,aT,by show(2:Nat)<1000;decide,?_];rw[show mput (RdM a t k) a (.ins "Reading" (putD ("place":JM) (.int ((k:Int)+1)) (rdF t k)))=RdM a t (k+1)by rw[Bn];exact hU];refine#[_,aT,_,kU,_,aT,_,eU,c,#[Ga d5.sz Ks,?_],hR];rw[show((k+1:Nat):Int)-1=(k:Int)by lia];exact cT d5.get
abbrev cI(V:Bx):Prop:=V.Q 2 "Reading" "take" mh Bq
def EC(T:V.Tm "Reading" "take" "Reading.take" mf mh)(uJ:dh V):cI V:=by
 refine Txm.okM T sc_Reading_take (λds M R RX h=>?_) (λf cdv A outer s H E J hr hx=>⟨_,((ai (aD 2 sc_Reading_take.nd (aO (CalMth.one uJ) hx hr (ad (aa 0)) (ar (ac (aa 1) af))))
   (ai (aR (bg (bM (aa 2) ay)) (am gZ) aI)
   (am (ax (ad (aa 2))))))),λds M R RX d8 h=>?_⟩)
 .obtain⟨_,_,_,_,_,_,rfl,_⟩:=h;rfl
 .obtain⟨a,t,k,c,l,al,rfl,rfl,d5,hc,hR⟩:=h;refine#[λd M'=>d=.str #[[c].toArray]/\M'=RdM a t (k+1),#[_,FW.mpr rfl,_,aT,df,a,t,k,_,al,rfl,rfl,d5,by rw[eV hc,eX hc];exact#[rfl,rfl]],?_];rintro _ _⟨rfl,rfl⟩;k_places;exact hR
abbrev oZ(V:Bx):Prop:=V.MM 3 "line_from" mj S_line_from
def EE(T:V.T "line_from" mi mj)(uA:V.m "range")(uR:V.gs "SIGNS" ".123456")(uC:cI V)(uJ:dh V):oZ V:=by
 refine Tx.okM T sc_line_from (λds M R RX h=>?_) (λf cdv A outer s H E J hr hx=>⟨_,((ai (aD 3 sc_line_from.nd (ad ay))
   (ai (kD 4 PassesOwn.leaving rfl sc_line_from.nd uA (ad (aa 2)) (am (aD 3 sc_line_from.nd (gQ (ad (aa 3)) (fM (bg (fB (aa 4) (aa 1))) (aO (CalMth.one uC) hx hr (ad (aa 0)) (ar (ac (eI uR) af))) (aO (CalMth.one uJ) hx hr (ad (aa 0)) (ar (ac (eI uR) af))))))))
   (am (ax (ad (aa 3))))))),λds M R RX d8 h=>?_⟩)
 .obtain⟨_,_,_,_,_,_,_,rfl,_⟩:=h;rfl
 .obtain⟨a,t,k,n,m,x,l,rfl,rfl,d5,hs,hn,hm,RR,j8,hR⟩:=h;refine#[λd M'=>d=.str ""/\M'=RdM a t k,#[rfl,rfl],?_];rintro _ _⟨rfl,rfl⟩;k_places;refine#[#[Ko,Ko],λi z M'=>i<=m/\∃col,z=[be (.ptr a),be (.int n),be (.int m),be (.str #[(x.take i).toArray]),col]/\M'=RdM a t (k+min i x.length),#[Go _,G_,rfl,by rw[Nat.zero_min];rfl],?_,?_]
  .rintro i d z M' hi⟨RS,col,rfl,rfl⟩;k_places;obtain⟨D',rfl⟩:=range_int hi;have D':i<m:=by lia
   have c5:=List.length_take_le i x;refine#[λd M'=>d=.str #[(x.take (i+1)).toArray]/\M'=RdM a t (k+min (i+1) x.length),?_,?_]
   .by_cases ge:i<x.length
    .have e1:x.take (i+1)=x.take i++[x[i]]:=List.take_succ_eq_append_getElem ge;have d6:At t (k+i) (x[i]::(x.drop (i+1)++l)):=by
      have:=d5;rw[<-List.take_append_drop i x,Gx,Il ge]at this;have:=this.app;rw[Hz,Hd Ko]at this;exact this
     have hc:=signs_is.mpr (Bm (hs x[i] (Hk ge)));have e2:(#[(x.take i).toArray]:JM)++#[[x[i]].toArray]=#[(x.take (i+1)).toArray]:=by rw[show(#[[x[i]].toArray]:JM)=#[[x[i]].toArray]from rfl,fU,e1]
     rw[Hd Ko,Hd Ko];refine ite2 (λ_=>?_) (λ_=>?_)
     .exact#[_,FW.mpr rfl,_,aT,cb,a,t,_,_,_,".123456",rfl,rfl,d6,hc,by rw[eY,show(#[[x[i]].toArray]:JM).length=1 from rfl];lia,congrArg D.str e2,rfl]
     .refine#[_,FW.mpr rfl,_,aT,df,a,t,_,_,".123456",rfl,rfl,d6,?_];rw[eV hc,eX hc];exact#[by rw[eY,show(#[[x[i]].toArray]:JM).length=1 from rfl];lia,congrArg D.str e2,rfl]
    .obtain⟨c,l',rfl,hc⟩:=j8.resolve_left Ko;have d6:=d5.app;rw[HU Ko,HU Ko,G9 Ko,G9 Ko];refine ite2 (λc=>absurd (of_decide_eq_true c) Ko) (λ_=>?_);refine#[_,FW.mpr rfl,_,aT,df,a,t,_,_,".123456",rfl,rfl,d6,?_];rw[dH (uf hc),dI (uf hc)];refine#[by rw[eY,show("":JM).length=0 from rfl];lia,?_,rfl];rw[show("":JM)=#[([]:List Nat).toArray]from rfl,fU,Gw]
   .rintro _ _⟨rfl,rfl⟩;k_places;exact#[D',_,rfl,trivial]
  .intro z M' hz;rw[bC,G3]at hz;obtain⟨_,col,rfl,rfl⟩:=hz;rw[G9 hm,HU hm];exact hR
abbrev pd(V:Bx):Prop:=V.MM 4 "lines_from" mm Bw
def EF(T:V.T "lines_from" ml mm)(uB:V.m "len")(Mz:oZ V)(MB:V.gi "LONGEST" 8)(uJ:dh V):pd V:=by
 refine Tx.okM T sc_lines_from (λds M R RX h=>?_) (λf cdv A outer s H E J hr hx=>⟨_,((ai (aD 1 sc_lines_from.nd (eO (aw (aH (CalMM.frame Mz) hx hr (ar (ac (aa 0) (ac ae (ac (eH MB) af))))) aS)))
   (ai (aD 2 sc_lines_from.nd (sU uB (aw (kE (ad (aa 1)) (ad ae)) aS)))
   (ai (sZ PassesOwn.leaving (mt_w (zI (sR (fN uB (ad (aa 1))) (ad (eH MB))) (zH (fH (aO (CalMth.one (CalMth.frame uJ)) hx hr (ad (aa 0)) (ar (ac ay af))) (ad ay))))) (am (bn (dE (ad (aa 1)) (aH (CalMM.frame Mz) hx hr (ar (ac (aa 0) (ac (aa 2) (ac (aa 2) af)))))))))
   (tf 1 (am (ax (ad (aa 1))))))))),λds M R RX d8 h=>?_⟩)
 .obtain⟨_,_,_,_,_,_,rfl,_⟩:=h;rfl
 .obtain⟨a,t,k,L,w,l,rfl,rfl,hL,d5,hR⟩:=h;have hw:=hL.w1;have Q7:=hL.w8;have E_:=hL.many;cases L with
  |nil=>exact absurd E_.1 Ks
  |cons x L=>
   obtain⟨J_,o_⟩:=hL.each x Gd;rw[ud]at d5 hR;rw[Gx]at d5;rw[F7]at E_;have stop:∀N:List (List Nat),∃c l',rowsT N++59::l=c::l'/\isSg c=false:=λN=>by
    cases N with
    |nil=>exact#[59,l,rfl,rfl]
    |cons y N=>exact#[47,_,rfl,rfl]
   refine#[λd M'=>∃p,p≠a/\d=.ptr p/\M'=(p,.lst [.str #[x.toArray]])::RdM a t (k+x.length),#[[],RdM a t k,rfl,a,t,k,1,8,x,_,rfl,rfl,d5,o_,Ko,Ko,Ks,.inr (stop L),by show 1<=1000;decide,λp hp=>#[p,λe=>hp (by rw[e];exact FW.mpr rfl),rfl,rfl]],?_];rintro _ _⟨p,Q8,rfl,rfl⟩;k_places;refine#[λd M'=>d=.int w/\M'=(p,.lst [.str #[x.toArray]])::RdM a t (k+x.length),#[_,cR,_,rfl,by rw[eY];lia,by rw[eY,J_],rfl],?_];rintro _ _⟨rfl,rfl⟩;k_places;refine#[λm z M'=>∃L1 L2 k',L=L1++L2/\m=L2.length/\At t k' (rowsT L2++59::l)/\k'+(rowsT L2).length=k+(x++rowsT L).length/\z=[be (.ptr a),be (.ptr p),be (.int w)]/\M'=(p,.lst (lstD (x::L1)))::RdM a t k',#[_,[],L,_,rfl,rfl,d5.app,by rw[Gc];lia,rfl,rfl],?_];rintro m z M'⟨L1,L2,k',rfl,rfl,j6,hk,rfl,rfl⟩;k_places;rw[Gc]at E_;have LS:(lstD (x::L1)).length=L1.length+1:=by simp[lstD]
   have done:L2=[]->R (.lst (lstD (x::L1))) (RdM a t k'):=λe=>by
    subst e;rw[show k'=k+(x++rowsT (L1++[])).length from hk,show lstD (x::L1)=lstD (x::(L1++[]))by rw[Gw]];exact hR
   refine#[_,cR,?_];rw[LS];refine ite2 (λc=>?_) (λc=>?_)
   .refine#[_,FW.mpr rfl,_,Bv Q8,df,[(p,_)],RdM a t _,rfl,a,t,_,_,"/",rfl,rfl,j6,?_];cases L2 with
    |nil=>
     rw[show rowsT []++59::l=59::l from rfl,dH Ks,dI Ks];refine#[_,cR,?_];rw[show mdel ([(p,MO.lst (lstD (x::L1)))]++RdM a t (k'+0)) p=RdM a t k' from kW];exact done rfl
    |cons y N=>
     have e1:rowsT (y::N)++59::l=47::(y++(rowsT N++59::l)):=by simp[rowsT]
     have PK:(47:Nat)∈cs "/":=Ks
     rw[e1]at j6 ⊢;rw[eV PK,eX PK];obtain⟨Q9,LI⟩:=hL.each y (F8 _ (Gn _ Gd));have s_:=j6.next;refine#[#[_,cR],[(p,_)],RdM a t _,rfl,a,t,_,w,w,y,_,rfl,rfl,s_,LI,Ko,Ko,Q7,.inl Q9,?_];refine#[_,cR,by rw[LS];lia,N.length,by rw[F7];lia,L1++[y],N,_,KK,rfl,s_.app,?_,rfl,?_]
     .rw[<-hk];simp[rowsT];lia
     .show mput ((p,MO.lst (lstD (x::L1)))::RdM a t _) p _=_;rw[uh];simp[lstD]
   .have c':L1.length+1=8:=by
     have:¬((L1.length+1:Nat):Int)<8:=λz=>c (decide_eq_true z);lia
    refine#[_,cR,?_];rw[kW];exact done (Hn Ko)
abbrev pe(V:Bx):Prop:=V.MM 3 "number_from" mo Bt
def EG(T:V.T "number_from" mn mo)(uM:V.m "int")(uJ:dh V)(uC:cI V):pe V:=by
  refine Tx.okM T sc_number_from (λds M R RX h=>?_) (λf cdv A outer s H E J hr hx=>⟨_,((ai (aR (fH (aO (CalMth.one uJ) hx hr (ad (aa 0)) (ar (ac ay af))) (ad ay)) (am (ax (ad ae))) aI)
      (ai (aD 1 sc_number_from.nd (gQ (aO (CalMth.one uJ) hx hr (ad (aa 0)) (ar (ac ay af))) (aO (CalMth.one uC) hx hr (ad (aa 0)) (ar (ac ay af)))))
      (ai (cP (bg (cx (zE (aa 1) (ac ay af)))) (am (aD 1 sc_number_from.nd (gQ (ad (aa 1)) (aO (CalMth.one uJ) hx hr (ad (aa 0)) (ar (ac ay af)))))) aI)
      (am (ax (ad (ki uM (ac (aa 1) af))))))))),λds M R RX d8 h=>?_⟩)
  . obtain⟨_,_,_,_,_,_,rfl,_⟩:=h;rfl
  . obtain⟨a,t,k,x,e,l,rfl,rfl,ge,he,d5,hR⟩:=h;have hi:=Br ge;have hl:=cn ge;rw[<-bq]at hl;change (numL x).length<=3 at hl;refine#[_,FW.mpr rfl,_,aT,df,a,t,k,_,"0",rfl,rfl,d5,?_];rcases numS ge with e0|⟨pre,c,y,hp,hc,ev,hy⟩
    . rw[e0]at hR hi ⊢;have e1:x=0:=Option.some.inj (hi.symm.trans Kv);subst e1;have e2:(48:Nat)∈cs "0":=by decide
      rw[show([48]++e::l:List Nat)=48::e::l from rfl,eV e2,eX e2];exact hR
    rw[ev]at d5 hR hi hl ⊢;have h0:mayS "0" (pre++c::y++e::l)=""/\mayN "0" (pre++c::y++e::l)=0:=by
      have n:c∉cs "0":=λq=>by have:=FW.mp q;lia
      rcases hp with rfl|rfl
      . exact#[dH n,dI n]
      . exact#[dH Ks,dI Ks]
    have hm:mayS "-" (pre++c::y++e::l)=#[pre.toArray]/\mayN "-" (pre++c::y++e::l)=pre.length:=by
      have n:c∉cs "-":=λq=>by have:=FW.mp q;lia
      rcases hp with rfl|rfl
      . exact#[dH n,dI n]
      . exact#[rfl,rfl]
    rw[h0.1,h0.2];have d6:At t (k+pre.length) (c::(y++e::l)):=by rw[Gx]at d5;exact d5.app
    have j6:=d6.next;refine#[λd M'=>d=.str #[(pre++[c]).toArray]/\M'=RdM a t (k+pre.length+1),?_,?_]
    . refine#[_,FW.mpr rfl,_,aT,df,a,t,k,_,"-",rfl,rfl,d5,?_];rw[hm.1,hm.2];refine#[_,FW.mpr rfl,_,aT,cb,a,t,k+pre.length,c,_,"123456789",rfl,rfl,d6,digits19.mpr hc,?_,?_,rfl]
      . rcases hp with rfl|rfl<;>simp[Str.length]
      . rw[show(#[[c].toArray]:JM)=#[[c].toArray]from rfl,fU]
    . rintro _ _⟨rfl,rfl⟩;k_places;refine#[λz M'=>z=[be (.ptr a),be (.str #[(pre++c::y).toArray])]/\M'=RdM a t (k+(pre++c::y).length),?_,?_]
      . show if Txt.endswith #[(pre++[c]).toArray] "1"=true then _ else _
        rw[Bs];refine ite2 (λz=>?_) (λz=>?_)
        . obtain⟨e1,e2,e3⟩:(⟨(pre++[c]).toArray⟩:JM)++mayS "012" (y++e::l)=⟨(pre++c::y).toArray⟩/\mayN "012" (y++e::l)=y.length/\(mayS "012" (y++e::l)).length<=1:=by
            rcases hy with rfl|⟨_,d,hd,rfl⟩
            . have n:e∉cs "012":=λq=>by have:=digits02.mp q;unfold endS at he;lia
              rw[GS,dH n,dI n];refine#[?_,rfl,Ks];rw[show("":JM)=#[([]:List Nat).toArray]from rfl,fU];simp
            . rw[show([d]++e::l:List Nat)=d::e::l from rfl,eV (digits02.mpr hd),eX (digits02.mpr hd)];refine#[?_,rfl,FX 1];rw[show(#[[d].toArray]:JM)=#[[d].toArray]from rfl,fU];simp
          refine#[λv M'=>v=.str #[(pre++c::y).toArray]/\M'=RdM a t (k+(pre++c::y).length),#[_,FW.mpr rfl,_,aT,df,a,t,_,_,"012",rfl,rfl,j6,?_],?_]
          . refine#[?_,congrArg D.str e1,?_]
            . rcases hp with rfl|rfl<;>simp[Str.length]at e3 ⊢<;>lia
            . rw[e2];congr 1;simp;lia
          . rintro _ _⟨rfl,rfl⟩;k_places;exact#[rfl,trivial]
        . have MP:y=[]:=hy.resolve_right λq=>z (decide_eq_true q.1);subst MP;exact#[rfl,by rw[Gc];rfl]
      . rintro _ _⟨rfl,rfl⟩;k_places;exact#[x,#[hi,by show(pre++c::y).length<=640;lia],hR]
abbrev gj(V:Bx):Prop:=V.MM 4 "shift_from" mv Bu
def EH(T:V.T "shift_from" ms mv)(MC:pe V)(uC:cI V):gj V:=by
 refine Tx.okM T sc_shift_from (λds M R RX h=>?_) (λf cdv A outer s H E J hr hx=>⟨_,((ai (aD 1 sc_shift_from.nd (aH MC hx hr (ar (ac (aa 0) af))))
   (ai (bn (aO (CalMth.one uC) hx hr (ad (aa 0)) (ar (ac ay af))))
   (am (ax (sT (aw (ad (aa 1)) (aw (aH MC hx hr (ar (ac (aa 0) af))) aS)))))))),λds M R RX d8 h=>?_⟩)
 .obtain⟨_,_,_,_,_,_,_,rfl,_⟩:=h;rfl
 .obtain⟨a,t,k,x,y,e,l,rfl,rfl,ge,hy,he,d5,hR⟩:=h;refine#[λd M'=>d=.int x/\M'=RdM a t (k+(numL x).length),#[a,t,k,x,44,_,rfl,rfl,ge,.inl rfl,d5,rfl,rfl],?_];rintro _ _⟨rfl,rfl⟩;k_places;have d6:=d5.app;exact#[_,FW.mpr rfl,_,aT,cb,a,t,_,44,_,",",rfl,rfl,d6,Ks,a,t,_,y,e,l,rfl,rfl,hy,he,d6.next,KK,hR]
abbrev jd(V:Bx):Prop:=V.D 1 "levelled" mx A2
def EI(T:V.T "levelled" mw mx):jd V:=by
 refine Tx.okDW T sc_levelled (λds R h=>?_) (λf cdv A outer s H E J hr=>⟨_,((aq (rS PassesOwn.never (cw (ah (aa 1) ae) ae) (aq (aC 2 sc_levelled.nd (ya (ah (aa 0) ae) (ah (aa 1) ae)))
    (aq (aC 3 sc_levelled.nd (aW (ac (bL (ah (aa 0) ae) (bp (aa 2) (ah (aa 1) ae))) (ac (bL (ah (aa 0) ae) (bp (aa 2) (ah (aa 1) ae))) af))))
    (aq (aC 0 sc_levelled.nd (aa 1))
    (az (aC 1 sc_levelled.nd (aa 3)))))))
   (aq (gH (fB (ah (aa 0) ae) ae) (az (aC 0 sc_levelled.nd (aW (ac (cK (ah (aa 0) ae)) (ac (cK (ah (aa 0) ae)) af))))) bN)
   (az (aM (aW (ac (aa 0) (ac (aa 1) af)))))))),λds R h=>?_⟩)
 .obtain⟨a,b,c,d,rfl,_⟩:=h;rfl
 .obtain⟨a,b,c,d,rfl,hb,hd,hR⟩:=h;refine#[λm z=>∃(f0 f1 s0 s1:Int) (t r:Option D),z=[be (.tup [.int f0,.int f1]),be (.tup [.int s0,.int s1]),t,r]/\Uni a b c d f0 f1 s0 s1/\f1.natAbs<4611686018427387904/\s1.natAbs<4611686018427387904/\m=s1.natAbs,#[_,a,b,c,d,G_,G_,rfl,Uni.refl a b c d,hb,hd,rfl],?_];rintro m z⟨f0,f1,s0,s1,t,r,rfl,hu,hf,hs,rfl⟩;k_places;refine#[_,rfl,ite2 (λcc=>?_) (λcc=>?_)]
  .have c':¬s1=0:=by simpa using cc
   obtain⟨g1,g2⟩:=fdm f1 s1 c';refine#[λd=>d=.int (f1.fdiv s1),#[_,rfl,_,rfl,#[c',hs],rfl],?_];rintro _ rfl;k_places;refine#[λd=>d=.tup [.int (f0-f1.fdiv s1*s0),.int (f1-f1.fdiv s1*s1)],#[_,rfl,_,rfl,.inl #[Ko,Ko],_,rfl,_,rfl,.inl #[Ko,Ko],KK,rfl],?_];rintro _ rfl;k_places;refine#[λd=>d=.tup [.int s0,.int s1],rfl,?_];rintro _ rfl;k_places;refine#[λd=>d=.tup [.int (f0-f1.fdiv s1*s0),.int (f1-f1.fdiv s1*s1)],rfl,?_];rintro _ rfl;k_places;exact#[_,g1,s0,s1,_,_,_,_,rfl,hu.step _,hs,Ko,rfl]
  .have c':s1=0:=by simpa using cc
   subst c';refine#[λz=>∃p0 p1:Int,z=[be (.tup [.int p0,.int p1]),be (.tup [.int s0,.int 0]),t,r]/\Lev a b c d p0 p1 s0,#[_,rfl,ite2 (λe=>?_) (λe=>?_)],?_]
   .have e':=of_decide_eq_true e;refine#[λd=>d=.tup [.int (-f0),.int (-f1)],#[_,rfl,_,rfl,KK,rfl],?_];rintro _ rfl;k_places;exact#[_,_,rfl,Ko,hu.neg]
   .have e':=of_decide_eq_false (Iv.mpr e);exact#[_,_,rfl,Ko,hu]
   .rintro _⟨p0,p1,rfl,hL⟩;k_places;exact#[KK,hR p0 p1 s0 hL]
abbrev je(V:Bx):Prop:=V.D 2 "spread" mz A3
def EJ(T:V.T "spread" my mz)(KL:V.m "abs")(K9:jd V):je V:=by
 refine Tx.okDW T sc_spread (λds R h=>?_) (λf cdv A outer s H E J hr=>⟨_,((aq (cB (bM (bp (ah (aa 0) ae) (ah (aa 1) ae)) (bp (ah (aa 0) ae) (ah (aa 1) ae))) (az (aM cf)) bN)
   (aq (aC 2 sc_spread.nd (aF K9 hr (ac (aa 0) (ac (aa 1) af))))
   (aq (aC 3 sc_spread.nd (jW KL (ac (ah (ah (aa 2) ae) ae) af)))
   (az (aM (aW (ac (aa 3) (ac (ah (ah (aa 2) ae) ae) (ac (aK (ah (ah (aa 2) ae) ae) (aa 3)) af)))))))))),λds R h=>?_⟩)
 .obtain⟨a,b,c,d,rfl,_⟩:=h;rfl
 .obtain⟨a,b,c,d,rfl,ha,hb,hc,hd,hN,hR⟩:=h;refine#[_,rfl,_,rfl,.inl #[Ko,Ko],_,rfl,_,rfl,.inl #[Ko,Ko],ite2 (λe=>?_) (λe=>?_)]
  .exact hN (of_decide_eq_true e)
  .have e':=of_decide_eq_false (Iv.mpr e);refine#[λx=>∃p0 p1 q0:Int,x=.tup [.tup [.int p0,.int p1],.tup [.int q0,.int 0]]/\Lev a b c d p0 p1 q0,#[a,b,c,d,rfl,hb,hd,λp0 p1 q0 hL=>#[p0,p1,q0,rfl,hL]],?_];rintro _⟨p0,p1,q0,rfl,hL⟩;k_places;have hF:=kN e' hL;refine#[λx=>x=.int (if q0<0 then -q0 else q0),#[_,rfl,_,rfl,rfl],?_];rintro _ rfl;k_places;exact#[_,rfl,_,rfl,_,rfl,_,rfl,hF.1,KK,hR e' _ _ _ hF]
abbrev pf(V:Bx):Prop:=V.MM 2 "hues_by_home" mC BC
def EK(T:V.T "hues_by_home" mB mC)(KQ:V.m "enumerate")(D_:fo V)(uR:V.gs "SIGNS" ".123456"):pf V:=by
 refine Tx.okM T sc_hues_by_home (λds M R RX h=>?_) (λf cdv A outer s H E J hr hx=>⟨_,((ai (aD 2 sc_hues_by_home.nd Ar)
   (ai (Ai PassesOwn.leaving rfl KQ (ad (aa 0)) (dg_cons 3 sc_hues_by_home.nd (dg_cons 4 sc_hues_by_home.nd cN)) (am (Aj PassesOwn.leaving rfl KQ (ad (aa 4)) (dg_cons 5 sc_hues_by_home.nd (dg_cons 6 sc_hues_by_home.nd cN)) (am (cP (bg (cw (aa 6) ay)) (am (bn (Av (fz hr) (ad (aa 2)) (ar (ac (aF D_ hr (ac (aa 1) (ac (aa 5) (ac (aa 3) af)))) (ac (sO (eI uR) (ac (aa 6) af)) af)))))) aI)))))
   (tf 2 (am (ax (ad (aa 2)))))))),λds M R RX d8 h=>?_⟩)
 .obtain⟨_,_,_,_,_,rfl,_⟩:=h;rfl
 .obtain⟨L,wd,w,h,s,rfl,hL,hw,hh,Kc,hs,n4,hR⟩:=h;have RT:=hL.w8;refine#[λd M'=>∃p,p∉ao M/\d=.ptr p/\M'=(p,.dti [])::M,λp hp=>#[p,hp,rfl,rfl],?_];rintro _ _⟨p,hp,rfl,rfl⟩;k_places;refine#[λj z M'=>∃(kv:List ((Int×Int)×Int)) (x3 x4 x5 x6:Option D),hAll w h s j (L.drop j) kv=hAll w h s 0 L []/\kv.length<=8*j/\z=[be (.lst (lstD L)),be (.tup [.int w,.int h,.int s]),be (.ptr p),x3,x4,x5,x6]/\M'=(p,.dti kv)::M,#[[],G_,G_,G_,G_,rfl,KK,rfl,rfl],?_,?_]
  .rintro j d z M' hd⟨kv,x3,x4,x5,x6,e1,Q_,rfl,rfl⟩;k_places;obtain⟨x,ge,rfl⟩:=BA hd;have hj:j<L.length:=(Gh.mp ge).1;have RU:=hL.many;obtain⟨xl,xs⟩:=hL.each x (HB ge);rw[uj ge]at e1;refine#[Bz xs,λi z M'=>∃(J4:List ((Int×Int)×Int)) (x5 x6:Option D),hRow w h s j i (x.drop i) J4=hRow w h s j 0 x kv/\J4.length<=8*j+i/\i<=x.length/\z=[be (.lst (lstD L)),be (.tup [.int w,.int h,.int s]),be (.ptr p),be (.int j),be (.str #[x.toArray]),x5,x6]/\M'=(p,.dti J4)::M,#[kv,x5,x6,rfl,Ko,Go _,rfl,rfl],?_,?_]
   .rintro i d z M' KU⟨J4,y5,y6,e2,N9,hi,rfl,rfl⟩;k_places;obtain⟨c,hc,rfl⟩:=BB KU;have D':i<x.length:=(Gh.mp hc).1;have sc:=xs c (HB hc);rw[uj hc,hRow]at e2;refine#[λz M'=>∃LU:List ((Int×Int)×Int),hRow w h s j (i+1) (x.drop (i+1)) LU=hRow w h s j 0 x kv/\LU.length<=8*j+(i+1)/\z=[be (.lst (lstD L)),be (.tup [.int w,.int h,.int s]),be (.ptr p),be (.int j),be (.str #[x.toArray]),be (.int i),be (.str #[[c].toArray])]/\M'=(p,.dti LU)::M,?_,?_]
    .show if(!decide ((#[[c].toArray]:JM)="."))=true then _ else _;by_cases v7:c=46
     .subst v7;rw[if_pos rfl]at e2;exact#[J4,e2,Ko,rfl,rfl]
     .rw[if_neg v7]at e2;refine ifT (by simp[Bc,v7]) ?_;have c6:49<=c/\c<=54:=by unfold bB at sc;lia
      obtain⟨ix,rest,ho,JG⟩:=By c6;refine#[#[_,cR],w,h,s,i,j,rfl,hw,hh,Kc,hs,n4,ix,rest,ho,_,cR,by have:=ui J4 (hmX w h s i j) ((j:Int)%h) ((c:Int)-48);lia,λv=>?_];rw[uh,JG];exact#[_,e2,by have:=ui J4 (hmX w h s i j) ((j:Int)%h) ((c:Int)-48);lia,rfl,rfl]
    .rintro z M'⟨LU,e3,h3,rfl,rfl⟩;k_places;exact#[LU,_,_,e3,h3,D',rfl,rfl]
   .rintro z M' hz;rw[eL,eY]at hz;obtain⟨J4,y5,y6,e2,N9,hi,rfl,rfl⟩:=hz;rw[JE]at e2;refine#[J4,_,_,_,_,?_,Ko,rfl,rfl];rw[<-e1,hAll,<-e2];rfl
  .rintro z M' hz;rw[show(lstD L).length=L.length by simp[lstD]]at hz;obtain⟨kv,x3,x4,x5,x6,e1,Q_,rfl,rfl⟩:=hz;rw[JE]at e1;refine#[_,cR,?_];rw[kW];have e2:kv=hAll w h s 0 L []:=e1;rw[<-e2]at hR;exact hR
abbrev ph(V:Bx):Prop:=V.M 3 "Motif" mF BD
def EL(T:V.Ti "Motif" "Motif.__init__" mD mF)(K':je V)(N_:pf V)(Oa:V.a "Motif" "place")(uO:V.a "Motif" "shifts")(Ke:V.a "Motif" "hues"):ph V:=by
 refine Txi.okIM T C5 (λds R h=>?_) (λf cdv A outer s H E J hr hx=>⟨_,((ai (bI Oa (ad (aa 0)) (ad (aa 1)))
   (ai (bI uO (ad (aa 0)) (ad (aF K' hr (ac (aa 3) (ac (aa 4) af)))))
   (am (bI Ke (ad (aa 0)) (fM (kC (aA uO (ad (aa 0))) (ad cf)) Aq (aH N_ hx hr (aw (ad (aa 2)) (aw (aA uO (ad (aa 0))) aS))))))))),λa ds R KW h=>?_⟩)
 .obtain⟨_,_,_,_,_,_,_,rfl,_⟩:=h;rfl
 .obtain⟨k,L,wd,x,y,u,v,rfl,hL,ge,hy,hu,hv,hn,h1⟩:=h;unfold B12 at ge hy hu hv;refine#[_,dG,by show(0:Nat)<1000;decide,?_];rw[hU,BE];refine#[x,y,u,v,rfl,Ko,Ko,Ko,Ko,λe=>absurd e hn,λe w h s F=>?_];refine#[_,dG,Tk,?_];rw[hU,BF];refine#[_,dG,_,uk,?_];obtain⟨b1,b2,b3⟩:=F.bd (N:=288) (by
   have m1:=bv (a:=x) (d:=v) (A:=12) (B:=12) Ko Ko;have m2:=bv (a:=y) (d:=u) (A:=12) (B:=12) Ko Ko;lia)
  refine#[_,dG,_,uk,L,wd,w,h,s,rfl,hL,F.1,F.2.1,Ko,F.2.2.1,Ko,?_];refine#[_,dG,by show(2:Nat)<1000;decide,?_];rw[hU,BG];exact#[_,rfl,h1 w h s F]
abbrev jg(V:Bx):Prop:=V.MM 5 "motif_from" mH BN
def EM(T:V.T "motif_from" mG mH)(Ob:pd V)(J5:gj V)(uN:V.a "Reading" "place")(Oc:ph V)(uC:cI V):jg V:=by
 refine Tx.okM T sc_motif_from (λds M R RX h=>?_) (λf cdv A outer s H E J hr hx=>⟨_,((ai (aD 1 sc_motif_from.nd (aA uN (ad (aa 0))))
   (ai (bn (aO (CalMth.one uC) hx hr (ad (aa 0)) (ar (ac ay af))))
   (ai (aD 2 sc_motif_from.nd (aH Ob hx hr (ar (ac (aa 0) af))))
   (ai (bn (aO (CalMth.one uC) hx hr (ad (aa 0)) (ar (ac ay af))))
   (ai (aD 3 sc_motif_from.nd (aH J5 hx hr (ar (ac (aa 0) af))))
   (ai (bn (aO (CalMth.one uC) hx hr (ad (aa 0)) (ar (ac ay af))))
   (ai (aD 4 sc_motif_from.nd (aH J5 hx hr (ar (ac (aa 0) af))))
   (ai (bn (aO (CalMth.one uC) hx hr (ad (aa 0)) (ar (ac ay af))))
   (am (ax (ad (kr Oc hr (ac (aa 1) (ac (aa 2) (ac (aa 3) (ac (aa 4) af))))))))))))))))),λds M R RX d8 h=>?_⟩)
 .obtain⟨_,_,_,_,_,_,_,_,_,rfl,_⟩:=h;rfl
 .obtain⟨g,t,k,L,a,b,c,d,l,rfl,rfl,d5,⟨LV,ha,hb,hc,hd,hn⟩,hR⟩:=h;obtain⟨w,hL⟩:=BM LV;have d5:At t k (91::(rowsL (L.map cs)++59::(numL a++44::(numL b++59::(numL c++44::(numL d++93::l)))))):=by simpa[motL]using d5
  have c5:k+(motL (L.map cs) a b c d).length=k+1+(rowsL (L.map cs)).length+1+(numL a).length+1+(numL b).length+1+(numL c).length+1+(numL d).length+1:=by simp[motL];lia
  rw[c5]at hR;have d6:=d5.next;have j6:=d6.app;have s_:=j6.next;have LW:At t (k+1+(rowsL (L.map cs)).length+1+(numL a).length+1+(numL b).length) _:=s_.app.next.app;have LX:=LW.next;have Od:At t (k+1+(rowsL (L.map cs)).length+1+(numL a).length+1+(numL b).length+1+(numL c).length+1+(numL d).length) _:=LX.app.next.app;refine#[λv M'=>v=.int k/\M'=RdM g t k,#[_,aT,_,eU,rfl,rfl],?_];rintro _ _⟨rfl,rfl⟩;k_places;refine#[_,FW.mpr rfl,_,aT,cb,g,t,_,91,_,"[",rfl,rfl,d5,Ks,?_];refine#[λv M'=>v=.lst (lstD (L.map cs))/\M'=RdM g t (k+1+(rowsL (L.map cs)).length),#[g,t,_,_,w,_,rfl,rfl,hL,d6,rfl,rfl],?_];rintro _ _⟨rfl,rfl⟩;k_places;refine#[_,FW.mpr rfl,_,aT,cb,g,t,_,59,_,";",rfl,rfl,j6,Ks,?_];refine#[λv M'=>v=.tup [.int a,.int b]/\M'=RdM g t (k+1+(rowsL (L.map cs)).length+1+(numL a).length+1+(numL b).length),#[g,t,_,a,b,59,_,rfl,rfl,ha,hb,.inr (.inl rfl),s_,rfl,rfl],?_];rintro _ _⟨rfl,rfl⟩;k_places;refine#[_,FW.mpr rfl,_,aT,cb,g,t,_,59,_,";",rfl,rfl,LW,Ks,?_];refine#[λv M'=>v=.tup [.int c,.int d]/\M'=RdM g t (k+1+(rowsL (L.map cs)).length+1+(numL a).length+1+(numL b).length+1+(numL c).length+1+(numL d).length),#[g,t,_,c,d,93,_,rfl,rfl,hc,hd,.inr (.inr (.inr rfl)),LX,rfl,rfl],?_];rintro _ _⟨rfl,rfl⟩;k_places;exact#[_,FW.mpr rfl,_,aT,cb,g,t,_,93,_,"]",rfl,rfl,Od,Ks,k,_,w,a,b,c,d,rfl,hL,ha,hb,hc,hd,hn,λw h s F=>hR _ #[k,w,h,s,rfl,F]]
abbrev jh(V:Bx):Prop:=V.M 1 "Mirror" mJ BJ
def EN(T:V.Ti "Mirror" "Mirror.__init__" mI mJ)(uW:V.a "Mirror" "form"):jh V:=by
 refine Txi.okI T C6 (λds R h=>?_) (λf cdv A outer s H E J hr=>#[_,((bG uW (aa 1) dB)),λds R h=>?_])
 .obtain⟨_,_,rfl,_⟩:=h;rfl
 .obtain⟨x,fs,rfl,hR⟩:=h;exact#[Ks,hR]
abbrev ji(V:Bx):Prop:=V.M 1 "Turn" mL BK
def EO(T:V.Ti "Turn" "Turn.__init__" mK mL)(uV:V.a "Turn" "form"):ji V:=by
 refine Txi.okI T C7 (λds R h=>?_) (λf cdv A outer s H E J hr=>#[_,((bG uV (aa 1) dB)),λds R h=>?_])
 .obtain⟨_,_,rfl,_⟩:=h;rfl
 .obtain⟨x,fs,rfl,hR⟩:=h;exact#[Ks,hR]
abbrev jj(V:Bx):Prop:=V.M 1 "Over" mN BH
def EQ(T:V.Ti "Over" "Over.__init__" mM mN)(uZ:V.a "Over" "above")(uT:V.a "Over" "below"):jj V:=by
 refine Txi.okI T C8 (λds R h=>?_) (λf cdv A outer s H E J hr=>#[_,((bG uZ (aa 1) (bG uT (aa 2) dB))),λds R h=>?_])
 .obtain⟨_,_,_,_,rfl,_⟩:=h;rfl
 .obtain⟨x,y,fs,gs,rfl,hR⟩:=h;refine#[Ks,Tk,?_];show R (putD _ _ (putD _ _ []));rw[putD,putD,if_neg Kv];exact hR
abbrev jl(V:Bx):Prop:=V.M 1 "Shifted" mR BI
def ER(T:V.Ti "Shifted" "Shifted.__init__" mQ mR)(uX:V.a "Shifted" "form")(Kg:V.a "Shifted" "x")(Kf:V.a "Shifted" "y"):jl V:=by
 refine Txi.okI T C9 (λds R h=>?_) (λf cdv A outer s H E J hr=>#[_,((bG uX (aa 1) (bG Kg (aa 2) (bG Kf (aa 3) dB)))),λds R h=>?_])
 .obtain⟨_,_,_,_,rfl,_⟩:=h;rfl
 .obtain⟨x,fs,a,b,rfl,hR⟩:=h;refine#[Ks,Tk,by show(2:Nat)<1000;decide,?_];show R (putD _ _ (putD _ _ (putD _ _ [])));rw[show putD ("x":JM) (.int a) (putD ("form":JM) (.obj x fs) [])=([("form",.obj x fs),("x",.int a)]:List (JM×D))by rw[putD,putD,if_neg Kv];rfl,putD,if_neg Kv,putD,if_neg Kv];exact hR
abbrev jm(V:Bx):Prop:=V.M 1 "Rehue" mV BL
def ES(T:V.Ti "Rehue" "Rehue.__init__" mU mV)(uY:V.a "Rehue" "form")(Kh:V.a "Rehue" "old")(Ki:V.a "Rehue" "new"):jm V:=by
 refine Txi.okI T Da (λds R h=>?_) (λf cdv A outer s H E J hr=>#[_,((bG uY (aa 1) (bG Kh (aa 2) (bG Ki (aa 3) dB)))),λds R h=>?_])
 .obtain⟨_,_,_,_,rfl,_⟩:=h;rfl
 .obtain⟨x,fs,a,b,rfl,hR⟩:=h;refine#[Ks,Tk,by show(2:Nat)<1000;decide,?_];show R (putD _ _ (putD _ _ (putD _ _ [])));rw[show putD ("old":JM) (.int a) (putD ("form":JM) (.obj x fs) [])=([("form",.obj x fs),("old",.int a)]:List (JM×D))by rw[putD,putD,if_neg Kv];rfl,putD,if_neg Kv,putD,if_neg Kv];exact hR
def ET(hL:5<=n)(T:V.T "over_from" iy fY)(uI:V.MM n "form_from" cG (dg j))(LY:jj V)(uC:cI V):V.MM (n+1) "over_from" fY (um j):=by
 refine Tx.okM T sc_over_from (λds M R RX h=>?_) (λf cdv A outer s H E J hr hx=>⟨_,((ai (aD 2 sc_over_from.nd (aH (hn:=Kw) uI hx hr (ar (ac (aa 0) (ac (aa 1) af)))))
   (ai (bn (aO (hn:=Kw) (CalMth.one uC) hx hr (ad (aa 0)) (ar (ac ay af))))
   (ai (aD 3 sc_over_from.nd (aH (hn:=Kw) uI hx hr (ar (ac (aa 0) (ac (aa 1) af)))))
   (ai (bn (aO (hn:=Kw) (CalMth.one uC) hx hr (ad (aa 0)) (ar (ac ay af))))
   (am (ax (ad (kr (hn:=Kw) LY hr (ac (aa 2) (ac (aa 3) af))))))))))),λds M R RX d8 h=>?_⟩)
 .obtain⟨_,_,_,_,_,_,_,rfl,_⟩:=h;rfl
 .obtain⟨a,t,k,p,q,l,d,rfl,rfl,d5,KR,KS,hp,hq,x8,Ra,hR⟩:=h;have d6:=d5.app;have j6:=d6.next;have s_:=j6.app;refine#[λv M'=>FormOf p v/\M'=RdM a t (k+p.tl.length),#[a,t,k,p,_,d,rfl,rfl,d5,KR,KS,hp,x8,λv h=>#[h,rfl]],?_];rintro v _⟨hv,rfl⟩;k_places;obtain⟨fs,rfl,_⟩:=hv.objm;refine#[_,FW.mpr rfl,_,aT,cb,a,t,_,124,_,"|",rfl,rfl,d6,Ks,?_];refine#[λv M'=>FormOf q v/\M'=RdM a t (k+p.tl.length+1+q.tl.length),#[a,t,_,q,_,d,rfl,rfl,j6,KR,KS,hq,Ra,λv h=>#[h,rfl]],?_];rintro v _⟨PL,rfl⟩;k_places;obtain⟨gs,rfl,_⟩:=PL.objm;exact#[_,FW.mpr rfl,_,aT,cb,a,t,_,41,_,")",rfl,rfl,s_,Ks,_,_,_,_,rfl,hR _ _ hv PL]
def EU(hL:5<=n)(T:V.T "shifted_from" iz fZ)(J5:gj V)(uI:V.MM n "form_from" cG (dg j))(LZ:jl V)(uC:cI V):V.MM (n+1) "shifted_from" fZ (uo j):=by
 refine Tx.okM T sc_shifted_from (λds M R RX h=>?_) (λf cdv A outer s H E J hr hx=>⟨_,((ai (aD 2 sc_shifted_from.nd (aH (hn:=Kw) J5 hx hr (ar (ac (aa 0) af))))
   (ai (bn (aO (hn:=Kw) (CalMth.one uC) hx hr (ad (aa 0)) (ar (ac ay af))))
   (am (ax (gU (hn:=Kw) LZ hr (aw (aH (hn:=Kw) uI hx hr (ar (ac (aa 0) (ac (aa 1) af)))) (aw (ad (ah (aa 2) ae)) (aw (ad (ah (aa 2) ae)) aS))))))))),λds M R RX d8 h=>?_⟩)
 .obtain⟨_,_,_,_,_,_,_,_,rfl,_⟩:=h;rfl
 .obtain⟨a,t,k,x,y,p,l,d,rfl,rfl,d5,KR,KS,ge,hy,hp,x8,hR⟩:=h;have d6:At t (k+(numL x).length+1+(numL y).length) _:=d5.app.next.app;refine#[λv M'=>v=.tup [.int x,.int y]/\M'=RdM a t (k+(numL x).length+1+(numL y).length),#[a,t,_,x,y,58,_,rfl,rfl,ge,hy,.inr (.inr (.inl rfl)),d5,rfl,rfl],?_];rintro _ _⟨rfl,rfl⟩;k_places;refine#[_,FW.mpr rfl,_,aT,cb,a,t,_,58,_,":",rfl,rfl,d6,Ks,?_];refine#[a,t,_,p,l,d,rfl,rfl,d6.next,KR,KS,hp,x8,λv h=>?_];obtain⟨fs,rfl,_⟩:=h.objm;exact#[_,rfl,_,rfl,_,_,_,_,rfl,hR _ h]
def EV(hL:5<=n)(T:V.T "rehue_from" iA gc)(uM:V.m "int")(uI:V.MM n "form_from" cG (dg j))(L4:jm V)(uC:cI V):V.MM (n+1) "rehue_from" gc (uq j):=by
 refine Tx.okM T sc_rehue_from (λds M R RX h=>?_) (λf cdv A outer s H E J hr hx=>⟨_,((ai (aD 2 sc_rehue_from.nd (sV uM (aw (aO (hn:=Kw) (CalMth.one uC) hx hr (ad (aa 0)) (ar (ac ay af))) aS)))
   (ai (aD 3 sc_rehue_from.nd (sV uM (aw (aO (hn:=Kw) (CalMth.one uC) hx hr (ad (aa 0)) (ar (ac ay af))) aS)))
   (am (ax (gU (hn:=Kw) L4 hr (aw (aH (hn:=Kw) uI hx hr (ar (ac (aa 0) (ac (aa 1) af)))) (aw (ad (aa 2)) (aw (ad (aa 3)) aS))))))))),λds M R RX d8 h=>?_⟩)
 .obtain⟨_,_,_,_,_,_,_,_,rfl,_⟩:=h;rfl
 .obtain⟨a,t,k,f,g,p,l,d,rfl,rfl,d5,KR,KS,hf,hg,hp,x8,hR⟩:=h;have PM:∀{f:Int},1<=f/\f<=6->PySem.intText? (#[[(48+f).toNat].toArray]:JM)=be f:=λ{f} h=>by
   have:=digit_of (c:=(48+f).toNat) Ko;rw[show(((48+f).toNat:Nat):Int)-48=f by lia]at this;exact this
  refine#[λv M'=>v=.int f/\M'=RdM a t (k+1),#[_,FW.mpr rfl,_,aT,cb,a,t,_,_,_,"123456",rfl,rfl,d5,ul hf,_,#[PM hf,by show(1:Nat)<=640;decide],rfl,rfl],?_];rintro _ _⟨rfl,rfl⟩;k_places;refine#[λv M'=>v=.int g/\M'=RdM a t (k+2),#[_,FW.mpr rfl,_,aT,cb,a,t,_,_,_,"123456",rfl,rfl,d5.next,ul hg,_,#[PM hg,by show(1:Nat)<=640;decide],rfl,rfl],?_];rintro _ _⟨rfl,rfl⟩;k_places;refine#[a,t,_,p,l,d,rfl,rfl,d5.next.next,KR,KS,hp,x8,λv h=>?_];obtain⟨fs,rfl,_⟩:=h.objm;exact#[_,_,_,_,rfl,hR _ h]
def EW(hL:5<=n)(T:V.T "form_from" iB cG)(Rb:V.MM n "over_from" fY (um j))(Rc:V.MM n "shifted_from" fZ (uo j))(uI:V.MM n "form_from" cG (dg j))(Re:V.MM n "rehue_from" gc (uq j))(L5:jg V)(L6:V.gi "DEEP" 5)(L8:jh V)(L9:ji V)(uJ:dh V):V.MM (n+1) "form_from" cG (dg (j+1)):=by
 refine Tx.okM T sc_form_from (λds M R RX h=>?_) (λf cdv A outer s H E J hr hx=>⟨_,((ai (aD 2 sc_form_from.nd (fM (bg (fB (aa 1) (eH L6))) (aO (hn:=Kw) (CalMth.one uJ) hx hr (ad (aa 0)) (ar (ac ay af))) (ad ay)))
   (ai (aR (bg (bM (aa 2) ay)) (am (ax (aH (hn:=Kw) Rb hx hr (ar (ac (aa 0) (ac (aB (aa 1) ae) af)))))) aI)
   (ai (aR (bg (bM (aa 2) ay)) (am (ax (aH (hn:=Kw) Rc hx hr (ar (ac (aa 0) (ac (aB (aa 1) ae) af)))))) aI)
   (ai (aR (bg (bM (aa 2) ay)) (am (ax (gU (hn:=Kw) L8 hr (aw (aH (hn:=Kw) uI hx hr (ar (ac (aa 0) (ac (aB (aa 1) ae) af)))) aS)))) aI)
   (ai (aR (bg (bM (aa 2) ay)) (am (ax (gU (hn:=Kw) L9 hr (aw (aH (hn:=Kw) uI hx hr (ar (ac (aa 0) (ac (aB (aa 1) ae) af)))) aS)))) aI)
   (ai (aR (bg (bM (aa 2) ay)) (am (ax (aH (hn:=Kw) Re hx hr (ar (ac (aa 0) (ac (aB (aa 1) ae) af)))))) aI)
   (am (ax (aH (hn:=Kw) L5 hx hr (ar (ac (aa 0) af)))))))))))),λds M R RX d8 h=>?_⟩)
 .obtain⟨_,_,_,_,_,_,rfl,_⟩:=h;rfl
 .obtain⟨a,t,k,p,l,d,rfl,rfl,d5,KR,KS,hp,x8,hR⟩:=h;refine#[λv M'=>v=.str (mayS "(smth" (p.tl++l))/\M'=RdM a t (k+mayN "(smth" (p.tl++l)),?_,?_]
  .show if decide ((d:Int)<5)=true then _ else _
   refine ite2 (λc=>?_) (λc=>?_)
   .exact#[_,FW.mpr rfl,_,aT,df,a,t,_,_,"(smth",rfl,rfl,d5,rfl,rfl]
   .have c':¬((d:Int)<5):=λz=>c (decide_eq_true z);cases p with
    |mot L a b c d=>exact#[rfl,rfl]
    |_=>rw[Pat.depth]at x8;lia
  rintro _ _⟨rfl,rfl⟩;k_places;cases p with
  |mot L x y u v=>exact#[a,t,k,L,x,y,u,v,l,rfl,rfl,d5,hp,hR]
  |over p q=>
   rw[Pat.depth]at x8;have e:k+(Pat.over p q).tl.length=k+1+p.tl.length+1+q.tl.length+1:=by rw[Pat.tl];simp;lia
   have d6:At t (k+1) (p.tl++124::(q.tl++41::l)):=by have:=d5.next;simpa using this
   rw[e]at hR;exact#[a,t,k+1,p,q,l,d+1,rfl,rfl,d6,Ko,Ko,hp.1,hp.2,Ko,Ko,λu u' h1 h2=>hR _ #[u,u',rfl,h1,h2]]
  |sh x y p=>
   rw[Pat.depth]at x8;have e:k+(Pat.sh x y p).tl.length=k+1+(numL x).length+1+(numL y).length+1+p.tl.length:=by rw[Pat.tl];simp;lia
   have d6:At t (k+1) (numL x++44::(numL y++58::(p.tl++l))):=by have:=d5.next;simpa using this
   rw[e]at hR;exact#[a,t,k+1,x,y,p,l,d+1,rfl,rfl,d6,Ko,Ko,hp.1,hp.2.1,hp.2.2,Ko,λu h1=>hR _ #[u,rfl,h1]]
  |mir p=>
   rw[Pat.depth]at x8;have e:k+(Pat.mir p).tl.length=k+1+p.tl.length:=by rw[Pat.tl];simp;lia
   rw[e]at hR;refine#[a,t,k+1,p,l,d+1,rfl,rfl,d5.next,Ko,Ko,hp,Ko,λu h1=>?_];obtain⟨fs,rfl,_⟩:=h1.objm;exact#[_,_,rfl,hR _ #[_,rfl,h1]]
  |tur p=>
   rw[Pat.depth]at x8;have e:k+(Pat.tur p).tl.length=k+1+p.tl.length:=by rw[Pat.tl];simp;lia
   rw[e]at hR;refine#[a,t,k+1,p,l,d+1,rfl,rfl,d5.next,Ko,Ko,hp,Ko,λu h1=>?_];obtain⟨fs,rfl,_⟩:=h1.objm;exact#[_,_,rfl,hR _ #[_,rfl,h1]]
  |hue f g p=>
   rw[Pat.depth]at x8;have e:k+(Pat.hue f g p).tl.length=k+1+2+p.tl.length:=by rw[Pat.tl,hueL hp.1,hueL hp.2.1];simp;lia
   have d6:At t (k+1) ((48+f).toNat::(48+g).toNat::(p.tl++l)):=by
    have:=d5.next;rw[hueL hp.1,hueL hp.2.1]at this;simpa using this
   rw[e]at hR;exact#[a,t,k+1,f,g,p,l,d+1,rfl,rfl,d6,Ko,Ko,hp.1,hp.2.1,hp.2.2,Ko,λu h1=>hR _ #[u,rfl,h1]]
def EY(Rf:V.T "over_from" iy fY)(Rg:V.T "shifted_from" iz fZ)(Rh:V.T "rehue_from" iA gc)(PN:V.T "form_from" iB cG)(LY:jj V)(uC:cI V)(J5:gj V)(LZ:jl V)(uM:V.m "int")(L4:jm V)(L5:jg V)(L6:V.gi "DEEP" 5)(L8:jh V)(L9:ji V)(uJ:dh V):∀j,V.MM (5+2*j) "form_from" cG (dg j):=by
 intro j;induction j with
 |zero=>exact CalMM.never PN (λds M R RX=>BO)
 |succ j ih=>
  have L':=ih;have Oe:=ET (n:=5+2*j) (j:=j) Kw Rf L' LY uC;have Of:=EU (n:=5+2*j) (j:=j) Kw Rg J5 L' LZ uC;have Og:=EV (n:=5+2*j) (j:=j) Kw Rh uM L' L4 uC;have L':=Cal.mono ih (GY _);exact EW (n:=5+2*j+1) (j:=j) Kw PN Oe Of L' Og L5 L6 L8 L9 uJ
abbrev pi(V:Bx):Prop:=V.M 1 "Reading" mY Bo
def EZ(T:V.Ti "Reading" "Reading.__init__" mW mY)(Kj:V.a "Reading" "text")(uN:V.a "Reading" "place"):pi V:=by
 refine Txi.okI T Db (λds R h=>?_) (λf cdv A outer s H E J hr=>#[_,((bG Kj (aa 1) (bG uN ae dB))),λds R h=>?_])
 .obtain⟨_,rfl,_⟩:=h;rfl
 .obtain⟨t,rfl,hR⟩:=h;refine#[Ks,Tk,?_];show R (putD _ _ (putD _ _ []));rw[putD,putD,if_neg Kv];exact hR
abbrev pj(V:Bx):Prop:=V.M 1 "Pattern" nh BU
def E1(T:V.Ti "Pattern" "Pattern.__init__" mZ nh)(K_:V.a "Pattern" "text")(JH:V.a "Pattern" "shifts")(K3:V.a "Pattern" "form"):pj V:=by
 refine Txi.okI T Dc (λds R h=>?_) (λf cdv A outer s H E J hr=>#[_,((bG K_ (aa 1) (bG JH (aa 2) (bG K3 (aa 3) dB)))),λds R h=>?_])
 .obtain⟨_,_,_,_,_,_,rfl,_⟩:=h;rfl
 .obtain⟨t,w,h,s,x,fs,rfl,hR⟩:=h;refine#[Ks,Tk,by show(2:Nat)<1000;decide,?_];show R (putD _ _ (putD _ _ (putD _ _ [])));rw[show putD ("shifts":JM) (.tup [.int w,.int h,.int s]) (putD ("text":JM) (.str t) [])=([("text",.str t),("shifts",.tup [.int w,.int h,.int s])]:List (JM×D))by rw[putD,putD,if_neg Kv];rfl,putD,if_neg Kv,putD,if_neg Kv];exact hR
abbrev pk(V:Bx):Prop:=V.D 2 "measure" nr A6
def E2(T:V.T "measure" nj nr)(K9:jd V):pk V:=by
 refine Tx.okDW T sc_measure (λds R h=>?_) (λf cdv A outer s H E J hr=>⟨_,((aq (aC 2 sc_measure.nd (ah (aF K9 hr (ac (aW (ac ae (ac (aa 0) af))) (ac (aW (ac ae (ac (aa 1) af))) af))) ae))
   (az (aM (aW (ac (ah (aa 2) ae) (ac (ah (aa 2) ae) af))))))),λds R h=>?_⟩)
 .obtain⟨x,y,rfl,_⟩:=h;rfl
 .obtain⟨x,y,rfl,hx,hy,hR⟩:=h;refine#[λd=>∃p0 p1:Int,d=.tup [.int p0,.int p1]/\Meas x y p1 p0,#[KK,KK,1,x,0,y,rfl,hx,hy,λp0 p1 q0 hL=>#[_,rfl,p0,p1,rfl,tM #[hL.1,hL.2]]],?_];rintro _⟨p0,p1,rfl,hM⟩;k_places;exact#[_,rfl,_,rfl,KK,hR p1 p0 hM]
abbrev jn(V:Bx):Prop:=V.D 3 "met" nu A7
def E3(T:V.T "met" nt nu)(L_:pk V):jn V:=by
 refine Tx.okDW T sc_met (λds R h=>?_) (λf cdv A outer s H E J hr=>⟨_,((aq (aC 2 sc_met.nd (aF L_ hr (ac (ah (aa 0) ae) (ac (ah (aa 1) ae) af))))
   (aq (aC 3 sc_met.nd (bz (bp (ah (aa 0) ae) (ah (aa 1) ae)) (ah (aa 2) ae)))
   (aq (aC 4 sc_met.nd (bz (bp (ah (aa 0) ae) (ah (aa 1) ae)) (ah (aF L_ hr (ac (ah (aa 0) ae) (ac (ah (aa 1) ae) af))) ae)))
   (aq (aC 5 sc_met.nd (bp (bz (aa 4) (ah (aa 0) ae)) (ah (aa 0) ae)))
   (aq (aC 6 sc_met.nd (bL (bp (bz (aa 4) (ah (aa 1) ae)) (ah (aa 1) ae)) (aa 5)))
   (aq (aC 7 sc_met.nd (bz (ah (aa 2) ae) (ah (aF L_ hr (ac (ah (aa 2) ae) (ac (aa 6) af))) ae)))
   (aq (aC 8 sc_met.nd (bp (bz (bp (aa 7) (aa 6)) (ah (aa 2) ae)) (ah (aa 2) ae)))
   (az (aM (aW (ac (aa 3) (ac (bp (aa 4) (aa 7)) (ac (aK (aB (bp (aa 7) (aa 5)) (bp (aa 8) (ah (aa 0) ae))) (aa 3)) af)))))))))))))),λds R h=>?_⟩)
 .obtain⟨_,_,_,_,_,_,rfl,_⟩:=h;rfl
 .obtain⟨w1,h1,s1,w2,h2,s2,rfl,a1,a2,a3,a4,a5,a6,b1,b2,b3,b4,b5,b6,hR⟩:=h;refine#[λd=>∃g u:Int,d=.tup [.int g,.int u]/\Meas w1 w2 g u,#[_,rfl,_,rfl,w1,w2,rfl,Kw,Kw,λg u M=>#[g,u,rfl,M]],?_];rintro _⟨g,u,rfl,M1⟩;k_places;have hg:=M1.pos a1;have PP:=M1.le a1;refine#[λd=>d=.int (w1*w2/g),#[_,rfl,_,rfl,.inl (b64B a1 a2),_,rfl,d30B hg (GJ PP a2),rfl],?_];rintro _ rfl;k_places;refine#[λd=>∃k u':Int,d=.int (h1*h2/k)/\Meas h1 h2 k u',#[_,rfl,_,rfl,.inl (b64B a3 a4),_,rfl,_,rfl,h1,h2,rfl,Kw,Kw,λk u' M=>#[_,rfl,d30B (M.pos a3) (GJ (M.le a3) a4),k,u',rfl,M]],?_];rintro _⟨k,u',rfl,M2⟩;k_places;obtain⟨r0,r1,r2,r3,r4,r5⟩:=tO a3 b3 M2;have Ri:h1*h2<=1125899906842624:=by
   have:=bv (a:=h1) (d:=h2) (A:=33554432) (B:=33554432) Kw Kw;omega
  refine#[λd=>d=.int (h1*h2/k/h1*s1),#[_,rfl,d30B a3 a4,_,rfl,.inr (s64B a5 a6 a2),rfl],?_];rintro _ rfl;k_places;refine#[λd=>d=.int (h1*h2/k/h2*s2-h1*h2/k/h1*s1),#[_,rfl,d30B b3 b4,_,rfl,.inr (s64B b5 b6 b2),rfl],?_];rintro _ rfl;k_places;have t1:=bv (a:=h1*h2/k/h1) (d:=s1) (A:=33554432) (B:=33554432) Kw Kw;have t2:=bv (a:=h1*h2/k/h2) (d:=s2) (A:=33554432) (B:=33554432) Kw Kw;refine#[λd=>∃gg C_:Int,d=.int (g/gg)/\Meas g (h1*h2/k/h2*s2-h1*h2/k/h1*s1) gg C_,#[_,rfl,_,rfl,g,_,rfl,Kw,Kw,λgg C_ M=>#[_,rfl,d30B (M.pos hg) (GJ (M.le hg) (GJ PP a2)),gg,C_,rfl,M]],?_];rintro _⟨gg,C_,rfl,M3⟩;k_places;have J1:=M3.pos hg;have c1:0<=g/gg:=Iw Kw Kw;have c2:g/gg<=g:=Ix _ Kw;have c4:=AU (c:=g/gg) (gap:=h1*h2/k/h2*s2-h1*h2/k/h1*s1) (N:=2251799813685248) hg c1 c2 Kw;have mr:=tN a1 b1 a3 b3 M1 M2 M3;refine#[λd=>d=.int (g/gg*(h1*h2/k/h2*s2-h1*h2/k/h1*s1)/g*u),#[.inl #[Kw,Kw],_,rfl,#[Kw,Kw],_,rfl,.inl #[Kw,Kw],rfl],?_];rintro _ rfl;k_places;obtain⟨w0,w3,_⟩:=tO a1 b1 M1;have Rj:w1*w2<=1125899906842624:=by
   have:=bv (a:=w1) (d:=w2) (A:=33554432) (B:=33554432) Kw Kw;omega
  have Pn:=bv (a:=h1*h2/k) (d:=g/gg) (A:=1125899906842624) (B:=33554432) Kw Kw;exact#[.inl #[Kw,Kw],.inl #[Kw,Kw],_,rfl,.inr #[Kw,Kw],w0,KK,hR _ _ _ _ mr]
abbrev jp(V:Bx):Prop:=V.D 1 "mirrored" nw A4
def E4(T:V.T "mirrored" nv nw):jp V:=by
 refine Tx.okDW T Dd (λds R h=>?_) (λf cdv A outer s H E J hr=>#[_,((az (aM (aW (ac (ah (aa 0) ae) (ac (ah (aa 0) ae) (ac (aK (cK (ah (aa 0) ae)) (ah (aa 0) ae)) af))))))),λds R h=>?_])
 .obtain⟨w,h,s,rfl,_⟩:=h;rfl
 .obtain⟨w,h,s,rfl,hw,hR⟩:=h;exact#[_,rfl,_,rfl,_,rfl,_,rfl,hw,KK,hR]
abbrev jq(V:Bx):Prop:=V.D 3 "turned" nz A5
def E5(T:V.T "turned" ny nz)(K':je V):jq V:=by
 refine Tx.okDW T De (λds R h=>?_) (λf cdv A outer s H E J hr=>#[_,((az (aM (aF K' hr (ac (aW (ac ae (ac (ah (aa 0) ae) af))) (ac (aW (ac (cK (ah (aa 0) ae)) (ac (ah (aa 0) ae) af))) af)))))),λds R h=>?_])
 .obtain⟨w,h,s,rfl,_⟩:=h;rfl
 .obtain⟨w,h,s,rfl,hw,hh,Pt,Kc,hs,n4,hR⟩:=h;have hp:0<w*h:=Gq hw hh;have hn:¬0*s=w* -h:=by rw[Ij];lia
  exact#[_,rfl,KK,_,rfl,_,rfl,KK,0,w,-h,s,rfl,Ko,Ko,Ko,Ko,λe=>absurd e hn,λ_ w' h' s' f=>hR w' h' s' f]
def ok_Motif_family(hL:3<=n)(T:V.Tm "Motif" "family" "Motif.family" iC cv)(uO:V.a "Motif" "shifts"):V.Q (n+1) "Motif" "family" cv (ofX (bP (j+1) "Motif")):=by
 refine Txm.okM T Df (λds M R RX h=>?_) (λf cdv A outer s H E J hr hx=>⟨_,((ai (aR (kC (aA uO (ad (aa 0))) (ad cf)) (am gZ) aI)
   (am (ax (aA uO (ad (aa 0))))))),λds M R RX d8 h=>?_⟩)
 .obtain⟨_,_,rfl,_⟩:=h;rfl
 .obtain⟨p,v,rfl,hv,hp,hd,hc,hf,hR⟩:=h;cases p<;>simp only[Pat.cls]at hc<;>try exact absurd hc Kv
  obtain⟨k,w,h,s,rfl,F⟩:=hv;exact#[_,#[rfl,rfl],_,mo_shifts,_,#[rfl,rfl],_,mo_shifts,hR w h s (Pat.Fam.mot F)]
def E6(hL:3<=n)(T:V.Tm "Over" "family" "Over.family" iD iE)(Ma:jn V)(uZ:V.a "Over" "above")(uT:V.a "Over" "below")(uH:∀x,x∈(["Motif","Over","Shifted","Mirror","Turn","Rehue"]:List JM)->V.Q n x "family" cv (ofX (bP j x))):V.Q (n+1) "Over" "family" iE (ofX (bP (j+1) "Over")):=by
 refine Txm.okM T sc_Over_family (λds M R RX h=>?_) (λf cdv A outer s H E J hr hx=>⟨_,((ai (aD 1 sc_Over_family.nd (bU (hn:=Kw) uH hx hr (aA uZ (ad (aa 0)))))
   (am (ax (aH (hn:=Kw) (CalD.toM Ma) hx hr (aw (ad (aa 1)) (aw (bU (hn:=Kw) uH hx hr (aA uT (ad (aa 0)))) aS))))))),λds M R RX d8 h=>?_⟩)
 .obtain⟨_,_,rfl,_⟩:=h;rfl
 .obtain⟨p,v,rfl,hv,hp,hd,hc,hf,hR⟩:=h;cases p<;>simp only[Pat.cls]at hc<;>try exact absurd hc Kv
  rename_i p q;obtain⟨u,u',rfl,hu,LO⟩:=hv;obtain⟨fs,rfl,o1⟩:=hu.objm;obtain⟨gs,rfl,o2⟩:=LO.objm;obtain⟨f1,f2⟩:=Pat.Fits.over_parts hp.1 hp.2 hf;rw[Pat.depth]at hd;refine#[λd M'=>(∃w h s,p.Fam w h s/\d=.tup [.int w,.int h,.int s])/\M'=M,#[_,#[rfl,rfl],_,rfl,p.cls,p.cls_mem,fs,#[rfl,rfl],o1.fam,p,_,rfl,hu,hp.1,Ko,rfl,f1,λw h s F=>#[#[w,h,s,F,rfl],rfl]],?_];rintro _ _⟨⟨w1,h1,s1,F1,rfl⟩,rfl⟩;k_places;refine#[_,#[rfl,rfl],_,eZ Kv,q.cls,q.cls_mem,gs,#[rfl,rfl],o2.fam,q,_,rfl,LO,hp.2,Ko,rfl,f2,λw2 h2 s2 F2=>?_];obtain⟨a1,a2,a3,a4,a5,a6⟩:=f1.small F1;obtain⟨b1,b2,b3,b4,b5,b6⟩:=f2.small F2;exact#[w1,h1,s1,w2,h2,s2,rfl,a1,Ko,a3,Ko,a5,a6,b1,Ko,b3,Ko,b5,b6,λw h s A MR=>hR w h s (Pat.Fam.over F1 F2 MR)]
def E7(hL:3<=n)(T:V.Tm "Shifted" "family" "Shifted.family" iF iG)(uX:V.a "Shifted" "form")(uH:∀x,x∈(["Motif","Over","Shifted","Mirror","Turn","Rehue"]:List JM)->V.Q n x "family" cv (ofX (bP j x))):V.Q (n+1) "Shifted" "family" iG (ofX (bP (j+1) "Shifted")):=by
 refine Txm.okM T Dg (λds M R RX h=>?_) (λf cdv A outer s H E J hr hx=>#[_,((am (ax (bU (hn:=Kw) uH hx hr (aA uX (ad (aa 0))))))),λds M R RX d8 h=>?_])
 .obtain⟨_,_,rfl,_⟩:=h;rfl
 .obtain⟨p,v,rfl,hv,hp,hd,hc,hf,hR⟩:=h;cases p<;>simp only[Pat.cls]at hc<;>try exact absurd hc Kv
  rename_i a b p;obtain⟨u,rfl,hu⟩:=hv;obtain⟨fs,rfl,o1⟩:=hu.objm;rw[Pat.depth]at hd;refine#[_,#[rfl,rfl],_,rfl,p.cls,p.cls_mem,fs,#[rfl,rfl],o1.fam,p,_,rfl,hu,hp.2.2,Ko,rfl,hf.of_sh,λw h s F=>?_];exact hR w h s (F.sh a b)
def E8(hL:3<=n)(T:V.Tm "Mirror" "family" "Mirror.family" iH iI)(Mb:jp V)(uW:V.a "Mirror" "form")(uH:∀x,x∈(["Motif","Over","Shifted","Mirror","Turn","Rehue"]:List JM)->V.Q n x "family" cv (ofX (bP j x))):V.Q (n+1) "Mirror" "family" iI (ofX (bP (j+1) "Mirror")):=by
 refine Txm.okM T Dh (λds M R RX h=>?_) (λf cdv A outer s H E J hr hx=>#[_,((am (ax (aH (hn:=Kw) (CalD.toM Mb) hx hr (aw (bU (hn:=Kw) uH hx hr (aA uW (ad (aa 0)))) aS))))),λds M R RX d8 h=>?_])
 .obtain⟨_,_,rfl,_⟩:=h;rfl
 .obtain⟨p,v,rfl,hv,hp,hd,hc,hf,hR⟩:=h;cases p<;>simp only[Pat.cls]at hc<;>try exact absurd hc Kv
  rename_i p;obtain⟨u,rfl,hu⟩:=hv;obtain⟨fs,rfl,o1⟩:=hu.objm;rw[Pat.depth]at hd;refine#[_,#[rfl,rfl],_,rfl,p.cls,p.cls_mem,fs,#[rfl,rfl],o1.fam,p,_,rfl,hu,hp,Ko,rfl,Pat.Fits.of_mir (p:=p) hp hf,λw h s F=>?_];exact#[w,h,s,rfl,F.f.w0,hR w h _ F.mir]
def E9(hL:3<=n)(T:V.Tm "Turn" "family" "Turn.family" iJ iK)(Mc:jq V)(uV:V.a "Turn" "form")(uH:∀x,x∈(["Motif","Over","Shifted","Mirror","Turn","Rehue"]:List JM)->V.Q n x "family" cv (ofX (bP j x))):V.Q (n+1) "Turn" "family" iK (ofX (bP (j+1) "Turn")):=by
 refine Txm.okM T Di (λds M R RX h=>?_) (λf cdv A outer s H E J hr hx=>#[_,((am (ax (aH (hn:=Kw) (CalD.toM Mc) hx hr (aw (bU (hn:=Kw) uH hx hr (aA uV (ad (aa 0)))) aS))))),λds M R RX d8 h=>?_])
 .obtain⟨_,_,rfl,_⟩:=h;rfl
 .obtain⟨p,v,rfl,hv,hp,hd,hc,hf,hR⟩:=h;cases p<;>simp only[Pat.cls]at hc<;>try exact absurd hc Kv
  rename_i p;obtain⟨u,rfl,hu⟩:=hv;obtain⟨fs,rfl,o1⟩:=hu.objm;rw[Pat.depth]at hd;refine#[_,#[rfl,rfl],_,rfl,p.cls,p.cls_mem,fs,#[rfl,rfl],o1.fam,p,_,rfl,hu,hp,Ko,rfl,Pat.Fits.of_tur (p:=p) hp hf,λw h s F=>?_];obtain⟨a1,a2,a3,a4,a5,a6⟩:=(Pat.Fits.of_tur (p:=p) hp hf).small F;exact#[w,h,s,rfl,a1,a3,Ko,Ko,a5,Ko,λw' h' s' F'=>hR w' h' s' (F.tur F')]
def Fb(hL:3<=n)(T:V.Tm "Rehue" "family" "Rehue.family" iL iM)(uY:V.a "Rehue" "form")(uH:∀x,x∈(["Motif","Over","Shifted","Mirror","Turn","Rehue"]:List JM)->V.Q n x "family" cv (ofX (bP j x))):V.Q (n+1) "Rehue" "family" iM (ofX (bP (j+1) "Rehue")):=by
 refine Txm.okM T Dj (λds M R RX h=>?_) (λf cdv A outer s H E J hr hx=>#[_,((am (ax (bU (hn:=Kw) uH hx hr (aA uY (ad (aa 0))))))),λds M R RX d8 h=>?_])
 .obtain⟨_,_,rfl,_⟩:=h;rfl
 .obtain⟨p,v,rfl,hv,hp,hd,hc,hf,hR⟩:=h;cases p<;>simp only[Pat.cls]at hc<;>try exact absurd hc Kv
  rename_i f g p;obtain⟨u,rfl,hu⟩:=hv;obtain⟨fs,rfl,o1⟩:=hu.objm;rw[Pat.depth]at hd;refine#[_,#[rfl,rfl],_,rfl,p.cls,p.cls_mem,fs,#[rfl,rfl],o1.fam,p,_,rfl,hu,hp.2.2,Ko,rfl,hf.of_hue,λw h s F=>?_];exact hR w h s (F.hue f g)
def Fc(PQ:V.Tm "Motif" "family" "Motif.family" iC cv)(PR:V.Tm "Over" "family" "Over.family" iD iE)(PU:V.Tm "Shifted" "family" "Shifted.family" iF iG)(PV:V.Tm "Mirror" "family" "Mirror.family" iH iI)(PX:V.Tm "Turn" "family" "Turn.family" iJ iK)(PY:V.Tm "Rehue" "family" "Rehue.family" iL iM)(uO:V.a "Motif" "shifts")(Ma:jn V)(uZ:V.a "Over" "above")(uT:V.a "Over" "below")(uX:V.a "Shifted" "form")(Mb:jp V)(uW:V.a "Mirror" "form")(Mc:jq V)(uV:V.a "Turn" "form")(uY:V.a "Rehue" "form"):∀j x,x∈(["Motif","Over","Shifted","Mirror","Turn","Rehue"]:List JM)->V.Q (3+j) x "family" cv (ofX (bP j x)):=by
 intro j;induction j with
 |zero=>
  intro x hx;simp only[F5,Ho,or_false]at hx;rcases hx with rfl|rfl|rfl|rfl|rfl|rfl
  .exact CalMth.never PQ (λds M R RX=>fb)
  .exact CalMth.never PR (λds M R RX=>fb)
  .exact CalMth.never PU (λds M R RX=>fb)
  .exact CalMth.never PV (λds M R RX=>fb)
  .exact CalMth.never PX (λds M R RX=>fb)
  .exact CalMth.never PY (λds M R RX=>fb)
 |succ j Md=>
  intro x hx;simp only[F5,Ho,or_false]at hx;rcases hx with rfl|rfl|rfl|rfl|rfl|rfl
  .exact ok_Motif_family (n:=3+j) (j:=j) Kw PQ uO
  .exact E6 (n:=3+j) (j:=j) Kw PR Ma uZ uT Md
  .exact E7 (n:=3+j) (j:=j) Kw PU uX Md
  .exact E8 (n:=3+j) (j:=j) Kw PV Mb uW Md
  .exact E9 (n:=3+j) (j:=j) Kw PX Mc uV Md
  .exact Fb (n:=3+j) (j:=j) Kw PY uY Md
abbrev vz(V:Bx):Prop:=V.MM 17 "form_from" cG (dg 6)
abbrev vA(V:Bx):Prop:=∀x,x∈(["Motif","Over","Shifted","Mirror","Turn","Rehue"]:List JM)->V.Q 9 x "family" cv (ofX (bP 6 x))
abbrev jr(V:Bx):Prop:=V.X 18 "read" nB S_read
def Fd(T:V.T "read" nA nB)(uB:V.m "len")(uI:vz V)(Oh:V.gi "MOST" 720)(uN:V.a "Reading" "place")(Oi:pi V)(Oj:pj V)(uH:vA V):jr V:=by
 refine CalMM.nilX (Tx.okM T sc_read (λds M R RX h=>?_) (λf cdv A outer s H E J hr hx=>⟨_,((ai (aD 1 sc_read.nd (zR Oi hr (ar (ac (aa 0) af))))
   (ai (aD 2 sc_read.nd (aH uI hx hr (ar (ac (aa 1) (ac ae af)))))
   (ai (aR (sR (aA uN (ad (aa 1))) (ad (cL uB (ac (aa 0) af)))) (am gZ) aI)
   (ai (aD 3 sc_read.nd (bU uH hx hr (ad (aa 2))))
   (ai (aR (bg (dZ (bp (ah (aa 3) ae) (ah (aa 3) ae)) (eH Oh))) (am gZ) aI)
   (am (ax (ad (kr Oj hr (ac (aa 0) (ac (aa 3) (ac (aa 2) af))))))))))))),λds M R RX d8 h=>?_⟩))
 .obtain⟨_,R0,J0,⟨_,rfl,_⟩,_⟩:=h;rfl
 .obtain⟨rfl,R0,J0,⟨p,rfl,ok,hG⟩,hR,hX⟩:=h;have c5:=Pat.text_short ok.wf ok.deep;have d5:At p.text 0 (p.tl++[]):=#[by rw[Gw];exact cq p,Go _,Ko];have Q5:=ok.deep;have hl:p.text.length=p.tl.length:=by rw[<-bq,cq]
  refine#[λd M'=>∃a,d=.ptr a/\M'=RdM a p.text 0,#[_,rfl,λa _=>#[a,rfl,rfl]],?_];rintro _ _⟨a,rfl,rfl⟩;k_places;refine#[λv M'=>FormOf p v/\M'=RdM a p.text p.tl.length,#[a,p.text,0,p,[],0,rfl,rfl,d5,rfl,Ks,ok.wf,Ko,λv h=>#[h,by rw[Iq]]],?_];rintro v _⟨hv,rfl⟩;k_places;refine#[_,aT,_,eU,Ko,ite2 (λc=>absurd (of_decide_eq_true c) Ko) (λ_=>?_)];obtain⟨fs,rfl,o1⟩:=hv.objm;refine#[λd M'=>∃w h s,p.Fam w h s/\d=.tup [.int w,.int h,.int s],#[p.cls,p.cls_mem,fs,#[rfl,rfl],o1.fam,p,_,rfl,hv,ok.wf,Ko,rfl,ok.fits,λw h s F=>#[w,h,s,F,rfl]],?_];rintro _ M'⟨w,h,s,F,rfl⟩;k_places;have a1:=ok.fits.small F;obtain⟨w',h',s',F',hb⟩:=ok.fits;obtain⟨rfl,rfl,_⟩:=F.uniq F';refine#[_,rfl,_,rfl,.inl #[Ko,Ko],ite2 (λc=>absurd (of_decide_eq_true c) Ko) (λ_=>?_)];exact#[_,_,_,_,_,_,rfl,hR _ _ (hG _ #[_,_,s,_,rfl,rfl,eZ Kv,#[F,#[_,kX Kv Kv,hv],by simp[noLF,noL,noLs,o1.nl]]])]
def Fe:SpD:=λds R=>∃(p q:Pat) (d e:D) (w h:Int),ds=[d,e,.int w,.int h]/\aZ p d/\aZ q e/\p.Ok/\q.Ok/\0<=w/\w<=720/\0<=h/\h<=720/\((∀x y:Int,0<=x->x<w->0<=y->y<h->p.show x y=q.show x y)->R .non)/\∀x y:Int,0<=x->x<w->0<=y->y<h->p.show x y≠q.show x y->(∀x' y':Int,0<=x'->x'<w->0<=y'->(y'<y\/(y'=y/\x'<x))->p.show x' y'=q.show x' y')->R (.tup [.int x,.int y])
abbrev pp(V:Bx):Prop:=V.D 9 "first_unlike" nD Fe
def Ff(T:V.T "first_unlike" nC nD)(uA:V.m "range")(KO:iY V):pp V:=by
 refine Tx.okDW T sc_first_unlike (λds R h=>?_) (λf cdv A outer s H E J hr=>⟨_,((aq (cm 4 PassesOwn.never rfl sc_first_unlike.nd uA (aa 3) (az (cm 5 PassesOwn.never rfl sc_first_unlike.nd uA (aa 2) (az (cB (cw (aF (CalX.no KO) hr (ac (aa 0) (ac (aa 5) (ac (aa 4) af)))) (aF (CalX.no KO) hr (ac (aa 1) (ac (aa 5) (ac (aa 4) af))))) (az (aM (aW (ac (aa 5) (ac (aa 4) af))))) bN)))))
   (az (aM cf)))),λds R h=>?_⟩)
 .obtain⟨_,_,_,_,_,_,rfl,_⟩:=h;rfl
 .obtain⟨p,q,d,e,w,h,rfl,hd,he,o0,Ol,w0,w7,h0,h7,hN,hS⟩:=h;obtain⟨wd,g7,sd,fs,rfl,q1,q2,fam⟩:=hd;have hd:aZ p (.obj "Pattern" fs):=#[wd,g7,sd,fs,rfl,q1,q2,fam];obtain⟨Rk,KU,Rl,MD,rfl,q3,q4,Om⟩:=he;have he:aZ q (.obj "Pattern" MD):=#[Rk,KU,Rl,MD,rfl,q3,q4,Om];refine#[#[Kw,Kw],λk z=>∃o4 o5,z=[be (.obj "Pattern" fs),be (.obj "Pattern" MD),be (.int w),be (.int h),o4,o5]/\∀x y:Int,0<=x->x<w->0<=y->y<k->p.show x y=q.show x y,#[_,_,rfl,λx y _ _ a b=>Kw],?_,?_]
  .rintro k v z hk⟨o4,o5,rfl,hj⟩;k_places;obtain⟨s9,rfl⟩:=range_int hk;refine#[#[Kw,Kw],λi z=>∃o5,z=[be (.obj "Pattern" fs),be (.obj "Pattern" MD),be (.int w),be (.int h),be (.int k),o5]/\∀x:Int,0<=x->x<i->p.show x k=q.show x k,#[_,rfl,λx a b=>Kw],?_,?_]
   .rintro i v z hi⟨o5,rfl,l5⟩;k_places;obtain⟨D',rfl⟩:=range_int hi;have nn:bb (i:Int)/\bb (k:Int):=#[#[Kw,Kw],Kw,Kw];refine#[p,_,i,k,rfl,hd,o0,λ_=>#[q,_,i,k,rfl,he,Ol,λ_=>?_,λn=>n nn],λn=>n nn];refine ite2 (λc=>?_) (λc=>?_)
    .refine#[Lr,hS i k Kw Kw Kw Kw (λz=>by simp[z]at c) λx' y' a b c d=>?_];rcases d with d|⟨rfl,d⟩
     .exact hj x' y' a b c Kw
     .exact l5 x' a Kw
    .have c':p.show i k=q.show i k:=by simpa using c
     refine#[_,rfl,λx a b=>?_];by_cases e:x=i
     .rw[e];exact c'
     .exact l5 x a Kw
   .rintro z⟨o5,rfl,l5⟩;k_places;rw[bC]at l5;refine#[_,_,rfl,λx y a b c d=>?_];by_cases e:y=k
    .rw[e];exact l5 x a Kw
    .exact hj x y a b c Kw
  .rintro z⟨o4,o5,rfl,hj⟩;k_places;rw[bC]at hj;exact hN λx y a b c d=>hj x y a b c Kw
def Fg:SiD:=λds R=>∃x y:Int,ds=[.int x,.int y]/\R [("y",.int y),("x",.int x)]
abbrev pq(V:Bx):Prop:=V.E 1 "Parted" nF Fg
def Fh(T:V.Te "Parted" "Parted.__init__" nE nF)(On:V.b "MotifError")(uAG:V.ea "Parted")(Oo:V.xf "Parted" "x")(Op:V.xf "Parted" "y"):pq V:=by
 refine Txe.okE T Dk (λds R h=>?_) (λf cdv A outer s H E J hr=>#[_,((zh On uAG (ac (aa 1) (ac (aa 2) af)) (zj uAG Oo (aa 1) (Cs uAG Op (aa 2) zf)))),λds R h=>?_])
 .obtain⟨_,_,rfl,_⟩:=h;rfl
 .obtain⟨x,y,rfl,hR⟩:=h;exact#[Lr,rfl,#[(λz=>nomatch z),by show(1:Nat)<=100;decide],hR]
def Fi:SpM:=λds M R _=>∃a q f p d,ds=[.ptr a,d]/\a≠q/\M=Fl.M f a q/\aZ p d/\R .non ((f.stand p d).M a q)
abbrev jt(V:Bx):Prop:=V.Q 1 "Floor" "stand" nH Fi
def Fj(T:V.Tm "Floor" "stand" "Floor.stand" nG nH)(uE:V.a "Floor" "pattern")(JI:V.a "Floor" "text")(K_:V.a "Pattern" "text"):jt V:=by
 refine CalMth.drop (Txm.okM T Dl (λds M R RX h=>?_) (λf cdv A outer s H E J hr hx=>⟨_,((ai (bI uE (ad (aa 0)) (ad (aa 1)))
   (am (bI JI (ad (aa 0)) (aA K_ (ad (aa 1))))))),λds M R RX d8 h=>?_⟩))
 .obtain⟨_,_,⟨_,_,_,_,_,rfl,_⟩,_⟩:=h;rfl
 .obtain⟨R,RX,⟨a,q,f,p,d,rfl,ne,rfl,⟨wd,g7,sd,fs,rfl,e1,e2,fam⟩,hR⟩,rfl,rfl⟩:=h;refine#[_,Fl.ma ne,by show(6:Nat)<1000;decide,?_];rw[Fl.put ne];refine#[fs,#[rfl,rfl],_,e1,_,(bX (Ne.symm ne)).trans bc,by show(6:Nat)<1000;decide,_,?_,hR];rw[cH (Ne.symm ne),bw];exact Fl.sub (f:=f.stand p _) ne
def Fl.chg(f:Fl)(a:KF)(R:D->MS->Prop)(RX:XDM)(M:MS):D->Prop:=λd=>∃p,aZ p d/\p.Ok/\(Same2 f.p p f.w f.l->∀q',a≠q'->R .non (((f.keep "change").stand p d).M a q'))/\∀x y,First2 f.p p f.w f.l x y->RX "Parted" [("y",.int y),("x",.int x)] M
def Fk:SpM:=λds M R RX=>∃a q f t,ds=[.ptr a,.str t]/\a≠q/\M=Fl.M f a q/\f.Ok/\S_read [.str t] (f.chg a R RX M) (λx fs=>RX x fs M)
abbrev pr(V:Bx):Prop:=V.Q 19 "Floor" "change" nJ Fk
def Fm(T:V.Tm "Floor" "change" "Floor.change" nI nJ)(La:jr V)(Oq:pp V)(uD:V.a "Floor" "laid")(uL:V.a "Floor" "width")(uE:V.a "Floor" "pattern")(K5:iW V)(Lb:jt V)(uAP:pq V):pr V:=by
 refine CalMth.drop (Txm.okM T sc_Floor_change (λds M R RX h=>?_) (λf cdv A outer s H E J hr hx=>⟨_,((ai (aD 2 sc_Floor_change.nd (aH (CalX.toM La) hx hr (ar (ac (aa 1) af))))
   (ai (aD 3 sc_Floor_change.nd (aH (CalD.toM Oq) hx hr (aw (aA uE (ad (aa 0))) (aw (ad (aa 2)) (aw (aA uL (ad (aa 0))) (aw (aA uD (ad (aa 0))) aS))))))
   (ai (aR (bg (yj (aa 3) cf)) (am (zV uAP hr hx rfl (ar (ac (ah (aa 3) ae) (ac (ah (aa 3) ae) af))))) aI)
   (ai (bn (aO (CalMth.one K5) hx hr (ad (aa 0)) (ar (ac ay af))))
   (am (bn (aO (CalMth.one Lb) hx hr (ad (aa 0)) (ar (ac (aa 2) af)))))))))),λds M R RX d8 h=>?_⟩))
 .obtain⟨_,_,⟨_,_,_,_,rfl,_⟩,_⟩:=h;rfl
 .obtain⟨R,RX,⟨a,q,f,t,rfl,ne,rfl,ok,hR⟩,rfl,rfl⟩:=h;have w1:=ok.w1;have w2:=ok.w2;have l0:=ok.l0;have l1:=ok.l1;have h2:=ok.h2;refine#[λd M'=>M'=f.M a q/\f.chg a R RX (f.M a q) d,S_read.mono (RX':=λ_ _=>True) hR (λd h=>#[rfl,h]),?_];rintro d _⟨rfl,p,hd,o0,hS,hP⟩;k_places;obtain⟨wd,g7,sd,fs,rfl,e1,e2,fam⟩:=hd;have hd:aZ p (.obj "Pattern" fs):=#[wd,g7,sd,fs,rfl,e1,e2,fam];refine#[λc M'=>M'=f.M a q/\((c=.non/\Same2 f.p p f.w f.l)\/∃x y,c=.tup [.int x,.int y]/\First2 f.p p f.w f.l x y),?_,?_]
  .exact#[_,Fl.ma ne,_,gd,_,Fl.ma ne,_,fk,_,Fl.ma ne,_,dL,f.p,p,f.d,_,f.w,f.l,rfl,ok.is,hd,ok.ok,o0,Ko,Ko,l0,Ko,λh=>#[rfl,.inl #[rfl,h]],λx y h1 h2 h3 h4 h5 h6=>#[rfl,.inr #[x,y,rfl,#[h1,h2,h3,h4],h5,h6]]]
  rintro c _⟨rfl,⟨rfl,same⟩|⟨x,y,rfl,hf⟩⟩;k_places
  .refine#[_,FW.mpr rfl,_,Fl.ma ne,rfl,a,q,f,"change",rfl,ne,rfl,ok.de,λq' e_=>?_];exact#[_,FW.mpr rfl,_,Fl.ma e_,rfl,a,q',_,p,_,rfl,e_,rfl,hd,_,Fl.sub e_,hS same q' e_]
  .refine#[_,rfl,_,rfl,Lr,x,y,rfl,?_];rw[d8];exact#[_,Fl.sub ne,hP x y hf]
def Fo:SpM:=λds M R _=>∃a q f p,ds=[.ptr a,.str (Pat.text p)]/\a≠q/\M=Fl.M f a q/\f.Ok/\p.Ok/\(Same2 f.p p f.w f.l->∀q' d,aZ p d->a≠q'->R (.tup [.str "let in"]) (((f.keep "change").stand p d).M a q'))/\∀x y,First2 f.p p f.w f.l x y->R (.tup [.str "parted",.int x,.int y]) (f.M a q)
abbrev pv(V:Bx):Prop:=V.MM 20 "_law_change" nM Fo
def Fp(T:V.T "_law_change" nK nM)(Ot:pr V)(Ou:V.x "y" ["Parted"])(Ov:V.x "x" ["Parted"])(ek:oW V):pv V:=by
 refine Tx.okM T sc__law_change (λds M R RX h=>?_) (λf cdv A outer s H E J hr hx=>⟨_,((ai (aD 2 sc__law_change.nd (ad cf))
   (ai (tI (λpn xe J hp hx=>(am (cP (kC (aO (CalMth.one Ot) hx hr (ad (aa 0)) (ar (ac (aa 1) af))) (ad cf)) (am (aD 2 sc__law_change.nd (ad (aW (ac ay af))))) aI))) (λ_=>(zn 3 ek sc__law_change.nd (λe=>(az (aC 2 sc__law_change.nd (aW (ac ay (ac (sH Ov (aa 3)) (ac (sH Ou (aa 3)) af))))))) sG)))
   (am (ax (ad (aa 2))))))),λds M R RX d8 h=>?_⟩)
 .obtain⟨_,_,_,_,rfl,_⟩:=h;rfl
 .obtain⟨a,q,f,p,rfl,ne,rfl,ok,o0,hS,hP⟩:=h;refine#[λd M'=>d=.non/\M'=f.M a q,#[rfl,rfl],?_];rintro _ _⟨rfl,rfl⟩;k_places;refine#[λz M' x fs=>z=[be (.ptr a),be (.str p.text),be .non,G_]/\M'=f.M a q/\x="Parted"/\∃x y,fs=([("y",.int y),("x",.int x)]:List (JM×D))/\First2 f.p p f.w f.l x y,λJ hJ=>?_,?_]
  .refine#[λz M'=>Same2 f.p p f.w f.l/\∃q' d,aZ p d/\a≠q'/\z=[be (.ptr a),be (.str p.text),be (.tup [.str "let in"]),G_]/\M'=((f.keep "change").stand p d).M a q',?_,λz M' ⟨c,q',d,hd,e_,e1,e2⟩=>?_]
   .refine#[_,FW.mpr rfl,_,Fl.ma ne,rfl,a,q,f,p.text,rfl,ne,rfl,ok,uw (RX:=λ_ _=>True) o0 λd hd=>#[p,hd,o0,λc q' e_=>?_,λx y hf=>by rw[hJ];exact#[rfl,rfl,rfl,x,y,rfl,hf]]];dsimp only[mP,dC,rdIs,jU,id];rw[if_pos rfl];refine#[λe M'=>e=.tup [.str "let in"]/\M'=((f.keep "change").stand p d).M a q',#[Rx,rfl,rfl],?_];rintro _ _⟨rfl,rfl⟩;k_places;exact#[c,q',d,hd,e_,rfl,rfl]
   .subst e1 e2;exact hS c q' d hd e_
  .rintro z M' x fs⟨rfl,rfl,rfl,x,y,rfl,hf⟩;k_places;refine#[#[KK,KK],?_];rw[if_pos Kv];refine#[λd=>d=.tup [.str "parted",.int x,.int y],#[FW.mpr rfl,_,rfl,FW.mpr rfl,_,rfl,by show(3:Nat)<=1000;decide,rfl],?_];rintro _ rfl;k_places;exact#[hP x y hf,NoOwn.of rfl]
abbrev gk(V:Bx):Prop:=V.D 1 "_law_whole" nO AZ
def Fq(T:V.T "_law_whole" nN nO)(uF:V.m "isinstance")(Ow:V.m "bool")(uM:V.m "int"):gk V:=by
 refine Tx.okDW T Dm (λds R h=>?_) (λf cdv A outer s H E J hr=>#[_,((az (aM (fD (dz uF uM (aa 0) PyProof.Rows.boot_int yq) (fC (yp (dz uF Ow (aa 0) PyProof.Rows.boot_bool kit_bool))))))),λds R h=>?_])
 .obtain⟨i,rfl,_⟩:=h;rfl
 .obtain⟨i,rfl,hR⟩:=h;exact hR
def Fs:SpM:=λds M R _=>∃a q f p d,ds=[.ptr a,.str (Pat.text p),d]/\a≠q/\M=Fl.M f a q/\f.Ok/\p.Ok/\(d=.non->Same2 f.p p f.w f.l)/\(d≠.non->∃x y,d=.tup [.int x,.int y]/\First2 f.p p f.w f.l x y)/\(Same2 f.p p f.w f.l->∀q' d,aZ p d->a≠q'->R (.bl true) (((f.keep "change").stand p d).M a q'))/\∀x y,First2 f.p p f.w f.l x y->R (.bl true) (f.M a q)
abbrev pw(V:Bx):Prop:=V.MM 21 "_law_turned_to" nQ Fs
def Ft(T:V.T "_law_turned_to" nP nQ)(uB:V.m "len")(uF:V.m "isinstance")(Ox:V.m "tuple")(Oy:pv V)(x9:gk V):pw V:=by
 refine Tx.okM T sc__law_turned_to (λds M R RX h=>?_) (λf cdv A outer s H E J hr hx=>⟨_,((ai (aD 3 sc__law_turned_to.nd (aH Oy hx hr (ar (ac (aa 0) (ac (aa 1) af)))))
   (ai (aR (bg (rH (aa 2) cf)) (am (ax (ad (rP (fz hr) (aa 3) (aW (ac ay af)))))) aI)
   (ai (aR (bg (cM (dv (dw (cx (dz uF Ox (aa 3) PyProof.Rows.boot_tuple kit_tuple))) (dv (cw (cL uB (ac (aa 3) af)) ae) (eA (cw (ah (aa 3) ae) ay)))))) (am (ax (ad aV))) aI)
   (am (ax (ad (fD (aF x9 hr (ac (ah (aa 3) ae) af)) (fD (aF x9 hr (ac (ah (aa 3) ae) af)) (fC (rP (fz hr) (dD (aa 3) (cW ae) eK) (aa 2)))))))))))),λds M R RX d8 h=>?_⟩)
 .obtain⟨_,_,_,_,_,rfl,_⟩:=h;rfl
 .obtain⟨a,q,f,p,d,rfl,ne,rfl,ok,o0,hn,hd,hS,hP⟩:=h;refine#[λc M'=>(c=.tup [.str "let in"]/\Same2 f.p p f.w f.l/\∃q' d',aZ p d'/\a≠q'/\M'=((f.keep "change").stand p d').M a q')\/∃x y,c=.tup [.str "parted",.int x,.int y]/\First2 f.p p f.w f.l x y/\M'=f.M a q,#[a,q,f,p,rfl,ne,rfl,ok,o0,λsm q' d' is e_=>.inl #[rfl,sm,q',d',is,e_,rfl],λx y f2=>.inr #[x,y,rfl,f2,rfl]],?_];rintro _ _ (⟨rfl,sm,q',d',is,e_,rfl⟩|⟨x,y,rfl,f2,rfl⟩);k_places
  .by_cases e:d=.non
   .subst e;exact#[Rx,#[rfl,rfl],hS sm q' d' is e_]
   .obtain⟨x,y,rfl,f2⟩:=hd e;exact(First2.not f2 sm).elim
  .by_cases e:d=.non
   .exact(First2.not f2 (hn e)).elim
   .obtain⟨x',y',rfl,f3⟩:=hd e;obtain⟨rfl,rfl⟩:=First2.uniq f2 f3;refine#[_,rfl,_,rfl,x,rfl,_,rfl,y,rfl,λz=>absurd (show HT.sIx 3 0 (be 1)=0 from z.1) Ks,#[rfl,rfl],?_];have e2:eqFs [.int x,.int y] [.int x,.int y]=true:=by simp[eqFs,eqF]
    show R (.bl (eqFs [.int x,.int y] [.int x,.int y])) _;rw[e2];exact hP x y f2
def ju(ps:Nat->Pat)(w h:Int):D:=.lst ((FY 2).map λs=>.tup [.str (ps s).text,.lst (au (ps s) w 0 h.toNat)])
def pz{ps:Nat->Pat}{s:Nat}(s2:s<2):atI ((FY 2).map λs=>D.tup [.str (ps s).text,.lst (au (ps s) w 0 h.toNat)]) (s:Int)=be (.tup [.str (ps s).text,.lst (au (ps s) w 0 h.toNat)]):=cT (by rw[Gf,GB s2];rfl)
def Same2.symm{q:Pat}(a:Same2 p q w h):Same2 q p w h:=λx y a1 a2 a3 a4=>(a x y a1 a2 a3 a4).symm
def First2.symm{q:Pat}{x y:Int}(a:First2 p q w h x y):First2 q p w h x y:=#[a.1,Ne.symm a.2.1,λx' y' a1 a2 a3 a4=>(a.2.2 x' y' a1 a2 a3 a4).symm]
def Fu:SpM:=λds M R _=>∃(ps:Nat->Pat) (a q b c:KF) (f:Fl) (s:Nat) (zs:List (Nat×Deed)) (W H X Y o n:Int),ds=[.ptr a,ju ps f.w f.h,.lst [.str (ps 0).text,.int W,.int H,.int X,.int Y,.int o,.int n],.tup [.int f.w,.int f.h],.ptr b,.ptr c]/\[c,b,q,a].Nodup/\M=HM b c f s zs a q/\Fl.Ok f/\Hi ps f s zs/\Ndl (ps 0) W H X Y o n/\(∀x y,(ps 1).show x y=o)/\(ps 1).Ok/\zs.length<=8/\∀g q' s' d9,[c,b,q',a].Nodup->g.Ok->Hi ps g s' d9->g.w=f.w->g.h=f.h->d9.length<=zs.length+4->R (.bl true) (HM b c g s' d9 a q')
abbrev pA(V:Bx):Prop:=V.MM 22 "_law_turned_about" nU Fu
def Fv(T:V.T "_law_turned_about" nR nU)(uA:V.m "range")(Oz:oY V)(OA:pw V)(K7:jb V):pA V:=by
  refine Tx.okM T sc__law_turned_about (λds M R RX h=>?_) (λf cdv A outer s H E J hr hx=>⟨_,((ai (kD 6 PassesOwn.leaving rfl sc__law_turned_about.nd uA (ad ae) (ai (lf rfl (kE (ad (aa 4)) (ad (cK ae))) (dg_cons 7 sc__law_turned_about.nd (dg_cons 8 sc__law_turned_about.nd cN)))
        (ai (aD 9 sc__law_turned_about.nd (ad (aF Oz hr (ac (aa 2) (ac (ah (aa 3) ae) (ac (aa 8) af))))))
        (ai (aR (cF (cE (aH (CalMM.splitN OA) hx hr (ar (ac (aa 0) (ac (ah (ah (aa 1) (bL ae (aa 7))) ae) (ac (aa 9) af))))))) (am (ax (ad aV))) aI)
        (ai (cP (bg (rH (aa 9) cf)) (ai (aD 7 sc__law_turned_about.nd (ad (bL ae (aa 7))))
          (ai (bn (dE (ad (aa 4)) (ad (aW (ac (aa 7) (ac (aa 8) af))))))
          (am (bn (dE (ad (aa 5)) (ad ay)))))) aI)
        (ai (aR (fJ (kB (aH (CalMM.splitN K7) hx hr (ar (ac (aa 0) (ac ae (ac (dX (aa 6) ae) af))))) (ad ae)) (ad (dX (aa 8) (ah (aa 3) ae)))) (am (ax (ad aV))) aI)
        (am (cP (bg (fB (aa 8) (ah (aa 3) ae))) (ai (bn (dE (ad (aa 4)) (ad (aW (ac (aa 7) (ac (aB (aa 8) ae) af))))))
         (am (bn (dE (ad (aa 5)) (ad ay))))) aI))))))))
      (am (ax (ad aV))))),λds M R RX d8 h=>?_⟩)
  . obtain⟨_,_,_,_,_,_,_,_,_,_,_,_,_,_,rfl,_⟩:=h;rfl
  . obtain⟨ps,a,q,b,c,f,s,zs,W,H,X,Y,o,n,rfl,nd,rfl,ok,hi,N,hq,Ol,z8,hR⟩:=h
    let z0:SD:=[be (.ptr a),be (ju ps f.w f.h),be (.lst [.str (ps 0).text,.int W,.int H,.int X,.int Y,.int o,.int n]),be (.tup [.int f.w,.int f.h]),be (.ptr b),be (.ptr c)]
    have o0:∀s,s<2->(ps s).Ok:=λs hs=>by
      rcases(Ko:s=0\/s=1)with rfl|rfl
      . exact N.ok
      . exact Ol
    refine#[#[Ks,Ks],λk z M=>∃g q' s' d9 o6 o7 o8 o9,z=z0++[o6,o7,o8,o9]/\M=HM b c g s' d9 a q'/\[c,b,q',a].Nodup/\g.Ok/\Hi ps g s' d9/\g.w=f.w/\g.h=f.h/\d9.length<=zs.length+2*k,#[f,q,s,zs,_,_,_,_,rfl,rfl,nd,ok,hi,rfl,rfl,FX _],?_,?_]
    rotate_left
    . rintro z M⟨g,q',s',d9,o6,o7,o8,o9,rfl,rfl,m5,g6,hg,ew,eh,gz⟩;k_places;exact hR g q' s' d9 m5 g6 hg ew eh gz
    rintro k v z M hk⟨g,q,s,d9,o6,o7,o8,o9,rfl,rfl,nd,g6,hg,ew,eh,gz⟩;k_places;obtain⟨s9,rfl⟩:=range_int hk;have Q6:k<2:=s9;have l0:=g6.l0;have l1:=g6.l1;have h2:=g6.h2;have w1:=g6.w1;have w2:=g6.w2;have s2:=hg.s2;have n1:c≠b:=λe=>Pg
    have ne:a≠q:=λe=>Pg
    have mb:∀{xs ys:List D} {N:MS},mget ((c,.lst xs)::(b,.lst ys)::N) b=be (.lst ys):=(bX n1).trans bc;have pb:∀{xs ys KP:List D} {N:MS},mput ((c,.lst xs)::(b,.lst ys)::N) b (.lst KP)=(c,.lst xs)::(b,.lst KP)::N:=by
      intro xs ys KP N;rw[cH n1,bw]
    refine#[_,mb,_,vt,rfl,?_];have el:((g.l.toNat:Nat):Int)=g.l:=Gr l0;have sw:(Same2 (ps 0) (ps 1) g.w g.l->Same2 g.p (ps (1-s)) g.w g.l)/\∀x y,First2 (ps 0) (ps 1) g.w g.l x y->First2 g.p (ps (1-s)) g.w g.l x y:=by
      rw[hg.p];rcases(Ko:s=0\/s=1)with rfl|rfl
      . exact#[id,λ_ _=>id]
      . exact#[Same2.symm,λ_ _=>First2.symm]
    refine#[λd M'=>(d=.non/\M'=HM b c g s d9 a q/\Same2 g.p (ps (1-s)) g.w g.l)\/∃x y,d=.tup [.int x,.int y]/\M'=HM b c g s d9 a q/\First2 g.p (ps (1-s)) g.w g.l x y,#[_,rfl,ps 0,ps 1,W,H,X,Y,o,n,g.w,g.l.toNat,by rw[el,ew],N,hq,Ko,w2,Ko,λsm=>.inl #[rfl,rfl,sw.1 (by rw[<-el];exact sm)],λx y f2=>.inr #[x,y,rfl,rfl,sw.2 x y (by rw[<-el];exact f2)]],?_]
    let W2:SD->MS->Prop:=λz M=>∃g2 q2 s2 OB o9,z=z0++[be (.int k),be (.int (s2:Nat)),be (.int (Fl.l g2)),o9]/\M=HM b c g2 s2 OB a q2/\[c,b,q2,a].Nodup/\g2.Ok/\Hi ps g2 s2 OB/\g2.w=f.w/\g2.h=f.h/\OB.length<=zs.length+2*k+1
    have OC:(1:Int)-(s:Int)=((1-s:Nat):Int):=Ko
    have JG:atI ((FY 2).map λs=>D.tup [.str (ps s).text,.lst (au (ps s) f.w 0 f.h.toNat)]) (1-(s:Int))=be (.tup [.str (ps (1-s)).text,.lst (au (ps (1-s)) f.w 0 f.h.toNat)]):=by rw[OC];exact pz Ko
    rintro _ _ (⟨rfl,rfl,sm⟩|⟨x,y,rfl,rfl,f2⟩);k_places
    focus
      refine#[_,JG,_,rfl,[(c,.lst (wdL d9)),(b,.lst (stL g s d9))],g.M a q,#[λ_ h=>h,nd],a,q,g,ps (1-s),_,rfl,ne,rfl,g6,o0 _ Ko,λ_=>sm,λz=>(z rfl).elim,λ_ q' d' is e_ m5=>#[W2,?_,?_],λx y f2=>(First2.not f2 sm).elim]
      . refine#[λd M'=>d=.int ((1-s:Nat):Int)/\M'=[(c,MO.lst (wdL d9)),(b,.lst (stL g s d9))]++((g.keep "change").stand (ps (1-s)) d').M a q',#[congrArg D.int OC,rfl],?_];rintro _ _⟨rfl,rfl⟩;k_places;simp only[GU,GS];refine#[#[_,mb],Lr,_,mb,by rw[iU];lia,?_];rw[pb];refine#[#[_,bc],_,bc,by unfold wdL;rw[Gb];lia,?_];rw[bw];refine#[(g.keep "change").stand (ps (1-s)) d',q',1-s,Hi.add d9 g s "change",_,rfl,?_,m5,(g6.keep _).stand is (o0 _ Ko),hg.next (oG (by rw[hg.len];lia)) rfl Ko,ew,eh,by rw[oO];lia];unfold HM;rw[oM,oN];rfl
    rotate_left
    focus
      refine#[_,JG,_,rfl,[(c,.lst (wdL d9)),(b,.lst (stL g s d9))],g.M a q,#[λ_ h=>h,nd],a,q,g,ps (1-s),_,rfl,ne,rfl,g6,o0 _ Ko,λz=>(nomatch z),λ_=>#[x,y,rfl,f2],λsm=>(First2.not f2 sm).elim,λ_ _ _ m5=>#[W2,?_,?_]]
      . exact#[g,q,s,d9,_,rfl,rfl,nd,g6,hg,ew,eh,Ko]
    all_goals
      clear gz nd hg g6 l0 l1 h2 w1 w2 ne el sw s2 OC JG ew eh;rintro _ _⟨g,q,s,d9,o9,rfl,rfl,nd,g6,hg,ew,eh,gz⟩;k_places;have l0:=g6.l0;have l1:=g6.l1;have h2:=g6.h2;have ne:a≠q:=λe=>Pg
      refine#[[(c,.lst (wdL d9)),(b,.lst (stL g s d9))],g.M a q,#[λ_ h=>h,nd],a,q,g,1,_,rfl,ne,rfl,g6,Ks,Ks,λcc _=>#[_,rfl,_,rfl,?_],λcc q' e_ m5=>#[_,rfl,_,rfl,?_]]
      . refine ite2 (λz=>absurd z Tl) λ_=>#[_,#[_,rfl,ite2 (λz=>?_) λ_=>?_],λ_ _ h=>h]
        . exact absurd (of_decide_eq_true z) Ko
        . exact#[g,q,s,d9,_,_,_,_,rfl,rfl,nd,g6,hg,ew,eh,Ko]
      . refine ite2 (λz=>absurd z Tl) λ_=>#[_,#[_,rfl,ite2 (λ_=>?_) λz=>?_],λ_ _ h=>h]
        . simp only[GU,GS];refine#[#[_,mb],Lr,_,mb,by rw[iU];lia,?_];rw[pb];refine#[#[_,bc],_,bc,by unfold wdL;rw[Gb];lia,?_];rw[bw];refine#[g.lay 1,q',s,Hi.add d9 g s "lay",_,_,_,_,rfl,?_,m5,g6.lay Ks Ko,hg.next (oG (by rw[hg.len];lia)) hg.p hg.s2,ew,eh,by rw[oO];lia];unfold HM;rw[oM,oN];rfl
        . exact absurd (decide_eq_true Ko) z
def Fw:SpD:=λds R=>∃xs:List Int,ds=[.lst (xs.map D.int),.lst (xs.map D.int)]/\xs.length=7/\R (.bl true)
abbrev pB(V:Bx):Prop:=V.D 2 "_law_seven" nW Fw
def Fx(T:V.T "_law_seven" nV nW)(uB:V.m "len")(uF:V.m "isinstance")(J2:V.m "list")(uA:V.m "range")(x9:gk V):pB V:=by
 refine Tx.okDW T sc__law_seven (λds R h=>?_) (λf cdv A outer s H E J hr=>⟨_,((aq (cB (cM (dv (dw (cx (dz uF J2 (aa 0) PyProof.Rows.boot_list kit_list))) (eA (cw (cL uB (ac (aa 0) af)) ae)))) (az (aM aV)) bN)
   (aq (cm 2 PassesOwn.never rfl sc__law_seven.nd uA ae (az (cB (cM (dv (dw (cx (aF x9 hr (ac (ah (aa 0) (aa 2)) af)))) (eA (cw (ah (aa 0) (aa 2)) (ah (aa 1) (aa 2)))))) (az (aM aV)) bN)))
   (az (aM aV))))),λds R h=>?_⟩)
 .obtain⟨_,rfl,_⟩:=h;rfl
 .obtain⟨xs,rfl,x7,hR⟩:=h;refine ite2 (λc=>absurd c (by simp[x7])) λ_=>?_;refine#[#[Ks,Ks],λk z=>∃o,z=[be (.lst (xs.map D.int)),be (.lst (xs.map D.int)),o],#[_,rfl],?_,?_]
  .rintro k v z hk⟨o,rfl⟩;k_places;obtain⟨s9,rfl⟩:=range_int hk;have k7:k<7:=s9;have ak:atI (xs.map D.int) (k:Int)=be (.int (xs[k]' Kw)):=cT (by rw[Gf,Gv Kw];rfl);exact#[_,ak,_,rfl,_,ak,_,ak,ite2 (λc=>absurd c KK) λ_=>#[_,rfl]]
  .rintro z⟨o,rfl⟩;k_places;exact hR
def Fy:SpD:=λds R=>∃(p:Pat) (w lo:Int) (n:Nat),ds=[.lst (au p w lo n)]/\p.Ok/\0<=w/\w<=30/\n<=30/\R (.lst ((cD p 0 lo w.toNat n).map D.int))
abbrev pC(V:Bx):Prop:=V.D 1 "_law_counts" nY Fy
def Fz(T:V.T "_law_counts" nX nY):pC V:=by
 refine Tx.okDW T sc__law_counts (λds R h=>?_) (λf cdv A outer s H E J hr=>⟨_,((aq (kd 1 sc__law_counts.nd (ac ae (ac ae (ac ae (ac ae (ac ae (ac ae (ac ae af))))))))
   (aq (yB 2 PassesOwn.never rfl sc__law_counts.nd (aa 0) (az (zD 3 PassesOwn.never rfl sc__law_counts.nd (aa 2) (az (AK 1 (sO ay (ac (aa 3) af)) ae)))))
   (fE 1 (az (aM (aa 1))))))),λds R h=>?_⟩)
 .obtain⟨_,_,_,_,rfl,_⟩:=h;rfl
 .obtain⟨p,w,lo,n,rfl,ok,w0,w7,n7,hR⟩:=h;have e0:([.int 0,.int 0,.int 0,.int 0,.int 0,.int 0,.int 0]:List D)=(due7 p 0 lo w.toNat 0 0).map D.int:=rfl;refine#[Ks,?_];refine#[λk z=>∃o1 o2,z=[be (.lst (au p w lo n)),be (.own ((due7 p 0 lo w.toNat k 0).map D.int)),o1,o2],#[_,_,rfl],?_,?_]
  .rintro k v z hk⟨o1,o2,rfl⟩;k_places;obtain⟨s9,rfl⟩:=DB hk;refine#[DD ok 0 (lo+k) w.toNat,λi z=>∃o2,z=[be (.lst (au p w lo n)),be (.own ((due7 p 0 lo w.toNat k i).map D.int)),be (.str (aE p 0 (lo+k) w.toNat)),o2],#[_,rfl],?_,?_]
   .rintro i v z hi⟨o2,rfl⟩;k_places;obtain⟨D',rfl⟩:=DF hi;obtain⟨u,u7,eu,e3,e4⟩:=Dx ok 0 lo w.toNat k i;obtain⟨rest,ho⟩:=DG u7;rw[eu];refine#[u,rest,ho,_,Ko,by rw[Gf,G3,e3];rfl,?_];rw[G3];exact#[_,by rw[<-e4];rfl]
   .rintro z⟨o2,rfl⟩;k_places;refine#[be (.str (aE p 0 (lo+k) w.toNat)),o2,?_];rw[eL,fV,Dy]
  .rintro z⟨o1,o2,rfl⟩;k_places;rw[show(au p w lo n).length=n by unfold au;simp,Dz];exact hR
abbrev pD(V:Bx):Prop:=V.D 10 "field_rows" nZ B6
def FA(T:V.T "field_rows" iN nZ)(uA:V.m "range")(K4:iZ V)(JH:V.a "Pattern" "shifts"):pD V:=by
 refine Tx.okDW T Dn (λds R h=>?_) (λf cdv A outer s H E J hr=>#[_,((az (aM (kq rfl (compScope (by change dA _ (ag iN) ["pattern"] _=true;decide+kernel)) uA (ah (eG JH (aa 0)) ae) (λcl s0 H0 fp=>(aF K4 hr (ac (aa 0) (ac ae (ac (aa 1) (ac (ah (eG JH (aa 0)) ae) af)))))))))),λds R h=>?_])
 .obtain⟨_,_,rfl,_⟩:=h;rfl
 .obtain⟨p,d,rfl,hd,ok,hR⟩:=h;obtain⟨w,h,s,fs,rfl,e1,e2,hp⟩:=id hd;have F:=hp.toFam;have sm:=ok.fits.small F;have wh:w*h<=720:=by
   obtain⟨w',h',s',f',hb⟩:=ok.fits;obtain⟨rfl,rfl,_⟩:=F.uniq f';exact hb
  refine#[rfl,_,e2,_,rfl,#[Ko,Ko],by rw[bC];lia,λk ys=>ys=(FY k).map λ(y:Nat)=>D.str (aE p 0 (y:Int) w.toNat),rfl,?_,?_]
  .rintro k v ys hk hl rfl;obtain⟨s9,rfl⟩:=range_int hk;refine#[rfl,_,e2,_,rfl,p,.obj "Pattern" fs,0,k,w.toNat,by rw[Gr Ko],hd,ok,Ko,#[Ko,Ko],#[Ko,Ko],#[Ko,Ko],?_];show _=H9 _ (FY (k+1));rw[G8,Gm];rfl
  .rintro ys hl rfl;rw[bC];exact hR w h s F wh sm.2.1 sm.2.2.2.1
abbrev C_round_row(V:Bx):Prop:=V.D 2 "round_row" og B7
def FC(T:V.T "round_row" oa og)(D_:fo V):C_round_row V:=by
 refine Tx.okDW T sc_round_row (λds R h=>?_) (λf cdv A outer s H E J hr=>⟨_,((aq (aC 4 sc_round_row.nd (aF D_ hr (ac (aa 0) (ac (aa 2) (ac (aa 3) af)))))
   (aq (aC 5 sc_round_row.nd (ah (aa 1) (ah (aa 4) ae)))
   (az (aM (aB (dD (aa 5) (cW (ah (aa 4) ae)) eK) (dD (aa 5) eK (cW (ah (aa 4) ae))))))))),λds R h=>?_⟩)
 .obtain⟨_,_,_,_,_,_,rfl,_⟩:=h;rfl
 .obtain⟨p,w,h,s,x,y,rfl,F,w7,h7,hR⟩:=h;have f:=F.f;have y0:=Gy y (show h≠0 by have:=f.h0;lia);have y1:=Gz y f.h0;refine#[λd=>d=.tup [.int (hmX w h s x y),.int (y%h)],#[w,h,s,x,y,rfl,f.w0,f.h0,Ko,f.s0,by have:=f.sw;lia,rfl],?_];rintro _ rfl;k_places;refine#[λd=>d=.str (aE p 0 (y%h) w.toNat),#[_,rfl,_,?_,rfl],?_]
  .have e:y%h=(((y%h).toNat:Nat):Int):=by lia
   rw[e];exact cT (by rw[Gf,GB Ko];simp)
  rintro _ rfl;k_places;have l:=fV p 0 (y%h) w.toNat;refine#[_,rfl,Ko,_,rfl,Ko,?_];have e:=B5 f.w0 f.h0 (λ_ _ q=>F.keeps q) x y;refine#[?_,?_]
  .rw[<-bq,<-bq,<-Gc,<-aY,e,cr];simp;lia
  .rw[e];exact hR
abbrev pE(V:Bx):Prop:=V.D 1 "count_sign" oi Cf
def FD(T:V.T "count_sign" oh oi)(uB:V.m "len"):pE V:=by
 refine Tx.okDW T Do (λds R h=>?_) (λf cdv A outer s H E J hr=>#[_,((az (aM (aB (bp (bz (aa 2) (cL uB (ac (aa 0) af))) (tK (aa 0) (ac (aa 1) af))) (tK (dD (aa 0) eK (cW (aK (aa 2) (cL uB (ac (aa 0) af))))) (ac (aa 1) af)))))),λds R h=>?_])
 .obtain⟨_,_,_,_,_,_,rfl,_⟩:=h;rfl
 .obtain⟨p,x,y,v,m,w,rfl,ok,v0,v6,w0,w7,m0,m1,kw,hR⟩:=h;have l:=fV p x y w;have q0:0<=m/(w:Int):=Iw m0 Ko;have q1:m/(w:Int)<=m:=Ix _ m0;have r0:=Gy m (show(w:Int)≠0 by lia);have r1:=Gz m (show 0<(w:Int)by lia);have er:m%(w:Int)=(((m%(w:Int)).toNat:Nat):Int):=by lia
  have e2:Txt.slice (aE p x y w) G_ (be (m%(w:Int)))=aE p x y (m%(w:Int)).toNat:=by
   rw[er,Ce p x y Ko];rfl
  refine#[Ko,#[by rw[l];lia,by rw[l];lia],.inl #[by rw[l];lia,by rw[l];lia],Ko,by rw[l];lia,Ko,?_];show R (.int (m/((aE p x y w).length:Int)*occC (aE p x y w) (signOf v)+occC (Txt.slice (aE p x y w) G_ (be (m%((aE p x y w).length:Int)))) (signOf v)));rw[l,e2,va ok x y v0 v6,va ok x y v0 v6];have K2:∀k:Nat,(λk:Nat=>p.show (x+k) y) (k+w)=(λk:Nat=>p.show (x+k) y) k:=λk=>by
   have:=kw (x+k) y;rw[GN]at this;show p.show (x+((k+w:Nat):Int)) y=p.show (x+(k:Int)) y;rw[<-this,Hr,Iu]
  have:=Ca (f:=λk:Nat=>p.show (x+k) y) w0 K2 v m.toNat;have d1:m/(w:Int)=((m.toNat/w:Nat):Int):=by rw[Int.natCast_ediv,Gr m0]
  have d2:(m%(w:Int)).toNat=m.toNat%w:=by
   have:m%(w:Int)=((m.toNat%w:Nat):Int):=by rw[Jn,Gr m0]
   lia
  rw[d1,d2,this];exact hR
abbrev jv(V:Bx):Prop:=V.X 11 "count_all" oj Cm
def FE(T:V.T "count_all" iO oj)(J3:V.m "max")(uA:V.m "range")(OD:V.m "min")(KQ:V.m "enumerate")(KN:iX V)(OE:pD V)(OF:C_round_row V)(OG:pE V)(uR:V.gs "SIGNS" ".123456")(JH:V.a "Pattern" "shifts"):jv V:=by
  refine Tx.okXW T sc_count_all (λds R RX h=>?_) (λf cdv A outer s H E J hr hx=>⟨_,((aq (rQ (sC KN hx hr (ac (aa 1) (ac (aa 2) af))))
      (aq (rQ (sC KN hx hr (ac (aa 3) (ac (aa 4) af))))
      (aq (aC 5 sc_count_all.nd (eG JH (aa 0)))
      (aq (aC 6 sc_count_all.nd (aF OE hr (ac (aa 0) af)))
      (aq (aC 7 sc_count_all.nd (kj rfl J3 (ac (aB (bL (aa 3) (aa 1)) ae) (ac ae af))))
      (aq (aC 8 sc_count_all.nd (bp (ah (aa 5) ae) (ah (aa 5) ae)))
      (aq (AC 9 rfl (compScope (by change dA _ (ag iO) ["pattern","left","top","right","bottom","family","rows","many","again","counts","y","times","row","hue","sign"] _=true;decide+kernel)) sc_count_all.nd (eI uR) (λcl s0 H0 fp=>ae))
      (aq (zb 10 PassesOwn.leaving rfl sc_count_all.nd uA (aa 2) (yI rfl OD (ac (aB (aa 4) ae) (ac (aB (aa 2) (aa 8)) af))) (aq (aC 11 sc_count_all.nd (aB (bz (bL (aa 4) (aa 10)) (aa 8)) ae))
        (aq (aC 12 sc_count_all.nd (aF OF hr (ac (aa 5) (ac (aa 6) (ac (aa 1) (ac (aa 10) af))))))
        (az (AH PassesOwn.leaving rfl KQ (eI uR) (dg_cons 13 sc_count_all.nd (dg_cons 14 sc_count_all.nd cN)) (az (kt 9 (aB (bu 9 (aa 13)) (bp (aa 11) (aF OG hr (ac (aa 12) (ac (aa 14) (ac (aa 7) af)))))) (aa 13))))))))
      (fE 9 (az (aM (aa 9))))))))))))),λds R RX d8 h=>?_⟩)
  . obtain⟨_,_,_,_,_,_,rfl,_⟩:=h;rfl
  . obtain⟨p,d,left,top,right,b_,rfl,hd,ok,hR,hX⟩:=h;obtain⟨w,h,s,fs,rfl,e1,e2,hp⟩:=id hd;have F:=hp.toFam;have sm:=ok.fits.small F;refine#[left,top,rfl,λn1=>?_,λn1=>by rw[d8];exact hX λz=>n1 #[z.1,z.2.1]];refine#[right,b_,rfl,λn2=>?_,λn2=>by rw[d8];exact hX λz=>n2 #[z.2.2.1,z.2.2.2]];have hR:=hR #[n1.1,n1.2,n2.1,n2.2];unfold bb at n1 n2;refine#[λd=>d=.tup [.int w,.int h,.int s],#[rfl,_,e2,rfl],?_];rintro _ rfl;k_places;refine#[λd=>d=fW p w h/\w*h<=720,#[p,_,rfl,hd,ok,λw' h' s' F' hb _ _=>by obtain⟨rfl,rfl,rfl⟩:=F.uniq F';exact#[rfl,hb]],?_];rintro _⟨rfl,hb⟩;k_places;refine#[λd=>d=.int ((right-left+1).toNat:Nat),congrArg D.int (Cl _),?_];rintro _ rfl;k_places;have Rm:0<w*h:=Gq F.f.w0 F.f.h0;refine#[λd=>d=.int (w*h),#[_,rfl,_,rfl,.inl #[Ko,Ko],rfl],?_];rintro _ rfl;k_places;generalize hm:(right-left+1).toNat=m at*;generalize hn:(b_-top+1).toNat=n at*;generalize hN:(w*h).toNat=N at*;refine#[Kv,Kv,λk ys=>ys=F4 k (D.int 0),rfl,?_,?_]
    . rintro k v ys hk hl rfl;show _=F4 (k+1) _;rw[JC]
    rintro ys hl rfl;have wN:w*h=(N:Int):=Ko
    have D':=Ci (top:=top) hn wN;have RV:=vc n1.1 n2.1 hm;have RW:=vc n1.2 n2.2 hn;refine#[Cj #[n1.2.1,n1.2.2] #[n2.2.1,n2.2.2] Rm hb,λk z=>∃m6 m7 l8 p6 Kk,z=[be (.obj "Pattern" fs),be (.int left),be (.int top),be (.int right),be (.int b_),be (.tup [.int w,.int h,.int s]),be (fW p w h),be (.int m),be (.int (w*h)),be (.own ((FY 7).map λ(v:Nat)=>D.int (bW p left top m n N k v))),m6,m7,l8,p6,Kk],#[G_,G_,G_,G_,G_,?_],?_,?_]
    . have e7:(bt (".123456":JM)).length=7:=by decide+kernel
      rw[e7];rfl
    . rintro k v z hk⟨m6,m7,l8,p6,Kk,rfl⟩;k_places;obtain⟨s9,rfl⟩:=range2_int hk;rw[D']at s9;refine#[λd=>d=.int (((n:Int)-1-k)/N+1),#[#[Ko,Ko],?_],?_]
      . rw[wN];congr 3;exact Ck hn s9
      rintro _ rfl;k_places;refine#[λd=>d=.str (aE p left (top+k) w.toNat),#[p,w,h,s,left,top+k,rfl,F,sm.2.1,sm.2.2.2.1,rfl],?_];rintro _ rfl;k_places;refine#[Kv,λi z=>∃p6 Kk,z=[be (.obj "Pattern" fs),be (.int left),be (.int top),be (.int right),be (.int b_),be (.tup [.int w,.int h,.int s]),be (fW p w h),be (.int m),be (.int (w*h)),be (.own ((FY 7).map λ(v:Nat)=>D.int (if v<i then bW p left top m n N (k+1) v else bW p left top m n N k v))),be (.int (top+k)),be (.int (((n:Int)-1-k)/N+1)),be (.str (aE p left (top+k) w.toNat)),p6,Kk],#[_,_,rfl],?_,?_]
      . rintro i v z hi⟨p6,Kk,rfl⟩;k_places;rw[Ch]at hi;have i7:i<7:=by simpa using(Gh.mp hi).1
        have ev:v=.str #[[signOf (i:Int)].toArray]:=by
          rw[Gf,GB i7]at hi;exact(Option.some.inj hi).symm
        subst ev;have ci:=uy (λk'=>p.show (left+k') (top+k)) i m;have tq:0<=((n:Int)-1-k)/N/\((n:Int)-1-k)/N<=(n:Int)-1-k:=#[Iw Ko Ko,Ix _ Ko];refine#[_,cT (by rw[Gf,GB i7];rfl),p,left,top+k,i,m,w.toNat,rfl,ok,Ko,Ko,Ko,Ko,Ko,Ko,by rw[Gr Ko];exact F.across,?_];refine#[.inl #[Ko,Ko],i,?_,?_]
        . unfold ixN;rw[if_pos Ko,if_pos Tl];simp
        refine#[be (.int i),be (.str #[[signOf (i:Int)].toArray]),?_];rw[G3,if_neg (GV i)];have e:bW p left top m n N k i+(((n:Int)-1-k)/N+1)*cntN (λk'=>p.show (left+k') (top+k)) i m=bW p left top m n N (k+1) i:=rfl;rw[e];have q:=vb (n:=7) (i:=i) (λ(v:Nat)=>D.int (if v<i then bW p left top m n N (k+1) v else bW p left top m n N k v)) (λ(v:Nat)=>D.int (if v<i+1 then bW p left top m n N (k+1) v else bW p left top m n N k v)) (λv hv ne=>by
          by_cases c:v<i
          . rw[if_pos c,if_pos Ko]
          . rw[if_neg c,if_neg Ko])
        rw[if_pos (show i<i+1 by lia)]at q;rw[q];rfl
      . rintro z⟨p6,Kk,rfl⟩;k_places;refine#[be (.int (top+k)),be (.int (((n:Int)-1-k)/N+1)),be (.str (aE p left (top+k) w.toNat)),p6,Kk,?_];have:∀v∈FY 7,D.int (if v<(bt (".123456":JM)).length then bW p left top m n N (k+1) v else bW p left top m n N k v)=D.int (bW p left top m n N (k+1) v):=λv hv=>by
          rw[if_pos (by  have e7:(bt (".123456":JM)).length=7:=by decide+kernel
                         rw[e7];simpa using hv)]
        rw[Hl this]
    . rintro z⟨m6,m7,l8,p6,Kk,rfl⟩;k_places;have e:((FY ((if top+w*h<b_+1 then top+w*h else b_+1)-top).toNat).map λ(k:Nat)=>D.int (top+(k:Int))).length=min n N:=by simp[D']
      rw[e];have fold:∀v:Nat,bW p left top m n N (min n N) v=cC p v left top m n:=λv=>Cg Ko (by rw[<-wN];exact F.down) v left top m n;simp only[fold];have e2:((FY 7).map λ(v:Nat)=>D.int (cC p v left top m n))=(cD p left top m n).map D.int:=by unfold cD;rw[Hb];rfl
      rw[e2];exact hR
def FF:SpM:=λds M R _=>∃a q f,ds=[.ptr a]/\a≠q/\M=Fl.M f a q/\f.Ok/\R (.lst ((cD f.p 0 0 f.w.toNat f.l.toNat).map D.int)) (f.M a q)
abbrev pF(V:Bx):Prop:=V.Q 12 "Floor" "lies" om FF
def FG(T:V.Tm "Floor" "lies" "Floor.lies" ol om)(Ld:jv V)(uD:V.a "Floor" "laid")(uL:V.a "Floor" "width")(uE:V.a "Floor" "pattern"):pF V:=by
 refine Txm.okM T Dp (λds M R RX h=>?_) (λf cdv A outer s H E J hr hx=>#[_,((am (ax (aH (CalX.toM Ld) hx hr (aw (aA uE (ad (aa 0))) (aw (ad ae) (aw (ad ae) (aw (cX (aA uL (ad (aa 0))) (ad ae)) (aw (cX (aA uD (ad (aa 0))) (ad ae)) aS))))))))),λds M R RX d8 h=>?_])
 .obtain⟨_,_,_,rfl,_⟩:=h;rfl
 .obtain⟨a,q,f,rfl,ne,rfl,ok,hR⟩:=h;have w1:=ok.w1;have w2:=ok.w2;have l0:=ok.l0;have l1:=ok.l1;have h2:=ok.h2;refine#[_,Fl.ma ne,_,gd,_,Fl.ma ne,_,fk,_,Fl.ma ne,_,dL,f.p,f.d,0,0,f.w-1,f.l-1,rfl,ok.is,ok.ok,λ_=>?_,λz=>absurd #[#[Ko,Ko],#[Ko,Ko],#[Ko,Ko],Ko,Ko] z];rw[show(f.w-1-0+1).toNat=f.w.toNat by lia,show(f.l-1-0+1).toNat=f.l.toNat by lia];exact hR
def FH:SpM:=λds M R _=>∃a q f,ds=[.ptr a]/\a≠q/\M=Fl.M f a q/\f.Ok/\R (.lst ((cD f.p 0 f.l f.w.toNat (f.h-f.l).toNat).map D.int)) (f.M a q)
abbrev pG(V:Bx):Prop:=V.Q 12 "Floor" "still" ot FH
def FI(T:V.Tm "Floor" "still" "Floor.still" oq ot)(Ld:jv V)(uU:V.a "Floor" "height")(uL:V.a "Floor" "width")(uD:V.a "Floor" "laid")(uE:V.a "Floor" "pattern"):pG V:=by
 refine Txm.okM T Dq (λds M R RX h=>?_) (λf cdv A outer s H E J hr hx=>#[_,((am (ax (aH (CalX.toM Ld) hx hr (aw (aA uE (ad (aa 0))) (aw (ad ae) (aw (aA uD (ad (aa 0))) (aw (cX (aA uL (ad (aa 0))) (ad ae)) (aw (cX (aA uU (ad (aa 0))) (ad ae)) aS))))))))),λds M R RX d8 h=>?_])
 .obtain⟨_,_,_,rfl,_⟩:=h;rfl
 .obtain⟨a,q,f,rfl,ne,rfl,ok,hR⟩:=h;have w1:=ok.w1;have w2:=ok.w2;have l0:=ok.l0;have l1:=ok.l1;have h2:=ok.h2;refine#[_,Fl.ma ne,_,gd,_,Fl.ma ne,_,dL,_,Fl.ma ne,_,fk,_,Fl.ma ne,_,iQ,f.p,f.d,0,f.l,f.w-1,f.h-1,rfl,ok.is,ok.ok,λ_=>?_,λz=>absurd #[#[Ko,Ko],#[Ko,Ko],#[Ko,Ko],Ko,Ko] z];rw[show(f.w-1-0+1).toNat=f.w.toNat by lia,show(f.h-1-f.l+1).toNat=(f.h-f.l).toNat by lia];exact hR
def FJ:SpM:=λds M R _=>∃a q f,ds=[.ptr a]/\a≠q/\M=Fl.M f a q/\R (.int f.ds.length) (f.M a q)
abbrev pH(V:Bx):Prop:=V.Q 1 "Floor" "kept" ow FJ
def FK(T:V.Tm "Floor" "kept" "Floor.kept" ou ow)(uB:V.m "len")(uS:V.a "Floor" "deeds"):pH V:=by
 refine Txm.okM T Dr (λds M R RX h=>?_) (λf cdv A outer s H E J hr hx=>#[_,((am (ax (fN uB (aA uS (ad (aa 0))))))),λds M R RX d8 h=>?_])
 .obtain⟨_,_,_,rfl,_⟩:=h;rfl
 .obtain⟨a,q,f,rfl,ne,rfl,hR⟩:=h;refine#[_,Fl.ma ne,_,iR,_,Fl.mq,?_];rw[Gb];exact hR
def FL:SpM:=λds M R _=>∃a q f,ds=[.ptr a,.str f.p.text,.tup [.int f.w,.int f.h],.lst (au f.p f.w 0 f.l.toNat),.lst (au f.p f.w f.l (f.h-f.l).toNat),.int f.ds.length]/\a≠q/\M=Fl.M f a q/\f.Ok/\R (.bl true) (f.M a q)
abbrev pI(V:Bx):Prop:=V.MM 13 "_law_view" oz FL
def FM(T:V.T "_law_view" oy oz)(uF:V.m "isinstance")(uK:V.m "str")(x9:gk V)(K8:jc V)(MF:pB V)(MG:pC V)(JI:V.a "Floor" "text")(uL:V.a "Floor" "width")(uU:V.a "Floor" "height")(K6:ja V)(OH:pF V)(OI:pG V)(OJ:pH V):pI V:=by
 refine Tx.okM T sc__law_view (λds M R RX h=>?_) (λf cdv A outer s H E J hr hx=>⟨_,((ai (aR (mt_w (fL (cF (cE (CH uF uK (aA JI (ad (aa 0))) PyProof.Rows.boot_str kit_str))) (fK (fJ (aA JI (ad (aa 0))) (ad (aa 1)))))) (am (ax (ad aV))) aI)
   (ai (aR (mt_w (fL (cF (cE (aH (CalD.toM x9) hx hr (aw (aA uL (ad (aa 0))) aS)))) (fK (fJ (aA uL (ad (aa 0))) (ad (ah (aa 2) ae)))))) (am (ax (ad aV))) aI)
   (ai (aR (mt_w (fL (cF (cE (aH (CalD.toM x9) hx hr (aw (aA uU (ad (aa 0))) aS)))) (fK (fJ (aA uU (ad (aa 0))) (ad (ah (aa 2) ae)))))) (am (ax (ad aV))) aI)
   (ai (aR (cF (cE (aH (CalD.toM K8) hx hr (aw (bU (CalMth.one (CalMth.lendD K6)) hx hr (ad (aa 0))) (aw (ad (aa 3)) aS))))) (am (ax (ad aV))) aI)
   (ai (aR (cF (cE (aH (CalD.toM MF) hx hr (aw (bU (CalMth.one OH) hx hr (ad (aa 0))) (aw (ad (aF MG hr (ac (aa 3) af))) aS))))) (am (ax (ad aV))) aI)
   (ai (aR (cF (cE (aH (CalD.toM MF) hx hr (aw (bU (CalMth.one OI) hx hr (ad (aa 0))) (aw (ad (aF MG hr (ac (aa 4) af))) aS))))) (am (ax (ad aV))) aI)
   (ai (aD 6 sc__law_view.nd (bU (CalMth.one OJ) hx hr (ad (aa 0))))
   (am (ax (ad (fD (aF x9 hr (ac (aa 6) af)) (fC (dX (aa 6) (aa 5))))))))))))))),λds M R RX d8 h=>?_⟩)
 .obtain⟨_,_,_,rfl,_⟩:=h;rfl
 .obtain⟨a,q,f,rfl,ne,rfl,ok,hR⟩:=h;have w1:=ok.w1;have w2:=ok.w2;have l0:=ok.l0;have l1:=ok.l1;have h2:=ok.h2;have ec:∀lo n,(cD f.p 0 lo f.w.toNat n).length=7:=λlo n=>by unfold cD;simp
  refine#[_,Fl.ma ne,_,vi,?_];dsimp only[jZ];refine ite2 (λc=>nomatch c) λ_=>#[_,Fl.ma ne,_,vi,ite2 (λc=>absurd c KK) λ_=>?_];refine#[_,Fl.ma ne,_,fk,_,rfl,ite2 (λc=>nomatch c) λ_=>#[_,Fl.ma ne,_,fk,_,rfl,ite2 (λc=>absurd c KK) λ_=>?_]];refine#[_,Fl.ma ne,_,iQ,_,rfl,ite2 (λc=>nomatch c) λ_=>#[_,Fl.ma ne,_,iQ,_,rfl,ite2 (λc=>absurd c KK) λ_=>?_]];refine#[_,FW.mpr rfl,_,Fl.ma ne,rfl,?_];dsimp only[mNil];refine vy ne ok #[f.p,f.w,0,_,rfl,Ko,ite2 (λc=>nomatch c) λ_=>?_];refine#[_,FW.mpr rfl,_,Fl.ma ne,rfl,a,q,f,rfl,ne,rfl,ok,f.p,f.w,0,_,rfl,ok.ok,Ko,w2,Ko,_,rfl,ec _ _,ite2 (λc=>nomatch c) λ_=>?_];refine#[_,FW.mpr rfl,_,Fl.ma ne,rfl,a,q,f,rfl,ne,rfl,ok,f.p,f.w,f.l,_,rfl,ok.ok,Ko,w2,Ko,_,rfl,ec _ _,ite2 (λc=>nomatch c) λ_=>?_];refine#[λd M'=>d=.int f.ds.length/\M'=f.M a q,#[_,FW.mpr rfl,_,Fl.ma ne,rfl,a,q,f,rfl,ne,rfl,rfl,rfl],?_];rintro _ _⟨rfl,rfl⟩;k_places;refine#[_,rfl,?_];show R (.bl (decide ((f.ds.length:Int)=f.ds.length))) (f.M a q);rw[decide_eq_true rfl];exact hR
def FN:SiM:=λa ds R=>∃p w h,ds=[.str (Pat.text p),.int w,.int h]/\p.Ok/\∀d q,aZ p d->a≠q->R (Fl.M #[p,d,w,h,0,[]] a q)
abbrev pJ(V:Bx):Prop:=V.N 19 "Floor" oB FN
def FO(T:V.Ti "Floor" "Floor.__init__" oA oB)(La:jr V)(uE:V.a "Floor" "pattern")(JI:V.a "Floor" "text")(uL:V.a "Floor" "width")(uU:V.a "Floor" "height")(uD:V.a "Floor" "laid")(uS:V.a "Floor" "deeds"):pJ V:=by
 refine Txi.okIN T Ds (λa ds R h=>?_) (λf cdv A outer s H E J hr hx=>⟨_,((ai (bI uE (ad (aa 0)) (aH (CalX.toM La) hx hr (ar (ac (aa 1) af))))
   (ai (bI JI (ad (aa 0)) (ad (aa 1)))
   (ai (bI uL (ad (aa 0)) (ad (aa 2)))
   (ai (bI uU (ad (aa 0)) (ad (aa 3)))
   (ai (bI uD (ad (aa 0)) (ad ae))
   (am (bI uS (ad (aa 0)) (eO (ar af)))))))))),λa ds R KW h=>?_⟩)
 .obtain⟨_,_,_,rfl,_⟩:=h;rfl
 .obtain⟨p,w,h,rfl,ok,hR⟩:=h;refine uw (RX:=λ_ _=>True) ok λd hd=>?_;refine#[_,bc,by show(0:Nat)<1000;decide,?_];rw[bw];refine#[_,bc,Tk,?_];rw[bw];refine#[_,bc,by show(2:Nat)<1000;decide,?_];rw[bw];refine#[_,bc,by show(3:Nat)<1000;decide,?_];rw[bw];refine#[_,bc,by show(4:Nat)<1000;decide,?_];rw[bw];refine#[by show(0:Nat)<=1000;decide,λq hq=>?_];have ne:a≠q:=λe=>hq (e ▸ Gd);refine#[_,(bX (Ne.symm ne)).trans bc,by show(5:Nat)<1000;decide,?_];rw[cH (Ne.symm ne),bw];exact hR d q hd ne
def Fl.undone(f:Fl)(e:Deed)(es:List Deed):Fl:={f with p:=e.p,d:=e.d,l:=e.l,ds:=es}
def FP:SpM:=λds M R RX=>∃a q f,ds=[.ptr a]/\a≠q/\M=Fl.M f a q/\(f.ds=[]->RX "NothingKept" [] (f.M a q))/\∀es e,f.ds=es++[e]->aZ e.p e.d/\R (.str e.w) ((f.undone e es).M a q)
abbrev pK(V:Bx):Prop:=V.Q 2 "Floor" "undo" oE FP
def FQ(T:V.Tm "Floor" "undo" "Floor.undo" oC oE)(uB:V.m "len")(uS:V.a "Floor" "deeds")(uD:V.a "Floor" "laid")(Lb:jt V)(OK:V.n "NothingKept"):pK V:=by
 refine CalMth.drop (Txm.okM T sc_Floor_undo (λds M R RX h=>?_) (λf cdv A outer s H E J hr hx=>⟨_,((ai (aR (fH (fN uB (aA uS (ad (aa 0)))) (ad ae)) (am (sY OK hx rfl (ar (ac ay af)))) aI)
   (ai (aD 1 sc_Floor_undo.nd (kZ (aA uS (ad (aa 0)))))
   (ai (bn (aO (CalMth.one Lb) hx hr (ad (aa 0)) (ar (ac (ah (aa 1) ae) af))))
   (ai (bI uD (ad (aa 0)) (ad (ah (aa 1) ae)))
   (am (ax (ad (ah (aa 1) ae))))))))),λds M R RX d8 h=>?_⟩))
 .obtain⟨_,_,⟨_,_,_,rfl,_⟩,_⟩:=h;rfl
 .obtain⟨R,RX,⟨a,q,f,rfl,ne,rfl,hX,hR⟩,rfl,rfl⟩:=h;refine#[_,Fl.ma ne,_,iR,_,Fl.mq,ite2 (λc=>?_) (λc=>?_)]
  .have c':=of_decide_eq_true c;rw[Gb]at c';refine#[Rx,?_];rw[d8];exact#[_,Fl.sub ne,hX (Hn Ko)]
  have c':f.ds≠[]:=λz=>c (decide_eq_true (by rw[z];rfl));obtain⟨es,e,he⟩:∃es e,f.ds=es++[e]:=#[_,_,(JF c').symm];obtain⟨hi,hR⟩:=hR es e he;have q1:f.ds.map Deed.D=es.map Deed.D++[e.D]:=by rw[he,Gm];rfl
  refine#[λd M'=>d=e.D/\M'=Fl.M {f with ds:=es} a q,#[_,Fl.ma ne,_,iR,_,e.D,Fl.mq,by rw[q1];simp,rfl,?_],?_]
  .rw[show f.M a q=[(q,.lst (f.ds.map Deed.D)),(a,.ins "Floor" (f.fs q))]from rfl,bw,q1,Iy];rfl
  rintro _ _⟨rfl,rfl⟩;k_places;refine#[_,FW.mpr rfl,_,Fl.ma ne,rfl,_,rfl,a,q,_,e.p,e.d,rfl,ne,rfl,hi,?_];refine#[_,rfl,_,Fl.ma ne,by show(6:Nat)<1000;decide,_,rfl,_,?_,hR];rw[Fl.put ne];exact Fl.sub (f:=f.undone e es) ne
def Fl.Ok.undone{e:Deed}{es:List Deed}(ok:f.Ok)(h:f.ds=es++[e]):(f.undone e es).Ok:=by
 have hl:=ok.de;rw[h,Gc]at hl;obtain⟨i,o,a,b⟩:=ok.dd e (by rw[h];exact Gn _ (FW.mpr rfl));exact#[i,o,ok.w1,ok.w2,ok.h1,ok.h2,a,b,Ga (Nat.le_add_right _ _) hl,λx hx=>ok.dd x (by rw[h];exact G4 _ hx)]
def FR{fa:KF}{fd:R_}(F:Fun V.K "law" "law" iP fa fd)(uK:V.m "str")(uB:V.m "len")(uF:V.m "isinstance")(uQ:iV V)(OL:oR V)(OM:oU V)(ON:oX V)(OO:pA V)(OP:pI V)(OQ:pJ V)(OR:pK V):FnOk V.P V.w V.K V.mg V.base (Exc.CX1 V.P V.w) 23 fa fd oF (lSp V.K eE):=by
  refine CG (Fun.okM F sc_law (λds M R RX h=>?_) (λcdv A outer s H E J hr hx=>⟨_,((ai (aD 1 sc_law.nd (ad (aW (ac (aB ae (aK (aF uQ hr (ac (aa 0) (ac ae af))) ae)) (ac (aB ae (aK (bz (aF uQ hr (ac (aa 0) (ac ae af))) ae) ae)) af)))))
      (ai (cP (bg (bM (aK (aF uQ hr (ac (aa 0) (ac ae af))) ae) ae)) (am (aD 1 sc_law.nd (ad (aW (ac (ah (aa 1) ae) (ac ae af)))))) aI)
      (ai (aD 2 sc_law.nd (ad (aF OL hr (ac (aa 0) (ac ae af)))))
      (ai (aD 3 sc_law.nd (ad (aB (aB ay (cV uK (ac (ah (aa 2) ae) af))) ay)))
      (ai (aD 4 sc_law.nd (ad (cU (ac (aW (ac (ah (aa 2) ae) (ac (aF OM hr (ac (aa 2) (ac (aa 1) af))) af))) (ac (aW (ac (aa 3) (ac (eJ (cU (ac (eJ (cV uK (ac (ah (aa 2) ae) af)) (ah (aa 1) ae)) af)) (ah (aa 1) ae)) af))) af)))))
      (ai (aD 5 sc_law.nd (ad (aK (aF uQ hr (ac (aa 0) (ac ae af))) ae)))
      (ai (aD 6 sc_law.nd (CQ (CD OQ hr (ar (ac (ah (ah (aa 4) (aa 5)) ae) (ac (ah (aa 1) ae) (ac (ah (aa 1) ae) af)))))))
      (ai (aD 7 sc_law.nd (ad (ah (cU (ac (aK (bz (aF uQ hr (ac (aa 0) (ac ae af))) ae) (aB (ah (aa 1) ae) ae)) (ac (ah (aa 1) ae) af))) (aK (aF uQ hr (ac (aa 0) (ac ae af))) ae))))
      (ai (aD 8 sc_law.nd (eO (ar (ac (aW (ac (aa 5) (ac ae af))) af))))
      (ai (aD 9 sc_law.nd (eO (ar af)))
      (ai (aR (cF (cE (aH (CalMM.splitN ON) hx hr (ar (ac (aa 6) (ac (aa 7) (ac (aK (bz (aF uQ hr (ac (aa 0) (ac ae af))) ae) ae) (ac (ah (ah (aa 4) (aa 5)) ae) (ac (aa 8) (ac (aa 9) af)))))))))) (am (ax (ad aV))) aI)
      (ai (aR (cF (cE (aH (CalMM.splitN OO) hx hr (ar (ac (aa 6) (ac (aa 4) (ac (aa 2) (ac (aa 1) (ac (aa 8) (ac (aa 9) af)))))))))) (am (ax (ad aV))) aI)
      (ai (sZ PassesOwn.leaving (sS (fN uB (ad (aa 8))) (ad ae)) (ai (lf rfl (kZ (ad (aa 8))) (dg_cons 5 sc_law.nd (dg_cons 10 sc_law.nd cN)))
        (ai (Az (λ_=>(yy rfl (ah (aa 4) (aa 5)) (dg_cons 11 sc_law.nd (dg_cons 12 sc_law.nd cN)))))
        (ai (aR (cF (cE (aH (CalMM.splitN OP) hx hr (aw (ad (aa 6)) (aw (ad (aa 11)) (aw (ad (aa 1)) (aw (ad (dD (aa 12) eK (cW (aa 10)))) (aw (ad (dD (aa 12) (cW (aa 10)) eK)) (aw (fN uB (ad (aa 9))) aS))))))))) (am (ax (ad aV))) aI)
        (am (cP (CO (fz hr) (ad (aa 9))) (ai (aD 13 sc_law.nd (bU (CalMth.one (CalMth.splitN OR)) hx hr (ad (aa 6))))
         (am (aR (mt_w (fL (bg (dw (cx (dz uF uK (aa 13) PyProof.Rows.boot_str kit_str)))) (fK (fJ (ad (aa 13)) (kZ (ad (aa 9))))))) (am (ax (ad aV))) aI))) aI))))))
      (am (ax (ad aV))))))))))))))))),λds M R RX d8 h=>?_⟩))
  . obtain⟨rfl,_,⟨ns,rfl,_⟩,rfl⟩:=h;rfl
  . obtain⟨rfl,R0,⟨ns,rfl,hl,hR⟩,rfl⟩:=h;refine#[λd M'=>M'=[]/\∃w h:Int,d=.tup [.int w,.int h]/\(1<=w/\w<=30)/\1<=h/\h<=30,#[ns,0,rfl,Ks,Ks,ns,1,rfl,Ks,Ks,Ks,Lr,rfl,_,_,rfl,#[Ko,Ko],Ko,Ko],?_];rintro _ _⟨rfl,w,h,rfl,hw,hh⟩;k_places;refine#[λz M=>M=[]/\∃w h:Int,z=[be (.rol (ns.map D.int)),be (.tup [.int w,.int h]),G_,G_,G_,G_,G_,G_,G_,G_,G_,G_,G_,G_]/\(1<=w/\w<=30)/\1<=h/\h<=30,#[ns,1,rfl,Ks,Ks,ite2 (λ_=>?_) λ_=>?_],?_]
    . refine#[λd M'=>M'=[]/\d=.tup [.int w,.int 30],#[_,rfl,Lr,rfl,rfl],?_];rintro _ _⟨rfl,rfl⟩;k_places;exact#[by trivial,_,_,rfl,hw,Ks,Ks]
    . exact#[rfl,_,_,rfl,hw,hh]
    clear hw hh w h;rintro _ _⟨rfl,w,h,rfl,⟨w1,w2⟩,h1,h2⟩;k_places;refine#[λd M'=>M'=[]/\∃(p:Pat) (W H X Y o n:Int),d=.lst [.str p.text,.int W,.int H,.int X,.int Y,.int o,.int n]/\Ndl p W H X Y o n,#[ns,4,rfl,Ks,λp w h X Y o n N=>#[rfl,p,w,h,X,Y,o,n,rfl,N]],?_];rintro _ _⟨rfl,p,W,H,X,Y,o,n,rfl,N⟩;k_places;have ho:=N.o1;have dl:((toString o:String):JM).length=1:=by rw[iT ho];rfl
    have QZ:("[":JM).length=1:=rfl;have Q0:(";1,0;0,1]":JM).length=9:=rfl;refine#[λd M'=>M'=[]/\d=.str (fm o).text,#[_,rfl,Ko,Ko,by rw[aQ];lia,rfl,by rw[D2 ho]],?_];rintro _ _⟨rfl,rfl⟩;k_places;have hq:∀x y,(fm o).show x y=o:=vn Ko ho.2
    let ps:Nat->Pat:=λs=>if s=0 then p else fm o
    refine#[λd M'=>M'=[]/\d=ju ps w h,#[_,rfl,p,W,H,X,Y,o,n,w,h,rfl,N,Ko,Ko,Ko,Ko,Lr,_,rfl,Ko,?_],?_]
    . refine#[_,rfl,#[Ko,Ko,by rw[dl];lia],Rx,_,rfl,#[Ko,Ko,by show 1*_<=_;lia],Lr,Lr,rfl,?_];rw[D3 ho hq];rfl
    rintro _ _⟨rfl,rfl⟩;k_places;have o0:∀s,s<2->(ps s).Ok:=λs hs=>by
      rcases(Ko:s=0\/s=1)with rfl|rfl
      . exact N.ok
      . exact plain_ok ho
    refine#[λd M'=>M'=[]/\∃s:Nat,d=.int s/\s<2,#[ns,3,rfl,Ks,Ks,rfl,(cell ns 3%2).toNat,by rw[Gr Ko],Ko],?_];rintro _ _⟨rfl,s,rfl,s2⟩;k_places;have JG:=pz (ps:=ps) (w:=w) (h:=h) s2;refine#[λd M'=>∃a q d0,d=.ptr a/\a≠q/\aZ (ps s) d0/\M'=Fl.M #[ps s,d0,w,h,0,[]] a q,#[_,JG,_,rfl,_,rfl,_,rfl,λa _=>#[ps s,w,h,rfl,o0 s s2,λd0 q is ne _=>#[a,q,d0,rfl,ne,is,KK]]],?_];rintro _ _⟨a,q,d0,rfl,ne,is,rfl⟩;k_places;have PZ:=Fl.ok_new is (o0 s s2) w1 w2 h1 h2;refine#[λd M'=>M'=Fl.M #[ps s,d0,w,h,0,[]] a q/\∃g:Int,d=.int g/\0<=g/\g<=h,#[ns,2,rfl,Ks,Ks,_,rfl,by show(0:Int)<h+1;lia,_,rfl,Lr,ns,2,rfl,Ks,Ks,?_],?_]
    . have b0:=Gy (cell ns 2/2) (show h+1≠0 by lia);have b1:=Gz (cell ns 2/2) (show 0<h+1 by lia);rcases Int.emod_two_eq (cell ns 2)with e|e<;>rw[e]
      . exact#[_,rfl,rfl,_,rfl,b0,Ko]
      . exact#[_,rfl,rfl,_,rfl,Ko,Ko]
    rintro _ _⟨rfl,g9,rfl,g0,gh⟩;k_places;refine#[λd M'=>∃b,d=.ptr b/\M'=(b,.lst [stD s 0])::Fl.M #[ps s,d0,w,h,0,[]] a q/\b∉[q,a],#[Lr,Rx,λb hb=>#[b,rfl,rfl,hb]],?_];rintro _ _⟨b,rfl,rfl,hb⟩;k_places;refine#[λd M'=>∃c,d=.ptr c/\M'=HM b c #[ps s,d0,w,h,0,[]] s [] a q/\c∉[b,q,a],#[Ks,λc hc=>#[c,rfl,rfl,hc]],?_];rintro _ _⟨c,rfl,rfl,hc⟩;k_places;have nd:[c,b,q,a].Nodup:=GC.mpr #[hc,GC.mpr #[hb,by simp[Ne.symm ne]]];refine#[ns,3,rfl,Ks,Ks,Ks,_,JG,_,rfl,[],_,#[λ_ h=>h,nd],ps,a,q,b,c,_,s,[],g9,_,rfl,nd,rfl,PZ,#[rfl,rfl,s2,λ_ h=>nomatch h],g0,gh,Ks,λf q zs nd J6 hf ew eh z4 _=>?_];refine#[[],_,#[λ_ h=>h,nd],ps,a,q,b,c,f,s,zs,W,H,X,Y,o,n,by rw[ew,eh];rfl,nd,rfl,J6,hf,N,hq,plain_ok ho,by simp at z4;lia,λf' q' s' d9 m5 OS Rn Ro Rp OT _=>?_];clear hf J6 nd is PZ ne hc hb
    let W:Nat->SD->MS->Prop:=λm z M=>∃(f:Fl) (q:KF) (s:Nat) (zs:List (Nat×Deed)) (o5 m6 m7 l8 p6:Option D),z=[be (.rol (ns.map D.int)),be (.tup [.int w,.int h]),be (.lst [.str p.text,.int W,.int H,.int X,.int Y,.int o,.int n]),be (.str (fm o).text),be (ju ps w h),o5,be (.ptr a),be (.int g9),be (.ptr b),be (.ptr c),m6,m7,l8,p6]/\[c,b,q,a].Nodup/\f.Ok/\Hi ps f s zs/\f.w=w/\f.h=h/\zs.length<=12/\nown [p6]=true/\((m=zs.length+1/\M=HM b c f s zs a q)\/(m=0/\∃ys,M=(c,.lst ys)::(b,.lst [])::f.M a q))
    refine#[W,#[_,f',q',s',d9,_,_,_,_,_,rfl,m5,OS,Rn,by rw[Ro,ew],by rw[Rp,eh],by simp at z4;lia,rfl,.inl #[rfl,rfl]],?_];rintro m z M⟨f,q,s,zs,o5,m6,m7,l8,p6,rfl,nd,J6,hf,ew,eh,OT,hn,⟨rfl,rfl⟩|⟨rfl,ys,rfl⟩⟩;k_places
    rotate_left
    . have n1:c≠b:=λe=>by rw[e]at nd;simp at nd
      refine#[_,(bX n1).trans bc,?_];exact hR
    have n1:c≠b:=λe=>Pg
    have ne:a≠q:=λe=>Pg
    have Rq:c≠a:=λe=>Pg
    have Rr:b≠a:=λe=>Pg
    have l0:=J6.l0;have l1:=J6.l1;have mb:∀{xs ys:List D} {N:MS},mget ((c,.lst xs)::(b,.lst ys)::N) b=be (.lst ys):=(bX n1).trans bc;refine#[_,mb,ite2 (λ_=>?_) (λcc=>absurd (decide_eq_true (by rw[iU];lia)) cc)];refine#[stL f s zs,stD s f.l,mb,by unfold stL;simp,rfl,?_];have eM:mput (HM b c f s zs a q) b (.lst (stL f s zs).dropLast)=(c,.lst (wdL zs))::(b,.lst (zs.map λz:Nat×Deed=>stD z.1 z.2.l))::f.M a q:=by
      unfold HM stL;rw[Iy,GU,GU,GS,cH n1,bw]
    rw[eM];refine#[_,pz hf.s2,rfl,?_,NoOwn.of hn];refine#[_,bc,[(c,.lst (wdL zs)),(b,.lst (zs.map λz:Nat×Deed=>stD z.1 z.2.l))],f.M a q,#[λ_ h=>h,nd],a,q,f,?_,ne,rfl,J6,λ_=>?_]
    . show[D.ptr a,D.str (ps s).text,D.tup [D.int w,D.int h],D.lst (cutD (au (ps s) w 0 h.toNat) G_ (be f.l)),D.lst (cutD (au (ps s) w 0 h.toNat) (be f.l) G_),D.int (wdL zs).length]=_;have e1:=DK (p:=f.p) (w:=f.w) (lo:=0) (n:=f.h.toNat) (k:=f.l.toNat) Ko;have e2:=vj f.p f.w (f.h-f.l).toNat l0;rw[show f.l.toNat+(f.h-f.l).toNat=f.h.toNat by lia]at e2;rw[Gr l0]at e1;rw[<-ew,<-eh,<-hf.p,e1,e2,hf.len];unfold wdL;rw[Gb]
    simp only[GU,GS];refine#[_,#[_,bc,ite2 (λcc=>?_) (λcc=>?_)],λ_ _ h=>h]
    rotate_left
    . have z0:zs=[]:=by
        cases zs with
        |nil=>rfl
        |cons x xs=>exact absurd rfl cc
      subst z0;exact#[0,Ko,f,q,s,[],_,_,_,_,_,rfl,nd,J6,hf,ew,eh,OT,hn,.inr #[rfl,_,rfl]]
    obtain⟨zs,y,rfl⟩:∃ys y,zs=ys++[y]:=#[_,_,(JF (λz=>by rw[z]at cc;cases cc)).symm];have ed:f.ds=zs.map (·.2)++[y.2]:=by rw[hf.ds,Gm];rfl
    have ym:=hf.all y (Gn _ (FW.mpr rfl));refine#[λd M'=>d=.str y.2.w/\M'=[(c,.lst (wdL (zs++[y]))),(b,.lst ((zs++[y]).map λz:Nat×Deed=>stD z.1 z.2.l))]++(f.undone y.2 (zs.map (·.2))).M a q,#[_,FW.mpr rfl,_,(bX Rq).trans ((bX Rr).trans (Fl.ma ne)),rfl,[(c,.lst (wdL (zs++[y]))),(b,.lst ((zs++[y]).map λz:Nat×Deed=>stD z.1 z.2.l))],f.M a q,#[λ_ h=>h,nd],a,q,f,rfl,ne,rfl,λz=>by rw[ed]at z;simp at z,λes e he=>?_],?_]
    . rw[ed]at he;obtain⟨rfl,h2⟩:=List.append_inj' he rfl;cases h2;exact#[(J6.dd y.2 (by rw[ed];simp)).1,λ_=>#[rfl,rfl]]
    rintro _ _⟨rfl,rfl⟩;k_places;simp only[GU,GS];have Rs:wdL (zs++[y])=wdL zs++[.str y.2.w]:=by unfold wdL;rw[Gm];rfl
    have Rt:((zs++[y]).map λz:Nat×Deed=>stD z.1 z.2.l)=stL (f.undone y.2 (zs.map (·.2))) y.1 zs:=by unfold stL;rw[Gm];rfl
    rw[Rs,Rt];refine#[_,.str y.2.w,bc,KK,?_];rw[bw,Iy];refine ite2 (λz=>absurd z KK) λ_=>?_;exact#[zs.length+1,by rw[Gc];simp,f.undone y.2 (zs.map (·.2)),q,y.1,zs,_,_,_,_,_,rfl,nd,J6.undone ed,#[rfl,ym.2,ym.1,λz hz=>hf.all z (G4 _ hz)],ew,eh,by rw[Gc]at OT;lia,rfl,.inl #[rfl,rfl]]
end
local macro_rules | `(tactic| walk_at "b1") => `(tactic| exact AA λ_ _ _ _ _ _ _ => rfl)
local macro_rules | `(tactic| walk_at "b2") => `(tactic| exact bind2 λ_ _ _ _ _ _ _ _ => rfl)
local macro_rules | `(tactic| walk_at "b3") => `(tactic| exact bind3 λ_ _ _ _ _ _ _ _ _ => rfl)
local macro_rules | `(tactic| walk_at "b4") => `(tactic| exact bind4 λ_ _ _ _ _ _ _ _ _ _ => rfl)
local macro_rules | `(tactic| walk_at "b5") => `(tactic| exact bind5 λ_ _ _ _ _ _ _ _ _ _ _ => rfl)
local macro_rules | `(tactic| walk_at "b6") => `(tactic| exact bind6 λ_ _ _ _ _ _ _ _ _ _ _ _ => rfl)
local macro_rules | `(tactic| walk_at "bd") => `(tactic| exact λ_ _ _ _ _ _ _ _ _ _ _ _ _ _ h hs => ⟨.of_defaults rfl h hs rfl rfl, .of_defaults rfl h hs rfl rfl⟩)
structure TopIn(K:Ex):Prop where
 uGR:FnIn K "_law_at" lh
 uEN:FnIn K "_law_draws" ln
 uJL:FnIn K "_law_lcm" lu
 uFA:FnIn K "_law_needle" ib
 uIJ:FnIn K "_law_rows_of" lx
 uIC:FnIn K "refuse_far" lD
 uGO:FnIn K "home" lG
 uFW:FnIn K "cell_at" lJ
 uHM:FnIn K "row_from" ir
 uJD:FnIn K "_law_lay" lP
 uEM:FnIn K "_law_texts" lR
 uJN:FnIn K "_law_laid" lV
 uJC:FnIn K "_law_first_lone" lY
 uJB:FnIn K "line_from" mi
 uIG:FnIn K "lines_from" ml
 uIK:FnIn K "number_from" mn
 uFP:FnIn K "shift_from" ms
 uHQ:FnIn K "levelled" mw
 uIQ:FnIn K "spread" my
 uFE:FnIn K "hues_by_home" mB
 uHK:FnIn K "motif_from" mG
 uJK:FnIn K "over_from" iy
 uHO:FnIn K "shifted_from" iz
 uHB:FnIn K "rehue_from" iA
 uHP:FnIn K "form_from" iB
 uGY:FnIn K "measure" nj
 uFM:FnIn K "met" nt
 uFH:FnIn K "mirrored" nv
 uIZ:FnIn K "turned" ny
 uIY:FnIn K "read" nA
 uJS:FnIn K "first_unlike" nC
 uFN:FnIn K "_law_change" nK
 uHT:FnIn K "_law_whole" nN
 uEU:FnIn K "_law_turned_to" nP
 uHD:FnIn K "_law_turned_about" nR
 uIF:FnIn K "_law_seven" nV
 uIM:FnIn K "_law_counts" nX
 uEP:FnIn K "field_rows" iN
 uFO:FnIn K "round_row" oa
 uGH:FnIn K "count_sign" oh
 uFX:FnIn K "count_all" iO
 uJI:FnIn K "_law_view" oy
 uIU:FnIn K "law" iP
 uFI:NnIn K "len"
 uGZ:NnIn K "range"
 uHE:NnIn K "str"
 uEQ:NnIn K "list"
 uGL:NnIn K "int"
 uHA:NnIn K "max"
 uJF:NnIn K "abs"
 uFF:NnIn K "isinstance"
 uFL:NnIn K "enumerate"
 uIP:NnIn K "bool"
 uGF:NnIn K "tuple"
 uFD:NnIn K "min"
 uP:ClIn K "Floor"
 uBQ:ClIn K "Motif"
 uBU:ClIn K "Over"
 uBH:ClIn K "Shifted"
 uDF:ClIn K "Mirror"
 uDP:ClIn K "Turn"
 uBP:ClIn K "Rehue"
 uCU:ClIn K "Pattern"
 uCB:ClIn K "Reading"
 uGX:InIn K "Motif" "Motif.__init__" mD
 uHF:InIn K "Mirror" "Mirror.__init__" mI
 uJP:InIn K "Turn" "Turn.__init__" mK
 uGB:InIn K "Over" "Over.__init__" mM
 uIE:InIn K "Shifted" "Shifted.__init__" mQ
 uGD:InIn K "Rehue" "Rehue.__init__" mU
 uJJ:InIn K "Reading" "Reading.__init__" mW
 uGG:InIn K "Pattern" "Pattern.__init__" mZ
 uFZ:InIn K "Floor" "Floor.__init__" oA
 uGE:MtIn K "Floor" "keep" "Floor.keep" lz
 uIN:MtIn K "Motif" "shows" "Motif.shows" ic
 uIW:MtIn K "Over" "shows" "Over.shows" ie
 uIT:MtIn K "Shifted" "shows" "Shifted.shows" ii
 uFG:MtIn K "Mirror" "shows" "Mirror.shows" ik
 uGQ:MtIn K "Turn" "shows" "Turn.shows" im
 uEY:MtIn K "Rehue" "shows" "Rehue.shows" ip
 uFT:MtIn K "Floor" "rows" "Floor.rows" iu
 uGS:MdIn K "Floor" "lay" "Floor.lay" lN 1
 uHS:MtIn K "Reading" "may_take" "Reading.may_take" md
 uEW:MtIn K "Reading" "take" "Reading.take" mf
 uIL:MtIn K "Motif" "family" "Motif.family" iC
 uGP:MtIn K "Over" "family" "Over.family" iD
 uFR:MtIn K "Shifted" "family" "Shifted.family" iF
 uET:MtIn K "Mirror" "family" "Mirror.family" iH
 uJM:MtIn K "Turn" "family" "Turn.family" iJ
 uHL:MtIn K "Rehue" "family" "Rehue.family" iL
 uIO:MtIn K "Floor" "stand" "Floor.stand" nG
 uJQ:MtIn K "Floor" "change" "Floor.change" nI
 uFJ:MtIn K "Floor" "lies" "Floor.lies" ol
 uII:MtIn K "Floor" "still" "Floor.still" oq
 uHC:MtIn K "Floor" "kept" "Floor.kept" ou
 uEO:MtIn K "Floor" "undo" "Floor.undo" oC
 uGC:NoIn K "Floor" "deeds"
 uJH:NoIn K "Floor" "laid"
 uHV:NoIn K "Floor" "pattern"
 uFK:NoIn K "Motif" "hues"
 uGJ:NoIn K "Motif" "shifts"
 uJE:NoIn K "Over" "above"
 uFB:NoIn K "Over" "below"
 uEX:NoIn K "Shifted" "form"
 uJG:NoIn K "Shifted" "y"
 uER:NoIn K "Shifted" "x"
 uGK:NoIn K "Mirror" "form"
 uHW:NoIn K "Turn" "form"
 uJO:NoIn K "Rehue" "form"
 uHH:NoIn K "Rehue" "old"
 uGV:NoIn K "Rehue" "new"
 uIX:NoIn K "Pattern" "form"
 uEZ:NoIn K "Floor" "width"
 uES:NoIn K "Floor" "height"
 uHI:NoIn K "Reading" "text"
 uHG:NoIn K "Reading" "place"
 uIV:NoIn K "Motif" "place"
 uJR:NoIn K "Pattern" "text"
 uIA:NoIn K "Pattern" "shifts"
 uID:NoIn K "Floor" "text"
 uGW:CiIn K "KEPT" 20
 uFY:CiIn K "FAR" 1000000000000
 uFV:CsIn K "SIGNS" ".123456"
 uHN:CiIn K "LONGEST" 8
 uFQ:CiIn K "DEEP" 5
 uHX:CiIn K "MOST" 720
 eb:EbIn K
 uEA:E0In K "TooFar"
 uEH:E0In K "NoRow"
 uAP:E1In K "Parted" "Parted.__init__" nE
 uAG:EaIn K "Parted"
 uDZ:NoIn K "Parted" "x"
 uDU:NoIn K "Parted" "y"
 uDW:EgIn K "Parted"
 uDT:E0In K "NothingKept"
 uGI:EiIn K "MotifError"
 uHR:EmIn K "TooFar" "TooFar"
 uGM:EmIn K "TooFar" "NoRow"
 uFU:EmIn K "TooFar" "Parted"
 uIH:EmIn K "TooFar" "NothingKept"
 uHJ:EmIn K "NoRow" "TooFar"
 uGU:EmIn K "NoRow" "NoRow"
 uIS:EmIn K "NoRow" "Parted"
 uHY:EmIn K "NoRow" "NothingKept"
 uGT:EmIn K "Parted" "TooFar"
 uFS:EmIn K "Parted" "NoRow"
 uHU:EmIn K "Parted" "Parted"
 uIB:EmIn K "Parted" "NothingKept"
 uJA:EmIn K "NothingKept" "TooFar"
 uIR:EmIn K "NothingKept" "NoRow"
 uFC:EmIn K "NothingKept" "Parted"
 uGA:EmIn K "NothingKept" "NothingKept"
def FS{V:Bx}{h:Heap}(t:TopIn V.K)(X:V.K.In h)(G:h.Ns Pi V.mg){fa:KF}{fd:R_}(F:Fun V.K "law" "law" iP fa fd):FnOk V.P V.w V.K V.mg V.base (Exc.CX1 V.P V.w) 23 fa fd oF (lSp V.K eE):=by
 have uB:=mg_none_of X G t.uFI;have uA:=mg_none_of X G t.uGZ;have uK:=mg_none_of X G t.uHE;have J2:=mg_none_of X G t.uEQ;have uM:=mg_none_of X G t.uGL;have J3:=mg_none_of X G t.uHA;have KL:=mg_none_of X G t.uJF;have uF:=mg_none_of X G t.uFF;have KQ:=mg_none_of X G t.uFL;have Ow:=mg_none_of X G t.uIP;have Ox:=mg_none_of X G t.uGF;have OD:=mg_none_of X G t.uFD;have uS:=t.uP.a t.uGC;have uD:=t.uP.a t.uJH;have uE:=t.uP.a t.uHV;have Ke:=t.uBQ.a t.uFK;have uO:=t.uBQ.a t.uGJ;have uZ:=t.uBU.a t.uJE;have uT:=t.uBU.a t.uFB;have uX:=t.uBH.a t.uEX;have Kf:=t.uBH.a t.uJG;have Kg:=t.uBH.a t.uER;have uW:=t.uDF.a t.uGK;have uV:=t.uDP.a t.uHW;have uY:=t.uBP.a t.uJO;have Kh:=t.uBP.a t.uHH;have Ki:=t.uBP.a t.uGV;have K3:=t.uCU.a t.uIX;have uL:=t.uP.a t.uEZ;have uU:=t.uP.a t.uES;have Kj:=t.uCB.a t.uHI;have uN:=t.uCB.a t.uHG;have Oa:=t.uBQ.a t.uIV;have K_:=t.uCU.a t.uJR;have JH:=t.uCU.a t.uIA;have JI:=t.uP.a t.uID;have N5:=t.uGW.g X G;have N6:=t.uFY.g X G;have uR:=t.uFV.g X G;have MB:=t.uHN.g X G;have L6:=t.uFQ.g X G;have Oh:=t.uHX.g X G;have N7:=t.uEA.k t.eb X G;have N8:=t.uEH.k t.eb X G;have uAG:=t.uAP.a t.eb t.uAG X G;have Oo:=t.uDZ.all;have Op:=t.uDU.all;have OK:=t.uDT.k t.eb X G;have On:=t.uGI.b X G;have Ou:V.x "y" ["Parted"]:=AllP.mem #[t.uDW.g uAG t.uDU,trivial];have Ov:V.x "x" ["Parted"]:=AllP.mem #[t.uDW.g uAG t.uDZ,trivial];have ek:oW V:=AB #[(let ⟨C,N,bm,k,_⟩:=t.uEA.k t.eb X G;#[C,N,bm,k]),(let ⟨C,N,bm,k,_⟩:=t.uEH.k t.eb X G;#[C,N,bm,k]),(t.uAP.c t.eb X G),(let ⟨C,N,bm,k,_⟩:=t.uDT.k t.eb X G;#[C,N,bm,k]),trivial] #[#[t.uHR,t.uGM,t.uFU,t.uIH,trivial],#[t.uHJ,t.uGU,t.uIS,t.uHY,trivial],#[t.uGT,t.uFS,t.uHU,t.uIB,trivial],#[t.uJA,t.uIR,t.uFC,t.uGA,trivial],trivial];have uQ:iV V:=D4 (t.uGR.tx X G Mj) uB;have N3:oP V:=D5 (t.uEN.tx X G Sc) uA uQ;have KJ:oQ V:=D7 (t.uJL.tx X G Mj);have OL:oR V:=D9 (t.uFA.tx X G Mj) uA uK J2 N3 KJ;have OM:oU V:=Eb (t.uIJ.tx X G Mj) uA uM;have K5:iW V:=Ed (t.uGE.txm t.uP Mj) N5 uS uD uE;have KN:iX V:=Ee (t.uIC.tx X G Mj) J3 KL N6 N7;have D_:fo V:=Ef (t.uGO.tx X G Sc);have uG:vw V:=Em (t.uIN.txm t.uBQ Sc) (t.uIW.txm t.uBU Sc) (t.uIT.txm t.uBH Sc) (t.uFG.txm t.uDF Sc) (t.uGQ.txm t.uDP Sc) (t.uEY.txm t.uBP Sc) D_ Ke uO uZ uT uX Kf Kg uW uV uY Kh Ki 6;have KO:iY V:=En (t.uFW.tx X G Sc) KN K3 uG;have K4:iZ V:=Eo (t.uHM.tx X G (by walk_at "b4")) uA KO uR;have K6:ja V:=Ep (t.uFT.txm t.uP O_) uA K4 uD uL uE;have Mx:oV V:=Er (t.uGS.txd t.uP (by walk_at "bd")) J3 uU uD K5 K6 N8;have K7:jb V:=Et (t.uJD.tx X G Sc) Mx ek;have K8:jc V:=Ev (t.uEM.tx X G Mj) uB uF J2 uA uK;have ON:oX V:=Ey (t.uJN.tx X G (by walk_at "b6")) uA uM K7 K8;have Oz:oY V:=EA (t.uJC.tx X G Sc) uA;have uJ:dh V:=EB (t.uHS.txm t.uCB Mj) uB Kj uN;have uC:cI V:=EC (t.uEW.txm t.uCB Mj) uJ;have Mz:oZ V:=EE (t.uJB.tx X G Sc) uA uR uC uJ;have Ob:pd V:=EF (t.uIG.tx X G O_) uB Mz MB uJ;have MC:pe V:=EG (t.uIK.tx X G O_) uM uJ uC;have J5:gj V:=EH (t.uFP.tx X G O_) MC uC;have K9:jd V:=EI (t.uHQ.tx X G Mj);have K':je V:=EJ (t.uIQ.tx X G Mj) KL K9;have N_:pf V:=EK (t.uFE.tx X G Mj) KQ D_ uR;have Oc:ph V:=EL (t.uGX.txi X G (by walk_at "b5")) K' N_ Oa uO Ke;have L5:jg V:=EM (t.uHK.tx X G O_) Ob J5 uN Oc uC;have L8:jh V:=EN (t.uHF.txi X G Mj) uW;have L9:ji V:=EO (t.uJP.txi X G Mj) uV;have LY:jj V:=EQ (t.uGB.txi X G Sc) uZ uT;have LZ:jl V:=ER (t.uIE.txi X G (by walk_at "b4")) uX Kg Kf;have L4:jm V:=ES (t.uGD.txi X G (by walk_at "b4")) uY Kh Ki;have uI:vz V:=EY (t.uJK.tx X G Mj) (t.uHO.tx X G Mj) (t.uHB.tx X G Mj) (t.uHP.tx X G Mj) LY uC J5 LZ uM L4 L5 L6 L8 L9 uJ 6;have Oi:pi V:=EZ (t.uJJ.txi X G Mj) Kj uN;have Oj:pj V:=E1 (t.uGG.txi X G (by walk_at "b4")) K_ JH K3;have L_:pk V:=E2 (t.uGY.tx X G Mj) K9;have Ma:jn V:=E3 (t.uFM.tx X G Mj) L_;have Mb:jp V:=E4 (t.uFH.tx X G O_);have Mc:jq V:=E5 (t.uIZ.tx X G O_) K';have uH:vA V:=Fc (t.uIL.txm t.uBQ O_) (t.uGP.txm t.uBU O_) (t.uFR.txm t.uBH O_) (t.uET.txm t.uDF O_) (t.uJM.txm t.uDP O_) (t.uHL.txm t.uBP O_) uO Ma uZ uT uX Mb uW Mc uV uY 6;have La:jr V:=Fd (t.uIY.tx X G O_) uB uI Oh uN Oi Oj uH;have Oq:pp V:=Ff (t.uJS.tx X G (by walk_at "b4")) uA KO;have uAP:pq V:=Fh (t.uAP.txe t.eb X G Sc) On uAG Oo Op;have Lb:jt V:=Fj (t.uIO.txm t.uP Mj) uE JI K_;have Ot:pr V:=Fm (t.uJQ.txm t.uP Mj) La Oq uD uL uE K5 Lb uAP;have Oy:pv V:=Fp (t.uFN.tx X G Mj) Ot Ou Ov ek;have x9:gk V:=Fq (t.uHT.tx X G O_) uF Ow uM;have OA:pw V:=Ft (t.uEU.tx X G Sc) uB uF Ox Oy x9;have OO:pA V:=Fv (t.uHD.tx X G (by walk_at "b6")) uA Oz OA K7;have MF:pB V:=Fx (t.uIF.tx X G Mj) uB uF J2 uA x9;have MG:pC V:=Fz (t.uIM.tx X G O_);have OE:pD V:=FA (t.uEP.tx X G O_) uA K4 JH;have OF:C_round_row V:=FC (t.uFO.tx X G (by walk_at "b4")) D_;have OG:pE V:=FD (t.uGH.tx X G Sc) uB;have Ld:jv V:=FE (t.uFX.tx X G (by walk_at "b5")) J3 uA OD KQ KN OE OF OG uR JH;have OH:pF V:=FG (t.uFJ.txm t.uP O_) Ld uD uL uE;have OI:pG V:=FI (t.uII.txm t.uP O_) Ld uU uL uD uE;have OJ:pH V:=FK (t.uHC.txm t.uP O_) uB uS;have OP:pI V:=FM (t.uJI.tx X G (by walk_at "b6")) uF uK x9 K8 MF MG JI uL uU K6 OH OI OJ;have OQ:pJ V:=FO (t.uFZ.txi X G (by walk_at "b4")) La uE JI uL uU uD uS;have OR:pK V:=FQ (t.uEO.txm t.uP O_) uB uS uD Lb OK;exact FR F uK uB uF uQ OL OM ON OO OP OQ OR
def all_mk{l:HZ}{w:R5}{K:Ex}{h:Heap}{mg:JM->Option KB}{fa:KF}(X:K.In h)(G:h.Ns Pi mg)(KD:mg "law"=be (.ref fa))(t:TopIn K):
  ∃fd:R_,(∀(s:KM) (v:KB),S5 s fd #[[v],[]] [("_law_script",v)])/\∀base:Heap,K.In base->base.Ns Pi mg->FnOk l.prog w K mg base (Exc.CX1 l.prog w) 23 fa fd ["_law_script"] (lSp K eE):=by
 obtain⟨fd,b,F⟩:=t.uIU.law X G KD (λ_ _ _ _ _ _ _=>rfl);exact#[fd,b,λbase _ _=>FS (V:=#[l.prog,w,K,mg,base]) t X G F]
def law_walk{l:HZ}{q:P3}{k8:List JM}{XP:(JM->Option KB)->Heap->Prop}{YP:R5->Heap->Prop}{d:DefRec}{K:Params->Ex}(hn:l.most=be 63)(Lp:d.params.defaults=[])
  (hY:∀(w:R5) (h:Heap),YP w h->(K w.params).In h)
  (F:∀(w:R5) (mg:JM->Option KB) (fa:KF) (h:Heap),(K w.params).In h->h.Ns Pi mg->mg d.name=be (.ref fa)->
   ∃fd:R_,(∀(s:KM) (u:KB),S5 s fd #[[u],[]] [("_law_script",u)])/\∀base:Heap,(K w.params).In base->base.Ns Pi mg->FnOk l.prog w (K w.params) mg base (Exc.CX1 l.prog w) 23 fa fd ["_law_script"] (lSp (K w.params) eE)):
  II q k8 XP YP l.row.toRowW d [] (λf vs=>PySem.call f vs):=
 L2.walk_of (n:=63) (k:=23) (x:="_law_script") (CX:=λw=>Exc.CX1 l.prog w) (sp:=λw=>lSp (K w.params) eE) hn Ks Lp #[rfl,Ks,Ks] hY F (λ_ _ a ns hl _ hS=>yD hl hS) λ_ _ _ _ _ h=>by obtain⟨_,_,_,_,_,_,_,_,_,_,_,_,_,_,_,z⟩:=h;exact z
end My
open PySem PySem.W PyProof.Rows
set_option maxRecDepth 100000 in
set_option maxHeartbeats 0 in
theorem PySem.Challenge.cw_motiffield_k31_lone_wrong_tile_holds : PySem.Challenge.rw_motiffield_k31_lone_wrong_tile.Holds := by
  w_on;o_law;k_head;(case hw =>w_witness2)
  k_fill
  refine My.law_walk (l :=PySem.Challenge.rw_motiffield_k31_lone_wrong_tile) rfl rfl (λw h Y =>kIn_of Y) ?F
  case F =>
    intro w mg fa h KX G j9;refine My.all_mk KX G j9 ?_;constructor
    all_goals first|((with_reducible refine' My.fnIn_mk ?a ?l ?c ?k);(case a =>k_is);(case l =>k_is);(case c =>k_is);(case k =>k_is))|((with_reducible refine' My.nnIn_mk ?a);(case a =>k_is))|((with_reducible refine' My.noIn_mk ?a ?b);(case a =>k_is);(case b =>k_is))|((with_reducible refine' My.mtIn_mk ?a ?b ?i ?l ?c ?k);(case a =>k_is);(case b =>k_is);(case i =>k_is);(case l =>k_is);(case c =>k_is);(case k =>k_is))|((with_reducible refine' My.mdIn_mk ?a ?b ?i' ?l ?c ?k ?d);(case a =>k_is);(case b =>k_is);(case i' =>k_is);(case l =>k_is);(case c =>k_is);(case k =>k_is);(case d =>k_is))|((with_reducible refine' My.inIn_mk ?a ?mk ?b ?i ?kp ?l ?c ?k);(case a =>k_is);(case mk =>k_is);(case b =>k_is);(case i =>k_is);(case kp =>k_is);(case l =>k_is);(case c =>k_is);(case k =>k_is))|((with_reducible refine' My.clIn_mk ?a ?pg ?hd ?po ?sa ?ha ?hn ?ht ?hm);(case a =>k_is);(case pg =>k_is);(case hd =>k_is);(case po =>k_is);(case sa =>k_is);(case ha =>k_is);(case hn =>k_is);(case ht =>k_is);(case hm =>k_is))|((with_reducible refine' My.ciIn_mk ?a);(case a =>k_is))|((with_reducible refine' My.csIn_mk ?a);(case a =>k_is))|((with_reducible refine' My.ebIn_mk ?a ?kp ?o ?nk ?al ?ni);(case a =>k_is);(case kp =>k_is);(case o =>k_is);(case nk =>k_is);(case al =>rfl);(case ni =>k_is))|((with_reducible refine' My.e0In_mk ?b ?a ?kp ?o ?nk ?al ?ni);(case b =>k_is);(case a =>k_is);(case kp =>k_is);(case o =>k_is);(case nk =>k_is);(case al =>rfl);(case ni =>k_is))|((with_reducible refine' My.e1In_mk ?b ?a ?kp ?o ?j ?i ?l ?c ?k);(case b =>k_is);(case a =>k_is);(case kp =>k_is);(case o =>k_is);(case j =>k_is);(case i =>k_is);(case l =>k_is);(case c =>k_is);(case k =>k_is))|((with_reducible refine' My.eaIn_mk ?a ?b);(case a =>k_is);(case b =>k_is))|((with_reducible refine' My.egIn_mk ?a ?b ?c);(case a =>k_is);(case b =>k_is);(case c =>k_is))|((with_reducible refine' My.eiIn_mk ?a ?b ?c ?d);(case a =>k_is);(case b =>k_is);(case c =>k_is);(case d =>k_is))|((with_reducible refine' My.emIn_mkT ?e ?a ?c ?d);(case e =>decide);(case a =>k_is);(case c =>k_is);(case d =>k_is))|((with_reducible refine' My.emIn_mkF ?e ?a ?c ?d);(case e =>decide);(case a =>k_is);(case c =>k_is);(case d =>k_is))
end
