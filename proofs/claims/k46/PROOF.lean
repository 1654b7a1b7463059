import PyProof.Rows.All
import Wide.All
import OpenK.AllK
import Wide.FinOn
import Lean
import PyProof.EqAt
import PyProof.EqKinds
import PyProof.TupleCall
import PySem.Challenge.RW_motiffield_k46_whole_house
set_option compiler.extract_closed false
set_option Elab.async false
set_option linter.all false
set_option maxRecDepth 100000
set_option maxHeartbeats 4000000
local macro_rules|`(#[$x,*])=>`(⟨$x,*⟩)
theorem Kd{p:Prop}(h:p:=by lia):p:=h
theorem Kj{p:Prop}(h:p:=by decide):p:=h
theorem Kl{p:Prop}(h:p:=by decide+kernel):p:=h
theorem Km{p:Prop}(h:p:=by change bO _ (ao dD) ["_law_script","_law_parts","_law_draw","_law_field","_law_least_here","_law_lines_here","_law_both_here","_law_due","_law_made","_law_draws_here","_law_turn","_law_k","_law_kind","_law_x","_law_y","_law_fine"] _=true;decide+kernel):p:=h
theorem KK{p:Prop}(h:p:=by omega):p:=h
theorem Ld{p:Prop}(h:p:=by simp):p:=h
theorem Lk{p:Prop}(h:p:=by k_memK):p:=h
theorem Lm{p:Prop}(h:p:=by grind):p:=h
theorem Lr{p:Prop}(h:p:=by walk_at "b2"):p:=h
theorem L_{p:Prop}(h:p:=by walk_at "b1"):p:=h
theorem M6{p:Prop}(h:p:=by walk_at "b3"):p:=h
theorem NO{p:Prop}(h:p:=by rw[<-hY];rfl):p:=h
theorem Ou{p:Prop}(h:p:=by simp;lia):p:=h
theorem OA{p:Prop}(h:p:=by walk_at "b4"):p:=h
open PySem renaming Str->E_
open Option renaming some->be,none->s_
open PySem renaming Value->KB,Addr->KF,Shared->KM,wpAny_bind->Os,mainGlobals->Pi,Stmt->P3,Expr->RP,Program->RQ,wpAny->RR,model->RS,wpAny_pure->RT,World->RU,Around->RV,Heap->RW,starEach->RY,assignEach->RZ,attributeBase->R1,eval->R3,FuncData->R4,compareOp->R5,Pos->R6,wpAny_newObj_type->R7,wpAny_mono->R8,swapsWith->R9,Obj->R_,bootBuiltins->Sa,wpAny_Call_Name_kw->Sb,PassesOwn->Sd,binaryOp->Se,ExceptHandler->Sf,wpAny_passesOwn->Sg,behindInMarks->Sh,wpAny_truthy_bool->Si,sysModules->Sj,excClassObj->Sk,Scope->Sl,wpAny_standAt->Sm,wpAny_getItem_str_slice->Sn,wpAny_holding->So,swapsWithSole->Sq,swappedStores->Sr,wpAny_field->Ss,sliceBounds->Su,bindArgs->Sv,NameKind->Sw,wpAny_execs_nil->Sx,assign->Sy,backTo->Sz,wpAny_pyIter_enum->SA,wpAny_loadPart_at->SB,keywordEach->SE,holding->SF,Env->SG,tupleKind->SI,noteFrame->SJ,rawInt->SK,codeAny_mono->SL,post_val_or_str->SM,letOwnedTupleGo->SN,wpAny_setField->SO,standAt->SQ,codeAny->SR,Keyword->SS,wpAny_isSubtype_exc->SU,wpAny_assign_Name->SW,callerA->SX,cLine->SY,backToKw->SZ,BindsTo->S2,setFlight->S3,IsPart->S4,sizeLine_eq->S5,atKey->S6,valueAt->S7,wpAny_letOwnedTupleGo_enum->S8,handleBy->S9,dictSetDefault->S',wpAny_comprehension_free->S_,assignInOrder->Ta,getMethod->Tb,bindL->Tc,bindC->Td,CmpOp->Te,seqIndex_neg->Tg,leaving->Th,getItem->Tj,codeAny_compStart_list->Tn,call_meetsIn->To,wpAny_newFunctionEnv->Tp,seqIndex_of->Tq,bindName->Tr,Sem->Ts,wpAny_rule->Tt,wpAny_entryPlaceOf->Tu,wpAny_call->Tv,wpAny_Name->Tw,typeIs_str->Tz,tupleKind_room_in1->TB,builtinsNs->TC,wpAny_frameOf_fun->TF,relabel->TJ,foldedSetIterable->TK,Model->TM
open PyProof.Rows renaming envOfC->R',AllBare->SH,assignInOrder_cons->SV,IntsAre->S1,subscriptTail_builtinR->Tf,assignInOrder_nil->TL
open PySem.W renaming Frag->Ex,OpenLaw->HZ,WalkO->ID
open Nat renaming le_refl->FM,ne_of_lt->FW,le_trans->FX,lt_of_lt_of_le->Gj,zero_le->Go,pow_succ->GM,lt_irrefl->GO,ne_of_gt->GQ,not_lt_zero->GU,le_succ->G1,lt_or_ge->G6,pow_le_pow_right->G9,le_of_not_lt->Hk,succ_mul->Ho,min_eq_left->Ht,le_of_lt->Hu,le_of_eq->Hw,mul_le_mul->HE,pow_pos->HL,min_eq_right->HQ,lt_succ_of_lt->Ic,add_comm->Ik,zero_add->Io,lt_succ_self->Ix,lt_of_le_of_lt->IE,lt_trans->IF,log2_lt->IH,succ_ne_self->IP,lt_of_succ_lt_succ->IR,mul_le_mul_right->IV,le_max_left->IY,le_max_right->IZ,pow_add->I0,add_sub_cancel->Je,strongRecOn->Jl,mod_eq_of_lt->Jn,mul_succ->Jq,sub_zero->Jr,sub_self->Jt
open List renaming range->FN,mem_singleton->FO,length_map->FP,mem_cons->FQ,size_toArray->FR,mem_cons_of_mem->FS,getElem?_map->FT,mem_cons_self->FU,length_cons->FV,map_cons->FY,getElem?_eq_some_iff->FZ,length_append->F8,getElem?_eq_getElem->F9,lookup_cons->Gc,set_cons_succ->Gd,getElem?_set_ne->Ge,set_cons_zero->Gf,mem_append_right->Gh,mem_append->Gk,getElem_mem->Gm,mem_map->Gn,map_append->Gr,getElem?_range->Gv,getElem?_set_self->Gx,replicate->Gy,getElem?_append_left->Gz,getD->GA,append_nil->GB,length_set->GC,all_cons->GD,getElem?_eq_none->GE,append_assoc->GF,nodup_cons->GH,getElem?_append_right->GI,map_nil->GJ,all_eq_true->GK,lookup->GR,getElem?_set->GS,range_succ->GT,drop_eq_getElem_cons->GX,length_range->GY,mem_append_left->G0,length_drop->G3,any_cons->G4,find?_cons->G5,take_of_length_le->G7,not_mem_nil->Hb,length->Hi,length_take->Hj,ext_getElem?->Hl,drop->Hm,nodup_append->Hn,map_map->Hr,filterMap_cons->Hv,mem_of_getElem?->Hx,map_congr_left->HA,getElem_toArray->HC,take_length->HK,map->HU,of_mem_zip->HX,getElem?_replicate->HY,contains_cons->H8,all_map->H9,forIn_cons->Ia,drop_zero->Im,drop_of_length_le->Ip,drop_eq_nil_of_le->Iq,mem_filter->Iu,mem_filterMap->Iw,getElem?_take_of_lt->Iy,filterMap_map->Iz,length_singleton->IB,nodup_nil->IG,range_succ_eq_map->IJ,take_succ->IL,dropLast_cons₂->IN,eq_nil_of_length_eq_zero->IQ,set_append_left->Ju,set_append_right->Jv,mem_or_eq_of_mem_set->Jw,map_set->Jy,mem_of_mem_drop->JA,take_append_drop->JB,drop_length->JC,mem_iff_getElem?->JD,length_pos_of_mem->JE
open Bool renaming false_ne_true->F6,and_eq_true->Gg,eq_false_iff->Gs,eq_iff_iff->Hg,or_true->Hy,and_true->HB,and_false->IC
open Int renaming mul_pos->F7,mul_le_mul_of_nonneg_right->Ga,mul_comm->Gb,toNat_of_nonneg->Gi,emod_nonneg->Gp,emod_lt_of_pos->Gq,mul_ediv_cancel->Gu,emod_def->Gw,neg_mul->GL,mul_neg->GN,natAbs_mul->GV,mul_nonpos_of_nonpos_of_nonneg->GW,add_zero->GZ,toNat_natCast->G2,eq_of_mul_eq_mul_right->G8,emod_add_mul_ediv->Ha,add_mul->Hc,natCast_add->Hd,lt_trichotomy->Hf,toNat->Hq,add_assoc->Hs,mul_emod_left->HD,mul_le_mul_of_nonneg_left->HF,dvd_mul_of_dvd_right->HG,zero_mul->HH,sub_zero->HI,mul_eq_zero->HJ,sub_mul->HM,mul_zero->HN,mul_neg_of_neg_of_pos->HP,neg_add->HR,add_comm->HS,ediv_nonneg->HV,le_trans->HW,mul_nonneg->Ie,fmod_eq_zero_of_dvd->Ig,natCast_mul->Ih,eq_of_mul_eq_mul_left->Ii,dvd_add->Ij,zero_add->Il,ediv_le_self->Ir,natAbs_eq_zero->II,le_total->IS,fmod_nonneg_of_pos->IT,fmod_lt_of_pos->IU,dvd_mul_of_dvd_left->IW,mul_fdiv_cancel_of_fmod_eq_zero->Ja,dvd_antisymm->Jb,sub_self->Jc,mul_le_mul->Jd,add_mul_emod_self_right->Jg,add_mul_ediv_right->Jh,dvd_add_left->Ji,dvd_mul_right->Jj,sub_eq_add_neg->Jk,natCast_emod->Jo,ediv_eq_zero_of_lt->Jp,neg_neg->Js,one_mul->Jz
open Array renaming length_toList->GP,getElem?_eq_some_iff->Hz,toList->Iv,all_toList->IK,getElem?_eq_getElem->IM,toList_inj->Jf
open Option renaming map_some->Ib,getD_none->IA
open PySem.W (InitBack InstAt any_some bind_fn callWith_K callWith_K0 cellsFrom_some clsIn codeIn codeRec_of emptyDict eq_bytes findCls findIn findObj_own fnOf get_value handedIn hasDictIn hideAll hideAll_get hideAll_none hideAll_size instObj isFn isNs_of_in kIn_of keepIn ki_setAt ki_setBack kia_one kitOne kitx_bool kitx_dict kitx_float kitx_int kitx_list kitx_none kitx_own kitx_str kitx_tuple kun_itemsOf len_bytes lookIn looks_clsIn looks_findIn make_core makesIn makes_of methodCall_KW methodObj method_fn mg_none_of mg_of mroIn ne_bytes nsIn nsMap_none_of_in nsOkIn of_hideAll osa_open plainGet plainGet_of plainOver readsIn set_plain specialIn tailIn tail_of_in takerIn takesIn truthy_bytes typeIn)
def qZ0(_:0=0:=by rfl):=0
def zA0:=qZ0._auto_1
def qZ1(_:0=0:=by decide):=0
def zA1:=qZ1._auto_1
def qZ2(_:0=0:=by exact λ_=>rfl):=0
def zA2:=qZ2._auto_1
def qZ3(_:0=0:=by first|exact .inl rfl|exact .inr rfl|assumption):=0
def zA3:=qZ3._auto_1
def qZ4(_:0=0:=by first|exact Or.inl rfl|exact Or.inr rfl):=0
def zA4:=qZ4._auto_1
def qZ5(_:0=0:=by first|exact Or.inl rfl|exact Or.inr (Or.inl rfl)|exact Or.inr (Or.inr rfl)):=0
def zA5:=qZ5._auto_1
def qZ6(_:0=0:=by exact λ_ _=>rfl):=0
def zA6:=qZ6._auto_1
def qZ7(_:0=0:=by with_unfolding_all rfl):=0
def zA7:=qZ7._auto_1
namespace PySem.W.Fast
def tw5476176625349813254:=Nat
def tw11950152167431934271:=Nat
def tw14532067946048034968:=Nat
def tw11097022698583885596:=Nat
def tw15584945577543530630:=Nat
def tw6440549508874448492:=Nat
def tw1846497900168711487:=Nat
def tw15399221430836623861:=Nat
def tw10278338278589561413:=Nat
def tw1328875664772513259:=Nat
def tw882782665282772824:=Nat
def tw9274742312884951602:=Nat
def tw9989541686424458523:=Nat
def tw8533942600303479881:=Nat
def tw1293866040660721373:=Nat
def tw9439126336915310348:=Nat
def tw9874663014942754910:=Nat
def tw1743473580417435949:=Nat
def tw9777296930317270479:=Nat
def tw1469746496436918106:=Nat
def tw6774799402142211121:=Nat
def tw2285795701084442392:=Nat
def tw9029430221715274651:=Nat
def tw17832972604998062852:=Nat
def tw10045199345862580425:=Nat
def tw8308743679045878283:=Nat
def tw9187865734664435430:=Nat
def tw18256299926860181297:=Nat
def tw12258056616206552748:=Nat
def tw13406472898804145429:=Nat
def tw2543577412517898349:=Nat
def tw11468318602753470171:=Nat
def tw2645964593816737284:=Nat
def tw17109255177016812940:=Nat
def tw1768382869098454789:=Nat
def tw8150652685501937755:=Nat
def tw5011700882583248524:=Nat
def tw4605930751235068577:=Nat
def tw13284431007528801966:=Nat
def tw17165142161123840036:=Nat
def tw13576607574351790515:=Nat
def tw9388509716607463466:=Nat
def tw10001586071346213339:=Nat
def tw17367219090103031309:=Nat
def tw7524149086153534559:=Nat
def tw3148877002611886900:=Nat
def tw6110789534638038764:=Nat
def tw14154427728879092095:=Nat
def tw16615099012871107982:=Nat
def tw1340366882041512421:=Nat
def tw17823541018162099204:=Nat
def tw15692807433725621067:=Nat
def tw8014061057763746101:=Nat
def tw16093904816842777984:=Nat
def tw16639399487121062074:=Nat
def tw9283588856706823247:=Nat
def tw2999083675842140232:=Nat
def tw10641244072099703557:=Nat
def tw862341437579024296:=Nat
def tw445171089808139941:=Nat
def tw3473121644481674480:=Nat
def tw4356681168564598567:=Nat
def tw4992696815688181247:=Nat
def tw12193711648975836800:=Nat
def tw11798395488197660000:=Nat
def tw9334079557135641805:=Nat
def tw10905727454236481341:=Nat
def tw18342065429801292122:=Nat
def tw13774726287393269653:=Nat
def tw10054227703208419033:=Nat
def tw3906373640219210822:=Nat
def tw11620228966749315332:=Nat
def tw6961176286308282758:=Nat
def tw16000177119514037145:=Nat
def tw3914428602122850258:=Nat
def tw18244046507350031497:=Nat
def tw13099817619475944234:=Nat
def tw8486411349995966507:=Nat
def tw13790657624240014446:=Nat
def tw14769908529015775155:=Nat
def tw46638591019993799:=Nat
def tw1847973281671252776:=Nat
def tw8272865046916351201:=Nat
def tw17404002803164590826:=Nat
def tw3903868161692544430:=Nat
def tw6105945826892412673:=Nat
def tw1575643208453576322:=Nat
def tw6181226108192577217:=Nat
def tw3976070948775919524:=Nat
def tw7020209342771480150:=Nat
def tw15675404625425316931:=Nat
def tw12888621825304293112:=Nat
def tw16116444033298435815:=Nat
def tw3260451276075489547:=Nat
def tw13432132286126950432:=Nat
def tw10644667957227227297:=Nat
def tw2305483828924554657:=Nat
def tw3543686831655057143:=Nat
def tw13244736569011181231:=Nat
def tw16121012824196072694:=Nat
def tw10604555791095749660:=Nat
def tw12169993033685553701:=Nat
def tw8227874483181709304:=Nat
def tw10966564078317913675:=Nat
def tw3631126315524553602:=Nat
def tw15037320092716782339:=Nat
def tw5593544751934371069:=Nat
def tw5550624522663020370:=Nat
def tw8322328983700245106:=Nat
def tw8009340943790325772:=Nat
def tw13933617171497504162:=Nat
def tw16035105003154285249:=Nat
def tw10570363556833944775:=Nat
def tw13358135550190357407:=Nat
def tw5057303459926877320:=Nat
def tw10049921148783568168:=Nat
def tw624938199430191815:=Nat
def tw2714467722630313230:=Nat
def tw5457696997463721777:=Nat
def tw2760794234969998029:=Nat
def tw5223658544994113066:=Nat
def tw16920746412032356052:=Nat
def tw807840650189722828:=Nat
def tw109565870265245284:=Nat
def tw5924266251122340074:=Nat
def tw17087154967850586413:=Nat
def tw9121767677525560020:=Nat
def tw17583385000738552278:=Nat
def tw2712182551211418960:=Nat
def tw16318396034904607629:=Nat
def tw17140444239313024557:=Nat
def tw14669535033018532694:=Nat
def tw9622996841522518029:=Nat
def tw16039057046773932990:=Nat
def tw17982957585434621602:=Nat
def tw5688438351992446898:=Nat
def tw2054104628406966957:=Nat
def tw926018434889342382:=Nat
def tw11721365443577874431:=Nat
def tw16003740080521470900:=Nat
def tw18281183168138226380:=Nat
def tw3275391682316611192:=Nat
def tw7675359502252196895:=Nat
def tw11180499090297586255:=Nat
def tw7631528589377067149:=Nat
def tw11091142668501762807:=Nat
def tw14899979444037655496:=Nat
def tw4214316237605667675:=Nat
def tw1352793595814902236:=Nat
def tw7834129600165937403:=Nat
def tw5557183045728911596:=Nat
def tw2517402213384414630:=Nat
def tw10123977808429757513:=Nat
def tw14244244088289809971:=Nat
def tw8452722195416269527:=Nat
def tw12108105443863336682:=Nat
def tw13978531395398951170:=Nat
def tw8896923259505572220:=Nat
def tw1991055136049682066:=Nat
def tw5061333970007808167:=Nat
def tw8558961929921958760:=Nat
def tw1230265208496665537:=Nat
def tw13889442048549275470:=Nat
def tw2412990125442413344:=Nat
def tw501436206452184276:=Nat
def tw13829692339776951237:=Nat
def tw11524674060647999047:=Nat
def tw7282579576017024051:=Nat
def tw2927420719059708109:=Nat
def tw16835119287917456521:=Nat
def tw16120475768837030006:=Nat
def tw5211796260322350028:=Nat
def tw10411279368051275628:=Nat
def tw11444042696841194395:=Nat
def tw10773917456721543735:=Nat
def tw11190086630730558506:=Nat
def tw3965257160419066261:=Nat
def tw17483754551173941662:=Nat
def tw4679403177604021167:=Nat
def tw3929088626876105750:=Nat
def tw992199565275551937:=Nat
def tw18215956308614293967:=Nat
def tw13314452924310862569:=Nat
def tw11236103551259330264:=Nat
def tw4978916413785969944:=Nat
def tw7717955582369813981:=Nat
def tw13064679478710682452:=Nat
def tw10883671997621036806:=Nat
def tw2072046212075836763:=Nat
def tw6979630018437497668:=Nat
def tw18262068869652015263:=Nat
def tw5809888518975318044:=Nat
def tw3124073681231182363:=Nat
def tw14623968229904872270:=Nat
def tw5093209942159853701:=Nat
def tw15255949325781657220:=Nat
def tw460713157142874637:=Nat
def tw12799732346239144542:=Nat
def tw6528601373395978483:=Nat
def tw7581272676004609040:=Nat
def tw2295839781193319998:=Nat
def tw6893271319094574507:=Nat
def tw717613537878449749:=Nat
def tw15668801947431423764:=Nat
def tw274578951762064852:=Nat
def tw15233995692588680997:=Nat
def tw2758661387828194156:=Nat
def tw5224936172389723250:=Nat
def tw132608453615614689:=Nat
def tw2180406121079074687:=Nat
def tw2677951608376932178:=Nat
def tw5366881315181163881:=Nat
def tw11399868281293915287:=Nat
def tw16891210931577449715:=Nat
def tw13187486412519638589:=Nat
def tw16335685681932974953:=Nat
def tw11521976458859511467:=Nat
def tw14371695772431571862:=Nat
def tw4006521493163176889:=Nat
def tw15305887896228774412:=Nat
def tw14281479241285519681:=Nat
def tw14875466668555642851:=Nat
def tw1539263741657257660:=Nat
def tw4311065672167239818:=Nat
def tw11884886693101448954:=Nat
def tw11086437780921956031:=Nat
def tw10860170958344125729:=Nat
def tw6913489137517847925:=Nat
def tw4707036933658781933:=Nat
def tw1362390424061963250:=Nat
def tw1707709938882250390:=Nat
def tw5165319956568386919:=Nat
def tw3405905635455732154:=Nat
def tw13281300211872835893:=Nat
def tw13214235018168711251:=Nat
def tw11116644657679089589:=Nat
def tw14509373587492517808:=Nat
def tw17520712978099089461:=Nat
def tw8804651882820639973:=Nat
def tw9467732754149456541:=Nat
def tw8523253315156720877:=Nat
def tw18137912147086066159:=Nat
def tw748936257639957528:=Nat
def tw10273167495214994528:=Nat
def tw15532075774116595514:=Nat
def tw8036265910990052186:=Nat
def tw18014717115930249773:=Nat
def tw6884669556879205681:=Nat
def tw8997072108974273049:=Nat
def tw17251709671779416511:=Nat
def tw12398999760266039992:=Nat
def tw18077233373285742974:=Nat
def tw10597333334672187068:=Nat
def tw6748328819757194426:=Nat
def tw6594111564070173547:=Nat
def tw4749706960369691037:=Nat
def tw17139159735643303506:=Nat
def tw14050376800864747830:=Nat
def tw17202687481195821249:=Nat
def tw16584433669544037277:=Nat
def tw7965256170907863481:=Nat
def tw9473682143708978803:=Nat
def tw13616530964725658912:=Nat
def tw8487564976991979211:=Nat
def tw4584222609293989838:=Nat
def tw17504327554606422755:=Nat
def tw9761965273749159752:=Nat
def tw9412571955565876832:=Nat
def tw11455958185107895360:=Nat
def tw16925930078107096637:=Nat
def tw12916340993172682157:=Nat
def tw8710237465413339749:=Nat
def tw7809212067078801318:=Nat
def tw11336368769262403186:=Nat
def tw17939418104750837928:=Nat
def tw6617041072383516178:=Nat
def tw16986393586305748486:=Nat
def tw11233112337146088965:=Nat
def tw14268806573365375279:=Nat
def tw2838441339556412600:=Nat
def tw6636650078898225352:=Nat
def tw5772947153472869758:=Nat
def tw10450855272465393028:=Nat
def tw16025945018504708906:=Nat
def tw18322542463597732664:=Nat
def tw15535791475726138871:=Nat
def tw16557600873362351526:=Nat
def tw12294355594843330365:=Nat
def tw10367622816334425240:=Nat
def tw13795908645771517109:=Nat
def tw14214311162287894622:=Nat
def tw12436843169503721225:=Nat
def tw14162508898577535256:=Nat
def tw5258160291148994572:=Nat
def tw14653334842066305825:=Nat
def tw2339475671277476688:=Nat
def tw5755028151227642949:=Nat
def tw12199574883427415814:=Nat
def tw11114015903962542803:=Nat
def tw11324974580166114140:=Nat
def tw457696053520501682:=Nat
def tw16253655223379083818:=Nat
def tw5438780133054988249:=Nat
def tw16658964431892953979:=Nat
def tw5835403606596481829:=Nat
def tw3867562661903028309:=Nat
def tw4117228086103904364:=Nat
def tw11622376064635131083:=Nat
def tw9142909382566784378:=Nat
def tw1589857650814707841:=Nat
def tw12985622167965462706:=Nat
def tw7964906611926034495:=Nat
def tw7152072739917519153:=Nat
def tw393166970628474149:=Nat
def tw1170692313814359141:=Nat
def tw5172386908057836774:=Nat
def tw2650472182462079180:=Nat
def tw6103449981635741072:=Nat
def tw12718104096428375704:=Nat
def tw8704796395631760286:=Nat
def tw7468024317675563426:=Nat
def tw4036423369736723697:=Nat
def tw4777183568072312818:=Nat
def tw727070844604121727:=Nat
def tw10694402042969298179:=Nat
def tw8423762521749008313:=Nat
def tw548180415298762421:=Nat
def tw825912570302724041:=Nat
def tw738156625388803930:=Nat
def tw3560916367023999450:=Nat
def tw17668725345369209379:=Nat
def tw5860200129184097246:=Nat
def tw5375446975793046423:=Nat
def tw13236811535906207595:=Nat
def tw6641689615696428266:=Nat
def tw12108614103791653794:=Nat
def tw17217799473741071952:=Nat
def tw13446148921619964217:=Nat
def tw8328462855319975119:=Nat
def tw14622914374952957661:=Nat
def tw809984063483970911:=Nat
def tw8232435036310718182:=Nat
def tw5147304322664341112:=Nat
def tw14554153982037775642:=Nat
def tw5090717799515910339:=Nat
def tw17377355375763378871:=Nat
def tw10372859701893559746:=Nat
def tw9678319245205916723:=Nat
def tw18240311230099539993:=Nat
def tw6321621331149590757:=Nat
def tw233018150859692614:=Nat
def tw15569479996279870809:=Nat
def tw2964177445481659239:=Nat
def tw4799426744067937106:=Nat
def tw15481505645626369196:=Nat
def tw6798221231565265691:=Nat
def tw1017838463643146204:=Nat
def tw10499733271468994742:=Nat
def tw4453561996041468478:=Nat
def tw14751054796953743640:=Nat
def tw18337882176940179855:=Nat
def tw9836272608711052305:=Nat
def tw8191136464415580146:=Nat
def tw7572934190995099256:=Nat
def tw15370401613328472608:=Nat
def tw2114392595619101896:=Nat
def tw16156062653320576006:=Nat
def tw16961861876209007930:=Nat
def tw15185414045255123468:=Nat
def tw16106714842288231489:=Nat
def tw16669119124507733197:=Nat
def tw5538874916736079568:=Nat
def tw18166620039370034783:=Nat
def tw9376555939646529075:=Nat
def tw2317970407491682857:=Nat
def tw9109120640009299448:=Nat
def tw15478812983766444426:=Nat
def tw6520689994073488265:=Nat
def tw8879406425657262029:=Nat
def tw8151689216827719208:=Nat
def tw10153528569418587432:=Nat
def tw2742907728185355630:=Nat
def tw13269752100711734126:=Nat
def tw15736976844662404442:=Nat
def tw16825302380269643962:=Nat
def tw15404564345981272117:=Nat
def tw12560606735277477314:=Nat
def tw14098295497082733292:=Nat
def tw15178689427475697063:=Nat
def tw9708690357793612121:=Nat
def tw15964395808728326057:=Nat
def tw15766913899891474292:=Nat
def tw1456220923364595633:=Nat
def tw275876683209375723:=Nat
def tw1683242056744848666:=Nat
def tw5638033892314442145:=Nat
def tw16215662058720359739:=Nat
def tw4715202526456093085:=Nat
def tw7038639541659314803:=Nat
def tw10158467604480979584:=Nat
def tw6928009301599911853:=Nat
def tw17341133173695849814:=Nat
def tw15906668297573545993:=Nat
def tw15683041261193622398:=Nat
def tw4194792460804697865:=Nat
def tw15010850351359579225:=Nat
def tw8857520212761284829:=Nat
def tw10202165673007853180:=Nat
def tw9342509279240240652:=Nat
def tw15929233394959955389:=Nat
def tw1147119273750580932:=Nat
def tw7344799784596778538:=Nat
def tw13515908784616230408:=Nat
def tw4361660251843364784:=Nat
def tw1149080717927548254:=Nat
def tw15120211600351908940:=Nat
def tw13859892257492467829:=Nat
def tw16388361082356645813:=Nat
def tw3387690853138560916:=Nat
def tw17183741749857194447:=Nat
def tw10907568916671243383:=Nat
def tw2179041392619859378:=Nat
def tw1544420562286639270:=Nat
def tw8988628421817958845:=Nat
def tw6361194686867538861:=Nat
def tw18087011361491063034:=Nat
def tw16488289481678594140:=Nat
def tw981701771351175637:=Nat
def tw16297681647905769047:=Nat
def tw14400795569157936470:=Nat
def tw8111071745679380137:=Nat
def tw6958055857594568360:=Nat
def tw11966563697938971949:=Nat
def tw8700530555343977695:=Nat
def tw15578832945118938226:=Nat
def tw7673240411176988930:=Nat
def tw3206723424296650455:=Nat
def tw4178130104977162423:=Nat
def tw1881095698251064645:=Nat
def tw12346541398512166078:=Nat
def tw14722024925363842156:=Nat
def tw1767031732996352374:=Nat
def tw169984050637163607:=Nat
def tw8806734589114626574:=Nat
def tw7016542905297459205:=Nat
def tw16921804923418808939:=Nat
def tw3002787141210244268:=Nat
def tw17134267099244355855:=Nat
def tw8561844427977247932:=Nat
def tw14732121602385904756:=Nat
def tw15239681057031165183:=Nat
def tw8532293835710301747:=Nat
def tw7894777842459843358:=Nat
def tw13471124282712106669:=Nat
def tw17783265933534843903:=Nat
def tw18236048977128129659:=Nat
def tw18265111784064868651:=Nat
def tw8136985098336885908:=Nat
def tw5833259366142510362:=Nat
def tw11921985104388595169:=Nat
def tw863699511982590493:=Nat
def tw14067575437349531715:=Nat
def tw9004262950589547994:=Nat
def tw8995776604481796318:=Nat
def tw2874274264207765305:=Nat
def tw15374379265682617522:=Nat
def tw526962265385998825:=Nat
def tw8632616988606985394:=Nat
def tw11555236324146658534:=Nat
def tw7913655819005536924:=Nat
def tw10158095969883971673:=Nat
def tw5677075364607782175:=Nat
def tw4230990568450001639:=Nat
def tw17059228630385452589:=Nat
def tw5144345680106294104:=Nat
def tw1540569009975277063:=Nat
def tw11177747232741865107:=Nat
def tw7040297049726532378:=Nat
def tw647112569466240330:=Nat
def tw11195815119480308649:=Nat
def tw5413326823446156496:=Nat
def tw8495916641282301789:=Nat
def tw11579390813975449463:=Nat
def tw12282222914660882189:=Nat
def tw919138361548835281:=Nat
def tw18308980725622189476:=Nat
def tw10016307106281103693:=Nat
def tw2106043511474961757:=Nat
def tw775502844504015713:=Nat
def tw290626252110542583:=Nat
def tw14037765679339335139:=Nat
def tw7998805703866783310:=Nat
def tw10322567302167653496:=Nat
def tw14086131632260192408:=Nat
def tw5132715397563854968:=Nat
def tw3151480407634155787:=Nat
def tw7758630896559000358:=Nat
def tw2985114068272089387:=Nat
def tw10223075194674342003:=Nat
def tw10304971787227259585:=Nat
def tw33561950034598428:=Nat
def tw5362213610841918178:=Nat
def tw3872077909107739415:=Nat
def tw8515468773266608833:=Nat
def tw5676145188077812799:=Nat
def tw631452396159531941:=Nat
def tw1880330001637881847:=Nat
def tw2948407736791353087:=Nat
def tw1457614810359826714:=Nat
def tw12611840679459536515:=Nat
def tw1452176541172032893:=Nat
def tw14094107948011239469:=Nat
def tw14002221748386825628:=Nat
def tw12180810553355477430:=Nat
def tw7938996529453013252:=Nat
def tw12562679437160314483:=Nat
def tw5616474732458975211:=Nat
def tw15702505048429148248:=Nat
def tw7864499531077549452:=Nat
def tw13552602049697954009:=Nat
def tw4494850059603926680:=Nat
def tw7576169048840108000:=Nat
def tw18389398213840636283:=Nat
def tw11569272602609403777:=Nat
def tw6462847334922074984:=Nat
def tw3835704047076455868:=Nat
def tw11529300322709440005:=Nat
def tw12806851169258242375:=Nat
def tw2921404151792306085:=Nat
def tw9339089026598323746:=Nat
def tw14889857501386428772:=Nat
def tw7157217084650817639:=Nat
def tw16842333905276142052:=Nat
def tw17752313329046879150:=Nat
def tw1237661809787656398:=Nat
def tw11770164882260241251:=Nat
def tw14201660000459150605:=Nat
def tw14886825013179513288:=Nat
def tw17893203551399425882:=Nat
def tw1895137239831167944:=Nat
def tw18357758668331581866:=Nat
def tw1633148620825289678:=Nat
def tw1586384415563838269:=Nat
end PySem.W.Fast
section
namespace L2
open PySem PySem.Spec PyProof.Rows
abbrev Key:=Sum Int E_
def dZ:Key->KB->Bool
 |.inl k,v=>Value.isInt k v
 |.inr x,v=>Value.isStrOf x v
def keyH(w:RU):Key->Int
 |.inl k=>hashInt k
 |.inr x=>hashStr w x
def keyIs_shape:∀{k:Key} {v:KB},dZ k v=true->(∃i t,k=Sum.inl i/\v=Value.int i t)\/(∃x t,k=Sum.inr x/\v=Value.str x t)
 |.inl i,v,h=>by
  obtain⟨t,e⟩:=Value.isInt_shape (k:=i) (v:=v) h;exact .inl #[i,t,rfl,e]
 |.inr x,v,h=>by
  obtain⟨t,e⟩:=Value.isStrOf_shape (x:=x) (v:=v) h;exact .inr #[x,t,rfl,e]
def vA(i:Int)(t:Tok):dZ (.inl i) (.int i t)=true:=by simp[dZ,Value.isInt]
def vB(x:E_)(t:Tok):dZ (.inr x) (.str x t)=true:=by simp[dZ,Value.isStrOf]
def vC(a b:Int):decide ((Sum.inl a:Key)=Sum.inl b)=(a==b):=by
 by_cases e:a=b
 .subst e;simp
 .have h:¬(Sum.inl a:Key)=Sum.inl b:=λq=>e (Sum.inl.inj q);rw[decide_eq_false h];exact(beq_eq_false_iff_ne.mpr e).symm
def vD(a b:E_):decide ((Sum.inr a:Key)=Sum.inr b)=decide (a=b):=by
 by_cases e:a=b
 .subst e;simp
 .have h:¬(Sum.inr a:Key)=Sum.inr b:=λq=>e (Sum.inr.inj q);rw[decide_eq_false h,decide_eq_false e]
def vE(a:Int)(b:E_):decide ((Sum.inl a:Key)=Sum.inr b)=false:=decide_eq_false (λq=>nomatch q)
def vF(a:E_)(b:Int):decide ((Sum.inr a:Key)=Sum.inl b)=false:=decide_eq_false (λq=>nomatch q)
def bR(prog:RQ)(w:RU):PySem.KeyKind prog w Key where
 is:=dZ
 hash:=keyH w
 inj:=λv a b ha hb=>by
  rcases keyIs_shape ha with⟨i,t,rfl,rfl⟩|⟨x,t,rfl,rfl⟩
  .rcases keyIs_shape hb with⟨j,u,rfl,e⟩|⟨y,u,rfl,e⟩
   .injection e with e1 _;rw[e1]
   .exact nomatch e
  .rcases keyIs_shape hb with⟨j,u,rfl,e⟩|⟨y,u,rfl,e⟩
   .exact nomatch e
   .injection e with e1 _;rw[e1]
 byValue:=λk v h=>by
  rcases keyIs_shape h with⟨i,t,rfl,rfl⟩|⟨x,t,rfl,rfl⟩<;>rfl
 pyHash:=λhv h=>by
  rcases keyIs_shape hv with⟨i,t,rfl,rfl⟩|⟨x,t,rfl,rfl⟩
  .exact wpAny_pyHash_int h
  .exact wpAny_pyHash_str h
 eqBool:=λhu hv h=>by
  rcases keyIs_shape hu with⟨i,t,rfl,rfl⟩|⟨x,t,rfl,rfl⟩
  .rcases keyIs_shape hv with⟨j,u,rfl,rfl⟩|⟨y,u,rfl,rfl⟩
   .rw[vC]at h;exact wpAny_eqBool_int h
   .rw[vE]at h;exact SeqAt.EqAt.int_str i t y u _ _ _ _ h
  .rcases keyIs_shape hv with⟨j,u,rfl,rfl⟩|⟨y,u,rfl,rfl⟩
   .rw[vF]at h;exact SeqAt.EqAt.str_int x t j u _ _ _ _ h
   .rw[vD]at h;exact wpAny_eqBool_str h
 «strs»:=λk x t v h=>by
  rcases keyIs_shape h with⟨i,u,rfl,e⟩|⟨y,u,rfl,e⟩
  .exact nomatch e
  .injection e with e1 _;subst e1;cases v<;>rfl
def mixKind_int(prog:RQ)(w:RU)(i:Int)(t:Tok):(bR prog w).is (.inl i) (.int i t)=true:=vA i t
def vG(prog:RQ)(w:RU)(x:E_)(t:Tok):(bR prog w).is (.inr x) (.str x t)=true:=vB x t
inductive V where
 |non|bl (b:Bool)|int (i:Int)|str (x:Str)|byt (b:Array UInt8)|flt (b:UInt64)|ref (a:KF)|ty (n:String)
 deriving DecidableEq
def RelV:V->KB->Prop
 |.non,u=>u=Value.none
 |.bl b,u=>u=Value.bool b
 |.int i,u=>∃t,u=Value.int i t
 |.str x,u=>∃t,u=Value.str x t
 |.byt b,u=>∃t,u=Value.bytes b t
 |.flt b,u=>∃t,u=Value.float b t
 |.ref a,u=>u=Value.ref a
 |.ty n,u=>u=Value.type n
abbrev Vals:List V->List KB->Prop:=Paired RelV
variable{xs:List V}{us:List KB}
def Vals.length(r:Vals xs us):xs.length=us.length:=Paired.length r
def Vals.get:∀{xs:List V} {us:List KB} {i:Nat} {x:V},Vals xs us->xs[i]?=be x->∃u,us[i]?=be u/\RelV x u
 |_,_,_,_,.nil,e=>by simp at e
 |_,_,0,_,.cons r _,e=>by simp at e;subst e;exact#[_,rfl,r]
 |_,_,i+1,x,.cons _ t,e=>by
  obtain⟨u,h1,h2⟩:=Vals.get (i:=i) (x:=x) t (by simpa using e);exact#[u,by simpa using h1,h2]
def Vals.set{x:V}{u:KB}(r:RelV x u):∀{xs:List V} {us:List KB} (i:Nat),Vals xs us->Vals (xs.set i x) (us.set i u)
 |_,_,_,.nil=>.nil
 |_,_,0,.cons _ t=>.cons r t
 |_,_,i+1,.cons q t=>.cons q (Vals.set r i t)
def Vals.append:∀{xs ys:List V} {us ws:List KB},Vals xs us->Vals ys ws->Vals (xs++ys) (us++ws):=by
 intro xs ys us ws h s;induction h with
 |nil=>exact s
 |cons r _ e=>exact .cons r e
def Vals.take:∀{xs:List V} {us:List KB} (n:Nat),Vals xs us->Vals (xs.take n) (us.take n)
 |_,_,0,_=>.nil
 |_,_,_+1,.nil=>.nil
 |_,_,n+1,.cons r t=>.cons r (Vals.take n t)
def Vals.drop:∀{xs:List V} {us:List KB} (n:Nat),Vals xs us->Vals (xs.drop n) (us.drop n)
 |_,_,0,r=>r
 |_,_,_+1,.nil=>.nil
 |_,_,n+1,.cons _ t=>Vals.drop n t
def RelO:Option V->Option KB->Prop
 |some v,be u=>RelV v u
 |none,s_=>True
 |_,_=>False
def KV{κ:Type}:List (κ×V)->List (κ×KB)->Prop:=Paired λ(p:κ×V) (q:κ×KB)=>p.1=q.1/\RelV p.2 q.2
def kV:Key->V
 |.inl i=>.int i
 |.inr x=>.str x
inductive HO where
  |lst (xs:List V)
  |tup (xs:List V)
  |dK (a8:List (Key×V))|dT (a8:List (List Key×V))
  |set (S:Int->Bool) (n:Nat)
  |ins (C dx:KF) (fs:List (E_×V))
  |own (x:KF)
  |xd (fs:List (E_×V))
  |met (f x:KF)
  |rng (lo hi:Int)
  |frz (o:R_) (u:HO)
  |tbl (ps:Array KB)
  |ext (φ:RW->Prop)
abbrev Hp:=KF->Option HO
def upd(H:Hp)(a:KF)(o:HO):Hp:=λb=>if b=a then be o else H b
variable{H:Hp}{a:KF}{o:HO}
def aL:upd H a o a=be o:=by unfold upd;rw[if_pos rfl]
variable{b:KF}
def aD(h:b≠a):upd H a o b=H b:=by unfold upd;rw[if_neg h]
def vH{u:HO}(h:H a=be o)(h':H b=be u)(d:o≠u):a≠b:=by
 intro e;subst e;rw[h]at h';exact d (Option.some.inj h')
def cU(h:H a=be o)(h':H b=s_):a≠b:=by
 intro e;subst e;rw[h]at h';cases h'
section
variable (P:RQ)(w:RU)
def ObjOk(H:Hp)(h:RW)(a:KF):HO->Prop
 |.lst xs=>xs.length<=sizeLine/\∃(its:List KB) (n:Nat),Vals xs its/\h.get? a=be {cls:=.type "list",data:=.seq its.toArray n}
 |.tup xs=>xs.length<=sizeLine/\∃its:List KB,Vals xs its/\IsTup h a its.toArray
 |.dK a8=>a8.length<=sizeLine/\(a==Sj)=false/\∃vs,KV a8 vs/\h.DictOf (bR P w) a vs
 | .dT a8=>a8.length<=sizeLine/\(a==Sj)=false/\∃xs:List (List Key×KF×KB),
   Paired (λ(p:List Key×V) (q:List Key×KF×KB)=>p.1=q.1/\H q.2.1=be (.tup (p.1.map kV))/\RelV p.2 q.2.2) a8 xs/\
   ∃o es ep,h.get? a=be o/\o.ExactDict/\o.data=.dict es ep/\es.toList=xs.map (entryOfKey (SI (bR P w)))/\(xs.map (·.1)).Nodup
 |.set S n=>h.SetOf (intKind P w) a S n
 | .ins C dx fs=>H dx=be (.own a)/\fs.length<=1000/\dx≠a/\h.get? a=be (instObj C dx)/\
   ∃mA,h.Ns1 dx mA/\(∀f,RelO (fs.lookup f) (mA f))/\PySem.Within mA (fs.map (·.1))
 |.own _=>∃o,h.get? a=be o
 |.xd fs=>∃mA,h.Ns1 a mA/\∀f,RelO (fs.lookup f) (mA f)
 |.rng lo hi=>∃t u v,h.get? a=be {cls:=.type "range",data:=.fields [.int lo t,.int hi u,.int 1 v].toArray}
 |.frz o u=>h.get? a=be o/\ObjOk H h a u
 |.tbl ps=>h.get? a=be {cls:=.none,data:=.fields ps}
 |.met f x=>h.get? a=be (methodObj (.ref f) (.ref x))
 |.ext φ=>φ h/\(∃o,h.get? a=be o)/\∀h1 h2:RW,φ h1->(∀o,h1.get? a=be o->h2.get? a=be o)->φ h2
def HOk(H:Hp)(h:RW):Prop:=∀a o,H a=be o->ObjOk P w H h a o
end
section
variable {P:RQ}{w:RU}{H H':Hp}{h h':RW}{a:KF}{o:HO}
def ObjOk.lt(x:ObjOk P w H h a o):a<h.objs.size:=by
 cases o with
 |lst xs=>obtain⟨_,_,_,_,e⟩:=x;exact Heap.lt_size e
 |tup xs=>obtain⟨_,_,_,p⟩:=x;exact p.lt
 |dK a8=>obtain⟨_,_,_,_,o,_,_,e,_⟩:=x;exact Heap.lt_size e
 |dT a8=>obtain⟨_,_,_,_,o,_,_,e,_⟩:=x;exact Heap.lt_size e
 |set S n=>obtain⟨o,_,_,_,e,_⟩:=x;exact Heap.lt_size e
 |ins C dx fs=>obtain⟨_,_,_,e,_⟩:=x;exact Heap.lt_size e
 |own y=>obtain⟨_,e⟩:=x;exact Heap.lt_size e
 |xd fs=>obtain⟨_,⟨_,_,_,e,_⟩,_⟩:=x;exact Heap.lt_size e
 |rng lo hi=>obtain⟨_,_,_,e⟩:=x;exact Heap.lt_size e
 |frz ob u=>obtain⟨e,_⟩:=x;exact Heap.lt_size e
 |tbl ps=>exact Heap.lt_size (show h.get? a=be _ from x)
 |met f y=>exact Heap.lt_size (show h.get? a=be _ from x)
 |ext φ=>obtain⟨_,⟨_,e⟩,_⟩:=x;exact Heap.lt_size e
def Paired.mapP{α β:Type}{F G:α->β->Prop}:∀{l₁:List α} {l₂:List β},Paired F l₁ l₂->(∀a b,F a b->G a b)->Paired G l₁ l₂:=by
 intro l₁ l₂ h f;induction h with
 |nil=>exact .nil
 |cons r _ e=>exact .cons (f _ _ r) e
def ObjOk.stay(x:ObjOk P w H h a o)(k:∀b u,(b=a\/H b=be (.own a))->h.get? b=be u->h'.get? b=be u)
  (ho:∀b,H b=be (.own a)->H' b=be (.own a)) (ht:∀b xs,H b=be (.tup xs)->H' b=be (.tup xs)):ObjOk P w H' h' a o:=by
 induction o with
 |lst xs=>obtain⟨z,its,n,r,e⟩:=x;exact#[z,its,n,r,k _ _ (.inl rfl) e]
 |tup xs=>obtain⟨z,its,r,ob,e,c⟩:=x;exact#[z,its,r,ob,k _ _ (.inl rfl) e,c]
 |dK a8=>obtain⟨z,y,vs,r,ob,es,ep,e,c⟩:=x;exact#[z,y,vs,r,ob,es,ep,k _ _ (.inl rfl) e,c]
 |dT a8=>
  obtain⟨z,y,xs,r,ob,es,ep,e,c⟩:=x;exact#[z,y,xs,Paired.mapP r λp q z=>#[z.1,ht _ _ z.2.1,z.2.2],ob,es,ep,k _ _ (.inl rfl) e,c]
 |set S n=>obtain⟨ob,es,ep,t,e,c⟩:=x;exact#[ob,es,ep,t,k _ _ (.inl rfl) e,c]
 |ins C dx fs=>
  obtain⟨d,z,ne,e,mA,⟨od,es,ep,e2,c⟩,r⟩:=x;exact#[ho _ d,z,ne,k _ _ (.inl rfl) e,mA,#[od,es,ep,k _ _ (.inr d) e2,c],r]
 |own y=>obtain⟨ob,e⟩:=x;exact#[ob,k _ _ (.inl rfl) e]
 |xd fs=>obtain⟨mA,⟨od,es,ep,e,c⟩,r⟩:=x;exact#[mA,#[od,es,ep,k _ _ (.inl rfl) e,c],r]
 |rng lo hi=>obtain⟨t,u,v,e⟩:=x;exact#[t,u,v,k _ _ (.inl rfl) e]
 |frz ob u ih=>obtain⟨e,q⟩:=x;exact#[k _ _ (.inl rfl) e,ih q]
 |tbl ps=>
  have e:h.get? a=be {cls:=.none,data:=.fields ps}:=x;show h'.get? a=be {cls:=.none,data:=.fields ps};exact k a _ (.inl rfl) e
 |met f y=>
  have e:h.get? a=be (methodObj (.ref f) (.ref y)):=x;show h'.get? a=be (methodObj (.ref f) (.ref y));exact k a _ (.inl rfl) e
 |ext φ=>obtain⟨p,⟨o,e⟩,st⟩:=x;exact#[st _ _ p λo q=>k _ _ (.inl rfl) q,#[o,k _ _ (.inl rfl) e],st]
def HOk.lt(x:HOk P w H h)(e:H a=be o):a<h.objs.size:=(x a o e).lt
def HOk.fresh(x:HOk P w H h)(e:h.objs.size<=a):H a=none:=by
 cases q:H a with
 |none=>rfl
 |some u=>exact absurd (Gj (x.lt q) e) (GO _)
def HOk.kept(x:HOk P w H h)(k:∀b u,h.get? b=be u->h'.get? b=be u):HOk P w H h':=λa o e=>
 (x a o e).stay (λb u _ q=>k b u q) (λ_ q=>q) λ_ _ q=>q
def HOk.laid(x:HOk P w H h)(k:∀b u,h.get? b=be u->h'.get? b=be u)(hp:h.objs.size<=a)(new:ObjOk P w (upd H a o) h' a o):HOk P w (upd H a o) h':=λb u e=>by
 have hn:=x.fresh hp;by_cases hb:b=a
 .subst hb;rw[aL]at e;cases e;exact new
 .rw[aD hb]at e;exact(x b u e).stay (λc v _ q=>k c v q) (λc q=>by rw[aD (cU q hn)];exact q) λc xs q=>by rw[aD (cU q hn)];exact q
end
def Rd(H:Hp)(a:KF)(u:HO):Prop:=H a=be u\/∃o,H a=be (.frz o u)
def Rd.of{u:HO}(h:H a=be u):Rd H a u:=.inl h
variable{P:RQ}{w:RU}{h:RW}
def Rd.ok{u:HO}(r:Rd H a u)(x:HOk P w H h):ObjOk P w H h a u:=by
 rcases r with r|⟨o,r⟩
 .exact x a u r
 .obtain⟨_,q⟩:=x a _ r;exact q
def Mut:Option HO->Prop
 |some (.lst _)=>True
 |some (.dK _)=>True
 |some (.dT _)=>True
 |some (.set _ _)=>True
 |some (.ins _ _ _)=>True
 |some (.ext _)=>True
 |_=>False
section
variable {P:RQ}{w:RU}{H:Hp}{h h':RW}{x e:KF}{o':HO}
def HOk.write(ok:HOk P w H h)(mu:Mut (H x))(he:e=x\/H e=be (.own x))(k:∀b u,b≠e->h.get? b=be u->h'.get? b=be u)(y8:∃u,h'.get? e=be u)
  (new:ObjOk P w (upd H x o') h' x o'):HOk P w (upd H x o') h':=λb u q=>by
 have Lb:∀c y,H c=be (.own y)->c≠x:=λc y r z=>by subst z;rw[r]at mu;exact mu
 have MG:∀c xs,H c=be (.tup xs)->c≠x:=λc xs r z=>by subst z;rw[r]at mu;exact mu
 by_cases hb:b=x
 .subst hb;rw[aL]at q;cases q;exact new
 .rw[aD hb]at q;by_cases J_:b=e
  .have q':H b=be (.own x):=by
    rcases he with z|z
    .exact absurd (J_.trans z) hb
    .rw[J_];exact z
   rw[q]at q';cases q';obtain⟨v,hv⟩:=y8;exact#[v,by rw[J_];exact hv]
  .refine(ok b u q).stay (λc v hc r=>k c v ?_ r) (λc r=>by rw[aD (Lb c b r)];exact r) λc xs r=>by rw[aD (MG c xs r)];exact r
   rcases hc with rfl|hc
   .exact J_
   .rintro rfl;rcases he with z|z
    .exact Lb c b hc z
    .rw[hc]at z;cases z;exact hb rfl
end
structure Un(fs ex:List KF)(H H':Hp)(h h':RW):Prop where
 keep:∀b o,h.get? b=be o->H b=s_->b∉fs->b∉ex->h'.get? b=be o
 slot:∀b o,h.get? b=be o->H b=s_->b∈fs->b∉ex->∃sl,h'.get? b=be {o with slots:=sl}
 free:∀b o,h.get? b=be o->H b=s_->b∉ex->H' b=s_
 there:∀b o,h.get? b=be o->b∉ex->∃o',h'.get? b=be o'
 tups:∀b xs,H b=be (.tup xs)->H' b=be (.tup xs)
 frzs:∀b o u,H b=be (.frz o u)->H' b=be (.frz o u)
 tbls:∀b ps,H b=be (.tbl ps)->∃more,H' b=be (.tbl (ps++more))
section
variable {fs m8 ex Oo:List KF}{H H1 H2:Hp}{h h1 h2 h':RW}{a x e:KF}{o:HO}
def Un.any(u:Un fs ex H H1 h h1){b:KF}{ob:R_}(q:h.get? b=be ob)(n:H b=s_)(hx:b∉ex):∃sl,h1.get? b=be {ob with slots:=sl}:=by
 by_cases hb:b∈fs
 .exact u.slot b ob q n hb hx
 .exact#[ob.slots,u.keep b ob q n hb hx]
def Un.kept(k:∀b u,h.get? b=be u->h'.get? b=be u):Un fs ex H H h h':=
 #[λb ob q _ _ _=>k b ob q,λb ob q _ _ _=>#[ob.slots,k b ob q],λ_ _ _ n _=>n,λb ob q _=>#[ob,k b ob q],λ_ _ q=>q,λ_ _ _ q=>q,λ_ ps q=>#[[].toArray,by rw[q];simp]]
def Un.refl:Un fs ex H H h h:=Un.kept λ_ _ q=>q
def Un.laid(k:∀b u,h.get? b=be u->h'.get? b=be u)(hp:h.objs.size<=a)(hn:H a=s_):Un fs ex H (upd H a o) h h' where
 keep:=λb u q _ _ _=>k b u q
 slot:=λb u q _ _ _=>#[u.slots,k b u q]
 free:=λb u q n _=>by rw[aD (FW (Gj (Heap.lt_size q) hp))];exact n
 there:=λb u q _=>#[u,k b u q]
 tups:=λb xs q=>by rw[aD (cU q hn)];exact q
 frzs:=λb u xs q=>by rw[aD (cU q hn)];exact q
 tbls:=λb ps q=>#[[].toArray,by rw[aD (cU q hn),q];simp]
def Un.write(mu:Mut (H x))(he:e=x\/H e=be (.own x))(k:∀b u,b≠e->h.get? b=be u->h'.get? b=be u)(y8:∃u,h'.get? e=be u):Un fs ex H (upd H x o) h h':=by
 have hx:∀b,H b=s_->b≠x:=λb n z=>by subst z;rw[n]at mu;exact mu
 have hb:∀b,H b=s_->b≠e:=λb n z=>by
  subst z;rcases he with r|r
  .exact hx b n r
  .rw[n]at r;cases r
 have hm:∀b u,H b=be u->¬Mut (be u)->b≠x:=λb u q nm z=>by subst z;rw[q]at mu;exact nm mu
 refine⟨λb u q n _ _=>k b u (hb b n) q,λb u q n _ _=>#[u.slots,k b u (hb b n) q],λb u q n _=>by rw[aD (hx b n)];exact n,λb u q _=>?_,
  λb xs q=>by rw[aD (hm b _ q λz=>z)];exact q,λb u xs q=>by rw[aD (hm b _ q λz=>z)];exact q,λb ps q=>#[[].toArray,by rw[aD (hm b _ q λz=>z),q];simp]⟩
 by_cases J_:b=e
 .subst J_;exact y8
 .exact#[u,k b u J_ q]
end
def trk(h:RW)(H:Hp):List KF:=(FN h.objs.size).filter λa=>(H a).isSome
def hidT(h:RW)(H:Hp):RW:=hideAll h (trk h H)
def vI(h:RW)(H:Hp):(hidT h H).objs.size=h.objs.size:=hideAll_size _ _
def vJ{o:R_}(e:h.get? b=be o)(n:H b=s_):(hidT h H).get? b=be o:=
 hideAll_get _ e λhm=>by
  have q:(H b).isSome=true:=(Iu.mp hm).2;rw[n]at q;simp at q
def vK{o:R_}(e:(hidT h H).get? b=be o):h.get? b=be o/\H b=none:=by
 have e':h.get? b=be o:=of_hideAll (trk h H) e;refine#[e',?_];cases q:H b with
 |none=>rfl
 |some x=>
  have hm:b∈trk h H:=Iu.mpr #[List.mem_range.mpr (Heap.lt_size e'),by simp[q]];have z:(hidT h H).get? b=none:=hideAll_none (trk h H) hm;rw[z]at e;cases e
def allNews(g h:RW)(L:KF):List (KF×R_):=(FN h.objs.size).filterMap λa=>if a=L\/(g.get? a).isSome=true then s_ else(h.get? a).map λo=>(a,o)
def rest(g h:RW)(L d:KF):List (KF×R_):=(allNews g h L).filter λp=>decide (p.1≠d)
structure Mod(K:Ex)(mg:Str->Option KB)(base:RW):Prop where
 kin:K.In base
 glob:base.Ns Pi mg
 blt:∃mb,base.Ns TC mb/\∀x:E_,x≠"__name__"->mb x=Sa x
 nolimit:base.NoLimit
structure Cx where
 prog:RQ
 w:RU
 K:Ex
 mg:E_->Option KB
 base:RW
 A:RV
 N:List E_
 s₀:KM
 H₀:Hp
 env:SG
 outer:List SG
 stack:List SG
 ex:List KF
 fn:E_->Bool
 calm:Bool
 pn:List (KF×R_)
 xe:KB->KM->Prop
abbrev zSE(X:Cx)(e:RP)(es:List RP):Prop:=RY (e::es) X.env=(false,R3 e X.env)::RY es X.env
abbrev zPL(X:Cx)(p:R6)(es:List RP):Prop:=(Sz p (RY es X.env)).any (·.1)=false
abbrev zHF(X:Cx)(p:R6)(es:List RP):Prop:=((Sz p (RY es X.env)).all (λx=>!x.1)&&(SZ p (SE [] X.env)).all (λx=>x.1.isSome)&&decide (es.length+([]:List SS).length+(if([]:List SS).isEmpty then 0 else 1)<30))=true
abbrev zFN(X:Cx)(x:E_):Prop:=X.fn x=true\/X.env.scope.names.lookup x=be .local
abbrev zND(x:E_):Prop:=(x==("__debug__":E_))=false
abbrev zNC(x:E_):Prop:=(x==("__classdict__":E_))=false
abbrev zFS(X:Cx)(e:RP)(y:KB):Prop:=TK e X.env y=pure y
def frs(l:List SG):List KF:=l.filterMap (·.frame)
abbrev Cx.fs(X:Cx):List KF:=frs X.outer
def Vis(sc:Sl)(x:E_):Prop:=sc.names.lookup x=be .local\/sc.names.lookup x=be .cell\/sc.names.lookup x=be .free
def Loc(sc:Sl)(x:E_):Prop:=sc.names.lookup x=be .local\/sc.names.lookup x=be .cell
def Look(env:SG)(h:RW)(m:E_->Option KB)(x:E_)(u:KB):Prop:=
 (env.kindOf x=be .local/\m x=be u)\/((env.kindOf x=be .cell\/env.kindOf x=be .free)/\∃c,env.cells.lookup x=be c/\h.IsCell c (be u))
structure Cx.Ok(X:Cx):Prop where
 mod:Mod X.K X.mg X.base
 kind:X.env.scope.kind=.function
 glob:X.env.globals=Pi
 blt:X.env.builtins=TC
 above:X.s₀.heap.objs.size<=X.env.locals
 inj:∀x y c,X.env.cells.lookup x=be c->X.env.cells.lookup y=be c->x=y
 has:∀x,(X.env.kindOf x=be .cell\/X.env.kindOf x=be .free)->∃c,X.env.cells.lookup x=be c
 cab:∀x c,X.fn x=true->X.env.cells.lookup x=be c->X.s₀.heap.objs.size<=c
 hd:X.calm=true->X.A.handled=s_
 frames:X.A.frames=be X.stack
 stk:X.stack=X.outer\/(X.stack=X.env::X.outer/\X.env.frame=be X.env.locals)
 exf:∀b∈X.ex,b≠X.env.locals/\∀x c,X.env.cells.lookup x=be c->c≠b
 bs:∀b o,X.base.get? b=be o->X.s₀.heap.get? b=be o/\X.H₀ b=s_
 bsz:X.base.objs.size<=X.s₀.heap.objs.size
 noex:∀b o,X.base.get? b=be o->b∉X.ex
 exfs:∀b∈X.ex,b∉X.fs
 funs:X.s₀.heap.FunFrames X.base X.outer
 frf:∀b∈X.fs,X.H₀ b=s_
structure Inv(X:Cx)(pins:List (KF×R_))(σ:List (Option V))(H:Hp)(s:KM):Prop where
 ok:X.Ok
 os:s.os=X.s₀.os
 bare:SH s.gens
 base:Un X.fs X.ex X.H₀ H X.s₀.heap s.heap
 loc:∃m,s.heap.Ns X.env.locals m/\∀(i:Nat) (x:E_) (v:V),X.N[i]?=be x->σ[i]?=be (be v)->Vis X.env.scope x->∃u,RelV v u/\Look X.env s.heap m x u
 cell:∀x c,X.env.cells.lookup x=be c->∃v,s.heap.IsCell c v
 free:H X.env.locals=s_
 freeC:∀x c,X.env.cells.lookup x=be c->H c=s_
 pin:∀p∈X.pn++pins,s.heap.get? p.1=be p.2/\H p.1=s_/\p.1≠X.env.locals/\p.1∉X.fs/\∀v,p.2.data≠.cell v
 hok:HOk X.prog X.w H s.heap
 len:σ.length=X.N.length
section
variable {X:Cx}{pins:List (KF×R_)}{σ:List (Option V)}{H H':Hp}{s:KM}{h':RW}
def Cx.Ok.nofr(ok:X.Ok){b:KF}{o:R_}(e:X.base.get? b=be o):b∉X.fs:=λhb=>by
 have:=(ok.funs.mem hb).1;rw[e]at this;cases this
def Inv.bs(I:Inv X pins σ H s):∀b o,X.base.get? b=be o->s.heap.get? b=be o/\H b=none:=λb o e=>
 #[I.base.keep b o (I.ok.bs b o e).1 (I.ok.bs b o e).2 (I.ok.nofr e) (I.ok.noex b o e),I.base.free b o (I.ok.bs b o e).1 (I.ok.bs b o e).2 (I.ok.noex b o e)]
def Inv.bk(I:Inv X pins σ H s):∀b o,X.base.get? b=be o->s.heap.get? b=be o:=λb o e=>(I.bs b o e).1
def Inv.mod(I:Inv X pins σ H s):Mod X.K X.mg X.base:=I.ok.mod
def Inv.kIn(I:Inv X pins σ H s):X.K.In s.heap:=I.ok.mod.kin.keeps I.bk
def Inv.nolimit(I:Inv X pins σ H s):s.heap.NoLimit:=I.ok.mod.nolimit.keeps I.bk
def Inv.fr(I:Inv X pins σ H s):∃m,Fr X.base X.env.locals s.heap m:=
 let ⟨m,hn,_⟩:=I.loc
 #[m,hn,I.bk,FX I.ok.bsz I.ok.above]
def Inv.lt(I:Inv X pins σ H s):X.env.locals<s.heap.objs.size:=let ⟨_,hn,_⟩:=I.loc;hn.lt
def Inv.sz(I:Inv X pins σ H s):X.s₀.heap.objs.size<=s.heap.objs.size:=FX I.ok.above (Hu I.lt)
def Inv.nofs(I:Inv X pins σ H s){a:KF}(h:s.heap.objs.size<=a):a∉X.fs:=λhb=>by
 obtain⟨_,o,ho,_⟩:=I.ok.funs.mem hb;exact absurd (Gj (Heap.lt_size ho) (FX I.sz h)) (GO _)
def Inv.cne(I:Inv X pins σ H s):∀x c,X.env.cells.lookup x=be c->c≠X.env.locals:=λx c e z=>by
 obtain⟨v,o,ho,hd⟩:=I.cell x c e;obtain⟨m,⟨o',es,ep,u7,d7,_⟩,_⟩:=I.loc;rw[z,u7]at ho;cases ho;rw[d7]at hd;cases hd
def Inv.funs(I:Inv X pins σ H s):s.heap.FunFrames X.base X.outer:=by
 have all:∀(l:List SG),(∀b∈frs l,b∈X.fs)->X.s₀.heap.FunFrames X.base l->s.heap.FunFrames X.base l:=by
  intro l;induction l with
  |nil=>intro _ _;trivial
  |cons env r ih=>
   intro hs hl;obtain⟨hk,⟨L,o,hf,hn,ho,hd⟩,hr⟩:=hl;have hL:L∈X.fs:=hs L (by unfold frs;rw[Hv,hf];exact FU);obtain⟨sl,e⟩:=I.base.slot L o ho (I.ok.frf L hL) hL λz=>I.ok.exfs L z hL;exact#[hk,#[L,_,hf,hn,e,hd],ih (λb hb=>hs b (by unfold frs;rw[Hv,hf];exact FS _ hb)) hr]
 exact all X.outer (λ_ hb=>hb) I.ok.funs
def Inv.stack(I:Inv X pins σ H s):s.heap.FunFrames X.base X.stack:=by
 rcases I.ok.stk with e|⟨e,hf⟩
 .rw[e];exact I.funs
 .rw[e];obtain⟨m,hn,_⟩:=I.loc;refine .cons (by rw[I.ok.kind];decide) hf hn ?_ I.funs;exact Heap.get?_none_of_le (FX I.ok.bsz I.ok.above)
def Inv.stkSub(I:Inv X pins σ H s):∀b∈frs X.stack,b∈X.env.locals::X.fs:=λb hb=>by
 rcases I.ok.stk with e|⟨e,hf⟩
 .rw[e]at hb;exact FS _ hb
 .rw[e]at hb;unfold frs at hb;rw[Hv,hf]at hb;exact hb
def Inv.stkFree(I:Inv X pins σ H s):∀b∈frs X.stack,H b=none:=λb hb=>by
 rcases FQ.mp (I.stkSub b hb)with e|hb
 .rw[e];exact I.free
 .obtain⟨_,o,ho,_⟩:=I.ok.funs.mem hb;exact I.base.free b o ho (I.ok.frf b hb) λz=>I.ok.exfs b z hb
variable{g':Array GenState}{ch:List KF}
def Inv.step{t':Nat}{d':Drawn}(I:Inv X pins σ H s)
  (y9:∀b∈ch,(b∈X.ex\/X.s₀.heap.objs.size<=b)/\b≠X.env.locals/\(∀x c,X.env.cells.lookup x=be c->c≠b)/\∀p∈X.pn++pins,p.1≠b)
  (keep:∀b o,b≠X.env.locals->b∉X.fs->b∉ch->s.heap.get? b=be o->H b=s_->h'.get? b=be o)
  (slot:∀b o,b≠X.env.locals->b∈X.fs->b∉ch->s.heap.get? b=be o->H b=s_->∃sl,h'.get? b=be {o with slots:=sl}) (free:∀b o,b∉ch->s.heap.get? b=be o->H b=s_->H' b=s_)
  (there:∀b o,b∉ch->s.heap.get? b=be o->∃o',h'.get? b=be o')
  (tups:∀b xs,H b=be (.tup xs)->H' b=be (.tup xs)) (frzs:∀b o u,H b=be (.frz o u)->H' b=be (.frz o u)) (tbls:∀b ps,H b=be (.tbl ps)->∃more,H' b=be (.tbl (ps++more)))
  (ns:∀m,s.heap.Ns X.env.locals m->h'.Ns X.env.locals m) (hok:HOk X.prog X.w H' h') (hg:SH g'):
  Inv X pins σ H' {s with heap:=h',gens:=g',drawn:=d',toks:=t'}:=by
 have Op:∀b o,X.s₀.heap.get? b=be o->b≠X.env.locals:=λb o e=>FW (Gj (Heap.lt_size e) I.ok.above);have L4:∀b o,X.s₀.heap.get? b=be o->b∉X.ex->b∉ch:=λb o e hx hb=>by
  rcases(y9 b hb).1 with z|z
  .exact hx z
  .exact absurd (Gj (Heap.lt_size e) z) (GO _)
 have k8:∀x c,X.env.cells.lookup x=be c->∀v,s.heap.IsCell c v->h'.IsCell c v:=λx c e v ⟨o,ho,hd⟩=>by
  have Lc:c∉ch:=λz=>(y9 c z).2.2.1 x c e rfl;by_cases hc:c∈X.fs
  .obtain⟨sl,q⟩:=slot c o (I.cne x c e) hc Lc ho (I.freeC x c e);exact#[_,q,hd]
  .exact#[o,keep c o (I.cne x c e) hc Lc ho (I.freeC x c e),hd]
 refine#[I.ok,I.os,hg,#[λb o e n hb hx=>?_,λb o e n hb hx=>?_,λb o e n hx=>?_,λb o e hx=>?_,λb xs e=>tups b xs (I.base.tups b xs e),λb o xs e=>frzs b o xs (I.base.frzs b o xs e),λb ps e=>?_],?_,λx c e=>?_,?_,λx c e=>?_,λp hp=>?_,hok,I.len]
 .exact keep b o (Op b o e) hb (L4 b o e hx) (I.base.keep b o e n hb hx) (I.base.free b o e n hx)
 .obtain⟨sl,e1⟩:=I.base.slot b o e n hb hx;obtain⟨u8,e2⟩:=slot b _ (Op b o e) hb (L4 b o e hx) e1 (I.base.free b o e n hx);exact#[u8,e2]
 .obtain⟨o',e1⟩:=I.base.there b o e hx;exact free b o' (L4 b o e hx) e1 (I.base.free b o e n hx)
 .obtain⟨o',e1⟩:=I.base.there b o e hx;exact there b o' (L4 b o e hx) e1
 .obtain⟨m1,e1⟩:=I.base.tbls b ps e;obtain⟨m2,e2⟩:=tbls b _ e1;exact#[m1++m2,by rw[e2,Array.append_assoc]]
 .obtain⟨m,hn,hl⟩:=I.loc;refine#[m,ns m hn,λi x v e1 e2 e3=>?_];obtain⟨u,r,l⟩:=hl i x v e1 e2 e3;refine#[u,r,?_];rcases l with l|⟨k,c,e,z⟩
  .exact .inl l
  .exact .inr #[k,c,e,k8 x c e _ z]
 .obtain⟨v,z⟩:=I.cell x c e;exact#[v,k8 x c e v z]
 .obtain⟨m,⟨o,_,_,ho,_⟩,_⟩:=I.loc;exact free _ o (λz=>(y9 _ z).2.1 rfl) ho I.free
 .obtain⟨v,o,ho,hd⟩:=I.cell x c e;exact free c o (λz=>(y9 c z).2.2.1 x c e rfl) ho (I.freeC x c e)
 .obtain⟨e,n,ne,nf,d⟩:=I.pin p hp;have Lc:p.1∉ch:=λz=>(y9 p.1 z).2.2.2 p hp rfl;exact#[keep p.1 p.2 ne nf Lc e n,free p.1 p.2 Lc e n,ne,nf,d]
def Inv.un{t':Nat}(I:Inv X pins σ H s)(u:Un X.fs [] H H' s.heap h')(hok:HOk X.prog X.w H' h'):Inv X pins σ H' {s with heap:=h',toks:=t'}:=by
 obtain⟨m,⟨o,es,ep,ho,r⟩,_⟩:=id I.loc;obtain⟨sl,hL⟩:=u.any ho I.free Ld;exact I.step (g':=s.gens) (d':=s.drawn) (ch:=[]) (λ_ z=>nomatch z) (λb o _ hb _ e n=>u.keep b o e n hb Ld) (λb o _ hb _ e n=>u.slot b o e n hb Ld) (λb o _ e n=>u.free b o e n Ld) (λb o _ e=>u.there b o e Ld) u.tups u.frzs u.tbls (λm' hm=>by
  obtain⟨o',MH,MI,u7,r'⟩:=hm;rw[ho]at u7;cases u7;exact#[_,MH,MI,hL,r']) hok I.bare
def Inv.call{t':Nat}{d':Drawn}(I:Inv X pins σ H s)(u:Un (frs X.stack) ch H H' s.heap h')(hok:HOk X.prog X.w H' h')(hg:SH g')
  (y9:∀b∈ch,(b∈X.ex\/X.s₀.heap.objs.size<=b)/\b≠X.env.locals/\(∀x c,X.env.cells.lookup x=be c->c≠b)/\∀p∈X.pn++pins,p.1≠b):
  Inv X pins σ H' {s with heap:=h',gens:=g',drawn:=d',toks:=t'}:=by
 obtain⟨m,⟨o,es,ep,ho,r⟩,_⟩:=id I.loc;obtain⟨sl,hL⟩:=u.any ho I.free λz=>(y9 _ z).2.1 rfl;exact I.step (ch:=ch) y9 (λb o hL hb hc e n=>u.keep b o e n (λz=>(FQ.mp (I.stkSub b z)).elim hL hb) hc) (λb o _ _ hc e n=>u.any e n hc) (λb o hc e n=>u.free b o e n hc) (λb o hc e=>u.there b o e hc) u.tups u.frzs u.tbls (λm' hm=>by
  obtain⟨o',MH,MI,u7,r'⟩:=hm;rw[ho]at u7;cases u7;exact#[_,MH,MI,hL,r']) hok hg
def Inv.turned{t':Nat}{it:KF}(I:Inv X pins σ H s)(k:∀b o,b≠it->s.heap.get? b=be o->h'.get? b=be o)(hn:H it=s_)(hL:it≠X.env.locals)
  (h1:it∈X.ex\/X.s₀.heap.objs.size<=it) (h2:∀x c,X.env.cells.lookup x=be c->c≠it) (h3:∀p∈X.pn++pins,p.1≠it):Inv X pins σ H {s with heap:=h',toks:=t'}:=by
 have Ka:∀b u,H b=be u->b≠it:=λb u e z=>by rw[z,hn]at e;cases e
 refine I.step (g':=s.gens) (d':=s.drawn) (ch:=[it]) (λb hb=>?_) (λb o _ _ hc e _=>k b o (λz=>hc (by simp[z])) e) (λb o _ _ hc e _=>#[o.slots,k b o (λz=>hc (by simp[z])) e]) (λ_ _ _ _ n=>n)
  (λb o hc e=>#[o,k b o (λz=>hc (by simp[z])) e]) (λ_ _ e=>e) (λ_ _ _ e=>e) (λb ps e=>#[[].toArray,by rw[e];simp]) (λm hm=>?_) (λb u e=>?_) I.bare
 .have e:b=it:=by simpa using hb
  subst e;exact#[h1,hL,h2,h3]
 .obtain⟨o,es,ep,ho,r⟩:=hm;exact#[o,es,ep,k _ o (Ne.symm hL) ho,r]
 .refine(I.hok b u e).stay (λc v hc q=>k c v ?_ q) (λ_ q=>q) λ_ _ q=>q;rcases hc with z|z
  .rw[z];exact Ka b u e
  .exact Ka c _ z
def Inv.tok(I:Inv X pins σ H s)(t:Nat):Inv X pins σ H {s with toks:=t}:=I.un (h':=s.heap) (t':=t) Un.refl I.hok
def Inv.kept{t':Nat}(I:Inv X pins σ H s)(k:∀b u,s.heap.get? b=be u->h'.get? b=be u):Inv X pins σ H {s with heap:=h',toks:=t'}:=I.un (Un.kept k) (I.hok.kept k)
def Inv.laid{a:KF}{o:HO}{t':Nat}(I:Inv X pins σ H s)(k:∀b u,s.heap.get? b=be u->h'.get? b=be u)(hp:s.heap.objs.size<=a)(new:ObjOk X.prog X.w (upd H a o) h' a o):
  Inv X pins σ (upd H a o) {s with heap:=h',toks:=t'}:=I.un (Un.laid k hp (I.hok.fresh hp)) (I.hok.laid k hp new)
def Inv.write{x e:KF}{o:HO}{t':Nat}(I:Inv X pins σ H s)(mu:Mut (H x))(he:e=x\/H e=be (.own x))(k:∀b u,b≠e->s.heap.get? b=be u->h'.get? b=be u)(y8:∃u,h'.get? e=be u)
  (new:ObjOk X.prog X.w (upd H x o) h' x o):Inv X pins σ (upd H x o) {s with heap:=h',toks:=t'}:=I.un (Un.write mu he k y8) (I.hok.write mu he k y8 new)
def Inv.pins_of{JW:List (KF×R_)}(I:Inv X pins σ H s)(h:∀p∈JW,s.heap.get? p.1=be p.2/\H p.1=s_/\p.1≠X.env.locals/\p.1∉X.fs/\∀v,p.2.data≠.cell v):Inv X JW σ H s:=
 #[I.ok,I.os,I.bare,I.base,I.loc,I.cell,I.free,I.freeC,λp hp=>(Gk.mp hp).elim (λz=>I.pin p (G0 _ z)) (h p),I.hok,I.len]
variable{x:E_}{i:Nat}
def pU{N:List E_}(hN:N.Nodup){j:Nat}(a:N[i]?=be x)(b:N[j]?=be x):i=j:=by
 obtain⟨h1,e1⟩:=FZ.mp a;obtain⟨h2,e2⟩:=FZ.mp b;exact(List.getElem_inj hN).mp (e1.trans e2.symm)
variable{E:KB->KM->Prop}{Q:Unit->KM->Prop}
def pV{M:TM}{A:RV}{v:V}{u:KB}(I:Inv X pins σ H s)(hN:X.N.Nodup)(hi:X.N[i]?=be x)(hx:Loc X.env.scope x)(r:RelV v u)
  (h:∀s',Inv X pins (σ.set i (be v)) H s'->(∃a,Heap.SameBut a s.heap s'.heap/\(a=X.env.locals\/X.env.cells.lookup x=be a))->Q () s') (hf:autoParam (zFN X x) zA3):RR M A (storeName X.env x u) Q E s:=by
 obtain⟨m,hn,hl⟩:=id I.loc;have Kb:(X.env.scope.kind== .class||(X.env.scope.kind== .module&&X.env.locals !=X.env.globals))=false:=by rw[I.ok.kind];rfl
 have hiσ:i<σ.length:=by rw[I.len];exact(FZ.mp hi).1
 have cne:=I.cne;have j5:∀{a:KF} {h':RW},(∃o,s.heap.get? a=be o/\H a=s_)->Heap.SameBut a s.heap h'->HOk X.prog X.w H h':=λ{a h'} ha hs b ob e=>by
  obtain⟨_,_,i_⟩:=ha;refine(I.hok b ob e).stay (λc w' hc q=>(hs.2 c ?_).trans q) (λ_ q=>q) λ_ _ q=>q;rintro rfl;rcases hc with rfl|hc
  .rw[i_]at e;cases e
  .rw[i_]at hc;cases hc
 rcases hx with hk|hk
 .refine wpAny_storeName_local hk hn (λh' m9 hs=>?_) Kb;obtain⟨oL,_,_,PC,_⟩:=id hn;refine h _ #[I.ok,I.os,I.bare,#[λb o e n hb hx=>?_,λb o e n hb hx=>?_,I.base.free,λb o e hx=>?_,I.base.tups,I.base.frzs,I.base.tbls],#[_,m9,λj y v' e1 e2 e3=>?_],λy c e=>?_,I.free,I.freeC,λp hp=>?_,j5 #[oL,PC,I.free] hs,by simpa using I.len] #[_,hs,.inl rfl]
  .exact(hs.2 b (FW (Gj (Heap.lt_size e) I.ok.above))).trans (I.base.keep b o e n hb hx)
  .obtain⟨sl,e1⟩:=I.base.slot b o e n hb hx;exact#[sl,(hs.2 b (FW (Gj (Heap.lt_size e) I.ok.above))).trans e1]
  .obtain⟨o',e1⟩:=I.base.there b o e hx;exact#[o',(hs.2 b (FW (Gj (Heap.lt_size e) I.ok.above))).trans e1]
  .by_cases hj:j=i
   .subst hj;rw[hi]at e1;cases e1;rw[Gx hiσ]at e2;cases e2;exact#[u,r,.inl #[hk,Ld]]
   .rw[Ge (Ne.symm hj)]at e2;obtain⟨u',r',q⟩:=hl j y v' e1 e2 e3;refine#[u',r',?_];rcases q with⟨k,e⟩|⟨k,c,e,z⟩
    .refine .inl #[k,?_];have:y≠x:=λe=>hj (pU hN e1 (e ▸ hi));simp[this,e]
    .exact .inr #[k,c,e,z.sameBut hs (cne y c e)]
  .obtain⟨w',z⟩:=I.cell y c e;exact#[w',z.sameBut hs (cne y c e)]
  .obtain⟨e,n,ne,nf,d⟩:=I.pin p hp;exact#[(hs.2 p.1 ne).trans e,n,ne,nf,d]
 .have MJ:X.fn x=true:=by
   rcases hf with z|z
   .exact z
   .rw[z]at hk;cases hk
  obtain⟨c,hc⟩:=I.ok.has x (.inl hk);obtain⟨w',z⟩:=I.cell x c hc;refine wpAny_storeName_cell I.ok.kind hk hc z (λh' JX hs=>?_);obtain⟨oc,Oq,MK⟩:=id z;refine h {s with heap:=h'} #[I.ok,I.os,I.bare,#[λb o e n hb hx=>?_,λb o e n hb hx=>?_,I.base.free,λb o e hx=>?_,I.base.tups,I.base.frzs,I.base.tbls],#[m,hn.sameBut hs (Ne.symm (cne x c hc)),λj y v' e1 e2 e3=>?_],λy c' e=>?_,I.free,I.freeC,λp hp=>?_,j5 #[oc,Oq,I.freeC x c hc] hs,by simpa using I.len] #[c,hs,.inr hc]
  .exact(hs.2 b (FW (Gj (Heap.lt_size e) (I.ok.cab x c MJ hc)))).trans (I.base.keep b o e n hb hx)
  .obtain⟨sl,e1⟩:=I.base.slot b o e n hb hx;exact#[sl,(hs.2 b (FW (Gj (Heap.lt_size e) (I.ok.cab x c MJ hc)))).trans e1]
  .obtain⟨o',e1⟩:=I.base.there b o e hx;exact#[o',(hs.2 b (FW (Gj (Heap.lt_size e) (I.ok.cab x c MJ hc)))).trans e1]
  .by_cases hj:j=i
   .subst hj;rw[hi]at e1;cases e1;rw[Gx hiσ]at e2;cases e2;exact#[u,r,.inr #[.inl hk,c,hc,JX]]
   .rw[Ge (Ne.symm hj)]at e2;obtain⟨u',r',q⟩:=hl j y v' e1 e2 e3;refine#[u',r',?_];rcases q with q|⟨k,c',e,z'⟩
    .exact .inl q
    .refine .inr #[k,c',e,z'.sameBut hs ?_];rintro rfl;exact hj (pU hN e1 (I.ok.inj _ _ _ e hc ▸ hi))
  .by_cases Ot:c'=c
   .subst Ot;exact#[_,JX]
   .obtain⟨w2,z2⟩:=I.cell y c' e;exact#[w2,z2.sameBut hs Ot]
  .obtain⟨e,n,ne,nf,d⟩:=I.pin p hp;refine#[(hs.2 p.1 ?_).trans e,n,ne,nf,d];intro q;rw[q,Oq]at e;have q':oc=p.2:=Option.some.inj e;exact d w' (by rw[<-q'];exact MK)
def fA{M:TM}{A:RV}{v:V}{u:KB}(I:Inv X pins σ H s)(hN:X.N.Nodup)(hi:X.N[i]?=be x)(hx:Loc X.env.scope x)(r:RelV v u)
  (h:∀s',Inv X pins (σ.set i (be v)) H s'->Q () s') (hf:autoParam (zFN X x) zA3):RR M A (storeName X.env x u) Q E s:=
 pV I hN hi hx r (λs' I' _=>h s' I') hf
def Inv.call'{s':KM}(I:Inv X pins σ H s)(ho:s'.os=s.os)(u:Un (frs X.stack) ch H H' s.heap s'.heap)(hok:HOk X.prog X.w H' s'.heap)(hg:SH s'.gens)
  (y9:∀b∈ch,(b∈X.ex\/X.s₀.heap.objs.size<=b)/\b≠X.env.locals/\(∀x c,X.env.cells.lookup x=be c->c≠b)/\∀p∈X.pn++pins,p.1≠b):Inv X pins σ H' s':=by
 obtain⟨h',g',d',t',o'⟩:=s';have e:o'=s.os:=ho;subst e;exact I.call (g':=g') (t':=t') (d':=d') u hok hg y9
end
abbrev XK:=KB->Option KF->Hp->Prop
abbrev St:=List (Option V)
abbrev VK:=V->Hp->Prop
abbrev TE:=St->Hp->VK->Prop
abbrev TT:=St->Hp->(Bool->Hp->Prop)->Prop
abbrev TA:=St->Hp->(List V->Hp->Prop)->Prop
structure Ends where
 nx:St->Hp->Prop
 rt:VK
 bk:St->Hp->Prop:=λ_ _=>False
 ct:St->Hp->Prop:=λ_ _=>False
abbrev TS:=Ends->St->Hp->Prop
def EP(X:Cx)(pins:List (KF×R_))(σ:St)(Q:VK)(u:KB)(s':KM):Prop:=∃v H',Inv X pins σ H' s'/\RelV v u/\Q v H'
def TP(X:Cx)(pins:List (KF×R_))(σ:St)(Q:Bool->Hp->Prop)(b:Bool)(s':KM):Prop:=∃H',Inv X pins σ H' s'/\Q b H'
def AP(X:Cx)(pins:List (KF×R_))(σ:St)(Q:List V->Hp->Prop)(us:List KB)(s':KM):Prop:=∃vs H',Inv X pins σ H' s'/\Vals vs us/\Q vs H'
def SP(X:Cx)(pins:List (KF×R_))(D:Ends)(f:Flow)(s':KM):Prop:=
 match f with
 |.next=>∃σ' H',Inv X pins σ' H' s'/\D.nx σ' H'
 |.brk=>∃σ' H',Inv X pins σ' H' s'/\D.bk σ' H'
 |.cont=>∃σ' H',Inv X pins σ' H' s'/\D.ct σ' H'
 |.ret u=>∃v σ' H',Inv X pins σ' H' s'/\RelV v u/\D.rt v H'
def PE(X:Cx)(e:RP)(t:TE):Prop:=
 ∀(pins:List (KF×R_)) (s:KM) (σ:St) (H:Hp) (Q:VK),Inv X pins σ H s->t σ H Q->RR (RS X.prog X.w) X.A (R3 e X.env) (EP X pins σ Q) X.xe s
def PT(X:Cx)(e:RP)(t:TT):Prop:=
 ∀(pins:List (KF×R_)) (s:KM) (σ:St) (H:Hp) (Q:Bool->Hp->Prop),Inv X pins σ H s->t σ H Q->RR (RS X.prog X.w) X.A (isTrue e X.env (R3 e X.env)) (TP X pins σ Q) X.xe s
def PW(X:Cx)(e:RP)(t:TT):Prop:=
 ∀(g6:Ts KB) (pins:List (KF×R_)) (s:KM) (σ:St) (H:Hp) (Q:Bool->Hp->Prop),Inv X pins σ H s->t σ H Q->RR (RS X.prog X.w) X.A (isTrue e X.env g6) (TP X pins σ Q) X.xe s
variable{X:Cx}
def PW.pt{e:RP}{t:TT}(h:PW X e t):PT X e t:=h _
def PA(X:Cx)(es:List RP)(t:TA):Prop:=
 ∀(pos:R6) (pins:List (KF×R_)) (s:KM) (σ:St) (H:Hp) (Q:List V->Hp->Prop),Inv X pins σ H s->t σ H Q->RR (RS X.prog X.w) X.A (spliced (Sz pos (RY es X.env))) (AP X pins σ Q) X.xe s
def PS(X:Cx)(st:P3)(t:TS):Prop:=
 ∀(pins:List (KF×R_)) (s:KM) (σ:St) (H:Hp) (D:Ends),Inv X pins σ H s->t D σ H->RR (RS X.prog X.w) X.A (exec st X.env) (SP X pins D) X.xe s
def PSs(X:Cx)(st:List P3)(t:TS):Prop:=
 ∀(pins:List (KF×R_)) (s:KM) (σ:St) (H:Hp) (D:Ends),Inv X pins σ H s->t D σ H->RR (RS X.prog X.w) X.A (execs st X.env) (SP X pins D) X.xe s
variable{A:RV}{E:KB->KM->Prop}{s:KM}
def thn{α:Type}{t:Ts α}{Q Q':α->KM->Prop}{M:TM}(h:RR M A t Q E s)(hQ:∀a s,Q a s->Q' a s):RR M A t Q' E s:=R8 h hQ λ_ _ x=>x
section
variable {X:Cx}
def tVar(i:Nat):TE:=λσ H Q=>∃v,σ[i]?=be (be v)/\Q v H
def tC(v:V):TE:=λ_ H Q=>Q v H
variable{x:E_}{pos:R6}
def fB{i:Nat}(hN:X.N[i]?=be x)(hv:Vis X.env.scope x)(hd:autoParam (zND x) zA1)(i6:autoParam (zNC x) zA1):PE X (.Name x pos) (tVar i):=by
 intro pins s σ H Q I h;obtain⟨v,e,h⟩:=h;obtain⟨m,hn,hl⟩:=I.loc;obtain⟨u,r,l⟩:=hl i x v hN e hv;have fI:EP X pins σ Q u s:=#[v,H,I,r,h];rcases l with⟨hk,hm⟩|⟨hk,c,hc,k9⟩
 .exact Tw (wpAny_loadName_local I.ok.kind hk hn hm fI) hd
 .rcases hk with hk|hk
  .exact Tw (wpAny_loadName_cell I.ok.kind hk hc k9 fI) hd
  .exact Tw (wpAny_loadName_free I.ok.kind hk hc k9 fI i6) hd
def vL{i j pos}:PE X (.Constant (.int i) j pos) (tC (.int i)):=λ_ _ _ H _ I h=>wpAny_Constant_int #[.int i,H,I.tok _,#[_,rfl],h]
def vM{b j pos}:PE X (.Constant (.bool b) j pos) (tC (.bl b)):=λ_ _ _ H _ I h=>Constant_bool #[.bl b,H,I,rfl,h]
def vN{j pos}:PE X (.Constant .none j pos) (tC .non):=λ_ _ _ H _ I h=>Constant_none #[.non,H,I,rfl,h]
def pW{x j pos}:PE X (.Constant (.str x) j pos) (tC (.str x)):=λ_ _ _ H _ I h=>Calls.Constant_str #[.str x,H,I.tok _,#[_,rfl],h]
def Gl(X:Cx)(x:E_):Prop:=X.env.kindOf x=be .globalImplicit
variable{E Q:KB->KM->Prop}{pins:List (KF×R_)}{u:KB}
def dF{s:KM}{σ:St}{H:Hp}(I:Inv X pins σ H s)(hg:Gl X x)(hm:X.mg x=be u)(h:Q u s)
  (hd:autoParam (zND x) zA1):RR (RS X.prog X.w) X.A (R3 (.Name x pos) X.env) Q E s:=
 Calls.Name_function_global I.ok.kind hg (Calls.loadGlobal_global (by rw[I.ok.glob];exact I.mod.glob.keeps I.bk) hm h) hd
def dG{s:KM}{σ:St}{H:Hp}(I:Inv X pins σ H s)(hg:Gl X x)(hm:X.mg x=s_)(hv:Sa x=be u)(h:Q u s)
  (hn:autoParam (x≠"__name__") zA1) (hd:autoParam (zND x) zA1):RR (RS X.prog X.w) X.A (R3 (.Name x pos) X.env) Q E s:=by
 obtain⟨mb,h1,h2⟩:=I.mod.blt;exact Calls.Name_function_global I.ok.kind hg (Calls.loadGlobal_builtin (by rw[I.ok.glob];exact I.mod.glob.keeps I.bk) hm (by rw[I.ok.blt];exact h1.keeps I.bk) ((h2 x hn).trans hv) h) hd
def vO{v:V}(hg:Gl X x)(hm:X.mg x=be u)(r:RelV v u)(hd:autoParam (zND x) zA1):PE X (.Name x pos) (tC v):=
 λ_ _ _ H _ I h=>dF I hg hm #[v,H,I,r,h] hd
def vP{v:V}(hg:Gl X x)(hm:X.mg x=s_)(hv:Sa x=be u)(r:RelV v u)(hn:autoParam (x≠"__name__") zA1)(hd:autoParam (zND x) zA1):PE X (.Name x pos) (tC v):=
 λ_ _ _ H _ I h=>dG I hg hm hv #[v,H,I,r,h] hn hd
variable {a b:RP}{ta tb:TE}{pos:R6}
def tB(t:TE):TT:=λσ H Q=>t σ H λx H1=>∃c,x=.bl c/\Q c H1
variable {tA D_:TT}{rest:List RP}
def tAnd(t u:TT):TT:=λσ H Q=>t σ H λc H1=>if c=true then u σ H1 Q else Q false H1
def tOr(t u:TT):TT:=λσ H Q=>t σ H λc H1=>if c=true then Q true H1 else u σ H1 Q
def tNot(t:TT):TT:=λσ H Q=>t σ H λc H1=>Q (!c) H1
def pX(ha:PT X a tA):PW X (.BoolOp .And [a] pos) tA:=by
 intro wh pins s σ H Q I h;refine isTrue_and (thn (ha pins s σ H Q I h) λc s1 e=>?_);cases c with
 |true=>exact isTrue_and_nil e
 |false=>exact e
def pY(ha:PT X a tA):PW X (.BoolOp .Or [a] pos) tA:=by
 intro wh pins s σ H Q I h;refine isTrue_or (thn (ha pins s σ H Q I h) λc s1 e=>?_);cases c with
 |false=>exact isTrue_or_nil e
 |true=>exact e
def pZ(ha:PT X a tA)(hb:PW X (.BoolOp .And (b::rest) pos) D_):PW X (.BoolOp .And (a::b::rest) pos) (tAnd tA D_):=by
 intro wh pins s σ H Q I h;refine isTrue_and (thn (ha pins s σ H _ I h) λc s1 b9=>?_);obtain⟨H1,I1,q1⟩:=b9;cases c with
 |true=>exact hb wh pins s1 σ H1 Q I1 q1
 |false=>exact#[H1,I1,q1]
def qa(ha:PT X a tA)(hb:PW X (.BoolOp .Or (b::rest) pos) D_):PW X (.BoolOp .Or (a::b::rest) pos) (tOr tA D_):=by
 intro wh pins s σ H Q I h;refine isTrue_or (thn (ha pins s σ H _ I h) λc s1 b9=>?_);obtain⟨H1,I1,q1⟩:=b9;cases c with
 |true=>exact#[H1,I1,q1]
 |false=>exact hb wh pins s1 σ H1 Q I1 q1
def vQ(ha:PT X a tA):PT X (.UnaryOp .Not a pos) (tNot tA):=by
 intro pins s σ H Q I h;exact isTrue_not (ha pins s σ H (λc H1=>Q (!c) H1) I h)
def vR(ta tb:TE):TE:=λσ H Q=>ta σ H λx H1=>∃c,x=.bl c/\if c=true then tb σ H1 Q else Q (.bl false) H1
def vS(ta:TE):TE:=λσ H Q=>ta σ H λx H1=>∃c,x=.bl c/\Q (.bl (!c)) H1
def vT{op}{t:TE}(h:PE X a t):PE X (.BoolOp op [a] pos) t:=λpins s σ H Q I hw=>BoolOp_one (h pins s σ H Q I hw)
def vU(ha:PE X a ta)(hb:PE X (.BoolOp .And (b::rest) pos) tb):PE X (.BoolOp .And (a::b::rest) pos) (vR ta tb):=by
 intro pins s σ H Q I h;refine BoolOp_and (thn (ha pins s σ H _ I h) λv s1 b9=>?_);obtain⟨x,H1,I1,r1,q1⟩:=b9;obtain⟨c,rfl,q1⟩:=q1;cases r1;refine Si ?_;cases c with
 |true=>exact hb pins s1 σ H1 Q I1 q1
 |false=>exact#[.bl false,H1,I1,rfl,q1]
def vV(ha:PE X a ta):PE X (.UnaryOp .Not a pos) (vS ta):=by
 intro pins s σ H Q I h;refine UnaryOp_ (thn (ha pins s σ H _ I h) λv s1 b9=>?_);obtain⟨x,H1,I1,r1,q1⟩:=b9;obtain⟨c,rfl,q1⟩:=q1;cases r1;exact not_of (Si #[.bl (!c),H1,I1,rfl,q1])
def tIf(t:TT)(ta tb:TE):TE:=λσ H Q=>t σ H λc H1=>if c=true then ta σ H1 Q else tb σ H1 Q
def qc{c:RP}(hc:PT X c tA)(ha:PE X a ta)(hb:PE X b tb):PE X (.IfExp c a b pos) (tIf tA ta tb):=by
 intro pins s σ H Q I h;refine wpAny_IfExp (thn (hc pins s σ H _ I h) λd s1 b9=>?_);obtain⟨H1,I1,q1⟩:=b9;cases d with
 |true=>exact ha pins s1 σ H1 Q I1 q1
 |false=>exact hb pins s1 σ H1 Q I1 q1
end
def SqL(K:Ex)(H:Hp)(a:KF)(xs:List V):Prop:=
 Rd H a (.lst xs)\/
  ∃(o:R_) (its:Array KB) (n:Nat),K.lookup a=be o/\o.cls=.type "list"/\o.dict=s_/\o.data=.seq its n/\its.size<=sizeLine/\Vals xs its.toList
def SqT(K:Ex)(H:Hp)(a:KF)(xs:List V):Prop:=
 Rd H a (.tup xs)\/
  ∃(o:R_) (its:Array KB) (n:Nat),K.lookup a=be o/\o.cls=.type "tuple"/\o.data=.seq its n/\its.size<=sizeLine/\Vals xs its.toList
def absV:KB->Option V
 |.none=>be .non
 |.bool b=>be (.bl b)
 |.int i _=>be (.int i)
 |.str x _=>be (.str x)
 |.bytes b _=>be (.byt b)
 |.float b _=>be (.flt b)
 |.ref a=>be (.ref a)
 |.type n=>be (.ty n)
 |_=>s_
variable{u:KB}
def RelV.abs{x:V}(r:RelV x u):absV u=be x:=by
 cases x with
 |non=>cases r;rfl
 |bl _=>cases r;rfl
 |int _=>obtain⟨t,rfl⟩:=r;rfl
 |str _=>obtain⟨t,rfl⟩:=r;rfl
 |byt _=>obtain⟨t,rfl⟩:=r;rfl
 |flt _=>obtain⟨t,rfl⟩:=r;rfl
 |ref _=>cases r;rfl
 |ty _=>cases r;rfl
def RelV.inj{x y:V}(r:RelV x u)(q:RelV y u):x=y:=Option.some.inj (r.abs.symm.trans q.abs)
def Vals.inj:∀{xs ys:List V} {us:List KB},Vals xs us->Vals ys us->xs=ys:=by
 intro xs ys us h;induction h generalizing ys with
 |nil=>intro g;cases g;rfl
 |cons r _ e=>
  intro g;cases g with
  |cons r' t'=>rw[r.inj r',e t']
section
variable {X:Cx}{pins:List (KF×R_)}{σ:St}{H:Hp}{s:KM}{a:KF}{xs ys:List V}
def SqL.of{K:Ex}(h:H a=be (.lst xs)):SqL K H a xs:=.inl (.inl h)
def SqT.of{K:Ex}(h:H a=be (.tup xs)):SqT K H a xs:=.inl (.inl h)
def Inv.list(I:Inv X pins σ H s)(h:SqL X.K H a xs):∃its:List KB,Vals xs its/\PlainL s.heap a its.toArray/\xs.length<=sizeLine:=by
 rcases h with h|⟨o,its,n,hk,hc,hd,hs,hz,r⟩
 .obtain⟨z,its,n,r,e⟩:=h.ok I.hok;exact#[its,r,#[_,n,e,rfl,rfl,rfl],z]
 .refine#[its.toList,r,#[o,n,I.kIn a o hk,hc,hd,by simpa using hs],?_];have e:=r.length;simp only[GP]at e;lia
def Inv.tuple(I:Inv X pins σ H s)(h:SqT X.K H a xs):∃its:List KB,Vals xs its/\IsTup s.heap a its.toArray/\xs.length<=sizeLine:=by
 rcases h with h|⟨o,its,n,hk,hc,hs,hz,r⟩
 .obtain⟨z,its,r,p⟩:=h.ok I.hok;exact#[its,r,p,z]
 .refine#[its.toList,r,#[o,I.kIn a o hk,hc,n,by simpa using hs],?_];have e:=r.length;simp only[GP]at e;lia
def Inv.list_inj(I:Inv X pins σ H s)(h:SqL X.K H a xs)(h':SqL X.K H a ys):xs=ys:=by
 obtain⟨its,r,⟨o,n,e,_,_,d⟩,_⟩:=I.list h;obtain⟨its',r',⟨o',n',e',_,_,d'⟩,_⟩:=I.list h';rw[e]at e';cases e';rw[d]at d';injection d' with d1 _;have:its=its':=by simpa using congrArg Iv d1
 subst this;exact r.inj r'
def Inv.tuple_inj(I:Inv X pins σ H s)(h:SqT X.K H a xs)(h':SqT X.K H a ys):xs=ys:=by
 obtain⟨its,r,⟨o,e,_,n,d⟩,_⟩:=I.tuple h;obtain⟨its',r',⟨o',e',_,n',d'⟩,_⟩:=I.tuple h';rw[e]at e';cases e';rw[d]at d';injection d' with d1 _;have:its=its':=by simpa using congrArg Iv d1
 subst this;exact r.inj r'
end
abbrev Cx.wish(X:Cx)(E:KB->KM->Prop):Cx:={X with xe:=E}
abbrev Cx.nox(X:Cx):Cx:=X.wish λ_ _=>False
def Cx.Ok.wish(ok:X.Ok)(E:KB->KM->Prop):(X.wish E).Ok:=
 #[ok.mod,ok.kind,ok.glob,ok.blt,ok.above,ok.inj,ok.has,ok.cab,ok.hd,ok.frames,ok.stk,ok.exf,ok.bs,ok.bsz,ok.noex,ok.exfs,ok.funs,ok.frf]
def Cx.Ok.unwish(ok:(X.wish E).Ok):X.Ok:=
 #[ok.mod,ok.kind,ok.glob,ok.blt,ok.above,ok.inj,ok.has,ok.cab,ok.hd,ok.frames,ok.stk,ok.exf,ok.bs,ok.bsz,ok.noex,ok.exfs,ok.funs,ok.frf]
section
variable {X:Cx}{pins:List (KF×R_)}{σ:St}{H:Hp}{s:KM}{E:KB->KM->Prop}
def Inv.wish(I:Inv X pins σ H s)(E:KB->KM->Prop):Inv (X.wish E) pins σ H s:=#[I.ok.wish E,I.os,I.bare,I.base,I.loc,I.cell,I.free,I.freeC,I.pin,I.hok,I.len]
def Inv.unwish(I:Inv (X.wish E) pins σ H s):Inv X pins σ H s:=#[I.ok.unwish,I.os,I.bare,I.base,I.loc,I.cell,I.free,I.freeC,I.pin,I.hok,I.len]
def SP.unwish{D:Ends}{f:Flow}{s':KM}(h:SP (X.wish E) pins D f s'):SP X pins D f s':=by
 cases f with
 |next=>obtain⟨σ',H',I,q⟩:=h;exact#[σ',H',I.unwish,q]
 |brk=>obtain⟨σ',H',I,q⟩:=h;exact#[σ',H',I.unwish,q]
 |cont=>obtain⟨σ',H',I,q⟩:=h;exact#[σ',H',I.unwish,q]
 |ret u=>obtain⟨v,σ',H',I,r,q⟩:=h;exact#[v,σ',H',I.unwish,r,q]
def PE.nox{e:RP}{t:TE}(h:PE X.nox e t):PE X e t:=λpins s σ H Q I hw=>
 R8 (h pins s σ H Q (I.wish _) hw) (λ_ _ ⟨v,H',I',r,q⟩=>#[v,H',I'.unwish,r,q]) λ_ _ z=>False.elim z
def PT.nox{e:RP}{t:TT}(h:PT X.nox e t):PT X e t:=λpins s σ H Q I hw=>
 R8 (h pins s σ H Q (I.wish _) hw) (λ_ _ ⟨H',I',q⟩=>#[H',I'.unwish,q]) λ_ _ z=>False.elim z
def PSs.nox{st:List P3}{t:TS}(h:PSs X.nox st t):PSs X st t:=λpins s σ H D I hw=>
 R8 (h pins s σ H D (I.wish _) hw) (λ_ _ q=>q.unwish) λ_ _ z=>False.elim z
end
section
variable {X:Cx}{st:P3}{rest:List P3}{t u:TS}{e:RP}{te:TE}{pos:R6}
def vW:TS:=λD σ H=>D.nx σ H
def tSeq(t u:TS):TS:=λD σ H=>t {D with nx:=u D} σ H
def pss_nil:PSs X [] vW:=λ_ _ σ H _ I h=>Sx #[σ,H,I,h]
def jD(h1:PS X st t)(h2:PSs X rest u):PSs X (st::rest) (tSeq t u):=by
 intro pins s σ H D I h;refine wpAny_execs_cons (thn (h1 pins s σ H {D with nx:=u D} I h) λf s1 q=>?_);cases f with
 |next=>
  obtain⟨σ',H',I',q⟩:=q;exact h2 pins s1 σ' H' D I' q
 |ret v=>exact q
 |brk=>exact q
 |cont=>exact q
def qd(h1:PS X st t):PSs X [st] t:=by
 intro pins s σ H D I h;refine wpAny_execs_cons (thn (h1 pins s σ H D I h) λf s1 q=>?_);cases f with
 |next=>exact Sx q
 |ret v=>exact q
 |brk=>exact q
 |cont=>exact q
def Inv.quiet{pins:List (KF×R_)}{σ:St}{H:Hp}{s:KM}(I:Inv X pins σ H s):interactive X.env=false:=by simp[interactive,I.ok.kind]
def vX(te:TE):TS:=λD σ H=>te σ H λ_ H1=>D.nx σ H1
def jE(he:PE X e te)(hs:autoParam (R9 e s_ pos.line X.env=pure false) zA0):PS X (.Expr e pos) (vX te):=by
 intro pins s σ H D I h;exact wpAny_Expr_any (thn (he pins s σ H _ I h) λv s1 ⟨x,H1,I1,r1,q1⟩=>#[σ,H1,I1,q1]) I.quiet hs
def tRet(te:TE):TS:=λD σ H=>te σ H D.rt
def qe(he:PE X e te):PS X (.Return (be e) pos) (tRet te):=by
 intro pins s σ H D I h;exact wpAny_Return_some (thn (he pins s σ H _ I h) λv s1 ⟨x,H1,I1,r1,q1⟩=>#[x,σ,H1,I1,r1,q1])
def tIfS(c:TT)(t u:TS):TS:=λD σ H=>c σ H λb H1=>if b=true then t D σ H1 else u D σ H1
def qf{c:RP}{a b:List P3}{tc:TT}(hc:PT X c tc)(ha:PSs X a t)(hb:PSs X b u):PS X (.If c a b pos) (tIfS tc t u):=by
 intro pins s σ H D I h;refine wpAny_If (thn (hc pins s σ H _ I h) λd s1 b9=>?_);obtain⟨H1,I1,q1⟩:=b9;cases d with
 |true=>exact ha pins s1 σ H1 D I1 q1
 |false=>exact hb pins s1 σ H1 D I1 q1
def vY:TS:=λ_ _ _=>False
def ps_never:PS X st vY:=λ_ _ _ _ _ _ h=>h.elim
end
abbrev TG:=V->St->Hp->(St->Hp->Prop)->Prop
abbrev TGs:=List V->St->Hp->(St->Hp->Prop)->Prop
def PG(X:Cx)(f9:RP)(t:TG):Prop:=
 ∀(pins:List (KF×R_)) (s:KM) (σ:St) (H:Hp) (v:V) (u:KB) (Q:St->Hp->Prop),Inv X pins σ H s->RelV v u->t v σ H Q->
  RR (RS X.prog X.w) X.A (Sy f9 X.env u) (λ_ s'=>∃σ' H',Inv X pins σ' H' s'/\Q σ' H') X.xe s
def PGs(X:Cx)(ts:List RP)(t:TGs):Prop:=
 ∀(pins:List (KF×R_)) (s:KM) (σ:St) (H:Hp) (vs:List V) (us:List KB) (Q:St->Hp->Prop),Inv X pins σ H s->Vals vs us->t vs σ H Q->
  RR (RS X.prog X.w) X.A (Ta ((RZ ts X.env).map (·.2)) us) (λ_ s'=>∃σ' H',Inv X pins σ' H' s'/\Q σ' H') X.xe s
abbrev TSet:=V->V->V->Hp->(Hp->Prop)->Prop
def PSet(X:Cx)(t:TSet):Prop:=
 ∀(pins:List (KF×R_)) (s:KM) (σ:St) (H:Hp) (o i v:V) (ov iv u:KB) (Q:Hp->Prop),Inv X pins σ H s->RelV o ov->RelV i iv->RelV v u->t o i v H Q->
  RR (RS X.prog X.w) X.A (setItem ov iv u) (λ_ s'=>∃H',Inv X pins σ H' s'/\Q H') X.xe s
section
variable {X:Cx}{pos:R6}
def fC(i:Nat):TG:=λv σ H Q=>Q (σ.set i (be v)) H
variable{i:Nat}{x:E_}
def fD(hN:X.N.Nodup)(hi:X.N[i]?=be x)(hx:Loc X.env.scope x)(hf:autoParam (zFN X x) zA3):PG X (.Name x pos) (fC i):=by
 intro pins s σ H v u Q I r h;exact SW (fA I hN hi hx r (λs' I'=>#[_,H,I',h]) hf)
def gNil:TGs:=λvs σ H Q=>vs=[]/\Q σ H
def vZ(t:TG)(u:TGs):TGs:=λvs σ H Q=>∃v r,vs=v::r/\t v σ H λσ' H'=>u r σ' H' Q
def wa:PGs X [] gNil:=by
 intro pins s σ H vs us Q I r h;obtain⟨e,h⟩:=h;subst e;cases r;exact TL #[σ,H,I,h]
variable{e:RP}{es:List RP}
def wc{t:TG}{u:TGs}(h1:PG X e t)(h2:PGs X es u)
  (hs:autoParam ((RZ (e::es) X.env).map (·.2)=Sy e X.env::(RZ es X.env).map (·.2)) zA0):PGs X (e::es) (vZ t u):=by
 intro pins s σ H vs us Q I r h;obtain⟨v,vr,e1,h⟩:=h;subst e1;cases r with
 |cons r rr=>
  rw[hs];refine SV (thn (h1 pins s σ H _ _ _ I r h) λ_ s1 b9=>?_);obtain⟨σ1,H1,I1,q1⟩:=b9;exact h2 pins s1 σ1 H1 _ _ Q I1 rr q1
def gTup(K:Ex)(n:Nat)(t:TGs):TG:=λv σ H Q=>∃a xs,v=.ref a/\SqT K H a xs/\xs.length=n/\t xs σ H Q
def fE{k:Nat}{t:TGs}{n:Nat}(hc:X.calm=true)(h:PGs X es t)
  (hn:autoParam ((RZ es X.env).length=n) zA0) (j6:autoParam ((RZ es X.env).findIdx? (·.1)=none) zA0):PG X (.Tuple es k pos) (gTup X.K n t):=by
 intro pins s σ H v u Q I r hw;obtain⟨a,xs,e1,hq,hl,hw⟩:=hw;subst e1;cases r;obtain⟨its,rv,ht,hz⟩:=I.tuple hq;refine assign_Tuple_tuple (I.ok.hd hc) ht (by simp[hn,<-hl,rv.length]) j6 λh' hx=>?_;have I1:Inv X pins σ H {s with heap:=h'}:=I.kept (t':=s.toks) λb o e=>hx b o (FW (Heap.lt_size e)) e;exact h pins _ σ H xs _ Q I1 (by simpa using rv) hw
def gSub(to ti:TE)(t:TSet):TG:=λv σ H Q=>to σ H λo H1=>ti σ H1 λi H2=>t o i v H2 λH3=>Q σ H3
def we{o i:RP}{to ti:TE}{t:TSet}(ho:PE X o to)(hi:PE X i ti)(hs:PSet X t)
  (ha:∀v,Sy (.Subscript o i pos) X.env v=(do
   let ov <-SF [v] (R3 o X.env)
   let iv <-SF [v,ov] (R3 i X.env)
   SQ pos
   SF [v,ov,iv] (setItem ov iv v)
   release [v,ov,iv] []):=by intro _;rfl):PG X (.Subscript o i pos) (gSub to ti t):=by
 intro pins s σ H v u Q I r h;rw[ha];refine Os (So (thn (ho pins s σ H _ I h) λov s1 b9=>?_));obtain⟨x,H1,I1,r1,q1⟩:=b9;refine Os (So (thn (hi pins s1 σ H1 _ I1 q1) λiv s2 b9=>?_));obtain⟨y,H2,I2,r2,q2⟩:=b9;refine Os (Sm (Os (So (thn (hs pins s2 σ H2 x y v ov iv u _ I2 r1 r2 r q2) λ_ s3 b9=>?_))));obtain⟨H3,I3,q3⟩:=b9;exact wpAny_release #[σ,H3,I3,q3]
def tAsg(te:TE)(g:TG):TS:=λD σ H=>te σ H λx H1=>g x σ H1 D.nx
def jF{tg:RP}{te:TE}{g:TG}(he:PE X e te)(hg:PG X tg g)(hs:autoParam (Sq [tg] e pos.line X.env=pure false) zA0)(hw:autoParam (Sr [tg] e X.env=pure none) zA0)
  (h1:autoParam ((RZ [tg] X.env).map (·.2)=[Sy tg X.env]) zA0):PS X (.Assign [tg] e pos) (tAsg te g):=by
 intro pins s σ H D I h;refine wpAny_Assign_stores (thn (he pins s σ H _ I h) λv s1 hh=>?_) hs hw;obtain⟨x,H1,I1,r1,q1⟩:=hh;rw[h1];exact thn (hg pins s1 σ H1 x v _ I1 r1 q1) λ_ s2 q=>q
def gw{te:TE}{c_:R6}(hN:X.N.Nodup)(hi:X.N[i]?=be x)(hx:Loc X.env.scope x)(he:PE X e te)(hs:autoParam (R9 e (be (.Name x c_)) pos.line X.env=pure false) zA0)(hf:autoParam (zFN X x) zA3):
  PS X (.Assign [.Name x c_] e pos) (tAsg te (fC i)):=by
 intro pins s σ H D I h;refine wpAny_Assign_Name (thn (he pins s σ H _ I h) λv s1 hh=>?_) hs;obtain⟨y,H1,I1,r1,q1⟩:=hh;exact fA I1 hN hi hx r1 (λs2 I2=>#[_,H1,I2,q1]) hf
def tPar(i j:Nat)(ta:TA):TS:=λD σ H=>ta σ H λvs H1=>∃v w,vs=[v,w]/\D.nx ((σ.set i (be v)).set j (be w)) H1
def wg{j:Nat}{y:E_}{a b:RP}{ta:TA}{px py pt:R6}{kt k2 Kc}(hc:X.calm=true)(hN:X.N.Nodup)(hi:X.N[i]?=be x)(hj:X.N[j]?=be y)(ML:i≠j)
  (hx:X.env.scope.names.lookup x=be .local) (hy:X.env.scope.names.lookup y=be .local) (ha:PA X [a,b] ta)
  (hw:Sr [.Tuple [.Name x px,.Name y py] kt pt] (.Tuple [a,b] k2 Kc) X.env=pure (be [x,y]))
  (hs:autoParam (Sq [.Tuple [.Name x px,.Name y py] kt pt] (.Tuple [a,b] k2 Kc) pos.line X.env=pure false) zA0):
  PS X (.Assign [.Tuple [.Name x px,.Name y py] kt pt] (.Tuple [a,b] k2 Kc) pos) (tPar i j ta):=by
 intro pins s σ H D I h;rw[exec_Assign_arm];refine Os (Sm ?_);rw[hs];refine Os (RT ?_);rw[if_neg Kj];refine Os (Tuple_ (thn (ha _ pins s σ H _ I h) λus s1 b9=>?_));obtain⟨vs,H1,I1,r1,q1⟩:=b9;obtain⟨v,w,e1,q1⟩:=q1;subst e1;obtain⟨u1,u2,rfl,rv,g7⟩:∃u1 u2,us=[u1,u2]/\RelV v u1/\RelV w u2:=by
  cases r1 with
  |cons p q=>
   cases q with
   |cons p' q'=>
    cases q';exact#[_,_,rfl,p,p']
 refine R7 ?_ (by show 2<=sizeLine;decide);have I2:Inv X pins σ H1 {s1 with heap:=s1.heap.push {cls:=.type "tuple",data:=.seq [u1,u2].toArray} }:=I1.kept (t':=s1.toks) λb o e=>Heap.get?_push_of_some _ e;rw[hw];refine Os (RT ?_);show RR (RS X.prog X.w) X.A (do rule "assign.swapped-stores";let items <-unpackItems (.ref s1.heap.objs.size) 2 s_;Ta [λv=>Tr X.env y v,λv=>Tr X.env x v] items.reverse;pure Flow.next) _ _ _;refine Os (Tt (Os (unpackItems_tuple (items:=[u1,u2].toArray) (I.ok.hd hc) (IsTup.new s1.heap _) λh' g8=>?_)));have I3:=I2.kept (h':=h') (t':=s1.toks) λb o e=>g8 b o (FW (Heap.lt_size e)) e;show RR _ _ (Ta [λv=>Tr X.env y v,λv=>Tr X.env x v] [u2,u1]>>=λ_=>pure Flow.next) _ _ _;refine Os (SV (wpAny_bindName (fA I3 hN hj (.inl hy) g7 (λs2 I4=>?_) (.inr hy))));refine SV (wpAny_bindName (fA I4 hN hi (.inl hx) rv (λs3 I5=>TL (RT ?_)) (.inr hx)));rw[List.set_comm _ _ (Ne.symm ML)]at I5;exact#[_,H1,I5,q1]
def wj(c:TT)(tb:TS):TS:=λD σ H=>∃W:Nat->St->Hp->Prop,(∃m,W m σ H)/\∀m σ H,W m σ H->
 c σ H λb H1=>if b=true then ∃N:St->Hp->Prop,(∀σ' H',N σ' H'->∃m',m'<m/\W m' σ' H')/\tb {D with nx:=N,ct:=N,bk:=D.nx} σ H1 else D.nx σ H1
def qg{c:RP}{body:List P3}{tc:TT}{tb:TS}(hp:Sd (RS X.prog X.w) X.A X.env X.xe)(hc:PT X c tc)(hb:PSs X body tb):PS X (.While c body [] pos) (wj tc tb):=by
 intro pins s σ H D I h;obtain⟨W,⟨m0,w0⟩,b_⟩:=h;refine wpAny_While (codeAny_whileLoop (λn s'=>∃σ' H',Inv X pins σ' H' s'/\W n σ' H') ?_ m0 #[σ,H,I,w0]);rintro n s1⟨σ1,H1,I1,w1⟩;refine Sg hp (thn (hc pins s1 σ1 H1 _ I1 (b_ n σ1 H1 w1)) λb s2 b9=>?_);obtain⟨H2,I2,q2⟩:=b9;cases b with
 |true=>
  obtain⟨N,hN,q2⟩:=q2;rw[if_pos rfl];refine Sg hp (thn (hb pins s2 σ1 H2 _ I2 q2) λf s3 q3=>?_);cases f with
  |next=>
   obtain⟨σ3,H3,I3,n3⟩:=q3;obtain⟨m',hm,w3⟩:=hN σ3 H3 n3;exact#[m',hm,σ3,H3,I3,w3]
  |cont=>
   obtain⟨σ3,H3,I3,n3⟩:=q3;obtain⟨m',hm,w3⟩:=hN σ3 H3 n3;exact#[m',hm,σ3,H3,I3,w3]
  |brk=>exact q3
  |ret v=>exact q3
 |false=>
  rw[if_neg F6];exact Sx #[σ1,H2,I2,q2]
end
structure It where
 go:Nat->Hp->Prop
 yld:Nat->Hp->V->Hp->Prop
 stop:Nat->Hp->Prop
def FpOk(X:Cx)(pins:List (KF×R_))(H:Hp)(b:KF):Prop:=
 H b=s_/\b≠X.env.locals/\b∉X.fs/\(b∈X.ex\/X.s₀.heap.objs.size<=b)/\(∀x c,X.env.cells.lookup x=be c->c≠b)/\∀p∈X.pn++pins,p.1≠b
variable{σ:St}
def Inv.fpOk{pins:List (KF×R_)}{H':Hp}(I:Inv X pins σ H s)(hb:s.heap.objs.size<=b)(hn:H' b=s_):FpOk X pins H' b:=by
 refine#[hn,GQ (Gj I.lt hb),I.nofs hb,.inr (FX I.sz hb),λx c e z=>?_,λp hp z=>?_]
 .obtain⟨v,q⟩:=I.cell x c e;exact absurd (Gj q.lt (by rw[z];exact hb)) (GO _)
 .exact absurd (Gj (Heap.lt_size (I.pin p hp).1) (by rw[z];exact hb)) (GO _)
structure Turn(P:RQ)(w:RU)(K:Ex)(tg:RP)(J:It)(fp:List KF)(it:KF)(tn:Nat->RW->Prop):Prop where
 mem:it∈fp
 obj:∀i h,tn i h->∀b∈fp,∃o,h.get? b=be o/\∀v,o.data≠.cell v
 keep:∀i h h',tn i h->(∀b∈fp,∀o,h.get? b=be o->h'.get? b=be o)->tn i h'
 item:∀(X:Cx),X.prog=P->X.w=w->X.K=K->X.calm=true->∀(i:Nat) (pins:List (KF×R_)) (s:KM) (σ:St) (H:Hp) (E:KB->KM->Prop),Inv X pins σ H s->(∀b∈fp,FpOk X pins H b)->tn i s.heap->J.go i H->
  RR (RS P w) X.A (pyNext (.ref it)) (λr s1=>∃u,r=be u/\
   RR (RS P w) X.A (SN tg (.ref it) u) (λ_ s2=>∃x H',Inv X pins σ H' s2/\RelV x u/\J.yld i H x H'/\tn (i+1) s2.heap/\∀b∈fp,H' b=s_) E s1) E s
 done:∀(X:Cx),X.prog=P->X.w=w->X.K=K->X.calm=true->∀(i:Nat) (pins:List (KF×R_)) (s:KM) (σ:St) (H:Hp) (E:KB->KM->Prop),Inv X pins σ H s->(∀b∈fp,FpOk X pins H b)->tn i s.heap->J.stop i H->
  RR (RS P w) X.A (pyNext (.ref it)) (λr s1=>r=s_/\Inv X pins σ H s1) E s
 self:∀(A:RV) (i:Nat) (s:KM) (Q:KB->KM->Prop) (E:KB->KM->Prop),tn i s.heap->Q (.ref it) s->RR (RS P w) A (pyIter (.ref it)) Q E s
abbrev TI:=St->Hp->(It->Hp->Prop)->Prop
def PIE(X:Cx)(pins:List (KF×R_))(σ:St)(tg:RP)(R:It->Hp->Prop)(L5:KB)(s2:KM):Prop:=
 ∃(it:KF) (fp:List KF) (tn:Nat->RW->Prop) (J:It) (H':Hp),L5=.ref it/\Inv X pins σ H' s2/\Turn X.prog X.w X.K tg J fp it tn/\tn 0 s2.heap/\(∀b∈fp,FpOk X pins H' b)/\R J H'
def PI(X:Cx)(tg iter:RP)(wi:TI):Prop:=
 ∀(pins:List (KF×R_)) (s:KM) (σ:St) (H:Hp) (R:It->Hp->Prop),Inv X pins σ H s->wi σ H R->
  RR (RS X.prog X.w) X.A (R3 iter X.env) (λv s1=>RR (RS X.prog X.w) X.A (pyIter v) (PIE X pins σ tg R) X.xe s1) X.xe s
variable{tg:RP}
def jG{M:TM}{it:KF}{o:R_}{n:String}{vs:Array KB}{Q:Unit->KM->Prop}(ho:s.heap.get? it=be o)(hc:o.cls=.type n)(hd:o.data=.fields vs)
    (hn:["enumerate","zip","dict_itemiterator","dict_reverseitemiterator","odict_iterator","itertools.zip_longest","itertools.pairwise"].contains n=false) (hQ:Q () s):RR M A (SN tg (.ref it) u) Q E s:=by
  unfold SN;cases tg<;>first
    |exact RT hQ
    |(cases u<;>first
        |exact RT hQ
        |( refine Os (wpAny_load ho ?_)
           rw[hc,hd];show RR M A (if(["enumerate","zip","dict_itemiterator","dict_reverseitemiterator","odict_iterator","itertools.zip_longest","itertools.pairwise"].contains n&&vs[0]?==be (SK _))=true then _ else _) Q E s;rw[if_neg (by intro h;rw[hn,Bool.false_and]at h;cases h)];exact RT hQ))
def Itl(K:Ex)(a:KF):It:=
 #[λi H=>∃xs x,SqL K H a xs/\xs[i]?=be x,λi H x H'=>H'=H/\∀xs,SqL K H a xs->xs[i]?=be x,λi H=>∃xs,SqL K H a xs/\xs.length<=i]
def Itr(lo:Int)(n:Nat):It:=#[λi _=>i<n,λi H x H'=>H'=H/\x=.int (lo+i),λi _=>n<=i]
variable{K:Ex}
def wk(a it:KF):Turn P w K tg (Itl K a) [it] it (λi h=>h.IsListIter it a i) where
 mem:=Ld
 obj:=λi h st b hb=>by
  have e:b=it:=by simpa using hb
  subst e;obtain⟨o,e,c,d⟩:=st;exact#[o,e,λv z=>by rw[d]at z;cases z]
 keep:=λi h h' st k=>st.at λo e=>k it Ld o e
 item:=by
  intro X hP hw hK hc i pins s σ H E I hf st hg;subst hP hw hK;obtain⟨xs,x,hq,hx⟩:=hg;obtain⟨its,rv,p,hz⟩:=I.list hq;obtain⟨u,hu,ru⟩:=rv.get hx;obtain⟨f0,f1,f2,f3,f4,f5⟩:=hf it Ld;refine wpAny_pyNext_list_item st p.isList (x:=u) (by simpa using hu) λh' y_ sb=>?_;have I1:Inv X pins σ H {s with heap:=h'}:=I.turned (t':=s.toks) (λb o hb e=>(sb.2 b hb).trans e) f0 f1 f3 f4 f5;obtain⟨o,e,c,d⟩:=id y_;exact#[u,rfl,jG (s:={s with heap:=h'}) e c d Kj #[x,H,I1,ru,#[rfl,λys hy=>by rw[I.list_inj hy hq];exact hx],y_,λb hb=>(hf b hb).1]]
 done:=by
  intro X hP hw hK hc i pins s σ H E I hf st hg;subst hP hw hK;obtain⟨xs,hq,hx⟩:=hg;obtain⟨its,rv,p,hz⟩:=I.list hq;obtain⟨f0,f1,f2,f3,f4,f5⟩:=hf it Ld;have hl:=rv.length;exact wpAny_pyNext_list_end (I.ok.hd hc) st p.isList Ou λh' eb=>#[rfl,I.turned (t':=s.toks) (λb o hb e=>eb b o hb e) f0 f1 f3 f4 f5]
 self:=λ_ _ _ _ _ st h=>wpAny_pyIter_listiter st h
def wl(it:KF)(lo:Int)(n:Nat):Turn P w K tg (Itr lo n) [it] it (λi h=>IsRangeIter h it (lo+(i:Nat)*1) ((n:Int)-(i:Nat)) 1) where
 mem:=Ld
 obj:=λi h st b hb=>by
  have e:b=it:=by simpa using hb
  subst e;exact⟨_,st,λv z=>by
   have z':Data.fields _=Data.cell v:=z;cases z'⟩
 keep:=λi h h' st k=>k it Ld _ st
 item:=by
  intro X hP hw hK hc i pins s σ H E I hf st hg;subst hP hw hK;obtain⟨f0,f1,f2,f3,f4,f5⟩:=hf it Ld;have W:=Walks.range (prog:=X.prog) (w:=X.w) (I.ok.hd hc) it lo 1 n;refine W.item i s _ _ hg st λv h' tk hv y_ kk=>?_;obtain⟨t,rfl⟩:=hv;have I1:Inv X pins σ H {s with heap:=h',toks:=tk}:=I.turned (λb o hb e=>kk b o (by simpa using hb) e) f0 f1 f3 f4 f5;refine#[_,rfl,jG (s:={s with heap:=h',toks:=tk}) (n:="range_iterator") y_ rfl rfl Kj #[.int (lo+i),H,I1,#[t,?_],#[rfl,rfl],y_,λb hb=>(hf b hb).1]];rw[Int.mul_one]
 done:=by
  intro X hP hw hK hc i pins s σ H E I hf st hg;subst hP hw hK;obtain⟨f0,f1,f2,f3,f4,f5⟩:=hf it Ld;exact wpAny_pyNext_range_end (I.ok.hd hc) st (by have:n<=i:=hg;lia) λh' eb=>#[rfl,I.turned (t':=s.toks) (λb o hb e=>eb b o hb e) f0 f1 f3 f4 f5]
 self:=λ_ _ _ _ _ st h=>wpAny_pyIter_rangeiter st h
section
variable {X:Cx}{tg:RP}
def qh(K:Ex)(tl:TE):TI:=λσ H R=>tl σ H λx H1=>∃a,x=.ref a/\(∃xs,SqL K H1 a xs)/\R (Itl K a) H1
def fF{l:RP}{tl:TE}(hl:PE X l tl):PI X tg l (qh X.K tl):=by
 intro pins s σ H R I h;refine thn (hl pins s σ H _ I h) λv s1 b9=>?_;obtain⟨x,H1,I1,r1,q1⟩:=b9;obtain⟨a,e,⟨xs,hq⟩,q⟩:=q1;subst e;cases r1;obtain⟨its,rv,p,hz⟩:=I1.list hq;refine wpAny_pyIter_list p.isList ?_;refine#[s1.heap.objs.size,[s1.heap.objs.size],_,_,H1,rfl,I1.kept (t':=s1.toks) λb o e=>Heap.get?_push_of_some _ e,wk a _,#[_,Heap.get?_push_size _ rfl,rfl,rfl],λb hb=>?_,q];have e:b=s1.heap.objs.size:=by simpa using hb
 subst e;exact I1.fpOk (FM _) (I1.hok.fresh (FM _))
variable{pins:List (KF×R_)}{σ:St}{H:Hp}{s:KM}
def qi{R:It->Hp->Prop}{E:KB->KM->Prop}{lo hi:Int}{t u v:Tok}{tk:Nat}(I:Inv X pins σ H s)(h1:-(2^62)<=lo)(h2:lo<2^62)(h3:-(2^62)<=hi)(h4:hi<2^62)
  (q:R (Itr lo (hi-lo).toNat) H):RR (RS X.prog X.w) X.A (pyIter (.ref s.heap.objs.size)) (PIE X pins σ tg R) E {s with heap:=s.heap.push {cls:=.type "range",data:=.fields [.int lo t,.int hi u,.int 1 v].toArray},toks:=tk}:=by
 refine wpAny_pyIter_range (IsRange.new ..) (small_one h1 h2 h3 h4) ?_;have I1:Inv X pins σ H {s with heap:=s.heap.push {cls:=.type "range",data:=.fields [.int lo t,.int hi u,.int 1 v].toArray},toks:=tk}:=I.kept λb o e=>Heap.get?_push_of_some _ e;refine⟨(s.heap.push {cls:=.type "range",data:=.fields [.int lo t,.int hi u,.int 1 v].toArray}).objs.size,[(s.heap.push {cls:=.type "range",data:=.fields [.int lo t,.int hi u,.int 1 v].toArray}).objs.size],_,_,H,rfl,
  I1.kept (t':=tk) λb o e=>Heap.get?_push_of_some _ e,wl _ lo (hi-lo).toNat,?_,λb hb=>?_,q⟩
 .have e1:lo+((0:Nat):Int)*1=lo:=by simp
  have e2:(((hi-lo).toNat:Nat):Int)-((0:Nat):Int)=Builtin.Range.rangeSize lo hi 1:=by rw[rangeSize_one];split<;>lia
  show IsRangeIter _ _ (lo+((0:Nat):Int)*1) ((((hi-lo).toNat:Nat):Int)-((0:Nat):Int)) 1;rw[e1,e2];exact Heap.get?_push_size _ rfl
 .have e:b=(s.heap.push {cls:=.type "range",data:=.fields [.int lo t,.int hi u,.int 1 v].toArray}).objs.size:=by simpa using hb
  subst e;exact I1.fpOk (FM _) (I1.hok.fresh (FM _))
def qj(ta:TA):TI:=λσ H R=>ta σ H λvs H1=>∃j:Int,vs=[.int j]/\-(2^62)<=j/\j<2^62/\R (Itr 0 j.toNat) H1
def qk(ta:TA):TI:=λσ H R=>ta σ H λvs H1=>∃i j:Int,vs=[.int i,.int j]/\(-(2^62)<=i/\i<2^62/\-(2^62)<=j/\j<2^62)/\R (Itr i (j-i).toNat) H1
variable{pos:R6}
def gx{a:RP}{ta:TA}{p:R6}(hg:Gl X "range")(hm:X.mg "range"=s_)(ha:PA X [a] ta)(hs:autoParam (RY [a] X.env=[(false,R3 a X.env)]) zA0):PI X tg (.Call (.Name "range" p) [a] [] pos) (qj ta):=by
 intro pins s σ H R I h;refine Call_ (dG I hg hm boot_range (PyProof.Rows.callWith_type1 (thn (ha pos pins s σ H _ I h) λus s1 hh=>?_) hs rfl));obtain⟨vs,H1,I1,r1,q1⟩:=hh;obtain⟨j,e,q1,q2,q⟩:=q1;subst e;cases r1 with
 |cons r rr=>
  cases rr;obtain⟨t,rfl⟩:=r;exact call_range_1 (qi I1 Kd Kd q1 q2 (by simpa using q))
def ql{a b:RP}{ta:TA}{p:R6}(hg:Gl X "range")(hm:X.mg "range"=s_)(ha:PA X [a,b] ta)(hs:autoParam (RY [a,b] X.env=[(false,R3 a X.env),(false,R3 b X.env)]) zA0)(l8:autoParam (RY [b] X.env=[(false,R3 b X.env)]) zA0):
  PI X tg (.Call (.Name "range" p) [a,b] [] pos) (qk ta):=by
 intro pins s σ H R I h;refine Call_ (dG I hg hm boot_range (PyProof.Rows.callWith_type1 (thn (ha pos pins s σ H _ I h) λus s1 hh=>?_) (by rw[hs,l8]) (by rw[l8];rfl)));obtain⟨vs,H1,I1,r1,q1⟩:=hh;obtain⟨i,j,e,⟨q1,q2,q3,q4⟩,q⟩:=q1;subst e;cases r1 with
 |cons r rr=>
  cases rr with
  |cons r' rr=>
   cases rr;obtain⟨t,rfl⟩:=r;obtain⟨t',rfl⟩:=r';exact call_range_2 (qi I1 q1 q2 q3 q4 q)
def tFor(wi:TI)(g:TG)(tb:TS):TS:=λD σ H=>wi σ H λJ H1=>∃W:Nat->Nat->St->Hp->Prop,(∃m,W 0 m σ H1)/\∀i m σ H,W i m σ H->
 (J.stop i H/\D.nx σ H)\/(J.go i H/\∃N:St->Hp->Prop,(∀σ' H',N σ' H'->∃m',m'<m/\W (i+1) m' σ' H')/\∀x H',J.yld i H x H'->g x σ H' λσ2 H2=>tb {D with nx:=N,ct:=N,bk:=D.nx} σ2 H2)
def gy(fp:List KF)(h:RW):List (KF×R_):=fp.filterMap λb=>(h.get? b).map λo=>(b,o)
variable{fp:List KF}
def eg{h:RW}{b:KF}{o:R_}(hb:b∈fp)(e:h.get? b=be o):(b,o)∈gy fp h:=Iw.mpr #[b,hb,by rw[e];rfl]
def wn{h:RW}{p:KF×R_}(hp:p∈gy fp h):p.1∈fp/\h.get? p.1=be p.2:=by
 obtain⟨b,hb,e⟩:=Iw.mp hp;cases q:h.get? b with
 |none=>rw[q]at e;cases e
 |some o=>
  rw[q]at e;have e':(b,o)=p:=Option.some.inj e;subst e';exact#[hb,q]
def Inv.pinned(I:Inv X pins σ H s)(hf:∀b∈fp,FpOk X pins H b)(ho:∀b∈fp,∃o,s.heap.get? b=be o/\∀v,o.data≠.cell v):Inv X (pins++gy fp s.heap) σ H s:=
 I.pins_of λp hp=>(Gk.mp hp).elim (λz=>I.pin p (Gh _ z)) λz=>by
  obtain⟨hb,e⟩:=wn z;obtain⟨f0,f1,f2,_⟩:=hf p.1 hb;obtain⟨o,e',d⟩:=ho p.1 hb;rw[e]at e';cases e';exact#[e,f0,f1,f2,d]
def Inv.unpinned{pl:List (KF×R_)}(I:Inv X (pins++pl) σ H s):Inv X pins σ H s:=I.pins_of λp hp=>I.pin p (Gh _ (G0 _ hp))
def cV{iter:RP}{body:List P3}{wi:TI}{g:TG}{tb:TS}(hp:Sd (RS X.prog X.w) X.A X.env X.xe)(hc:X.calm=true)(hi:PI X tg iter wi)(hg:PG X tg g)(hb:PSs X body tb)
  (hs:∀x,TK iter X.env x=pure x:=by intro _;rfl):PS X (.For tg iter body [] pos) (tFor wi g tb):=by
 intro pins s σ H D I h;refine wpAny_For (thn (hi pins s σ H _ I h) λv s1 h1=>thn h1 λL5 s2 h2=>?_) hs;obtain⟨it,fp,tn,J,H2,e,I2,T,p8,f2,W,⟨m0,w0⟩,b_⟩:=h2;subst e;have m_:∀{H':Hp},(∀b∈fp,H' b=s_)->∀b∈fp,FpOk X pins H' b:=λhn b hb=>#[hn b hb,(f2 b hb).2];refine codeAny_forLoop_any (λn s'=>∃i σ' H',Inv X pins σ' H' s'/\tn i s'.heap/\(∀b∈fp,H' b=s_)/\W i n σ' H') ?_ m0 #[0,σ,H2,I2,p8,λb hb=>(f2 b hb).1,w0];rintro n s3⟨i,σ3,H3,I3,z6,Ov,w3⟩;rcases b_ i n σ3 H3 w3 with⟨stop,qn⟩|⟨go,N,hN,step⟩
 .refine Sg hp (thn (T.done X rfl rfl rfl hc i pins s3 σ3 H3 X.xe I3 (m_ Ov) z6 stop) λr s4 b9=>?_);obtain⟨hr,I4⟩:=b9;subst hr;exact Sx #[σ3,H3,I4,qn]
 .refine Sg hp (thn (T.item X rfl rfl rfl hc i pins s3 σ3 H3 X.xe I3 (m_ Ov) z6 go) λr s4 b9=>?_);obtain⟨u,hr,h4⟩:=b9;subst hr;refine Sg hp (thn h4 λ_ s5 b9=>?_);obtain⟨x,H5,I5,r5,y5,F_,MN⟩:=b9;have PD:=I5.pinned (m_ MN) (T.obj _ _ F_);refine Sg hp (thn (hg _ s5 σ3 H5 x u _ PD r5 (step x H5 y5)) λ_ s6 b9=>?_);obtain⟨σ6,H6,I6,q6⟩:=b9;refine Sg hp (thn (hb _ s6 σ6 H6 _ I6 q6) λf s7 q7=>?_);have again:∀{σ7:St} {H7:Hp},Inv X (pins++gy fp s5.heap) σ7 H7 s7->N σ7 H7->∃m,m<n/\∃i σ' H',Inv X pins σ' H' s7/\tn i s7.heap/\(∀b∈fp,H' b=s_)/\W i m σ' H':=λ{σ7 H7} I7 n7=>by
   obtain⟨m',hm,w7⟩:=hN σ7 H7 n7;refine#[m',hm,i+1,σ7,H7,I7.unpinned,T.keep _ _ _ F_ λb hb o e=>(I7.pin (b,o) (Gh _ (Gh _ (eg hb e)))).1,λb hb=>?_,w7];obtain⟨o,e,d⟩:=T.obj _ _ F_ b hb;exact(I7.pin (b,o) (Gh _ (Gh _ (eg hb e)))).2.1
  cases f with
  |next=>obtain⟨σ7,H7,I7,n7⟩:=q7;exact again I7 n7
  |cont=>obtain⟨σ7,H7,I7,n7⟩:=q7;exact again I7 n7
  |brk=>obtain⟨σ7,H7,I7,q7⟩:=q7;exact#[σ7,H7,I7.unpinned,q7]
  |ret v=>obtain⟨x7,σ7,H7,I7,r7,q7⟩:=q7;exact#[x7,σ7,H7,I7.unpinned,r7,q7]
end
def qm{g:TG}{tb:TS}{D:Ends}(Pv:Nat->St->Hp->Prop)(h0:Pv 0 σ H)(hl:∀i σ H,i<=xs.length->Pv i σ H->SqL K H a xs)
  (hs:∀i x σ H,xs[i]?=be x->Pv i σ H->g x σ H λσ2 H2=>tb {D with nx:=Pv (i+1),ct:=Pv (i+1),bk:=D.nx} σ2 H2) (hd:∀σ H,Pv xs.length σ H->D.nx σ H):
  ∃W:Nat->Nat->St->Hp->Prop,(∃m,W 0 m σ H)/\∀i m σ H,W i m σ H->
   ((Itl K a).stop i H/\D.nx σ H)\/((Itl K a).go i H/\∃N:St->Hp->Prop,(∀σ' H',N σ' H'->∃m',m'<m/\W (i+1) m' σ' H')/\∀x H',(Itl K a).yld i H x H'->g x σ H' λσ2 H2=>tb {D with nx:=N,ct:=N,bk:=D.nx} σ2 H2):=by
 refine#[λi m σ H=>m=xs.length-i/\i<=xs.length/\Pv i σ H,#[xs.length,Ld,Go _,h0],?_];rintro i m σ H ⟨rfl,hi,p⟩;have q:=hl i σ H hi p;by_cases f_:i<xs.length
 .refine .inr #[#[xs,xs[i],q,by simp[f_]],Pv (i+1),λσ' H' p'=>#[xs.length-(i+1),Kd,rfl,f_,p'],λx H' y=>?_];obtain⟨e,y⟩:=y;subst e;exact hs i x σ _ (y xs q) p
 .have e:i=xs.length:=by lia
  subst e;exact .inl #[#[xs,q,FM _],hd σ H p]
def jH{lo:Int}{n:Nat}{g:TG}{tb:TS}{D:Ends}(Pv:Nat->St->Hp->Prop)(h0:Pv 0 σ H)
  (hs:∀i σ H,i<n->Pv i σ H->g (.int (lo+i)) σ H λσ2 H2=>tb {D with nx:=Pv (i+1),ct:=Pv (i+1),bk:=D.nx} σ2 H2) (hd:∀σ H,Pv n σ H->D.nx σ H):
  ∃W:Nat->Nat->St->Hp->Prop,(∃m,W 0 m σ H)/\∀i m σ H,W i m σ H->
   ((Itr lo n).stop i H/\D.nx σ H)\/((Itr lo n).go i H/\∃N:St->Hp->Prop,(∀σ' H',N σ' H'->∃m',m'<m/\W (i+1) m' σ' H')/\∀x H',(Itr lo n).yld i H x H'->g x σ H' λσ2 H2=>tb {D with nx:=N,ct:=N,bk:=D.nx} σ2 H2):=by
 refine#[λi m σ H=>m=n-i/\i<=n/\Pv i σ H,#[n,Ld,Go _,h0],?_];rintro i m σ H ⟨rfl,hi,p⟩;by_cases f_:i<n
 .refine .inr #[f_,Pv (i+1),λσ' H' p'=>#[n-(i+1),Kd,rfl,f_,p'],λx H' y=>?_];obtain⟨e,y⟩:=y;subst e y;exact hs i σ _ f_ p
 .have e:i=n:=by lia
  subst e;exact .inl #[FM _,hd σ H p]
abbrev R2:=V->V->Hp->VK->Prop
def OpR(X:Cx)(f:KB->KB->Ts KB)(r:R2):Prop:=
 ∀(pins:List (KF×R_)) (s:KM) (σ:St) (H:Hp) (x y:V) (v u:KB) (Q:VK),Inv X pins σ H s->RelV x v->RelV y u->r x y H Q->
  RR (RS X.prog X.w) X.A (f v u) (EP X pins σ Q) X.xe s
def UnR(X:Cx)(f:KB->Ts KB)(r:V->Hp->VK->Prop):Prop:=
 ∀(pins:List (KF×R_)) (s:KM) (σ:St) (H:Hp) (x:V) (v:KB) (Q:VK),Inv X pins σ H s->RelV x v->r x H Q->
  RR (RS X.prog X.w) X.A (f v) (EP X pins σ Q) X.xe s
def bJ(X:Cx)(f:KB)(r:List V->Hp->VK->Prop):Prop:=
 ∀(pins:List (KF×R_)) (s:KM) (σ:St) (H:Hp) (xs:List V) (us:List KB) (Q:VK),Inv X pins σ H s->Vals xs us->r xs H Q->
  RR (RS X.prog X.w) X.A (call f us) (EP X pins σ Q) X.xe s
def TruR(X:Cx)(r:V->Hp->(Bool->Hp->Prop)->Prop):Prop:=
 ∀(pins:List (KF×R_)) (s:KM) (σ:St) (H:Hp) (x:V) (v:KB) (Q:Bool->Hp->Prop),Inv X pins σ H s->RelV x v->r x H Q->
  RR (RS X.prog X.w) X.A (truthy v) (TP X pins σ Q) X.xe s
def tOp(r:R2)(ta tb:TE):TE:=λσ H Q=>ta σ H λx H1=>tb σ H1 λy H2=>r x y H2 Q
def tUn(r:V->Hp->VK->Prop)(ta:TE):TE:=λσ H Q=>ta σ H λx H1=>r x H1 Q
def rI(C:Int->Int->Prop)(g:Int->Int->V):R2:=λx y H Q=>∃i j,x=.int i/\y=.int j/\C i j/\Q (g i j) H
def rI0(g:Int->Int->V):R2:=λx y H Q=>∃i j,x=.int i/\y=.int j/\Q (g i j) H
def rU(g:Int->V):V->Hp->VK->Prop:=λx H Q=>∃i,x=.int i/\Q (g i) H
section
variable {X:Cx}{a b c:RP}{ta tb tc:TE}{pos:R6}
variable{f:KB->KB->Ts KB}
def binT(ha:PE X a ta)(hb:PE X b tb){pins:List (KF×R_)}{s:KM}{σ:St}{H:Hp}{R:V->V->Hp->Prop}(I:Inv X pins σ H s)
  (h:ta σ H λx H1=>tb σ H1 λy H2=>R x y H2) {Q:KB->KM->Prop} 
  (hf:∀v u s2 x y H2,Inv X pins σ H2 s2->RelV x v->RelV y u->R x y H2->RR (RS X.prog X.w) X.A (f v u) Q X.xe s2):
  RR (RS X.prog X.w) X.A (R3 a X.env) (λv s₁=>RR (RS X.prog X.w) X.A (R3 b X.env) (λu s₂=>RR (RS X.prog X.w) X.A (f v u) Q X.xe s₂) X.xe s₁) X.xe s:=by
 refine thn (ha pins s σ H _ I h) λv s1 b9=>?_;obtain⟨x,H1,I1,r1,q1⟩:=b9;refine thn (hb pins s1 σ H1 _ I1 q1) λu s2 b9=>?_;obtain⟨y,H2,I2,r2,q2⟩:=b9;exact hf v u s2 x y H2 I2 r1 r2 q2
def qo{op:Operator}{r:R2}(ho:OpR X (Se op) r)(ha:PE X a ta)(hb:PE X b tb):PE X (.BinOp a op b pos) (tOp r ta tb):=by
 intro pins s σ H Q I h;exact wpAny_BinOp (binT ha hb I h λv u s2 x y H2 I2 rx ry q=>ho pins s2 σ H2 x y v u Q I2 rx ry q)
def wo{op:UnaryOp}{r:V->Hp->VK->Prop}(ho:UnR X (unaryOp op) r)(ha:PE X a ta):PE X (.UnaryOp op a pos) (tUn r ta):=by
 intro pins s σ H Q I h;exact UnaryOp_ (thn (ha pins s σ H _ I h) λv s1 ⟨x,H1,I1,r1,q1⟩=>ho pins s1 σ H1 x v Q I1 r1 q1)
variable{g:Int->Int->Int}
def opI{C:Int->Int->Prop}
  (rule:∀(i j:Int) (t u:Tok) (s:KM) (Q:KB->KM->Prop) (E:KB->KM->Prop),C i j->Q (.int (g i j) s.toks) {s with toks:=s.toks+1}->RR (RS X.prog X.w) X.A (f (.int i t) (.int j u)) Q E s):
  OpR X f (rI C λi j=>.int (g i j)):=by
 intro pins s σ H x y v u Q I rx ry h;obtain⟨i,j,rfl,rfl,hc,q⟩:=h;obtain⟨t,rfl⟩:=rx;obtain⟨t',rfl⟩:=ry;exact rule i j t t' s _ _ hc #[.int (g i j),H,I.tok _,#[_,rfl],q]
def opI0
  (rule:∀(i j:Int) (t u:Tok) (s:KM) (Q:KB->KM->Prop) (E:KB->KM->Prop),Q (.int (g i j) s.toks) {s with toks:=s.toks+1}->RR (RS X.prog X.w) X.A (f (.int i t) (.int j u)) Q E s):
  OpR X f (rI0 λi j=>.int (g i j)):=by
 intro pins s σ H x y v u Q I rx ry h;obtain⟨i,j,rfl,rfl,q⟩:=h;obtain⟨t,rfl⟩:=rx;obtain⟨t',rfl⟩:=ry;exact rule i j t t' s _ _ #[.int (g i j),H,I.tok _,#[_,rfl],q]
def opB0{g:Int->Int->Bool}
  (rule:∀(i j:Int) (t u:Tok) (s:KM) (Q:KB->KM->Prop) (E:KB->KM->Prop),Q (.bool (g i j)) s->RR (RS X.prog X.w) X.A (f (.int i t) (.int j u)) Q E s):
  OpR X f (rI0 λi j=>.bl (g i j)):=by
 intro pins s σ H x y v u Q I rx ry h;obtain⟨i,j,rfl,rfl,q⟩:=h;obtain⟨t,rfl⟩:=rx;obtain⟨t',rfl⟩:=ry;exact rule i j t t' s _ _ #[.bl (g i j),H,I,rfl,q]
def CDiv(i j:Int):Prop:=0<j/\j<1073741824
def CPow(i j:Int):Prop:=0<=j/\j<=1000000/\i.natAbs<2^64
def CMul(i j:Int):Prop:=(-(2^64)<i/\i<2^64)\/(-(2^64)<j/\j<2^64)
def CMul.ok{i j:Int}(h:CMul i j):IntMulOk i j:=by
 rcases h with⟨h1,h2⟩|⟨h1,h2⟩
 .exact .of_left (intBits_le_64 h1 h2)
 .exact .of_right (intBits_le_64 h1 h2)
def wr:OpR X (Se .Add) (rI0 λi j=>.int (i+j)):=opI0 λ_ _ _ _ _ _ _ q=>add_int q
def qp:OpR X (Se .Sub) (rI0 λi j=>.int (i-j)):=opI0 λ_ _ _ _ _ _ _ q=>sub_int q
def wt:OpR X (Se .Mult) (rI CMul λi j=>.int (i*j)):=opI λ_ _ _ _ _ _ _ hc q=>mul_int q hc.ok
def wu:OpR X (Se .FloorDiv) (rI CDiv λi j=>.int (i/j)):=opI λi j _ _ _ _ _ hc q=>by
 have h1:(0:Int)<j:=hc.1;have h2:j<1073741824:=hc.2;exact floordiv_int Kd (by rw[Int.fdiv_eq_ediv_of_nonneg i Kd];exact q) (.inl (PyProof.noPylong_small Kd))
def wv:OpR X (Se .Mod) (rI (λ_ j=>0<j) λi j=>.int (i%j)):=opI λi j _ _ _ _ _ hc q=>by
 have h1:(0:Int)<j:=hc;exact mod_int' Kd (by rw[Int.fmod_eq_emod_of_nonneg i Kd];exact q)
def ww:OpR X (Se .Mod) (rI (λ_ j=>j≠0) λi j=>.int (i.fmod j)):=opI λ_ _ _ _ _ _ _ hc q=>mod_int' hc q
def wx:OpR X (Se .Pow) (rI CPow λi j=>.int (i^j.toNat)):=opI λ_ _ _ _ _ _ _ hc q=>pow_int_small hc.1 hc.2.1 hc.2.2 q
def unI{f:KB->Ts KB}{g:Int->Int}
  (rule:∀(i:Int) (t:Tok) (s:KM) (Q:KB->KM->Prop) (E:KB->KM->Prop),Q (.int (g i) s.toks) {s with toks:=s.toks+1}->RR (RS X.prog X.w) X.A (f (.int i t)) Q E s):
  UnR X f (rU λi=>.int (g i)):=by
 intro pins s σ H x v Q I rx h;obtain⟨i,rfl,q⟩:=h;obtain⟨t,rfl⟩:=rx;exact rule i t s _ _ #[.int (g i),H,I.tok _,#[_,rfl],q]
def wy:UnR X (unaryOp .USub) (rU λi=>.int (-i)):=unI λ_ _ _ _ _ q=>neg_int q
end
def scal:V->V->Bool
 |.non,.non=>true|.non,.int _=>true|.int _,.non=>true|.non,.bl _=>true|.bl _,.non=>true|.non,.str _=>true|.str _,.non=>true
 |.int _,.int _=>true|.bl _,.bl _=>true|.str _,.str _=>true|.byt _,.byt _=>true
 |.int _,.str _=>true|.str _,.int _=>true|.bl _,.str _=>true|.str _,.bl _=>true
 |_,_=>false
def rEq:R2:=λx y H Q=>scal x y=true/\Q (.bl (decide (x=y))) H
def rNe:R2:=λx y H Q=>scal x y=true/\Q (.bl (!decide (x=y))) H
def qq{i j:Int}:decide (V.int i=V.int j)=(i==j):=by
 rw[Hg];simp
def qr{i j:Bool}:decide (V.bl i=V.bl j)=(i==j):=by
 rw[Hg];simp
def qt{i j:E_}:decide (V.str i=V.str j)=(i==j):=by
 rw[Hg];simp
def qu{i j:Array UInt8}:decide (V.byt i=V.byt j)=(i.toList==j.toList):=by
 rw[Hg];cases i;cases j;simp
section
variable {X:Cx}{a b c:RP}{ta tb tc:TE}{pos:R6}
def aR{pins:List (KF×R_)}{σ:St}{H:Hp}{s:KM}{Q:VK}{k k':Bool}(I:Inv X pins σ H s)(q:Q (.bl k) H)(e:k=k'):EP X pins σ Q (.bool k') s:=by
 subst e;exact#[.bl k,H,I,rfl,q]
def jI:OpR X (R5 .Eq) rEq:=by
 intro pins s σ H x y v u Q I rx ry h;obtain⟨hs,q⟩:=h;cases x with
 |non=>
  cases rx;cases y with
  |non=>cases ry;exact PySem.EqNone.eq_none_none (aR I q Ld)
  |bl j=>cases ry;exact PySem.EqNone.eq_none_bool (aR I q Ld)
  |int j=>obtain⟨t',rfl⟩:=ry;exact PySem.EqNone.eq_none_int (aR I q Ld)
  |str j=>obtain⟨t',rfl⟩:=ry;exact PySem.EqNone.eq_none_str (aR I q Ld)
  |_=>exact absurd (show false=true from hs) F6
 |bl i=>
  cases rx;cases y with
  |non=>cases ry;exact PySem.EqNone.eq_bool_none (aR I q Ld)
  |bl j=>cases ry;exact eq_bool (aR I q qr)
  |str j=>obtain⟨t',rfl⟩:=ry;exact PySem.EqMixed.eq_bool_str (aR I q Ld)
  |_=>exact absurd (show false=true from hs) F6
 |int i=>
  obtain⟨t,rfl⟩:=rx;cases y with
  |non=>cases ry;exact PySem.EqNone.eq_int_none (aR I q Ld)
  |int j=>obtain⟨t',rfl⟩:=ry;exact eq_int (aR I q qq)
  |str j=>obtain⟨t',rfl⟩:=ry;exact PySem.EqMixed.eq_int_str (aR I q Ld)
  |_=>exact absurd (show false=true from hs) F6
 |str i=>
  obtain⟨t,rfl⟩:=rx;cases y with
  |non=>cases ry;exact PySem.EqNone.eq_str_none (aR I q Ld)
  |bl j=>cases ry;exact PySem.EqMixed.eq_str_bool (aR I q Ld)
  |int j=>obtain⟨t',rfl⟩:=ry;exact PySem.EqMixed.eq_str_int (aR I q Ld)
  |str j=>obtain⟨t',rfl⟩:=ry;exact eq_str (aR I q qt)
  |_=>exact absurd (show false=true from hs) F6
 |byt i=>
  obtain⟨t,rfl⟩:=rx;cases y with
  |byt j=>obtain⟨t',rfl⟩:=ry;exact eq_bytes (aR I q qu)
  |_=>exact absurd (show false=true from hs) F6
 |_=>cases y<;>exact absurd (show false=true from hs) F6
def wz:OpR X (R5 .NotEq) rNe:=by
 intro pins s σ H x y v u Q I rx ry h;obtain⟨hs,q⟩:=h;cases x with
 |non=>
  cases rx;cases y with
  |non=>cases ry;exact PySem.EqNone.ne_none_none (aR I q Ld)
  |bl j=>cases ry;exact PySem.EqNone.ne_none_bool (aR I q Ld)
  |int j=>obtain⟨t',rfl⟩:=ry;exact PySem.EqNone.ne_none_int (aR I q Ld)
  |str j=>obtain⟨t',rfl⟩:=ry;exact PySem.EqNone.ne_none_str (aR I q Ld)
  |_=>exact absurd (show false=true from hs) F6
 |bl i=>
  cases rx;cases y with
  |non=>cases ry;exact PySem.EqNone.ne_bool_none (aR I q Ld)
  |bl j=>cases ry;exact ne_bool (aR I q (congrArg not qr))
  |str j=>obtain⟨t',rfl⟩:=ry;exact PySem.EqMixed.ne_bool_str (aR I q Ld)
  |_=>exact absurd (show false=true from hs) F6
 |int i=>
  obtain⟨t,rfl⟩:=rx;cases y with
  |non=>cases ry;exact PySem.EqNone.ne_int_none (aR I q Ld)
  |int j=>obtain⟨t',rfl⟩:=ry;exact ne_int (aR I q (congrArg not qq))
  |str j=>obtain⟨t',rfl⟩:=ry;exact PySem.EqMixed.ne_int_str (aR I q Ld)
  |_=>exact absurd (show false=true from hs) F6
 |str i=>
  obtain⟨t,rfl⟩:=rx;cases y with
  |non=>cases ry;exact PySem.EqNone.ne_str_none (aR I q Ld)
  |bl j=>cases ry;exact PySem.EqMixed.ne_str_bool (aR I q Ld)
  |int j=>obtain⟨t',rfl⟩:=ry;exact PySem.EqMixed.ne_str_int (aR I q Ld)
  |str j=>obtain⟨t',rfl⟩:=ry;exact ne_str (aR I q (congrArg not qt))
  |_=>exact absurd (show false=true from hs) F6
 |byt i=>
  obtain⟨t,rfl⟩:=rx;cases y with
  |byt j=>obtain⟨t',rfl⟩:=ry;exact ne_bytes (aR I q (congrArg not qu))
  |_=>exact absurd (show false=true from hs) F6
 |_=>cases y<;>exact absurd (show false=true from hs) F6
def jJ:OpR X (R5 .Lt) (rI0 λi j=>.bl (decide (i<j))):=opB0 λ_ _ _ _ _ _ _ q=>lt_int q
def qv:OpR X (R5 .LtE) (rI0 λi j=>.bl (decide (i<=j))):=opB0 λ_ _ _ _ _ _ _ q=>le_int q
def wA:OpR X (R5 .Gt) (rI0 λi j=>.bl (decide (j<i))):=opB0 λ_ _ _ _ _ _ _ q=>gt_int q
def wB:OpR X (R5 .GtE) (rI0 λi j=>.bl (decide (j<=i))):=opB0 λ_ _ _ _ _ _ _ q=>ge_int q
def jK:OpR X (R5 .Is) (λx y H Q=>y=.non/\Q (.bl (decide (x=.non))) H):=by
 intro pins s σ H x y v u Q I rx ry h;obtain⟨rfl,q⟩:=h;cases ry;refine is_none_gen (aR I q ?_);cases x<;>first
  |(cases rx;rfl)
  |(obtain⟨t,rfl⟩:=rx;rfl)
def wC:OpR X (R5 .IsNot) (λx y H Q=>y=.non/\Q (.bl (!decide (x=.non))) H):=by
 intro pins s σ H x y v u Q I rx ry h;obtain⟨rfl,q⟩:=h;cases ry;refine isnot_none_gen (aR I q ?_);cases x<;>first
  |(cases rx;rfl)
  |(obtain⟨t,rfl⟩:=rx;rfl)
variable{r:R2}
def OpR.or{f:KB->KB->Ts KB}{r':R2}(h:OpR X f r)(h':OpR X f r'):OpR X f (λx y H Q=>r x y H Q\/r' x y H Q):=by
 intro pins s σ H x y v u Q I rx ry q;rcases q with q|q
 .exact h pins s σ H x y v u Q I rx ry q
 .exact h' pins s σ H x y v u Q I rx ry q
variable{op:Te}
def nomark(b:RP)(h:autoParam (op≠.In) zA1)(h2:autoParam (op≠.NotIn) zA1):Sh op b=false:=by
 have e1:(op==CmpOp.In)=false:=by cases op<;>first|rfl|exact absurd rfl h
 have e2:(op==CmpOp.NotIn)=false:=by cases op<;>first|rfl|exact absurd rfl h2
 cases b<;>simp[Sh,e1,e2]
def wE(ho:OpR X (R5 op) r)(ha:PE X a ta)(hb:PE X b tb)(hm:Sh op b=false):PE X (.Compare a [op] [b] pos) (tOp r ta tb):=by
 intro pins s σ H Q I h;exact wpAny_Compare1 (binT ha hb I h λv u s2 x y H2 I2 rx ry q=>ho pins s2 σ H2 x y v u Q I2 rx ry q) hm
def qw(t:TE):TT:=λσ H Q=>t σ H λx H'=>∃k,x=.bl k/\Q k H'
def qy(ho:OpR X (R5 op) r)(ha:PE X a ta)(hb:PE X b tb)(hm:Sh op b=false):PT X (.Compare a [op] [b] pos) (qw (tOp r ta tb)):=by
 intro pins s σ H Q I h;refine wpAny_isTrue_Compare1 (thn (ha pins s σ H _ I h) λv s1 ⟨x,H1,I1,r1,q1⟩=>thn (hb pins s1 σ H1 _ I1 q1) λu s2 ⟨y,H2,I2,r2,q2⟩=>
  thn (ho pins s2 σ H2 x y v u _ I2 r1 r2 q2) λc s3 hh=>?_) hm
 obtain⟨z,H3,I3,r3,k,e,q3⟩:=hh;subst e;cases r3;exact Si #[H3,I3,q3]
def wF(r r':R2)(ta tb tc:TE):TE:=λσ H Q=>ta σ H λx H1=>tb σ H1 λy H2=>r x y H2 λz H3=>∃k,z=.bl k/\
 (if k=true then tc σ H3 λw' H4=>r' y w' H4 Q else Q (.bl false) H3)
def wG{Ke:Te}{r':R2}(ho:OpR X (R5 op) r)(u7:OpR X (R5 Ke) r')(ha:PE X a ta)(hb:PE X b tb)(hc:PE X c tc)
  (hm:autoParam (lastMarks [op,Ke] [b,c]=false) zA7):PT X (.Compare a [op,Ke] [b,c] pos) (qw (wF r r' ta tb tc)):=by
 intro pins s σ H Q I h;refine isTrue_chain (thn (ha pins s σ H _ I h) λv s1 ⟨x,H1,I1,r1,q1⟩=>test_link (thn (hb pins s1 σ H1 _ I1 q1) λu s2 ⟨y,H2,I2,r2,q2⟩=>
  thn (ho pins s2 σ H2 x y v u _ I2 r1 r2 q2) λd s3 hh=>?_)) hm
 obtain⟨z,H3,I3,r3,k,e,q3⟩:=hh;subst e;cases r3;refine Si ?_;cases k with
 |false=>
  obtain⟨k',e',q'⟩:=q3;cases e';exact ite_ff #[H3,I3,q']
 |true=>
  refine ite_tt (test_last (thn (hc pins s3 σ H3 _ I3 q3) λw' s4 ⟨z',H4,I4,r4,q4⟩=>thn (u7 pins s4 σ H4 y z' u w' _ I4 r2 r4 q4) λd' s5 b9=>?_));obtain⟨z2,H5,I5,r5,k2,e2,q5⟩:=b9;subst e2;cases r5;exact Si #[H5,I5,q5]
def TruV(K:Ex)(x:V)(H:Hp)(k:Bool):Prop:=
 match x with
 |.non=>k=false
 |.bl b=>k=b
 |.int i=>k=(i !=0)
 |.str y=>y.length<=sizeLine/\k=((y.length:Int) !=0)
 |.byt y=>y.size<=sizeLine/\k=((y.size:Int) !=0)
 |.ref p=>(∃xs,SqL K H p xs/\k=!xs.isEmpty)\/(∃xs,SqT K H p xs/\k=!xs.isEmpty)\/∃a8,H p=be (.dK a8)/\k=!a8.isEmpty
 |_=>False
def wH{κ:Type}{a8:List (κ×V)}{vs:List (κ×KB)}(r:KV a8 vs):(!vs.isEmpty)=!a8.isEmpty:=by
 cases r<;>rfl
def isEmpty_of{xs:List V}{its:List KB}(r:Vals xs its):(!its.toArray.isEmpty)=!xs.isEmpty:=by
 cases r<;>simp
def line63:(sizeLine:Nat)<2^63:=by rw[S5];decide
def wI:TruR X (λx H Q=>∃k,TruV X.K x H k/\Q k H):=by
 intro pins s σ H x v Q I rx h;obtain⟨k,e,q⟩:=h;have hl:=line63;have hs:sizeLine=16777216:=S5;cases x with
 |non=>
  cases rx;have e':k=false:=e;subst e';exact truthy_none #[H,I,q]
 |bl b=>
  cases rx;have e':k=b:=e;subst e';exact Si #[H,I,q]
 |int i=>
  obtain⟨t,rfl⟩:=rx;have e':k=(i !=0):=e;subst e';exact PySem.P.truthy_int #[H,I,q]
 |str y=>
  obtain⟨t,rfl⟩:=rx;obtain⟨hy,e'⟩:y.length<=sizeLine/\k=((y.length:Int) !=0):=e;subst e';exact PySem.P.truthy_str Kd #[H,I.tok _,q]
 |byt y=>
  obtain⟨t,rfl⟩:=rx;obtain⟨hy,e'⟩:y.size<=sizeLine/\k=((y.size:Int) !=0):=e;subst e';exact truthy_bytes Kd #[H,I.tok _,q]
 |ref p=>
  cases rx;have e':(∃xs,SqL X.K H p xs/\k=!xs.isEmpty)\/(∃xs,SqT X.K H p xs/\k=!xs.isEmpty)\/∃a8,H p=be (.dK a8)/\k=!a8.isEmpty:=e;rcases e' with⟨xs,hx,e'⟩|⟨xs,hx,e'⟩|⟨a8,hx,e'⟩
  .subst e';obtain⟨its,r,pl,hz⟩:=I.list hx;have b7:=r.length;exact wpAny_truthy_list pl.isList (by simp only[FR];lia) #[H,I.tok _,by rw[isEmpty_of r];exact q]
  .subst e';obtain⟨its,r,pl,hz⟩:=I.tuple hx;have b7:=r.length;exact truthy_tuple pl (by simp only[FR];lia) #[H,I.tok _,by rw[isEmpty_of r];exact q]
  .subst e';obtain⟨hz,hS,vs,r,m⟩:a8.length<=sizeLine/\(p==Sj)=false/\∃vs,KV a8 vs/\s.heap.DictOf (bR X.prog X.w) p vs:=I.hok p _ hx;have b7:a8.length=vs.length:=Paired.length r;exact wpAny_truthy_dict hS m Kd #[H,I.tok _,by rw[wH r];exact q]
 |_=>exact(show False from e).elim
def wJ(ha:PE X a ta)(he:∀g6,isTrue a X.env g6=(do let v <-g6;SQ a.pos;SF [v] (truthy v))):
  PT X a (λσ H Q=>ta σ H λx H'=>∃k,TruV X.K x H' k/\Q k H'):=by
 intro pins s σ H Q I h;exact isTrue_plain (thn (ha pins s σ H _ I h) λv s1 ⟨x,H1,I1,r1,q1⟩=>wI pins s1 σ H1 x v Q I1 r1 q1) (he _)
def wK:OpR X (Se .Add) (λx y H Q=>∃i j,x=.str i/\y=.str j/\i.length+j.length<=sizeLine/\Q (.str (i++j)) H):=by
 intro pins s σ H x y v u Q I rx ry h;obtain⟨i,j,rfl,rfl,hz,q⟩:=h;obtain⟨t,rfl⟩:=rx;obtain⟨t',rfl⟩:=ry;exact add_str (λt' tk=>#[.str (i++j),H,I.tok _,#[_,rfl],q]) hz
variable{us:List KB}
def bS{x:V}(r:Vals [x] us):∃u,us=[u]/\RelV x u:=by
 cases r with
 |cons r1 r2=>cases r2;exact#[_,rfl,r1]
def fG{x y:V}(r:Vals [x,y] us):∃u w',us=[u,w']/\RelV x u/\RelV y w':=by
 cases r with
 |cons r1 r2=>
  cases r2 with
  |cons r3 r4=>cases r4;exact#[_,_,rfl,r1,r3]
def wL:bJ X (.builtin "abs") (λxs H Q=>∃i,xs=[.int i]/\Q (.int (if i<0 then -i else i)) H):=by
 intro pins s σ H xs us Q I r h;obtain⟨i,rfl,q⟩:=h;obtain⟨u,rfl,t,rfl⟩:=bS r;exact call_abs_int λu tk=>#[.int (if i<0 then -i else i),H,I.tok _,#[_,rfl],q]
def wM(hc:X.calm=true):bJ X (.builtin "max") (λxs H Q=>∃i j,xs=[.int i,.int j]/\Q (.int (if j>i then j else i)) H):=by
 intro pins s σ H xs us Q I r h;obtain⟨i,j,rfl,q⟩:=h;obtain⟨u,w',rfl,⟨t,rfl⟩,⟨t',rfl⟩⟩:=fG r;refine max_two_ints (I.ok.hd hc) λh' tk k=>#[_,H,I.kept k,?_,q];by_cases hj:j>i
 .rw[if_pos hj,if_pos hj];exact#[_,rfl]
 .rw[if_neg hj,if_neg hj];exact#[_,rfl]
def wO(hc:X.calm=true):bJ X (.builtin "min") (λxs H Q=>∃i j,xs=[.int i,.int j]/\Q (.int (if j<i then j else i)) H):=by
 intro pins s σ H xs us Q I r h;obtain⟨i,j,rfl,q⟩:=h;obtain⟨u,w',rfl,⟨t,rfl⟩,⟨t',rfl⟩⟩:=fG r;refine min_two_ints (I.ok.hd hc) λh' tk k=>#[_,H,I.kept k,?_,q];by_cases hj:j<i
 .rw[if_pos hj,if_pos hj];exact#[_,rfl]
 .rw[if_neg hj,if_neg hj];exact#[_,rfl]
def wP:bJ X (.type "int") (λxs H Q=>(∃i,xs=[.int i]/\Q (.int i) H)\/∃k,xs=[.bl k]/\Q (.int (if k then 1 else 0)) H):=by
 intro pins s σ H xs us Q I r h;rcases h with⟨i,rfl,q⟩|⟨k,rfl,q⟩
 .obtain⟨u,rfl,t,rfl⟩:=bS r;exact call_int_int #[.int i,H,I,#[_,rfl],q]
 .obtain⟨u,rfl,r1⟩:=bS r;cases r1;exact call_int_bool #[.int (if k then 1 else 0),H,I.tok _,#[_,rfl],q]
def wQ:bJ X (.type "str") (λxs H Q=>∃i,xs=[.int i]/\i.natAbs.log2<1920/\Q (.str (toString i)) H):=by
 intro pins s σ H xs us Q I r h;obtain⟨i,rfl,hz,q⟩:=h;obtain⟨u,rfl,t,rfl⟩:=bS r;exact PySem.P.str_of_int hz #[.str _,H,I.tok _,#[_,rfl],q]
def LenV(K:Ex)(x:V)(H:Hp)(n:Nat):Prop:=
 match x with
 |.str y=>y.length<=sizeLine/\n=y.length
 |.byt y=>y.size<=sizeLine/\n=y.size
 |.ref p=>(∃xs,SqL K H p xs/\n=xs.length)\/∃xs,SqT K H p xs/\n=xs.length
 |_=>False
def jL:bJ X (.builtin "len") (λxs H Q=>∃x n,xs=[x]/\LenV X.K x H n/\Q (.int n) H):=by
 intro pins s σ H xs us Q I r h;obtain⟨x,n,rfl,e,q⟩:=h;obtain⟨u,rfl,rx⟩:=bS r;have hl:=line63;have hs:sizeLine=16777216:=S5;cases x with
 |str y=>
  obtain⟨t,rfl⟩:=rx;obtain⟨hy,e'⟩:y.length<=sizeLine/\n=y.length:=e;subst e';exact len_str Kd #[.int _,H,I.tok _,#[_,rfl],q]
 |byt y=>
  obtain⟨t,rfl⟩:=rx;obtain⟨hy,e'⟩:y.size<=sizeLine/\n=y.size:=e;subst e';exact len_bytes Kd #[.int _,H,I.tok _,#[_,rfl],q]
 |ref p=>
  cases rx;have e':(∃xs,SqL X.K H p xs/\n=xs.length)\/∃xs,SqT X.K H p xs/\n=xs.length:=e;rcases e' with⟨xs,hx,e'⟩|⟨xs,hx,e'⟩
  .subst e';obtain⟨its,r',pl,hz⟩:=I.list hx;have b7:=r'.length;exact Calls.call_len_list pl.isList (by simp only[FR];lia) #[.int xs.length,H,I.tok _,#[_,by simp only[FR];rw[b7]],q]
  .subst e';obtain⟨its,r',pl,hz⟩:=I.tuple hx;have b7:=r'.length;exact len_tuple pl (by simp only[FR];lia) #[.int xs.length,H,I.tok _,#[_,by simp only[FR];rw[b7]],q]
 |_=>exact(show False from e).elim
end
structure ObjM(h:RW)(x dx C:KF)(mA:Str->Option KB):Prop where
 obj:h.get? x=be (instObj C dx)
 ns:h.Ns1 dx mA
 ne:dx≠x
variable{mA:E_->Option KB}
def wR{dx:KF}(n:h.Ns1 dx mA):∃od,h.get? dx=be od/\∀name,lookIn name od=be (mA name):=by
 obtain⟨o,es,ep,ho,hd,hk,_,hm⟩:=n;refine#[o,ho,λname=>?_];have e:=hm name;unfold nsFind findBy at e;rw[<-Array.find?_toList]at e;unfold lookIn;rw[hd];dsimp only;split
 .rename_i y q;rw[q]at e;exact congrArg be e
 .rename_i q;rw[q]at e;have a:es.toList.any (·.refKey)=false:=by
   rw[List.any_eq_false];intro y hy;obtain⟨z,t,n4⟩:=hk y (Array.mem_toList_iff.mp hy);simp[DictEntry.refKey,n4]
  have a':¬es.toList.any (·.refKey)=true:=by rw[a];exact F6
  rw[if_neg a'];exact congrArg be e
variable{C:KF}
def ObjM.look{x dx:KF}(I:ObjM h x dx C mA):∃od,InstAt h x (instObj C dx) C (be od)/\∀name,lookIn name od=be (mA name):=
 let ⟨od,ho,hl⟩:=wR I.ns
 #[od,#[I.obj,rfl,rfl,ho],hl]
section
variable {prog:RQ}{w:RU}{A:RV}{E:KB->KM->Prop}{s:KM}{K:Ex}{x dx C f:KF}{mA:E_->Option KB}{name:E_}{v:KB}
def wS{MP:Bool}{Q:KB->KM->Prop}(X:K.In s.heap)(I:ObjM s.heap x dx C mA)(hg:plainGet K C name=true)(hh:hasDictIn K C=true)
  (ha:findIn K (.ref C) name=be s_) (hv:mA name=be v) (PF:handedIn v=true) (h:Q v {s with toks:=s.toks+1}):
  RR (RS prog w) A (getAttr (.ref x) name MP) Q E s:=by
 obtain⟨od,J,hl⟩:=I.look;exact get_value X J (plainGet_of hg).1 (findObj_own hh ha rfl (by rw[hl,hv])) PF h
def wT{pl:Ts Bool}{Q:KB×List KB->KM->Prop}(X:K.In s.heap)(I:ObjM s.heap x dx C mA)(hg:plainGet K C name=true)
  (hf:findIn K (.ref C) name=be (be (.ref f))) (ht:isFn K (.ref f)=true) (hv:mA name=s_) (h:Q (.ref f,[.ref x]) s):
  RR (RS prog w) A (Tb (.ref x) name pl) Q E s:=by
 obtain⟨od,J,hl⟩:=I.look;exact method_fn X J (plainGet_of hg).1 (plainGet_of hg).2 hf (beq_iff_eq.mp ht) (by show(lookIn name od).map (·.isSome)=be false;rw[hl,hv];rfl) h
def wU{ns:List E_}{Q:Unit->KM->Prop}(X:K.In s.heap)(I:ObjM s.heap x dx C mA)
  (hs:findIn K (.ref C) "__setattr__"=be (be (.builtin "object.__setattr__"))) (hp:plainOver K C=true) (ht:takerIn K C name=be s_) (hh:hasDictIn K C=true)
  (hw:PySem.Within mA ns) (gt:ns.length<=sizeLine)
  (h:∀h',ObjM h' x dx C (λy=>if y=name then be v else mA y)->Heap.SameBut dx s.heap h'->Q () {s with heap:=h',toks:=s.toks+2}):
  RR (RS prog w) A (setAttr (.ref x) name v) Q E s:=by
 obtain⟨od,J,hl⟩:=I.look;refine set_plain X J hs (osa_open (s:={s with toks:=s.toks+1}) (r:=s_) X J hp ht λb=>?_);obtain⟨cd,hc,d7⟩:=any_some hh;have hx:s.heap.get? x=be #[.ref C,be dx,.plain,[].toArray]:=I.obj;refine Os (RT (Os (Os (wpAny_loadPart hx (Os (PySem.W.Looks.here (s:={s with toks:=s.toks+1}) (looks_clsIn X hc) ?_))))));rw[d7];refine RT (a:=be dx) (Os (RT (Os ?_)));refine wpAny_nsSet1 (s:={s with toks:=s.toks+1}) I.ns λh' Kf l8=>?_;obtain⟨oD,Rb,Rc,PH,PJ,PK⟩:=Kf.count (PySem.Within.cons name v hw);refine Os (wpAny_lookBehind PH (by rw[PJ];exact pastItsLine_dict (FX PK (by rw[FV];lia))) ?_);exact RT (h _ #[(l8.2 _ (Ne.symm I.ne)).trans I.obj,Kf,I.ne] l8)
def wV{R:Result->KM->Prop}{vs:List KB}{kw:List (E_×KB)}(X:K.In s.heap)(hm:makesIn K C=true)
  (hi:findIn K (.ref C) "__init__"=be (be (.ref f))) (hf:typeIn K (.ref f)=be (.type "function"))
  (h:SR (RS prog w) (A.under (.builtin "type.__call__" #[.ref C::vs,kw])) (.call (.ref f) #[.ref (s.heap.objs.size+1)::vs,kw]) (InitBack (s.heap.objs.size+1) R)
   {s with heap:=(s.heap.push emptyDict).push (instObj C s.heap.objs.size)}):
  SR (RS prog w) A (.call (.ref C) #[vs,kw]) R s:=by
 obtain⟨hh,g,d,t,os⟩:=s;exact make_core (makes_of X hm) (looks_findIn X hi) (λself=>bind_fn X self hf) (.inl rfl) h
end
def putF(f:E_)(v:V):List (E_×V)->List (E_×V)
 |[]=>[(f,v)]
 |(g,x)::r=>if g=f then(g,v)::r else(g,x)::putF f v r
def qz(f g:E_)(v:V):∀fs:List (E_×V),(putF f v fs).lookup g=if g=f then be v else fs.lookup g
 |[]=>by
  show GR g [(f,v)]=_;by_cases h:g=f
  .have hb:(g==f)=true:=beq_iff_eq.mpr h;simp only[GR,hb,if_pos h]
  .have hb:(g==f)=false:=beq_eq_false_iff_ne.mpr h;simp only[GR,hb,if_neg h]
 |(k,x)::r=>by
  have ih:=qz f g v r;rw[show putF f v ((k,x)::r)=(if k=f then(k,v)::r else(k,x)::putF f v r)from rfl];by_cases hk:k=f
  .rw[if_pos hk];by_cases h:g=k
   .have hb:(g==k)=true:=beq_iff_eq.mpr h;simp only[GR,hb,if_pos (h.trans hk)]
   .have hb:(g==k)=false:=beq_eq_false_iff_ne.mpr h;simp only[GR,hb,if_neg (λe:g=f=>h (e.trans hk.symm))]
  .rw[if_neg hk];by_cases h:g=k
   .have hb:(g==k)=true:=beq_iff_eq.mpr h;simp only[GR,hb,if_neg (λe:g=f=>hk (h.symm.trans e))]
   .have hb:(g==k)=false:=beq_eq_false_iff_ne.mpr h;simp only[GR,hb];exact ih
def jM(f:E_)(v:V):∀fs:List (E_×V),f∈(putF f v fs).map (·.1)/\∀g,g∈fs.map (·.1)->g∈(putF f v fs).map (·.1)
 |[]=>#[by simp[putF],λg h=>by simp at h]
 |(k,x)::r=>by
  obtain⟨i1,i2⟩:=jM f v r;rw[show putF f v ((k,x)::r)=(if k=f then(k,v)::r else(k,x)::putF f v r)from rfl];by_cases hk:k=f
  .rw[if_pos hk];subst hk;exact#[Ld,λg h=>by simpa using h]
  .rw[if_neg hk];refine#[?_,λg h=>?_]
   .rw[FY];exact FS _ i1
   .rw[FY]at h ⊢;rcases FQ.mp h with e|e
    .exact FQ.mpr (.inl e)
    .exact FS _ (i2 g e)
def qA(f:E_)(v:V):∀fs:List (E_×V),(putF f v fs).length<=fs.length+1
 |[]=>by simp[putF]
 |(k,x)::r=>by
  have ih:=qA f v r;rw[show putF f v ((k,x)::r)=(if k=f then(k,v)::r else(k,x)::putF f v r)from rfl];by_cases hk:k=f
  .rw[if_pos hk,FV,FV];lia
  .rw[if_neg hk,FV,FV];lia
def RelO.some_of{v:V}{o:Option KB}(r:RelO (be v) o):∃u,o=be u/\RelV v u:=by
 cases o with
 |none=>exact(show False from r).elim
 |some u=>exact#[u,rfl,r]
def RelO.none_of{o:Option KB}(r:RelO s_ o):o=none:=by
 cases o with
 |none=>rfl
 |some u=>exact(show False from r).elim
def wW{v:V}(r:RelV v u):handedIn u=true:=by
 cases v with
 |non=>cases(show u=Value.none from r);rfl
 |bl b=>cases(show u=Value.bool b from r);rfl
 |int i=>obtain⟨t,e⟩:=(show ∃t,u=Value.int i t from r);cases e;rfl
 |str x=>obtain⟨t,e⟩:=(show ∃t,u=Value.str x t from r);cases e;rfl
 |byt b=>obtain⟨t,e⟩:=(show ∃t,u=Value.bytes b t from r);cases e;rfl
 |flt b=>obtain⟨t,e⟩:=(show ∃t,u=Value.float b t from r);cases e;rfl
 |ref a=>cases(show u=Value.ref a from r);rfl
 |ty n=>cases(show u=Value.type n from r);rfl
section
variable {P:RQ}{w:RU}{H H':Hp}{h h':RW}{a C dx:KF}{fs m8:List (E_×V)}
def gz(hok:HOk P w H h)(e:H a=be (.ins C dx fs)):∃mA,ObjM h a dx C mA/\(∀f,RelO (fs.lookup f) (mA f))/\PySem.Within mA (fs.map (·.1))/\fs.length<=1000/\H dx=be (.own a):=by
 obtain⟨d,z,ne,ob,mA,n,r,q⟩:=(show ObjOk P w H h a (.ins C dx fs)from hok a _ e);exact#[mA,#[ob,n,ne],r,q,z,d]
end
structure Cls(K:Ex)(C:KF):Prop where
 pg:plainGet K C Str.empty=true
 hd:hasDictIn K C=true
 po:plainOver K C=true
 sa:findIn K (.ref C) "__setattr__"=be (be (.builtin "object.__setattr__"))
def Cls.get(c:Cls K C)(f:E_):plainGet K C f=true:=c.pg
def NoAttr(K:Ex)(C:KF)(f:E_):Prop:=findIn K (.ref C) f=be s_
def NoAttr.taker{f:E_}(n:NoAttr K C f):takerIn K C f=be none:=by
 unfold takerIn;rw[show findIn K (.ref C) f=be s_ from n];rfl
structure Con(K:Ex)(C:KF)(f:Str)(v:V)(u:KB):Prop where
 at_:findIn K (.ref C) f=be (be u)
 rel:RelV v u
 get:specialIn K u "__get__"=be s_
 cp:PySem.W.copiedNames.contains f=false
structure Meth(K:Ex)(C:KF)(m:Str)(f:KF):Prop where
 at_:findIn K (.ref C) m=be (be (.ref f))
 fn:isFn K (.ref f)=true
 kp:keepIn K (.ref f)=true
section
variable {X:Cx}{pins:List (KF×R_)}{σ:St}{H:Hp}{s:KM}{a C dx:KF}{fs:List (E_×V)}{f:E_}{v:V}{A:RV}{E:KB->KM->Prop}
variable{Q:KB->KM->Prop}
def wX{b:Bool}(I:Inv X pins σ H s)(e:H a=be (.ins C dx fs))(c:Cls X.K C)(n:NoAttr X.K C f)(l:fs.lookup f=be v)
  (h:∀u s',Inv X pins σ H s'->RelV v u->Q u s'):RR (RS X.prog X.w) A (getAttr (.ref a) f b) Q E s:=by
 obtain⟨mA,O,r,_,_,_⟩:=gz I.hok e;obtain⟨u,hu,ru⟩:=RelO.some_of (v:=v) (o:=mA f) (by rw[<-l];exact r f);exact wS I.kIn O (c.get f) c.hd n hu (wW ru) (h u _ (I.tok _) ru)
def qB{m:E_}{g:KF}{pl:Ts Bool}{Q:KB×List KB->KM->Prop}(I:Inv X pins σ H s)(e:H a=be (.ins C dx fs))(c:Cls X.K C)(k:Meth X.K C m g)(l:fs.lookup m=s_)
  (h:Q (.ref g,[.ref a]) s):RR (RS X.prog X.w) A (Tb (.ref a) m pl) Q E s:=by
 obtain⟨mA,O,r,_,_,_⟩:=gz I.hok e;have hn:mA m=none:=RelO.none_of (by rw[<-l];exact r m);exact wT I.kIn O (c.get m) k.at_ k.fn hn h
def wY{y:V}{u:KB}{Q:Unit->KM->Prop}(I:Inv X pins σ H s)(e:H a=be (.ins C dx fs))(c:Cls X.K C)(n:NoAttr X.K C f)(hl:fs.length<1000)(ry:RelV y u)
  (h:∀s',Inv X pins σ (upd H a (.ins C dx (putF f y fs))) s'->Q () s'):RR (RS X.prog X.w) A (setAttr (.ref a) f u) Q E s:=by
 obtain⟨mA,O,r,wi,_,ho⟩:=gz I.hok e;have hz:(fs.map (·.1)).length<=sizeLine:=by rw[FP,S5];lia
 refine wU I.kIn O c.sa c.po n.taker c.hd wi hz λh' O' sb=>h _ ?_;have hd:∃o,h'.get? dx=be o:=let ⟨o,_,_,e',_⟩:=O'.ns;#[o,e']
 refine I.write (x:=a) (e:=dx) (by rw[e];exact True.intro) (.inr ho) (λb q hb z=>(sb.2 b hb).trans z) hd ?_;refine#[by rw[aD O.ne];exact ho,?_,O.ne,O'.obj,_,O'.ns,λg=>?_,λg hg=>?_]
 .have:=qA f y fs;lia
 .show RelO ((putF f y fs).lookup g) (if g=f then be u else mA g);rw[qz];by_cases q:g=f
  .rw[if_pos q,if_pos q];exact ry
  .rw[if_neg q,if_neg q];exact r g
 .by_cases q:g=f
  .rw[q];exact(jM f y fs).1
  .refine(jM f y fs).2 g (wi g λz=>hg ?_);show(if g=f then be u else mA g)=s_;rw[if_neg q];exact z
def Inv.made(I:Inv X pins σ H s):Inv X pins σ (upd (upd H s.heap.objs.size (.own (s.heap.objs.size+1))) (s.heap.objs.size+1) (.ins C s.heap.objs.size []))
  {s with heap:=(s.heap.push emptyDict).push (instObj C s.heap.objs.size)}:=by
 have e1:(s.heap.push emptyDict).get? s.heap.objs.size=be emptyDict:=Heap.get?_push_size s.heap rfl;have e2:((s.heap.push emptyDict).push (instObj C s.heap.objs.size)).get? (s.heap.objs.size+1)=be (instObj C s.heap.objs.size):=by
  have:=Heap.get?_push_size (s.heap.push emptyDict) (o:=instObj C s.heap.objs.size) rfl;rwa [Heap.size_push]at this
 have e3:(s.heap.push emptyDict).Ns s.heap.objs.size (λ_=>s_):=#[emptyDict,[].toArray,_,e1,rfl,(λe he=>absurd he Ld),λ_=>rfl];have I1:=I.laid (a:=s.heap.objs.size) (o:=.own (s.heap.objs.size+1)) (h':=s.heap.push emptyDict) (t':=s.toks) (λb u q=>Heap.get?_push_of_some _ q) (FM _) #[_,e1];refine I1.laid (a:=s.heap.objs.size+1) (o:=.ins C s.heap.objs.size []) (t':=s.toks) (λb u q=>Heap.get?_push_of_some _ q) (Hw (Heap.size_push _ _)) ?_;have ne:s.heap.objs.size≠s.heap.objs.size+1:=FW (Ix _);refine#[by rw[aD ne,aL],Go _,ne,e2,λ_=>s_,(Heap.Ns1.of_empty e3).at λo q=>Heap.get?_push_of_some _ q,λ_=>True.intro,λy hy=>absurd rfl hy]
def attr_of{prog:RQ}{w:RU}{env:SG}{e:RP}{f:E_}{pos:R6}{s:KM}(hb:R1 e f env (R3 e env)=R3 e env)
  (h:RR (RS prog w) A (R3 e env) (λo s₁=>RR (RS prog w) A (getAttr o f true) Q E s₁) E s):RR (RS prog w) A (R3 (.Attribute e f pos) env) Q E s:=
 Attribute_any_ h (by rw[arm_eval_Attribute,hb])
end
def tFld(K:Ex)(ta:TE)(f:E_):TE:=λσ H Q=>ta σ H λx H1=>∃a C dx fs v,x=.ref a/\H1 a=be (.ins C dx fs)/\Cls K C/\NoAttr K C f/\fs.lookup f=be v/\Q v H1
def sFld(K:Ex)(ta tv:TE)(f:E_):TS:=λD σ H=>tv σ H λy H1=>ta σ H1 λx H2=>∃a C dx fs,x=.ref a/\H2 a=be (.ins C dx fs)/\Cls K C/\NoAttr K C f/\fs.length<1000/\
 D.nx σ (upd H2 a (.ins C dx (putF f y fs)))
section
variable {X:Cx}{o e value:RP}{f:E_}{pos c_ PL:R6}{ta tv:TE}
def qC(he:PE X e ta)(hb:R1 e f X.env (R3 e X.env)=R3 e X.env):PE X (.Attribute e f pos) (tFld X.K ta f):=by
 intro pins s σ H Q I h;refine attr_of hb (thn (he pins s σ H _ I h) λu s1 b9=>?_);obtain⟨x,H1,I1,rx,a,C,dx,fs,v,ex,ea,c,n,l,q⟩:=b9;subst ex;obtain rfl:u=Value.ref a:=rx;exact wX I1 ea c n l λu' s2 I2 ru=>#[v,H1,I2,ru,q]
def qD(ha:PE X o ta)(hv:PE X value tv)(hs:R9 value (be (.Attribute o f c_)) pos.line X.env=pure false):PS X (.Assign [.Attribute o f c_] value pos) (sFld X.K ta tv f):=by
 intro pins s σ H D I h;refine plainObj_wpAny_Assign_Attribute (thn (hv pins s σ H _ I h) λu s1 ⟨y,H1,I1,ry,q⟩=>thn (ha pins s1 σ H1 _ I1 q) λov s2 hh=>?_) hs;obtain⟨x,H2,I2,rx,a,C,dx,fs,ex,ea,c,n,l,q2⟩:=hh;subst ex;obtain rfl:ov=Value.ref a:=rx;exact wY I2 ea c n l ry λs3 I3=>#[σ,_,I3,q2]
end
section
variable {X:Cx}{pins:List (KF×R_)}{σ:St}{H:Hp}{s:KM}{A:RV}{E:KB->KM->Prop}{Q:KB->KM->Prop}{c:KB}{b:Bool}
inductive TyOf(K:Ex)(H:Hp):V->KB->Prop where
 |non:TyOf K H .non (.type "NoneType")
 |bl (x:Bool):TyOf K H (.bl x) (.type "bool")
 |int (i:Int):TyOf K H (.int i) (.type "int")
 |str (x:Str):TyOf K H (.str x) (.type "str")
 |flt (x:UInt64):TyOf K H (.flt x) (.type "float")
 |lst {a:KF} {xs:List V} (e:H a=some (.lst xs)):TyOf K H (.ref a) (.type "list")
 |frz {a:KF} {o:R_} {xs:List V} (e:H a=some (.frz o (.lst xs))):TyOf K H (.ref a) (.type "list")
 |tup {a:KF} {xs:List V} (e:H a=some (.tup xs)):TyOf K H (.ref a) (.type "tuple")
 |dK {a:KF} {a8:List (Key×V)} (e:H a=some (.dK a8)):TyOf K H (.ref a) (.type "dict")
 |dT {a:KF} {a8:List (List Key×V)} (e:H a=some (.dT a8)):TyOf K H (.ref a) (.type "dict")
 |ins {a C dx:KF} {fs:List (Str×V)} (e:H a=some (.ins C dx fs)) (cl:Cls K C) (ha:findIn K (.ref C) "__class__"=some (some (.builtin "object.__class__")))
   (hn:specialIn K (.builtin "object.__class__") "__get__"=be (be (.builtin "getset_descriptor.__get__"))) (htk:takesIn K (.builtin "object.__class__")=be true)
   (hm:mroIn K C (.type "object")=be true):TyOf K H (.ref a) (.ref C)
def wZ{x:V}{u t:KB}(I:Inv X pins σ H s)(rx:RelV x u)(ty:TyOf X.K H x t)(e:kitOne X.K t c=be b)(h:∀tk,Q (.bool b) {s with toks:=tk}):
  RR (RS X.prog X.w) A (call (.builtin "isinstance") [u,c]) Q E s:=by
 cases ty with
 |non=>cases(show u=Value.none from rx);exact kia_one kitx_none I.kIn True.intro e (λz=>nomatch z) h
 |bl y=>cases(show u=Value.bool y from rx);exact kia_one kitx_bool I.kIn True.intro e (λz=>nomatch z) h
 |int i=>obtain⟨t,q⟩:=(show ∃t,u=Value.int i t from rx);cases q;exact kia_one kitx_int I.kIn True.intro e (λz=>nomatch z) h
 |str y=>obtain⟨t,q⟩:=(show ∃t,u=Value.str y t from rx);cases q;exact kia_one kitx_str I.kIn True.intro e (λz=>nomatch z) h
 |flt y=>obtain⟨t,q⟩:=(show ∃t,u=Value.float y t from rx);cases q;exact kia_one kitx_float I.kIn True.intro e (λz=>nomatch z) h
 |@lst a xs ea=>
  cases(show u=Value.ref a from rx);obtain⟨_,_,n,_,h1⟩:=(show ObjOk X.prog X.w H s.heap a (.lst xs)from I.hok a _ ea);exact kia_one kitx_list I.kIn #[_,h1,rfl] e (λz=>nomatch z) h
 |@frz a ob xs ea=>
  cases(show u=Value.ref a from rx);obtain⟨_,_,_,n,_,h1⟩:=(show ObjOk X.prog X.w H s.heap a (.frz ob (.lst xs))from I.hok a _ ea);exact kia_one kitx_list I.kIn #[_,h1,rfl] e (λz=>nomatch z) h
 |@tup a xs ea=>
  cases(show u=Value.ref a from rx);obtain⟨_,_,_,p⟩:=(show ObjOk X.prog X.w H s.heap a (.tup xs)from I.hok a _ ea);obtain⟨o,h1,h2,_⟩:=p;exact kia_one kitx_tuple I.kIn #[o,h1,h2] e (λz=>nomatch z) h
 |@dK a a8 ea=>
  cases(show u=Value.ref a from rx);obtain⟨_,_,vs,_,p⟩:=(show ObjOk X.prog X.w H s.heap a (.dK a8)from I.hok a _ ea);obtain⟨o,es,ep,h1,h2,_⟩:=p;exact kia_one kitx_dict I.kIn #[o,h1,h2.1] e (λz=>nomatch z) h
 |@dT a a8 ea=>
  cases(show u=Value.ref a from rx);obtain⟨_,_,xs,_,o,es,ep,h1,h2,_⟩:=(show ObjOk X.prog X.w H s.heap a (.dT a8)from I.hok a _ ea);exact kia_one kitx_dict I.kIn #[o,h1,h2.1] e (λz=>nomatch z) h
 |@ins a C dx fs ea cl ha hn htk hm=>
  cases(show u=Value.ref a from rx);obtain⟨mA,O,_⟩:=gz I.hok ea;obtain⟨od,J,_⟩:=O.look;exact kia_one (kitx_own (cl.get _) cl.hd ha hn htk hm) I.kIn J e (λz=>nomatch z) h
end
structure Room(k:Nat)(A:RV):Prop where
 hd:A.handled=s_
 dp:A.depth+3*k+5<recursionLimit
 un:A.units+16*k+200<SY
variable{k:Nat}
def Room.mono{j:Nat}(r:Room k A)(h:j<=k):Room j A:=#[r.hd,by have:=r.dp;lia,by have:=r.un;lia]
def Room.deeper(r:Room (k+1) A)(env:SG):Room k (A.deeper env):=
 #[r.hd,by have:=r.dp;show A.depth+1+3*k+5<_;lia,by have:=r.un;show A.units+3+16*k+200<_;lia]
def Room.in1(r:Room (k+1) A):Room k A.in1:=
 #[r.hd,by have:=r.dp;show A.depth+3*k+5<_;lia,by have:=r.un;show A.units+1+16*k+200<_;lia]
variable{kw:List (E_×KB)}
def xa:(A.under (.builtin "type.__call__" #[.ref C::us,kw])).depth=A.depth+1:=by
 first|rfl|simp[Around.under,Code.weight,Code.isCreation,Code.isGuard,Code.isCaller,Code.frames,Code.isFrame,guardIds]
def xb:(A.under (.builtin "type.__call__" #[.ref C::us,kw])).units=A.units+1:=by
 first|rfl|simp[Around.under,Code.cUnits,Code.frames,Code.isFrame]
def Room.make(r:Room (k+1) A)(C:KF)(us:List KB)(kw:List (E_×KB)):Room k (A.under (.builtin "type.__call__" #[.ref C::us,kw])):=
 #[r.hd,by have:=r.dp;rw[xa];lia,by have:=r.un;rw[xb];lia]
def Room.depth(r:Room k A):A.depth<recursionLimit:=by have:=r.dp;lia
def Room.units(r:Room k A):A.units+64<SY:=by have:=r.un;lia
def tNil:TA:=λ_ H Q=>Q [] H
def gA(ta:TE)(tr:TA):TA:=λσ H Q=>ta σ H λx H1=>tr σ H1 λxs H2=>Q (x::xs) H2
section
variable {X:Cx}{e:RP}{es:List RP}{te:TE}{t:TA}{pos:R6}
def pa_nil:PA X [] tNil:=λ_ _ _ _ H Q I h=>Calls.spliced_nil #[[],H,I,.nil,h]
def bz(ha:PE X e te)(hr:PA X es t)(hs:autoParam (zSE X e es) zA0):PA X (e::es) (gA te t):=by
 intro pos pins s σ H Q I h;rw[hs];show RR _ _ (spliced ((false,R3 e X.env)::Sz pos (RY es X.env))) _ _ s;refine Calls.spliced_cons (thn (ha pins s σ H _ I h) λu s1 b9=>?_);obtain⟨x,H1,I1,r1,q1⟩:=b9;exact thn (hr pos pins s1 σ H1 _ I1 q1) λus s2 ⟨xs,H2,I2,r2,q2⟩=>#[x::xs,H2,I2,.cons r1 r2,q2]
def tTup(t:TA):TE:=λσ H Q=>t σ H λxs H1=>xs.length<=sizeLine/\∀p,H1 p=s_->Q (.ref p) (upd H1 p (.tup xs))
def tLst(t:TA):TE:=λσ H Q=>t σ H λxs H1=>xs.length<=sizeLine/\∀p,H1 p=s_->Q (.ref p) (upd H1 p (.lst xs))
def qE{x1}(h:PA X es t):PE X (.Tuple es x1 pos) (tTup t):=by
 intro pins s σ H Q I hq;refine wpAny_Tuple_spliced (thn (h pos pins s σ H _ I hq) λus s1 ⟨xs,H1,I1,r,z,q⟩=>#[by rw[<-r.length];exact z,?_]);have hf:H1 s1.heap.objs.size=none:=I1.hok.fresh (FM _);refine#[.ref s1.heap.objs.size,upd H1 s1.heap.objs.size (.tup xs),I1.laid (t':=s1.toks) (λb u e=>Heap.get?_push_of_some _ e) (FM _) ?_,rfl,q _ hf];exact#[z,us,r,#[_,Heap.get?_push_size _ rfl,rfl,_,rfl]]
def jN(h:PA X es t):PE X (.List es pos) (tLst t):=by
 intro pins s σ H Q I hq;refine wpAny_List_spliced (thn (h pos pins s σ H _ I hq) λus s1 ⟨xs,H1,I1,r,z,q⟩=>#[by rw[<-r.length];exact z,?_]);have hf:H1 s1.heap.objs.size=none:=I1.hok.fresh (FM _);refine#[.ref s1.heap.objs.size,upd H1 s1.heap.objs.size (.lst xs),I1.laid (t':=s1.toks) (λb u e=>Heap.get?_push_of_some _ e) (FM _) ?_,rfl,q _ hf];exact#[z,us,0,r,Heap.get?_push_size _ rfl]
end
abbrev Sp:=List V->Hp->VK->XK->Prop
abbrev CXT:=List SG->Hp->KM->XK->KB->KM->Prop
structure Env0(P:RQ)(w:RU)(K:Ex)(mg:Str->Option KB)(base:RW)(A:RV)(outer:List SG)(s:KM)(H:Hp):Prop where
 frames:A.frames=be outer
 mod:Mod K mg base
 bs:∀b o,base.get? b=be o->s.heap.get? b=be o/\H b=s_
 bsz:base.objs.size<=s.heap.objs.size
 funs:s.heap.FunFrames base outer
 frf:∀b∈frs outer,H b=s_
 hok:HOk P w H s.heap
 bare:SH s.gens
def CE(outer:List SG)(P:RQ)(w:RU)(H:Hp)(s:KM)(Q:VK)(u:KB)(s':KM):Prop:=
 ∃v H',s'.os=s.os/\SH s'.gens/\Un (frs outer) [] H H' s.heap s'.heap/\HOk P w H' s'.heap/\RelV v u/\Q v H'
def CR(CX:CXT)(outer:List SG)(P:RQ)(w:RU)(H:Hp)(s:KM)(Q:VK)(E:XK)(r:Result)(s':KM):Prop:=
 match r with
 |.ok (.ret u)=>CE outer P w H s Q u s'
 |.ok _=>False
 |.error e=>CX outer H s E e s'
structure FnOk(P:RQ)(w:RU)(K:Ex)(mg:Str->Option KB)(base:RW)(CX:CXT)(k:Nat)(f:KF)(fd:R4)(ps:List Str)(sp:Sp):Prop where
 len:∀vs H Q E,sp vs H Q E->vs.length=ps.length
 run:∀(A:RV) (outer:List SG) (s:KM) (H:Hp) (args:Args) (us:List KB) (vs:List V) (Q:VK) (E:XK),Room k A->Env0 P w K mg base A outer s H->S2 s fd args (ps.zip us)->Vals vs us->sp vs H Q E->
  SR (RS P w) A (.call (.ref f) args) (CR CX outer P w H s Q E) s
variable{f:KF}{mg:E_->Option KB}{base:RW}{CX:CXT}{fd:R4}{ps:List E_}{sp:Sp}
def FnOk.mono{j:Nat}(F:FnOk P w K mg base CX j f fd ps sp)(h:j<=k):
  FnOk P w K mg base CX k f fd ps sp:=#[F.len,λA outer s H args us vs Q E hr=>F.run A outer s H args us vs Q E (hr.mono h)]
def FnOk.imp{JY:Sp}(F:FnOk P w K mg base CX k f fd ps sp)
  (h:∀vs H Q E,JY vs H Q E->sp vs H Q E):FnOk P w K mg base CX k f fd ps JY:=
 #[λvs H Q E q=>F.len vs H Q E (h _ _ _ _ q),λA outer s H args us vs Q E hr he hb hv hs=>F.run A outer s H args us vs Q E hr he hb hv (h _ _ _ _ hs)]
variable{outer:List SG}
def Env0.make(e:Env0 P w K mg base A outer s H)(C:KF)(us:List KB)(kw:List (E_×KB)):
  Env0 P w K mg base (A.under (.builtin "type.__call__" #[.ref C::us,kw])) outer s H:=#[by first|exact e.frames|(simpa[Around.under,Code.envs,Code.isFrame,pushEnvs]using e.frames),e.mod,e.bs,e.bsz,e.funs,e.frf,e.hok,e.bare]
def Env0.in1(e:Env0 P w K mg base A outer s H):
  Env0 P w K mg base A.in1 outer s H:=#[e.frames,e.mod,e.bs,e.bsz,e.funs,e.frf,e.hok,e.bare]
section
variable {X:Cx}{pins:List (KF×R_)}{σ:St}{H:Hp}{s s':KM}
def Inv.env0(I:Inv X pins σ H s):Env0 X.prog X.w X.K X.mg X.base X.A X.stack s H:=
 #[I.ok.frames,I.ok.mod,I.bs,FX I.ok.bsz I.sz,I.stack,I.stkFree,I.hok,I.bare]
def Inv.after{Q:VK}{u:KB}(I:Inv X pins σ H s)(h:CE X.stack X.prog X.w H s Q u s'):EP X pins σ Q u s':=by
 obtain⟨v,H',os,bare,un,hok,r,q⟩:=h;obtain⟨hh,g,d,t,PM⟩:=s';obtain rfl:PM=s.os:=os;exact#[v,H',I.call (h':=hh) (g':=g) (d':=d) (t':=t) (ch:=[]) un hok bare (λb z=>absurd z Ld),r,q]
end
def qF(sp:Sp)(n5:List V)(E:XK)(t:TA):TE:=λσ H Q=>t σ H λvs H1=>sp (vs++n5) H1 Q E
def xc(C:KF)(sp:Sp)(n5:List V)(E:XK)(t:TA):TE:=λσ H Q=>t σ H λvs H1=>∀x dx,H1 x=s_->H1 dx=s_->dx≠x->
 sp (.ref x::(vs++n5)) (upd (upd H1 dx (.own x)) x (.ins C dx [])) (λv H2=>v=.non/\Q (.ref x) H2) E
def Binds(K:Ex)(fd:R4)(ps:List E_)(ds:List KB):Prop:=
 ∀(s:KM) (us:List KB),K.In s.heap->(us++ds).length=ps.length->S2 s fd #[us,[]] (ps.zip (us++ds))
def Binds.all(h:∀us:List KB,us.length=ps.length->Sv fd #[us,[]]=pure (ps.zip us)):Binds K fd ps []:=λs us _ hl=>by
 rw[GB]at hl ⊢;exact .of_eq (h us hl)
def fH(CX:CXT)(X:Cx)(E:XK):Prop:=∀(pins:List (KF×R_)) (σ:St) (H:Hp) (s:KM) (e:KB) (s':KM),Inv X pins σ H s->CX X.stack H s E e s'->X.xe e s'
section
variable {X:Cx}{CX:CXT}{k:Nat}{f C:KF}{fd:R4}{ps:List E_}{sp:Sp}{n5:List V}{ds:List KB}{E:XK}{x m:E_}{p pos apos:R6}{e o:RP}{es:List RP}{ta:TE}{t:TA}
variable{pins:List (KF×R_)}{us:List KB}{vs:List V}
def xf{σ:St}{H:Hp}{s:KM}{Q:VK}(F:FnOk X.prog X.w X.K X.mg X.base CX k f fd ps sp)(hr:Room k X.A)(hb:Binds X.K fd ps ds)(hd:Vals n5 ds)(hx:fH CX X E)
  (I:Inv X pins σ H s) (r:Vals vs us) (h:sp (vs++n5) H Q E):RR (RS X.prog X.w) X.A (call (.ref f) us) (EP X pins σ Q) X.xe s:=by
 have r2:Vals (vs++n5) (us++ds):=r.append hd;have hl:(us++ds).length=ps.length:=by rw[<-r2.length];exact F.len _ _ _ _ h
 refine Tv (SL (F.run X.A X.stack s H #[us,[]] (us++ds) (vs++n5) Q E hr I.env0 (hb s us I.kIn hl) r2 h) λr s' hq=>?_);cases r with
 |error e=>exact hx pins σ H s e s' I hq
 |ok fl=>
  cases fl with
  |ret u=>exact I.after hq
  |next=>exact False.elim hq
  |brk=>exact False.elim hq
  |cont=>exact False.elim hq
def xg(F:FnOk X.prog X.w X.K X.mg X.base CX k f fd ps sp)(hr:Room k X.A)(hg:Gl X x)(hm:X.mg x=be (.ref f))(hk:keepIn X.K (.ref f)=true)(hb:Binds X.K fd ps ds)(hd:Vals n5 ds)(hx:fH CX X E)
  (ha:PA X (e::es) t) (f6:autoParam (zND x) zA1) (he:autoParam (zSE X e es) zA0) (c9:autoParam (zPL X pos es) zA0):
  PE X (.Call (.Name x p) (e::es) [] pos) (qF sp n5 E t):=by
 intro pins s σ H Q I h;refine Sb (dF I hg hm ?_ f6);refine callWith_K (h₀:=X.base) I.ok.mod.kin hk (thn (ha pos pins s σ H _ I h) λus s1 ⟨vs,H1,I1,r,q⟩=>#[I1.kIn,?_]) he c9;exact xf F hr hb hd hx I1 r q
structure Mk(K:Ex)(C f:KF):Prop where
 makes:makesIn K C=true
 init:findIn K (.ref C) "__init__"=be (be (.ref f))
 fn:isFn K (.ref f)=true
 kp:keepIn K (.ref C)=true
def xh{σ:St}{H:Hp}{s:KM}{Q:VK}(M:Mk X.K C f)(F:FnOk X.prog X.w X.K X.mg X.base CX k f fd ps sp)(hr:Room (k+1) X.A)(hb:Binds X.K fd ps ds)(hd:Vals n5 ds)
  (hx:fH CX X E) (I:Inv X pins σ H s) (r:Vals vs us)
  (h:∀x dx,H x=s_->H dx=s_->dx≠x->sp (.ref x::(vs++n5)) (upd (upd H dx (.own x)) x (.ins C dx [])) (λv H2=>v=.non/\Q (.ref x) H2) E):
  RR (RS X.prog X.w) X.A (call (.ref C) us) (EP X pins σ Q) X.xe s:=by
 have hq:=h (s.heap.objs.size+1) s.heap.objs.size (I.hok.fresh (G1 _)) (I.hok.fresh (FM _)) (FW (Ix _));have I2:=Inv.made (C:=C) I;have r2:Vals (V.ref (s.heap.objs.size+1)::(vs++n5)) (Value.ref (s.heap.objs.size+1)::(us++ds)):=.cons rfl (r.append hd);have hl:(Value.ref (s.heap.objs.size+1)::us++ds).length=ps.length:=by
  have e:=r2.length;rw[F.len _ _ _ _ hq]at e;exact e.symm
 refine Tv (wV (f:=f) I.kIn M.makes M.init (beq_iff_eq.mp M.fn) (SL (F.run _ X.stack _ _ #[Value.ref (s.heap.objs.size+1)::us,[]] (Value.ref (s.heap.objs.size+1)::(us++ds)) _ _ E (hr.make C us [])
  (I2.env0.make C us []) (hb _ (Value.ref (s.heap.objs.size+1)::us) I2.kIn hl) r2 hq) λr s' k_=>?_))
 cases r with
 |error e=>exact hx pins σ _ _ e s' I2 k_
 |ok fl=>
  cases fl with
  |ret u=>
   obtain⟨v,H',I3,rv,ev,q3⟩:=I2.after k_;subst ev;exact#[rv,#[V.ref (s.heap.objs.size+1),H',I3,rfl,q3]]
  |next=>exact False.elim k_
  |brk=>exact False.elim k_
  |cont=>exact False.elim k_
def jO(M:Mk X.K C f)(F:FnOk X.prog X.w X.K X.mg X.base CX k f fd ps sp)(hr:Room (k+1) X.A)(hg:Gl X x)(hm:X.mg x=be (.ref C))(hb:Binds X.K fd ps ds)(hd:Vals n5 ds)(hx:fH CX X E)
  (ha:PA X (e::es) t) (f6:autoParam (zND x) zA1) (he:autoParam (zSE X e es) zA0) (c9:autoParam (zPL X pos es) zA0):
  PE X (.Call (.Name x p) (e::es) [] pos) (xc C sp n5 E t):=by
 intro pins s σ H Q I h;refine Sb (dF I hg hm ?_ f6);refine callWith_K (h₀:=X.base) I.ok.mod.kin M.kp (thn (ha pos pins s σ H _ I h) λus s1 ⟨vs,H1,I1,r,q⟩=>#[I1.kIn,?_]) he c9;exact xh M F hr hb hd hx I1 r q
end
structure FnScope(N P:List Str)(sc:Sl):Prop where
 kind:sc.kind=.function
 co:sc.isCoroutine=false
 gen:sc.isGenerator=false
 nd:N.Nodup
 pre:N.take P.length=P
 par:∀x∈P,sc.names.lookup x=be .local\/sc.names.lookup x=be .cell
 nofree:∀y∈sc.names,y.2≠.free
def qG{kindOf:E_->Option Sw}{x:E_}:∀{binds:List (E_×KB)} {m:E_->Option KB},(∀v,(x,v)∉binds)->Tc kindOf binds m x=m x
 |[],_,_=>rfl
 |(n,v)::r,m,h=>by
  unfold Tc;rw[qG λw hw=>h w (FS _ hw)];split
  .have:x≠n:=by rintro rfl;exact h v FU
   simp[this]
  .rfl
def bindC_out{kindOf:E_->Option Sw}{x:E_}:∀{binds:List (E_×KB)} {m:E_->Option KB},(∀v,(x,v)∉binds)->Td kindOf binds m x=m x
 |[],_,_=>rfl
 |(n,v)::r,m,h=>by
  unfold Td;rw[bindC_out λw hw=>h w (FS _ hw)];split
  .rfl
  .have:x≠n:=by rintro rfl;exact h v FU
   simp[this]
def bindL_get{kindOf:E_->Option Sw}{x:E_}{v:KB}:∀{P:List E_} {vs:List KB} {i:Nat} {m:E_->Option KB},P.Nodup->P[i]?=be x->vs[i]?=be v->kindOf x=be .local->
  Tc kindOf (P.zip vs) m x=be v
 |[],_,_,_,_,h,_,_=>by simp at h
 |_::_,[],_,_,_,_,h,_=>by simp at h
 |p::P,w::vs,0,m,nd,h1,h2,hk=>by
  simp at h1 h2;subst h1;subst h2;show Tc kindOf ((p,w)::P.zip vs) m p=_;unfold Tc;rw[qG λv hv=>(GH.mp nd).1 (HX hv).1,if_pos hk];simp
 |p::P,w::vs,i+1,m,nd,h1,h2,hk=>by
  show Tc kindOf ((p,w)::P.zip vs) m x=_;unfold Tc;exact bindL_get (i:=i) (GH.mp nd).2 (by simpa using h1) (by simpa using h2) hk
def qH{kindOf:E_->Option Sw}{x:E_}{v:KB}:∀{P:List E_} {vs:List KB} {i:Nat} {m:E_->Option KB},P.Nodup->P[i]?=be x->vs[i]?=be v->kindOf x≠be .local->
  Td kindOf (P.zip vs) m x=be v
 |[],_,_,_,_,h,_,_=>by simp at h
 |_::_,[],_,_,_,_,h,_=>by simp at h
 |p::P,w::vs,0,m,nd,h1,h2,hk=>by
  simp at h1 h2;subst h1;subst h2;show Td kindOf ((p,w)::P.zip vs) m p=_;unfold Td;rw[bindC_out λv hv=>(GH.mp nd).1 (HX hv).1,if_neg hk];simp
 |p::P,w::vs,i+1,m,nd,h1,h2,hk=>by
  show Td kindOf ((p,w)::P.zip vs) m x=_;unfold Td;exact qH (i:=i) (GH.mp nd).2 (by simpa using h1) (by simpa using h2) hk
def start(N:List E_)(vs:List V):St:=vs.map be++Gy (N.length-vs.length) s_
def cxOf(CX:CXT)(P:RQ)(w:RU)(K:Ex)(mg:E_->Option KB)(base:RW)(N:List E_)(qual:E_)(scope:Sl)(f:KF)(cd:KB)(A:RV)(outer:List SG)(s:KM)(H:Hp)(E:XK):Cx where
 prog:=P
 w:=w
 K:=K
 mg:=mg
 base:=base
 A:=A.deeper (R' qual scope s.heap.objs.size f cd)
 N:=N
 s₀:=s
 H₀:=H
 env:=R' qual scope s.heap.objs.size f cd
 outer:=outer
 stack:=R' qual scope s.heap.objs.size f cd::outer
 ex:=[]
 calm:=true
 fn:=λ_=>true
 pn:=[]
 xe:=λe s'=>RR (RS P w) (A.deeper (R' qual scope s.heap.objs.size f cd)) (Th (R' qual scope s.heap.objs.size f cd) e) (λ_ MQ=>CX outer H s E e MQ) (λe' MQ=>CX outer H s E e' MQ) s'
def cell_has{sc:Sl}{n:Nat}{x:E_}(h:sc.names.lookup x=be .cell):∃c,(cellsFrom n sc.names []).lookup x=be c:=by
 have q:=cellsFrom_some sc.names n [] (.inl h);exact Option.isSome_iff_exists.mp q
variable{N:List E_}{scope:Sl}
def xi{qual:E_}{cd:KB}{s1:KM}{E:XK}{vs:List V}
  (S:FnScope N ps scope) (hd:A.handled=s_) (e0:Env0 P w K mg base A outer s H) (hl:vs.length=ps.length) (r:Vals vs us)
  (x:InCallC s s.heap.objs.size (Tc (R' qual scope s.heap.objs.size f cd).kindOf (ps.zip us) λ_=>s_) (cellsFrom (s.heap.objs.size+1) scope.names []) (Td (R' qual scope s.heap.objs.size f cd).kindOf (ps.zip us) λ_=>s_) s1):
  Inv (cxOf CX P w K mg base N qual scope f cd A outer s H E) [] (start N vs) H s1:=by
 have c9:ps.length<=N.length:=by have:=congrArg Hi S.pre;rw[Hj]at this;lia
 obtain⟨h1,tk,rfl,hk⟩:=x.done;have Le:∀b:KF,b∉(cxOf CX P w K mg base N qual scope f cd A outer s H E).ex:=λb z=>absurd (show b∈([]:List KF)from z) Ld;refine⟨#[e0.mod,S.kind,rfl,rfl,FM _,λy z c h1 h2=>?_,λy hy=>?_,λy c _ h=>?_,λ_=>hd,Around.frames_deeper e0.frames,.inr #[rfl,rfl],λb z=>absurd z (Le b),e0.bs,e0.bsz,λb _ _=>Le b,λb z=>absurd z (Le b),e0.funs,e0.frf],
  rfl,e0.bare,Un.kept hk,#[_,x.toInCall.ns,λi y v h1 h2 h3=>?_],λy c h=>#[_,x.cell y c h],e0.hok.fresh (FM _),λy c h=>?_,λp hp=>absurd (show p∈([]:List (KF×R_))from hp) Ld,e0.hok.kept hk,?_⟩
 .exact name_of_addr x.apart (PySem.mem_of_lookup h1) (PySem.mem_of_lookup h2)
 .have hy:scope.names.lookup y=be .cell\/scope.names.lookup y=be .free:=hy;rcases hy with hy|hy
  .exact cell_has hy
  .exact absurd rfl (S.nofree _ (PySem.mem_of_lookup hy))
 .exact Hu (x.above y c (PySem.mem_of_lookup h))
 .have hi:i<vs.length:=by
   unfold start at h2;by_cases hi:i<vs.length
   .exact hi
   .rw[GI (by simpa using hi)]at h2;rw[HY]at h2;split at h2<;>cases h2
  have ha:vs[i]?=be v:=by
   unfold start at h2;rw[Gz (by simpa using hi),FT]at h2;cases e:vs[i]? with
   |none=>rw[e]at h2;cases h2
   |some a=>rw[e]at h2;cases h2;rfl
  obtain⟨u,hu,rv⟩:=r.get ha;have hp:ps[i]?=be y:=by
   rw[<-S.pre,Iy Kd];exact h1
  have Ow:ps.Nodup:=by rw[<-S.pre];exact S.nd.sublist (List.take_sublist _ _)
  refine#[u,rv,?_];rcases S.par y (Hx hp)with k|k
  .exact .inl #[k,bindL_get Ow hp hu k]
  .obtain⟨c,e⟩:=cell_has (n:=s.heap.objs.size+1) k;refine .inr #[.inl k,c,e,?_];have q:=x.cell y c e;rw[qH Ow hp hu (by show scope.names.lookup y≠_;rw[k];decide)]at q;exact q
 .exact e0.hok.fresh (Hu (x.above y c (PySem.mem_of_lookup h)))
 .unfold start;show _=N.length;rw[F8,FP,List.length_replicate];lia
def qI{name qual:E_}{params:Arguments}{body:List P3}{dV kV doc pm cdv ct oc:KB}{an od:Option KF}
  {osl:Array (Option KB)}   (lk:K.lookup f=be #[oc,od,.func (fnOf name qual params body scope dV kV doc pm an cdv ct),osl]) (i6:codeIn K cdv qual=true) (S:FnScope N ps scope)
  (len:∀vs H Q E,sp vs H Q E->vs.length=ps.length)
  (a_:∀(A:RV) (outer:List SG) (s:KM) (H:Hp) (vs:List V) (Q:VK) (E:XK),Room k (A.deeper (R' qual scope s.heap.objs.size f cdv))->sp vs H Q E->
   ∃t,PSs (cxOf CX P w K mg base N qual scope f cdv A outer s H E) body t/\t {nx:=λ_ H'=>Q .non H',rt:=Q} (start N vs) H):
  FnOk P w K mg base CX (k+1) f (fnOf name qual params body scope dV kV doc pm an cdv ct) ps sp:=by
 refine#[len,λA outer s H args us vs Q E hr e0 hb r z7=>?_];have hl:=len _ _ _ _ z7;have KX:K.In s.heap:=e0.mod.kin.keeps λb o e=>(e0.bs b o e).1;have PN:s.heap.NoLimit:=e0.mod.nolimit.keeps λb o e=>(e0.bs b o e).1;have Lf:∀y∈ps.zip us,scope.names.lookup y.1=be .local\/(scope.names.lookup y.1=be .cell/\((cellsFrom (s.heap.objs.size+1) scope.names []).lookup y.1).isSome=true):=λ⟨n,v⟩ hy=>by
  rcases S.par n (HX hy).1 with q|q
  .exact .inl q
  .exact .inr #[q,cellsFrom_some _ _ _ (.inl q)]
 refine codeAny_call_function hr.depth (KX _ _ lk) rfl S.co S.gen rfl (codeRec_of KX i6) (hb _ _ _ _ ?_);refine wpAny_newFunctionEnv_cells S.kind Lf λenv he s1 x=>?_;subst he;refine#[PN.keeps x.toInCall.keep,codeAny_func ?_];obtain⟨t,ht,hq⟩:=a_ A outer s H vs Q E (hr.deeper _) z7;have I:Inv (cxOf CX P w K mg base N qual scope f cdv A outer s H E) [] (start N vs) H s1:=xi S hr.hd e0 hl r x;refine R8 (ht [] s1 (start N vs) H _ I hq) (λfl s' hs=>?_) λe s' hs=>hs;have fI:∀{σ':St} {H':Hp} {v:V} {u:KB},Inv (cxOf CX P w K mg base N qual scope f cdv A outer s H E) [] σ' H' s'->RelV v u->Q v H'->CE outer P w H s Q u s':=
  λ{σ' H' v u} J rv q=>#[v,H',J.os,J.bare,J.base,J.hok,rv,q]
 cases fl with
 |ret u=>
  obtain⟨v,σ',H',J,rv,q⟩:=hs;exact fI J rv q
 |next=>
  obtain⟨σ',H',J,q⟩:=hs;exact fI (v:=V.non) (u:=Value.none) J rfl q
 |brk=>
  obtain⟨_,_,_,q⟩:=hs;exact False.elim q
 |cont=>
  obtain⟨_,_,_,q⟩:=hs;exact False.elim q
section
variable {X:Cx}{x:E_}{p pos:R6}{e:RP}{es:List RP}{t:TA}{id T:String}{r:List V->Hp->VK->Prop}
def tCB(r:List V->Hp->VK->Prop)(t:TA):TE:=λσ H Q=>t σ H λvs H1=>r vs H1 Q
def gB(hc:bJ X (.builtin id) r)(hg:Gl X x)(hm:X.mg x=s_)(hv:Sa x=be (.builtin id))(ha:PA X (e::es) t)(hn:autoParam (x≠"__name__") zA1)(f6:autoParam (zND x) zA1)
  (he:autoParam (zSE X e es) zA0) (c9:autoParam (zPL X pos es) zA0):PE X (.Call (.Name x p) (e::es) [] pos) (tCB r t):=by
 intro pins s σ H Q I h;refine Sb (dG I hg hm hv ?_ hn f6);exact PyProof.Rows.callWith_builtin1 (thn (ha pos pins s σ H _ I h) λus s1 ⟨vs,H1,I1,r1,q1⟩=>hc pins s1 σ H1 vs us Q I1 r1 q1) he c9
def jP(hc:bJ X (.type T) r)(hg:Gl X x)(hm:X.mg x=s_)(hv:Sa x=be (.type T))(ha:PA X (e::es) t)(hn:autoParam (x≠"__name__") zA1)(f6:autoParam (zND x) zA1)
  (he:autoParam (zSE X e es) zA0) (c9:autoParam (zPL X pos es) zA0):PE X (.Call (.Name x p) (e::es) [] pos) (tCB r t):=by
 intro pins s σ H Q I h;refine Sb (dG I hg hm hv ?_ hn f6);exact PyProof.Rows.callWith_type1 (thn (ha pos pins s σ H _ I h) λus s1 ⟨vs,H1,I1,r1,q1⟩=>hc pins s1 σ H1 vs us Q I1 r1 q1) he c9
end
end L2
namespace HT
open PySem PyProof.Rows
section
variable {prog:RQ}{w:RU}{A:RV}{E:KB->KM->Prop}{s:KM}
variable{Q:KB->KM->Prop}
def cat_tup{t b:KF}{vs ws:List KB}(ht:IsTup s.heap t vs.toArray)(hb:IsTup s.heap b ws.toArray)(hv:vs≠[])
  (h1:ws=[]->Q (.ref t) s) (h2:ws≠[]->Q (.ref s.heap.objs.size) {s with heap:=s.heap.push {cls:=.type "tuple",data:=.seq (vs++ws).toArray} })
  (gt:vs.length+ws.length<=sizeLine):RR (RS prog w) A (Se .Add (.ref t) (.ref b)) Q E s:=by
 obtain⟨⟨cls,dd,data,sl⟩,ho,hc,n,hd⟩:=id ht;obtain⟨⟨PP,Ox,data2,L6⟩,L7,Oy,n2,o7⟩:=id hb;simp only at hc hd Oy o7;subst hc hd Oy o7;have e:vs.toArray++ws.toArray=(vs++ws).toArray:=Ld
 by_cases hw:ws=[]
 .exact concat_meets #[_,ho,rfl] #[_,L7,rfl] noFill_tuple_add seq_tuple_add PySem.F.slot_tuple_add PySem.F.entry_tuple_add (PySem.F.args_tuple_add_2 _ _)
   (tuple_addW1 t b vs.toArray ws.toArray n n2 dd Ox sl L6 (by simpa using hv) (by simp[hw])) #[ho,L7,h1 hw]
 .refine concat_meets #[_,ho,rfl] #[_,L7,rfl] noFill_tuple_add seq_tuple_add PySem.F.slot_tuple_add PySem.F.entry_tuple_add (PySem.F.args_tuple_add_2 _ _)
   (tuple_addW2 t b vs.toArray ws.toArray n n2 dd Ox sl L6 (by simpa using hv) (by simpa using hw) (by rw[FR,FR];exact gt)) #[ho,L7,?_]
  rw[e];exact h2 hw
def sIx(n d:Nat):Option Int->Nat
 |none=>d
 |some v=>if v<0 then(v+(n:Int)).toNat else min v.toNat n
def sIx_none(n d:Nat):sIx n d s_=d:=rfl
def sIx_nat(n d k:Nat):sIx n d (be (k:Int))=min k n:=by
 show(if(k:Int)<0 then((k:Int)+(n:Int)).toNat else min (k:Int).toNat n)=min k n;rw[if_neg Kd,G2]
def sIx_le(n d:Nat)(hd:d<=n)(o:Option Int):sIx n d o<=n:=by
 cases o with
 |none=>exact hd
 |some v=>
  show(if v<0 then(v+(n:Int)).toNat else min v.toNat n)<=n;by_cases hv:v<0
  .rw[if_pos hv];lia
  .rw[if_neg hv];exact Nat.min_le_right _ _
def qJ(v:Int)(n d:Nat):(if v<0 then max (v+(n:Int)) 0 else min v (n:Int))=((sIx n d (be v):Nat):Int):=by
 show(if v<0 then max (v+(n:Int)) 0 else min v (n:Int))=(((if v<0 then(v+(n:Int)).toNat else min v.toNat n):Nat):Int);by_cases hv:v<0
 .simp only[if_pos hv];lia
 .simp only[if_neg hv];lia
def xj(lo hi:Option Int)(n:Nat):Builtin.Slice.sliceAdjust lo hi 1 (n:Int)=(((sIx n 0 lo:Nat):Int),((sIx n n hi:Nat):Int)):=by
 have h1:¬((1:Int)<0):=Kd
 unfold Builtin.Slice.sliceAdjust;simp only[h1,if_false];refine Prod.ext ?_ ?_
 .cases lo with
  |none=>rfl
  |some v=>exact qJ v n 0
 .cases hi with
  |none=>rfl
  |some v=>exact qJ v n n
def xk(i j:Nat):Builtin.Slice.slicePlaces (i:Int) (j:Int) 1=j-i:=by
 unfold Builtin.Slice.slicePlaces;have h1:(1:Int)>0:=Kd
 simp only[h1,if_true,Int.ediv_one];split<;>lia
def qK{v:KB}{o:Option Int}{Q:Option Int->KM->Prop}(p:S4 v o)(h:Q o s):RR (RS prog w) A (Builtin.Slice.slicePartIndex v) Q E s:=by
 cases p with
 |none=>exact slicePart_none h
 |int i t=>exact slicePart_int h
variable{lo hi:Option Int}
def xm{sl:KF}{vl vu:KB}{n:Nat}{Q:Int×Int×Nat->KM->Prop}(hs:s.heap.IsSliceOf sl vl vu .none)(pl:S4 vl lo)(pu:S4 vu hi)
  (h:Q (((sIx n 0 lo:Nat):Int),1,sIx n n hi-sIx n 0 lo) s):RR (RS prog w) A (Builtin.Slice.sliceApplied (.ref sl) (pure (n:Int))) Q E s:=by
 obtain⟨os,G',L8,L9⟩:=id hs;unfold Builtin.Slice.sliceApplied Builtin.Slice.sliceFields;refine Os (Os (Ss G' L9 (x:=vl) rfl (Os (Ss G' L9 (x:=vu) rfl (Os (Ss G' L9 (x:=.none) rfl (RT ?_)))))));refine Os (slicePart_none ?_);show RR _ _ (if((1:Int)==0)=true then _ else _) _ _ s;rw[if_neg Kj];refine Os (qK pl (Os (qK pu (Os (RT ?_)))));show RR _ _ (match Builtin.Slice.sliceAdjust lo hi 1 (n:Int)with|(lo,hi)=>pure (lo,(1:Int),Builtin.Slice.slicePlaces lo hi 1)) _ _ s;rw[xj lo hi n];show RR _ _ (pure (((sIx n 0 lo:Nat):Int),(1:Int),Builtin.Slice.slicePlaces ((sIx n 0 lo:Nat):Int) ((sIx n n hi:Nat):Int) 1)) _ _ s;rw[xk];exact RT h
def xn(xs:Array KB)(i k:Nat):((FN k).filterMap λ(m:Nat)=>xs[((i:Int)+(m:Int)*1).toNat]?).toArray=((xs.toList.drop i).take k).toArray:=by
 have e:(λ(m:Nat)=>xs[((i:Int)+(m:Int)*1).toNat]?)=λm=>xs[i+m]?:=by
  funext m;have:((i:Int)+(m:Int)*1).toNat=i+m:=Kd
  rw[this]
 rw[e];have:=pick_run xs i k;rw[Iz]at this;have e2:((λx=>xs[x]?) ∘ λx=>i+x)=λm=>xs[i+m]?:=rfl;rw[e2]at this;rw[this]
def getItem_tuple_cut{t sl:KF}{items:Array KB}{vl vu:KB}(ht:IsTup s.heap t items)(hs:s.heap.IsSliceOf sl vl vu .none)(pl:S4 vl lo)(pu:S4 vu hi)
  (hw:¬(sIx items.size 0 lo=0/\sIx items.size items.size hi=items.size))
  (h:Q (.ref s.heap.objs.size) {s with heap:=s.heap.push {cls:=.type "tuple",data:=.seq ((items.toList.drop (sIx items.size 0 lo)).take (sIx items.size items.size hi-sIx items.size 0 lo)).toArray} })
  (gt:items.size<=sizeLine):RR (RS prog w) A (Tj (.ref t) (.ref sl)) Q E s:=by
 have g9:sizeOk (.seq ((items.toList.drop (sIx items.size 0 lo)).take (sIx items.size items.size hi-sIx items.size 0 lo)).toArray):=by
  show((items.toList.drop (sIx items.size 0 lo)).take (sIx items.size items.size hi-sIx items.size 0 lo)).toArray.size<=sizeLine;rw[FR,Hj,G3,GP];lia
 have hj:sIx items.size items.size hi<=items.size:=sIx_le _ _ (FM _) hi;obtain⟨os,G',L8,L9⟩:=id hs;have PQ:s.TypeIs (.ref sl) "slice":=#[os,G',L8];unfold Tj
 try with_reducible refine So ?_
 first|refine Os (RT ?_)|skip
 refine Os (wpAny_sequenceKey ht.typeIs Kj ?_);refine Os (wpAny_callSpecial?_slot (name:=Str.ofString "__getitem__") ht.typeIs PyProof.Rows.slot_tuple_getitem
  (wpAny_call_entry PyProof.Rows.slot_tuple_getitem ht.typeIs entry_tuple_getitem ?_ (args_tuple_getitem _ _)))
 show RR _ _ (Builtin.Tuple.tupleItemsOf (.ref t)>>=_) _ _ s;refine Os (tupleItemsOf_ ht ?_);refine Os (wpAny_typeOf PQ ?_);rw[if_pos Kj];refine Os (xm hs pl pu ?_);have Lg:¬((((sIx items.size 0 lo:Nat):Int)==0&&(1:Int)==1&&(sIx items.size items.size hi-sIx items.size 0 lo)==items.size)=true):=by
  intro q;rw[Gg,Gg]at q;have q1:((sIx items.size 0 lo:Nat):Int)=0:=eq_of_beq q.1.1;have q2:sIx items.size items.size hi-sIx items.size 0 lo=items.size:=eq_of_beq q.2;exact hw #[Kd,Kd]
 show RR _ _ (if(((sIx items.size 0 lo:Nat):Int)==0&&(1:Int)==1&&(sIx items.size items.size hi-sIx items.size 0 lo)==items.size)=true then _ else _) _ _ s;rw[if_neg Lg,xn]
 first
  |exact Os (m:=Builtin.Tuple.tupleExact _) (R7 (RT ⟨_,rfl,RT h⟩) g9)
  |exact Os (m:=Builtin.Tuple.tupleExact _) (R7 (Os (RT (RT ⟨_,rfl,RT h⟩))) g9)
  |exact Os (Os (m:=Builtin.Tuple.tupleExact _) (R7 (RT (RT ⟨_,rfl,RT h⟩)) g9))
  |exact Os (Os (m:=Builtin.Tuple.tupleExact _) (R7 (RT ⟨_,rfl,RT h⟩) g9))
end
end HT
namespace L2
open PySem PySem.Spec PyProof.Rows
abbrev TO:=St->Hp->(Option Int->Hp->Prop)->Prop
def PO(X:Cx)(e:Option RP)(t:TO):Prop:=
 ∀(pins:List (KF×R_)) (s:KM) (σ:St) (H:Hp) (Q:Option Int->Hp->Prop),Inv X pins σ H s->t σ H Q->
  RR (RS X.prog X.w) X.A (evalPart e X.env) (λu s'=>∃o H',Inv X pins σ H' s'/\S4 u o/\Q o H') X.xe s
def xo:TO:=λ_ H Q=>Q s_ H
def xp(t:TE):TO:=λσ H Q=>t σ H λx H1=>∃i,x=.int i/\Q (be i) H1
def intsAre_of{ns:List Int}:∀{us:List KB},Vals (ns.map V.int) us->S1 us ns:=by
 induction ns with
 |nil=>intro us r;rw[GJ]at r;cases r;exact .nil
 |cons n ns ih=>
  intro us r;rw[FY]at r;cases r with
  |cons r1 r2=>
   obtain⟨t,e⟩:=r1;subst e;exact .cons n t (ih r2)
section
variable {X:Cx}{e:RP}{te:TE}{lo hi:Option RP}{tl th:TO}{pos p2:R6}
def qL:PO X s_ xo:=by
 intro pins s σ H Q I h;rw[evalPart_none];exact RT #[s_,H,I,.none,h]
def qM(h:PE X e te):PO X (be e) (xp te):=by
 intro pins s σ H Q I hw;rw[evalPart_some];refine thn (h pins s σ H _ I hw) λu s1 b9=>?_;obtain⟨x,H1,I1,r1,q1⟩:=b9;obtain⟨i,rfl,q⟩:=q1;obtain⟨t,rfl⟩:=r1;exact#[be i,H1,I1,.int i t,q]
def SlR(X:Cx)(r:V->Option Int->Option Int->Hp->VK->Prop):Prop:=
 ∀(pins:List (KF×R_)) (s:KM) (σ:St) (H:Hp) (x:V) (v vl vu:KB) (lo hi:Option Int) (sl:KF) (Q:VK),Inv X pins σ H s->RelV x v->s.heap.IsSliceOf sl vl vu .none->S4 vl lo->S4 vu hi->r x lo hi H Q->
  ∃T id,typeLookup (.type T) "__getitem__"=pure (be (.builtin id))/\s.TypeIs v T/\RR (RS X.prog X.w) X.A (Tj v (.ref sl)) (EP X pins σ Q) X.xe s
variable{r:V->Option Int->Option Int->Hp->VK->Prop}
def SlR.or{r':V->Option Int->Option Int->Hp->VK->Prop}(h:SlR X r)(h':SlR X r'):SlR X (λx lo hi H Q=>r x lo hi H Q\/r' x lo hi H Q):=by
 intro pins s σ H x v vl vu lo hi sl Q I rx hs pl pu q;rcases q with q|q
 .exact h pins s σ H x v vl vu lo hi sl Q I rx hs pl pu q
 .exact h' pins s σ H x v vl vu lo hi sl Q I rx hs pl pu q
def tSl(r:V->Option Int->Option Int->Hp->VK->Prop)(te:TE)(tl th:TO):TE:=λσ H Q=>te σ H λx H1=>tl σ H1 λl H2=>th σ H2 λu H3=>r x l u H3 Q
def qN(hr:SlR X r)(he:PE X e te)(hl:PO X lo tl)(hu:PO X hi th):PE X (.Subscript e (.Slice lo hi s_ p2) pos) (tSl r te tl th):=by
 intro pins s σ H Q I h;refine Subscript_ (thn (he pins s σ H _ I h) λv s1 b9=>?_);obtain⟨x,H1,I1,r1,q1⟩:=b9;refine wpAny_Slice (thn (hl pins s1 σ H1 _ I1 q1) λvl s2 ⟨l,H2,I2,pl,q2⟩=>thn (hu pins s2 σ H2 _ I2 q2) λvu s3 b9=>?_);obtain⟨u,H3,I3,pu,q3⟩:=b9;rw[evalPart_none];refine RT ?_;have I4:Inv X pins σ H3 {s3 with heap:=s3.heap.push {cls:=.type "slice",data:=.fields [vl,vu,.none].toArray} }:=I3.kept (t':=s3.toks) λb ob q=>Heap.get?_push_of_some _ q;obtain⟨T,id,hT,ht,hg⟩:=hr pins {s3 with heap:=s3.heap.push {cls:=.type "slice",data:=.fields [vl,vu,.none].toArray} } σ H3 x v vl vu l u s3.heap.objs.size Q I4 r1 (Heap.IsSliceOf.new ..) pl pu q3;show RR (RS X.prog X.w) X.A (subscriptTail e (.Slice lo hi s_ p2) v (.ref s3.heap.objs.size)) (EP X pins σ Q) X.xe {s3 with heap:=s3.heap.push {cls:=.type "slice",data:=.fields [vl,vu,.none].toArray} };exact tail_any (ops:=[.ref s3.heap.objs.size,v]) ht hT hg (by with_unfolding_all rfl)
def cutV(xs:List V)(lo hi:Option Int):List V:=(xs.drop (HT.sIx xs.length 0 lo)).take (HT.sIx xs.length xs.length hi-HT.sIx xs.length 0 lo)
def qO(xs:List V)(lo hi:Option Int):(cutV xs lo hi).length<=xs.length:=by
 unfold cutV;rw[Hj,G3];lia
def rSlT(K:Ex):V->Option Int->Option Int->Hp->VK->Prop:=λx lo hi H Q=>∃a xs,x=.ref a/\SqT K H a xs/\
 ¬(HT.sIx xs.length 0 lo=0/\HT.sIx xs.length xs.length hi=xs.length)/\∀p,H p=s_->Q (.ref p) (upd H p (.tup (cutV xs lo hi)))
def xq:SlR X (rSlT X.K):=by
 intro pins s σ H x v vl vu lo hi sl Q I rx hs pl pu h;obtain⟨a,xs,rfl,hx,hw,q⟩:=h;cases rx;obtain⟨its,r,ht,hz⟩:=I.tuple hx;have b7:its.toArray.size=xs.length:=by rw[FR];exact r.length.symm
 refine#["tuple",_,PyProof.Rows.slot_tuple_getitem.lookup,ht.typeIs,?_];refine HT.getItem_tuple_cut ht hs pl pu (by rw[b7];exact hw) ?_ (by rw[b7];exact hz);rw[b7];refine#[.ref s.heap.objs.size,_,I.laid (t':=s.toks) (o:=.tup (cutV xs lo hi)) (λb ob q=>Heap.get?_push_of_some _ q) (FM _) ?_,rfl,q _ (I.hok.fresh (FM _))];exact#[FX (qO xs lo hi) hz,_,(r.drop (HT.sIx xs.length 0 lo)).take (HT.sIx xs.length xs.length hi-HT.sIx xs.length 0 lo),IsTup.new _ _]
def qP(K:Ex):R2:=λx y H Q=>∃a b xs ys,x=.ref a/\y=.ref b/\SqT K H a xs/\SqT K H b ys/\xs≠[]/\xs.length+ys.length<=sizeLine/\
 (ys=[]->Q (.ref a) H)/\(ys≠[]->∀p,H p=s_->Q (.ref p) (upd H p (.tup (xs++ys))))
def Vals.nil_iff{xs:List V}{us:List KB}(r:Vals xs us):us=[]↔xs=[]:=by
 cases r with
 |nil=>simp
 |cons _ _=>simp
def xr:OpR X (Se .Add) (qP X.K):=by
 intro pins s σ H x y v u Q I rx ry h;obtain⟨a,b,xs,ys,rfl,rfl,ha,hb,hx,hz,q1,q2⟩:=h;cases rx;cases ry;obtain⟨its,r1,p1,_⟩:=I.tuple ha;obtain⟨d8,r2,p2,_⟩:=I.tuple hb;refine HT.cat_tup p1 p2 (λz=>hx (r1.nil_iff.mp z)) (λz=>#[.ref a,H,I,rfl,q1 (r2.nil_iff.mp z)]) (λz=>?_) (by rw[<-r1.length,<-r2.length];exact hz);refine#[.ref s.heap.objs.size,_,I.laid (t':=s.toks) (o:=.tup (xs++ys)) (λb ob q=>Heap.get?_push_of_some _ q) (FM _) ?_,rfl,q2 (λw=>z (r2.nil_iff.mpr w)) _ (I.hok.fresh (FM _))];exact#[by rw[F8];exact hz,_,r1.append r2,IsTup.new _ _]
end
def ixN(n:Nat)(i:Int):Option Nat:=if 0<=i then(if i<n then be i.toNat else s_)else if -(n:Int)<=i then be (i+n).toNat else s_
def atI{α:Type}(xs:List α)(i:Int):Option α:=(ixN xs.length i).bind λj=>xs[j]?
def qQ{n:Nat}{i:Int}{j:Nat}(h:ixN n i=be j):seqIndex? i n=be j/\j<n/\-(n:Int)<=i/\i<n:=by
 unfold ixN at h;by_cases h0:0<=i
 .rw[if_pos h0]at h;by_cases h1:i<n
  .rw[if_pos h1]at h;have e:i.toNat=j:=Option.some.inj h;exact#[by rw[Tq h0 h1,e],Kd,Kd,h1]
  .rw[if_neg h1]at h;cases h
 .rw[if_neg h0]at h;by_cases h1:-(n:Int)<=i
  .rw[if_pos h1]at h;have e:(i+n).toNat=j:=Option.some.inj h;exact#[by rw[Tg Kd h1,e],Kd,h1,Kd]
  .rw[if_neg h1]at h;cases h
def atI_get{α:Type}{xs:List α}{i:Int}{v:α}(h:atI xs i=be v):∃j,seqIndex? i xs.length=be j/\xs[j]?=be v/\j<xs.length/\-(xs.length:Int)<=i/\i<xs.length:=by
 unfold atI at h;cases e:ixN xs.length i with
 |none=>rw[e]at h;cases h
 |some j=>
  rw[e]at h;obtain⟨h1,h2,h3,h4⟩:=qQ e;exact#[j,h1,h,h2,h3,h4]
def bF{α:Type}{xs:List α}{j:Nat}{v:α}(h:xs[j]?=be v):atI xs (j:Int)=be v:=by
 have hj:j<xs.length:=(FZ.mp h).1;have e:ixN xs.length (j:Int)=be j:=by
  unfold ixN;rw[if_pos Kd,if_pos Kd];simp
 unfold atI;rw[e];exact h
def eA(b:RP):Prop:=∀o i,subscripted b false o i=operate [o,i] (Tj o i)
def IxR(X:Cx)(r:R2):Prop:=
 ∀(value slice:RP) (pins:List (KF×R_)) (s:KM) (σ:St) (H:Hp) (x y:V) (v u:KB) (Q:VK),Inv X pins σ H s->RelV x v->RelV y u->r x y H Q->
  subscripted slice false v u=operate [v,u] (Tj v u)->RR (RS X.prog X.w) X.A (subscriptTail value slice v u) (EP X pins σ Q) X.xe s
def MtR(X:Cx)(id:String)(r:V->List V->Hp->VK->Prop):Prop:=
 ∀(pins:List (KF×R_)) (s:KM) (σ:St) (H:Hp) (x:V) (xs:List V) (v:KB) (us:List KB) (Q:VK),Inv X pins σ H s->RelV x v->Vals xs us->r x xs H Q->
  RR (RS X.prog X.w) X.A (call (.builtin id) (v::us)) (EP X pins σ Q) X.xe s
section
variable {X:Cx}{a b:RP}{ta tb:TE}{pos:R6}
def IxR.or{r r':R2}(h:IxR X r)(h':IxR X r'):IxR X (λx y H Q=>r x y H Q\/r' x y H Q):=by
 intro value slice pins s σ H x y v u Q I rx ry q hs;rcases q with q|q
 .exact h value slice pins s σ H x y v u Q I rx ry q hs
 .exact h' value slice pins s σ H x y v u Q I rx ry q hs
def pe_ix{r:R2}(hr:IxR X r)(ha:PE X a ta)(hb:PE X b tb)(hs:eA b):PE X (.Subscript a b pos) (tOp r ta tb):=by
 intro pins s σ H Q I h;exact Subscript_ (binT ha hb I h λv u s2 x y H2 I2 rx ry q=>hr a b pins s2 σ H2 x y v u Q I2 rx ry q (hs _ _))
def rIxL(K:Ex):R2:=λx y H Q=>∃p xs i v,x=.ref p/\y=.int i/\SqL K H p xs/\atI xs i=be v/\Q v H
def rIxT(K:Ex):R2:=λx y H Q=>∃p xs i v,x=.ref p/\y=.int i/\SqT K H p xs/\atI xs i=be v/\Q v H
def rIxS:R2:=λx y H Q=>∃z i c,x=.str z/\y=.int i/\z.length<=sizeLine/\atI z.cps.toList i=be c/\Q (.str #[[c].toArray]) H
def ix_list:IxR X (rIxL X.K):=by
 intro value slice pins s σ H x y v u Q I rx ry h hs;obtain⟨p,xs,i,z,rfl,rfl,hq,he,q⟩:=h;cases rx;obtain⟨t,rfl⟩:=ry;obtain⟨its,r,pl,hz⟩:=I.list hq;obtain⟨j,h1,h2,h3,h4,h5⟩:=atI_get he;obtain⟨w,ew,g7⟩:=r.get h2;have hl:=r.length;have hn:=line63;have fI:EP X pins σ Q w s:=#[z,H,I,g7,q];by_cases h0:0<=i
 .have hj:i.toNat=j:=by
   rw[Tq h0 h5]at h1;exact Option.some.inj h1
  exact item_listR pl.isList h0 Kd (by rw[hj];simpa using ew) fI hs
 .have hj:(i+(its.toArray.size:Int)).toNat=j:=by
   rw[Tg Kd h4]at h1;rw[FR,<-hl];exact Option.some.inj h1
  exact Tf (x:=w) pl.isList.typeIs slot_list_getitem.lookup
   (wpAny_getItem_list_neg (Q:=λr s'=>r=w/\EP X pins σ Q r s') pl.isList Kd (by rw[FR]<;>lia) Kd (by rw[hj];simpa using ew) #[rfl,fI]) hs
def ix_tup:IxR X (rIxT X.K):=by
 intro value slice pins s σ H x y v u Q I rx ry h hs;obtain⟨p,xs,i,z,rfl,rfl,hq,he,q⟩:=h;cases rx;obtain⟨t,rfl⟩:=ry;obtain⟨its,r,pl,hz⟩:=I.tuple hq;obtain⟨j,h1,h2,h3,h4,h5⟩:=atI_get he;obtain⟨w,ew,g7⟩:=r.get h2;have hl:=r.length;have hn:=line63;have fI:EP X pins σ Q w s:=#[z,H,I,g7,q];exact Tf (x:=w) pl.typeIs slot_tuple_getitem.lookup
  (getItem_tuple (j:=j) (Q:=λr s'=>r=w/\EP X pins σ Q r s') pl Kd Kd (by rw[FR,<-hl];exact h1) (by simpa using ew) #[rfl,fI]) hs
def xt:IxR X rIxS:=by
 intro value slice pins s σ H x y v u Q I rx ry h hs;obtain⟨z,i,c,rfl,rfl,hz,he,q⟩:=h;obtain⟨t,rfl⟩:=rx;obtain⟨t',rfl⟩:=ry;obtain⟨j,h1,h2,h3,h4,h5⟩:=atI_get he;have hl:z.cps.toList.length=z.length:=by simp[Str.length]
 rw[hl]at h1 h4 h5;have hn:=line63;exact tail_any (Tz s z t) slot_str_getitem.lookup (getItem_str (c:=c) (by
  have e1:decide (i< -(2^63:Int))=false:=decide_eq_false Kd;have e2:decide (i>=2^63)=false:=decide_eq_false Kd;rw[e1,e2,Bool.or_false]) (by rw[h1];simpa using h2) #[.str #[[c].toArray],H,I.tok _,#[_,rfl],q]) hs
def rIx(K:Ex):R2:=λx y H Q=>rIxL K x y H Q\/rIxT K x y H Q\/rIxS x y H Q
def qR:IxR X (rIx X.K):=ix_list.or (ix_tup.or xt)
def xu(its:List KB)(n j:Nat)(u:KB):Obj.mapSeq (·.setIfInBounds j u) {cls:=.type "list",data:=.seq its.toArray n}={cls:=.type "list",data:=.seq (its.set j u).toArray n}:=by
 simp[Obj.mapSeq]
def Inv.lst{pins:List (KF×R_)}{σ:St}{H:Hp}{s:KM}{p:KF}{xs:List V}(I:Inv X pins σ H s)(h:H p=be (.lst xs)):
  ∃(its:List KB) (n:Nat),Vals xs its/\s.heap.get? p=be {cls:=.type "list",data:=.seq its.toArray n}/\xs.length<=sizeLine:=by
 obtain⟨z,its,n,r,e⟩:=I.hok p _ h;exact#[its,n,r,e,z]
variable{pins:List (KF×R_)}{s:KM}
def Inv.lstUpd{σ:St}{H:Hp}{p:KF}{xs ys:List V}{its its':List KB}{n n':Nat}{f:R_->R_}(I:Inv X pins σ H s)(h:H p=be (.lst xs))
  (ho:s.heap.get? p=be {cls:=.type "list",data:=.seq its.toArray n}) (hf:f {cls:=.type "list",data:=.seq its.toArray n}={cls:=.type "list",data:=.seq its'.toArray n'}) (r:Vals ys its') (hz:ys.length<=sizeLine) (t:Nat):
  Inv X pins σ (upd H p (.lst ys)) {s with heap:=s.heap.update p f,toks:=t}:=by
 have e:(s.heap.update p f).get? p=be {cls:=.type "list",data:=.seq its'.toArray n'}:=by
  rw[Heap.get?_update_self f ho (by rw[hf]<;>rfl),hf]
 refine I.write (x:=p) (e:=p) (by rw[h];trivial) (.inl rfl) (λb u hb q=>(Heap.get?_update_other _ _ (Ne.symm hb)).trans q) #[_,e] ?_;exact#[hz,its',n',r,e]
def xx:V->V->V->Hp->(Hp->Prop)->Prop:=λo i v H Q=>∃p xs k j,o=.ref p/\i=.int k/\H p=be (.lst xs)/\ixN xs.length k=be j/\Q (upd H p (.lst (xs.set j v)))
def xy:PSet X xx:=by
 intro pins s σ H o i v ov iv u Q I ro ri rv h;obtain⟨p,xs,k,j,rfl,rfl,hp,hj,q⟩:=h;cases ro;obtain⟨t,rfl⟩:=ri;obtain⟨its,n,r,ho,hz⟩:=I.lst hp;obtain⟨h1,h2,h3,h4⟩:=qQ hj;have hl:=r.length;have hn:=line63;have I':Inv X pins σ (upd H p (.lst (xs.set j v))) {s with heap:=s.heap.update p (Obj.mapSeq (·.setIfInBounds j u))}:=
  I.lstUpd hp ho (xu its n j u) (r.set rv j) (by rw[GC];exact hz) s.toks
 by_cases h0:0<=k
 .have hk:k.toNat=j:=by
   rw[Tq h0 h4]at h1;exact Option.some.inj h1
  exact ki_setAt ho h0 Kd (by rw[FR,<-hl];exact h4) (by rw[hk];exact#[_,I',q])
 .have hk:(k+(its.toArray.size:Int)).toNat=j:=by
   rw[Tg Kd h3]at h1;rw[FR,<-hl];exact Option.some.inj h1
  exact ki_setBack ho Kd (by rw[FR,<-hl];exact h3) Kd (by rw[hk];exact#[_,I',q])
def xz(lo hi:Option Int)(n:Nat):(Su lo hi s_ n).1=((HT.sIx n 0 lo:Nat):Int)/\(Su lo hi s_ n).2.1=((HT.sIx n n hi:Nat):Int)/\(Su lo hi s_ n).2.2=1:=by
 refine#[?_,?_,rfl]
 .cases lo with
  |none=>simp[Su,HT.sIx]
  |some i=>
   simp only[Su,HT.sIx,IA,show(1:Int)>0 by decide,if_true];by_cases h:i<0
   .simp only[h,if_true]<;>lia
   .simp only[h,if_false]<;>lia
 .cases hi with
  |none=>simp[Su,HT.sIx]
  |some i=>
   simp only[Su,HT.sIx,IA,show(1:Int)>0 by decide,if_true];by_cases h:i<0
   .simp only[h,if_true]<;>lia
   .simp only[h,if_false]<;>lia
def xA(its:List KB)(lo hi:Option Int):slicePick its.toArray lo hi s_=((its.drop (HT.sIx its.length 0 lo)).take (HT.sIx its.length its.length hi-HT.sIx its.length 0 lo)).toArray:=by
 obtain⟨h1,h2,h3⟩:=xz lo hi its.toArray.size;unfold slicePick;rw[h1,h2,h3];simp only[sliceRange_one,pick_run,FR]<;>rfl
def rSlL(K:Ex):V->Option Int->Option Int->Hp->VK->Prop:=λx lo hi H Q=>∃a xs,x=.ref a/\SqL K H a xs/\∀p,H p=s_->Q (.ref p) (upd H p (.lst (cutV xs lo hi)))
def qS:SlR X (rSlL X.K):=by
 intro pins s σ H x v vl vu lo hi sl Q I rx hs pl pu h;obtain⟨a,xs,rfl,hx,q⟩:=h;cases rx;obtain⟨its,r,ht,hz⟩:=I.list hx;have b7:=r.length;refine#["list",_,slot_list_getitem.lookup,ht.isList.typeIs,?_];refine wpAny_getItem_list_slice ht.isList hs pl pu .none Ld ?_ (by rw[FR]<;>lia);rw[xA,<-b7];refine#[.ref s.heap.objs.size,_,I.laid (t':=s.toks) (o:=.lst (cutV xs lo hi)) (λb ob q=>Heap.get?_push_of_some _ q) (FM _) ?_,rfl,q _ (I.hok.fresh (FM _))];exact#[FX (qO xs lo hi) hz,_,0,(r.drop (HT.sIx xs.length 0 lo)).take (HT.sIx xs.length xs.length hi-HT.sIx xs.length 0 lo),Heap.get?_push_size _ rfl]
def bA:V->Bool
 |.non=>true
 |.bl _=>true
 |.int _=>true
 |.str _=>true
 |_=>false
def eqV:V->V->Bool
 |.non,.non=>true
 |.bl a,.bl b=>a==b
 |.bl a,.int b=>(if a then 1 else 0)==b
 |.int a,.bl b=>a==(if b then 1 else 0)
 |.int a,.int b=>a==b
 |.str a,.str b=>a==b
 |_,_=>false
variable{x:V}
def eqAt_V{A:RV}{y:V}{u v:KB}(ry:RelV y u)(rx:RelV x v)(fy:bA y=true)(fx:bA x=true):SeqAt.EqAt A s u v (eqV y x):=by
 cases y with
 |non=>
  cases ry;cases x with
  |non=>cases rx;exact SeqAt.EqAt.same _
  |bl b=>cases rx;exact SeqAt.EqAt.none_bool b
  |int b=>obtain⟨t,rfl⟩:=rx;exact SeqAt.EqAt.none_int b t
  |str b=>obtain⟨t,rfl⟩:=rx;exact SeqAt.EqAt.none_str b t
  |_=>exact absurd (show false=true from fx) F6
 |bl a=>
  cases ry;cases x with
  |non=>cases rx;exact SeqAt.EqAt.bool_none a
  |bl b=>cases rx;exact SeqAt.EqAt.bool_bool a b
  |int b=>obtain⟨t,rfl⟩:=rx;exact SeqAt.EqAt.bool_int a b t
  |str b=>obtain⟨t,rfl⟩:=rx;exact SeqAt.EqAt.bool_str a b t
  |_=>exact absurd (show false=true from fx) F6
 |int a=>
  obtain⟨t',rfl⟩:=ry;cases x with
  |non=>cases rx;exact SeqAt.EqAt.int_none a t'
  |bl b=>cases rx;exact SeqAt.EqAt.int_bool a t' b
  |int b=>obtain⟨t,rfl⟩:=rx;exact SeqAt.EqAt.int_int a t' b t
  |str b=>obtain⟨t,rfl⟩:=rx;exact SeqAt.EqAt.int_str a t' b t
  |_=>exact absurd (show false=true from fx) F6
 |str a=>
  obtain⟨t',rfl⟩:=ry;cases x with
  |non=>cases rx;exact SeqAt.EqAt.str_none a t'
  |bl b=>cases rx;exact SeqAt.EqAt.str_bool a t' b
  |int b=>obtain⟨t,rfl⟩:=rx;exact SeqAt.EqAt.str_int a t' b t
  |str b=>obtain⟨t,rfl⟩:=rx;exact SeqAt.EqAt.str_str a t' b t
  |_=>exact absurd (show false=true from fx) F6
 |_=>exact absurd (show false=true from fy) F6
def eqU(x:V)(u:KB):Bool:=match u with
 |.none=>eqV .non x
 |.bool b=>eqV (.bl b) x
 |.int i _=>eqV (.int i) x
 |.str z _=>eqV (.str z) x
 |_=>false
def qT{y:V}{u:KB}(r:RelV y u)(f:bA y=true):eqU x u=eqV y x:=by
 cases y with
 |non=>cases r;rfl
 |bl b=>cases r;rfl
 |int i=>obtain⟨t,rfl⟩:=r;rfl
 |str z=>obtain⟨t,rfl⟩:=r;rfl
 |_=>exact absurd (show false=true from f) F6
def jQ{x:V}:∀{xs:List V} {us:List KB},Vals xs us->xs.all bA=true->us.any (eqU x)=xs.any λy=>eqV y x
 |_,_,.nil,_=>rfl
 |y::xs,u::us,.cons r t,f=>by
  rw[GD,Gg]at f;rw[G4,G4,qT r f.1,jQ t f.2]
def mem_eqAt{A:RV}{s:KM}{x:V}{v:KB}(rx:RelV x v)(fx:bA x=true):∀{xs:List V} {us:List KB},Vals xs us->xs.all bA=true->∀u∈us,SeqAt.EqAt A s u v (eqU x u)
 |_,_,.nil,_=>λu hu=>by cases hu
 |y::xs,u::us,.cons r t,f=>λu' hu=>by
  rw[GD,Gg]at f;rcases FQ.mp hu with rfl|hu
  .rw[qT r f.1];exact eqAt_V r rx f.1 fx
  .exact mem_eqAt rx fx t f.2 u' hu
def inV(x:V)(xs:List V):Bool:=xs.any λy=>eqV y x
def rIn(K:Ex)(neg:Bool):R2:=λx y H Q=>∃p xs,y=.ref p/\(SqL K H p xs\/SqT K H p xs)/\bA x=true/\xs.all bA=true/\Q (.bl (if neg then !inV x xs else inV x xs)) H
def xB:OpR X (R5 .NotIn) (rIn X.K true):=by
 intro pins s σ H x y v u Q I rx ry h;obtain⟨p,xs,rfl,hq,fx,fs,q⟩:=h;cases ry;rcases hq with hq|hq
 .obtain⟨its,r,pl,hz⟩:=I.list hq;refine SeqAt.notIn_listAt (eqU x) pl.isList (λw hw=>mem_eqAt rx fx r fs w (by simpa using hw)) #[.bl _,H,I,rfl,?_];rw[show its.toArray.any (eqU x)=its.any (eqU x)by simp,jQ r fs];exact q
 .obtain⟨its,r,pl,hz⟩:=I.tuple hq;refine SeqAt.notIn_tupleAt (eqU x) pl (λw hw=>mem_eqAt rx fx r fs w (by simpa using hw)) #[.bl _,H,I,rfl,?_];rw[show its.toArray.any (eqU x)=its.any (eqU x)by simp,jQ r fs];exact q
def xC:OpR X (R5 .NotIn) (λx y H Q=>∃i j,x=.str i/\y=.str j/\Q (.bl (!(!(Builtin.Str.occurrences j i 0 j.length 1).isEmpty))) H):=by
 intro pins s σ H x y v u Q I rx ry h;obtain⟨i,j,rfl,rfl,q⟩:=h;obtain⟨t,rfl⟩:=rx;obtain⟨t',rfl⟩:=ry;exact notIn_str #[.bl _,H,I,rfl,q]
def qU:bJ X (.type "list") (λxs H Q=>∃p ys,xs=[.ref p]/\(SqL X.K H p ys\/SqT X.K H p ys)/\∀l,H l=s_->Q (.ref l) (upd H l (.lst ys))):=by
 intro pins s σ H xs us Q I r h;obtain⟨p,ys,rfl,hq,q⟩:=h;obtain⟨u,rfl,rx⟩:=bS r;cases rx;have fI:∀(its:List KB),Vals ys its->ys.length<=sizeLine->∀(h':RW) (c':Nat),(∀b o',s.heap.get? b=be o'->h'.get? b=be o')->
   h'.get? s.heap.objs.size=be {cls:=.type "list",dict:=s_,data:=.seq its.toArray c',slots:=[].toArray}->EP X pins σ Q (.ref s.heap.objs.size) {s with heap:=h'}:=λits r' hz h' c' kp e=>
  #[.ref s.heap.objs.size,_,I.laid (t':=s.toks) kp (FM _) (show ObjOk X.prog X.w _ h' _ (.lst ys)from#[hz,its,c',r',e]),rfl,q _ (I.hok.fresh (FM _))]
 rcases hq with hq|hq
 .obtain⟨its,r',pl,hz⟩:=I.list hq;have b7:=r'.length;obtain⟨o,ho,hc,n,hd⟩:=pl.isList;exact call_list_seq p (.inl rfl) ho hc hd (λh' c' kp e=>fI its r' hz h' c' kp e) (by simp only[FR]<;>lia)
 .obtain⟨its,r',pl,hz⟩:=I.tuple hq;have b7:=r'.length;obtain⟨o,ho,hc,n,hd⟩:=pl;exact call_list_seq p (.inr rfl) ho hc hd (λh' c' kp e=>fI its r' hz h' c' kp e) (by simp only[FR]<;>lia)
def xD:bJ X (.type "tuple") (λxs H Q=>∃p ys,xs=[.ref p]/\((SqL X.K H p ys/\∀l,H l=s_->Q (.ref l) (upd H l (.tup ys)))\/(SqT X.K H p ys/\Q (.ref p) H))):=by
 intro pins s σ H xs us Q I r h;obtain⟨p,ys,rfl,h⟩:=h;obtain⟨u,rfl,rx⟩:=bS r;cases rx;rcases h with⟨hq,q⟩|⟨hq,q⟩
 .obtain⟨its,r',pl,hz⟩:=I.list hq;have b7:=r'.length;refine call_tuple_list pl.isList (λh' kp=>?_) (by simp only[FR]<;>lia);have I1:Inv X pins σ H {s with heap:=h'}:=I.kept (t':=s.toks) kp;have I2:Inv X pins σ (upd H h'.objs.size (.tup ys)) {s with heap:=h'.push {cls:=.type "tuple",data:=.seq its.toArray} }:=
   I1.laid (t':=s.toks) (λb o e=>Heap.get?_push_of_some _ e) (FM _) (show ObjOk X.prog X.w _ _ _ (.tup ys)from#[hz,its,r',IsTup.new _ _])
  exact#[.ref h'.objs.size,_,I2,rfl,q _ (I1.hok.fresh (FM _))]
 .obtain⟨its,r',pl,hz⟩:=I.tuple hq;exact call_tuple_same pl #[.ref p,H,I,rfl,q]
def tyV(K:Ex)(T:String)(x:V)(H:Hp):Prop:=match x with
 |.str _=>T="str"
 |.int _=>T="int"
 | .ref p=>(T="list"/\∃xs,SqL K H p xs)\/(T="tuple"/\∃o,K.lookup p=be o/\o.cls=.type "tuple"/\o.dict=s_)\/
   (T="dict"/\((∃a8,H p=be (.dK a8))\/∃a8,H p=be (.dT a8)))\/(T="set"/\∃S n,H p=be (.set S n))
 |_=>False
def xE{σ:St}{H:Hp}{T:String}{v:KB}(I:Inv X pins σ H s)(r:RelV x v)(ty:tyV X.K T x H):
  s.TypeIs v T/\∀a,v=.ref a->∃ob,s.heap.get? a=be ob/\ob.dict=none:=by
 cases x with
 |str z=>
  obtain⟨t,rfl⟩:=r;cases(show T="str" from ty);exact#[Tz s z t,λ_ e=>nomatch e]
 |int i=>
  obtain⟨t,rfl⟩:=r;cases(show T="int" from ty);exact#[typeIs_int s i t,λ_ e=>nomatch e]
 |ref p=>
  cases r;rcases ty with⟨rfl,xs,hq⟩|⟨rfl,o,hk,hc,hd⟩|⟨rfl,hk⟩|⟨rfl,S,n,hk⟩
  .obtain⟨its,_,pl,_⟩:=I.list hq;refine#[pl.isList.typeIs,λa e=>?_];cases e;obtain⟨o,n,e,c,hd,_⟩:=pl;exact#[o,e,hd]
  .refine#[#[o,I.kIn p o hk,hc],λa e=>?_];cases e;exact#[o,I.kIn _ o hk,hd]
  .have z:∃o,s.heap.get? p=be o/\o.ExactDict:=by
    rcases hk with⟨a8,hk⟩|⟨a8,hk⟩
    .obtain⟨_,_,_,_,o,_,_,e,ex,_⟩:=I.hok p _ hk;exact#[o,e,ex]
    .obtain⟨_,_,_,_,o,_,_,e,ex,_⟩:=I.hok p _ hk;exact#[o,e,ex]
   obtain⟨o,e,ex⟩:=z;refine#[#[o,e,ex.1],λa e2=>?_];cases e2;exact#[o,e,ex.2.1]
  .obtain⟨o,_,_,_,e,ex,_⟩:=I.hok p _ hk;refine#[#[o,e,ex.1],λa e2=>?_];cases e2;exact#[o,e,ex.2.1]
 |_=>exact False.elim ty
def tBM(K:Ex)(T:String)(r:V->List V->Hp->VK->Prop)(to:TE)(t:TA):TE:=λσ H Q=>to σ H λx H1=>tyV K T x H1/\t σ H1 λxs H2=>r x xs H2 Q
variable {o e:RP}{es:List RP}{to:TE}{t:TA}{name:E_}{apos cpos:R6}{T id:String}{r:V->List V->Hp->VK->Prop}
def eB(pa:PlainAttrs T)(slot:Slot T name id)(MU:typeOf (.builtin id)=pure (.type "method_descriptor"))(hm:MtR X id r)(ho:PE X o to)(ha:PA X (e::es) t)
  (b8:autoParam (R1 o name X.env (R3 o X.env)=R3 o X.env) zA0)
  (d9:((Sz cpos (RY (e::es) X.env)).all (λx=>!x.1)&&(SZ cpos (SE [] X.env)).all (λx=>x.1.isSome)
   && decide ((e::es).length+([]:List SS).length+(if([]:List SS).isEmpty then 0 else 1)<30))=true:=by rfl)
  (c5:autoParam ((apos.endLine==cpos.line)=true) zA0) (hs:autoParam (zSE X e es) zA0) (n6:autoParam (zPL X cpos es) zA0):
  PE X (.Call (.Attribute o name apos) (e::es) [] cpos) (tBM X.K T r to t):=by
 intro pins s σ H Q I h;refine wpAny_Call_method_late b8 d9 c5 rfl (thn (ho pins s σ H _ I h) λv s1 b9=>?_);obtain⟨x,H1,I1,r1,ty,q1⟩:=b9;obtain⟨h1,h2⟩:=xE I1 r1 ty;refine#[T,id,pa,slot,MU,h1,h2,?_];have hA:=ha cpos pins s1 σ H1 _ I1 q1;rw[hs]at hA ⊢;refine Calls.callWith_builtin (by show(false||(Sz cpos (RY es X.env)).any (·.1))=false;rw[n6]<;>rfl) (Calls.evalArgs_plain ?_);exact thn hA λus s2 ⟨vs,H2,I2,r2,q2⟩=>hm pins s2 σ H2 x vs v us Q I2 r1 r2 q2
end
def MtM(X:Cx)(id:String)(r:V->List V->Hp->VK->Prop):Prop:=
 ∀(pins:List (KF×R_)) (s:KM) (σ:St) (H:Hp) (x:V) (xs:List V) (v:KB) (us:List KB) (Q:VK),Inv X pins σ H s->RelV x v->Vals xs us->r x xs H Q->
  RR (RS X.prog X.w) X.A (call (.builtin id) (v::us)) (EP X pins σ Q) X.xe s
def Vals.one:∀{x:V} {us:List KB},Vals [x] us->∃u,us=[u]/\RelV x u:=by
 intro x us h;cases h with
 |cons r h=>cases h;exact#[_,rfl,r]
def Vals.two:∀{x y:V} {us:List KB},Vals [x,y] us->∃u v,us=[u,v]/\RelV x u/\RelV y v:=by
 intro x y us h;cases h with
 |cons r h=>
  obtain⟨u,rfl,q⟩:=Vals.one h;exact#[_,_,rfl,r,q]
def Vals.zero:∀{us:List KB},Vals [] us->us=[]
 |_,.nil=>rfl
def Vals.dropLast{xs:List V}{us:List KB}(h:Vals xs us):Vals xs.dropLast us.dropLast:=by
 induction h with
 |nil=>exact .nil
 |cons r t ih=>
  cases t with
  |nil=>exact .nil
  |cons q t'=>exact .cons r ih
section
variable {X:Cx}{pins:List (KF×R_)}{σ:St}{H:Hp}{s:KM}{l b:KF}{xs ys zs:List V}
variable{its:List KB}
def Inv.lset{its':List KB}{n:Nat}{f:Array KB->Array KB}{t':Nat}(I:Inv X pins σ H s)(hH:H l=be (.lst xs))
  (e:s.heap.get? l=be {cls:=.type "list",data:=.seq its.toArray n}) (hf:f its.toArray=its'.toArray) (hv:Vals ys its') (hz:ys.length<=sizeLine):
  Inv X pins σ (upd H l (.lst ys)) {s with heap:=s.heap.update l (Obj.mapSeq f),toks:=t'}:=by
 have q:=PySem.IsL.update e f;rw[hf]at q;refine I.write (x:=l) (e:=l) (by rw[hH];exact trivial) (.inl rfl) (λb' u hb hu=>(Heap.get?_update_other s.heap (Obj.mapSeq f) (Ne.symm hb)).trans hu) #[_,q] ?_;exact#[hz,its',_,hv,q]
def Inv.lnew{t':Nat}(I:Inv X pins σ H s)(hv:Vals ys its)(hz:ys.length<=sizeLine):
  Inv X pins σ (upd H s.heap.objs.size (.lst ys)) {s with heap:=s.heap.push {cls:=.type "list",data:=.seq its.toArray},toks:=t'}:=
 I.laid (λ_ _ q=>Heap.get?_push_of_some _ q) (FM _) #[hz,its,0,hv,Heap.get?_push_size _ rfl]
def Inv.fresh(I:Inv X pins σ H s):H s.heap.objs.size=none:=I.hok.fresh (FM _)
def Inv.lstM(I:Inv X pins σ H s)(hH:H l=be (.lst xs)):xs.length<=sizeLine/\∃(its:List KB) (n:Nat),Vals xs its/\xs.length=its.length/\s.heap.get? l=be {cls:=.type "list",data:=.seq its.toArray n}:=by
 obtain⟨z,its,n,r,e⟩:=I.hok l _ hH;exact#[z,its,n,r,r.length,e]
def xF{n:Nat}(h:n<=sizeLine):Builtin.List.listTooLong n=false:=by
 unfold Builtin.List.listTooLong;exact decide_eq_false Kd
end
section
variable {X:Cx}
def xG:V->List V->Hp->VK->Prop:=λx vs H Q=>∃l xs y,x=.ref l/\vs=[y]/\H l=be (.lst xs)/\xs.length<sizeLine/\Q .non (upd H l (.lst (xs++[y])))
def jR:MtM X "list.append" xG:=by
 intro pins s σ H x vs v us Q I rx rv h;obtain⟨l,xs,y,rfl,rfl,hH,hz,q⟩:=h;cases rx;obtain⟨u,rfl,ru⟩:=rv.one;obtain⟨z,its,n,r,hl,e⟩:=I.lstM hH;refine call_meets F.slot_list_append #[_,e,rfl] F.entry_list_append (F.args_list_append_2 _ _) (PySem.list_append l its.toArray n u (by rw[FR];lia)) #[e,?_];refine#[.non,_,I.lset (its':=its++[u]) hH e Ld (r.append (.cons ru .nil)) ?_,rfl,q];rw[F8,IB];lia
def xH:V->List V->Hp->VK->Prop:=λx vs H Q=>∃l b xs zs,x=.ref l/\vs=[.ref b]/\H l=be (.lst xs)/\H b=be (.lst zs)/\xs.length+zs.length<=sizeLine/\Q .non (upd H l (.lst (xs++zs)))
def FI:MtM X "list.extend" xH:=by
 intro pins s σ H x vs v us Q I rx rv h;obtain⟨l,b,xs,zs,rfl,rfl,hH,hB,hz,q⟩:=h;cases rx;obtain⟨u,rfl,ru⟩:=rv.one;cases ru;obtain⟨z,its,n,r,hl,e⟩:=I.lstM hH;obtain⟨z2,d8,n2,r2,Kg,e2⟩:=I.lstM hB;have gt:its.toArray.size+d8.toArray.size<=sizeLine:=by rw[FR,FR];lia
 have Lh:¬(!its.toArray.isEmpty&&Builtin.List.listTooLong (its.toArray.size+d8.toArray.size))=true:=by
  rw[xF gt,IC];exact F6
 refine call_meets F.slot_list_extend #[_,e,rfl] F.entry_list_extend (F.args_list_extend_2 _ _)
  (AutoSeq1.list_extend_list_list_0 l its.toArray n b d8.toArray n2 Lh (by rw[FR];lia) Kd) #[e,e2,?_]
 refine#[.non,_,I.lset (its':=its++d8) hH e Ld (r.append r2) ?_,rfl,q];rw[F8];lia
def rCat:R2:=λx y H Q=>∃l b xs zs,x=.ref l/\y=.ref b/\H l=be (.lst xs)/\H b=be (.lst zs)/\xs.length+zs.length<=sizeLine/\∀p,H p=s_->Q (.ref p) (upd H p (.lst (xs++zs)))
def xI:OpR X (Se .Add) rCat:=by
 intro pins s σ H x y v u Q I rx ry h;obtain⟨l,b,xs,zs,rfl,rfl,hH,hB,hz,q⟩:=h;cases rx;cases ry;obtain⟨z,its,n,r,hl,e⟩:=I.lstM hH;obtain⟨z2,d8,n2,r2,Kg,e2⟩:=I.lstM hB;refine PySem.P.add_list e e2 ?_ (by rw[FR,FR];lia);have ea:its.toArray++d8.toArray=(its++d8).toArray:=Ld
 rw[ea];exact#[.ref _,_,I.lnew (t':=s.toks) (r.append r2) (by rw[F8];lia),rfl,q _ I.fresh]
end
end L2
namespace Oz
open PySem PySem.W PySem.Calls PyProof.Rows
variable{P:Params}
def xJ{h:RW}:∀(ns:List Int) (vs:List KB),WellAll P h vs (ns.map WData.int)->S1 vs ns:=by
 intro ns;induction ns with
 |nil=>
  intro vs w;rw[GJ]at w;cases w;exact .nil
 |cons n ns ih=>
  intro vs w;rw[FY]at w;cases w with
  |cons a b=>
   cases a;exact .cons _ _ (ih _ b)
variable{l:OpenLaw}
def xK{n:Nat}(hn:l.most=be n){h:RW}{args:List WData}{Kh:List KB}
  (G_:l.row.toRowW.claim.pre args=true) (MV:WellAll P h Kh args):
  ∃a vs ns,Kh=[Value.ref a]/\args=[WData.list (ns.map WData.int)]/\h.get? a=be {cls:=.type "list",data:=.seq vs.toArray}/\S1 vs ns/\ns.length<=n:=by
 have PR:WShape.hasAll [] args [.list .int]=true:=(pre_splitW G_).1;have hc:l.pre.holds [] {args:=args}=true:=(pre_splitW G_).2;obtain⟨d,r,rfl,h1,h2⟩:=hasAllW_cons PR;obtain rfl:=hasAllW_nil h2;obtain⟨xs,rfl,h3⟩:=hasW_list h1;obtain⟨ns,rfl⟩:=items_int h3;have b7:ns.length<=n:=by
  unfold OpenLaw.pre at hc;have h4:(WTm.not (.lt (.lit (.int (n:Int))) (.len (.arg 0)))).holds [] {args:=[.list (ns.map .int)]}=true:=by
   have h4:=(holds_andW hc).1;rw[hn]at h4;exact h4
  have h5:=condW_of h4 (w_not (w_lt w_lit (w_len_list (w_arg rfl))));rw[FP]at h5;refine Hk λq=>?_;have q':(n:Int)<((ns.length:Nat):Int):=Kd
  first
   |(rw[decide_eq_true q']at h5;exact absurd h5 Kj)
   |(simp at h5;lia)
 cases MV with
 |cons w1 w2=>
  cases w2;cases w1 with
  |list ho H_=>exact#[_,_,ns,rfl,rfl,ho,xJ ns _ H_,b7]
def xL(l:OpenLaw)(args:List WData):l.row.toRowW.claim.post args (.bool true) args=true:=
 postW_of (r:=l.row.toRowW) (X:=(true==true))
  (show WShape.has [] (.bool true) .bool=true by first|rfl|decide|simp[WShape.has,WShape.arms,WShape.armsAll])
  (show(WTm.eq .res (.lit (.bool true))).value [] {args:=args,res:=be (.bool true),after:=args}=be (.bool (true==true))from w_eq_bool (w_res rfl) w_lit) rfl
def attach_call{n:Nat}{q:RQ}{j3:List E_}{XP:(E_->Option KB)->RW->Prop}{YP:RU->RW->Prop}{d:DefRec}
  (hn:l.most=be n) (Li:d.params.defaults=[])
  (call:∀(w:RU) (s₀ s₁:KM) (mg mb:E_->Option KB) (fa:KF) (o:R_) (pm cd doc:KB) (a:KF) (vs:List KB) (ns:List Int),
   Ground q j3 [] XP w s₀ mg mb s₁.heap->YP w s₁.heap->
   s₁.heap.get? fa=be o->o.data=.func (docDef d.name d.params d.body d.scope pm cd doc)->s₁.heap.CodeRec cd d.name->mg d.name=be (.ref fa)->
   s₁.heap.get? a=be {cls:=.type "list",data:=.seq vs.toArray}->S1 vs ns->ns.length<=n->s₁.gens=[].toArray->
   SR (RS l.prog w) SX (.call (.ref fa) #[[.ref a],[]]) (λr s'=>r=.ok (.ret (.bool true))/\OldK s₁.heap s'.heap/\s'.os=s₁.os/\SH s'.gens) s₁):
  WalkO q j3 XP YP l.row.toRowW d [] (λf vs=>PySem.call f vs):=by
 intro w s₀ s₁ mg mb G Y fa o pm cd doc dV kV ho hd i6 hD l5 hg args Kh as G_ PU Rf MV Rg;obtain rfl:dV=.none:=Dflts.none hD Li;obtain rfl:kV=.none:=Dflts.noKw hD;obtain⟨a,vs,ns,rfl,rfl,Ki,u9,b7⟩:=xK hn G_ MV;refine enter_call (SL (call w s₀ s₁ mg mb fa o pm cd doc a vs ns G Y ho (fd_plain hd) i6 l5 Ki u9 b7 hg) λr s' hq=>?_);obtain⟨rfl,h2,h3,h4⟩:=hq;exact#[.inl #[.bool true,.bool true,[],rfl,λ_=>rfl,.bool true,xL l _,λ_=>#[List.Pairwise.nil,λ_ hm=>(nomatch hm)]],h2,h3,h4]
end Oz
namespace L2
open PySem PySem.Spec PyProof.Rows
def qV:∀{vs:List KB} {ns:List Int},S1 vs ns->Vals (ns.map V.int) vs
 |_,_,.nil=>.nil
 |_,_,.cons n t h=>.cons #[t,rfl] (qV h)
def Only(H:Hp):Prop:=∀b,H b=s_\/∃o xs,H b=be (.frz o (.lst xs))
variable{P:RQ}{w:RU}{a:KF}
def xM{K:Ex}{mg mb:E_->Option KB}{CX:CXT}{k:Nat}{fa:KF}{fd:R4}{x:E_}{sp:Sp}{s₁:KM}{vs:List KB}{ns:List Int}
  (KX:K.In s₁.heap) (hns:s₁.heap.Ns Pi mg) (hb:s₁.heap.Ns TC mb) (PV:∀x:E_,x≠"__name__"->mb x=Sa x) (MX:s₁.heap.NoLimit) (hg:s₁.gens=[].toArray)
  (ha:s₁.heap.get? a=be {cls:=.type "list",data:=.seq vs.toArray}) (hi:S1 vs ns) (hl:ns.length<=sizeLine) (hr:Room k SX)
  (F:∀base:RW,K.In base->base.Ns Pi mg->FnOk P w K mg base CX k fa fd [x] sp) (Lj:∀(s:KM) (u:KB),S2 s fd #[[u],[]] [(x,u)])
  (z7:∀H:Hp,Only H->SqL K H a (ns.map V.int)->sp [.ref a] H (λv _=>v=.bl true) λ_ _ _=>False)
  (MY:∀H e s',CX [] H s₁ (λ_ _ _=>False) e s'->False):
  SR (RS P w) SX (.call (.ref fa) #[[.ref a],[]]) (λr s'=>r=.ok (.ret (.bool true))/\OldK s₁.heap s'.heap/\s'.os=s₁.os/\SH s'.gens) s₁:=by
 have rv:=qV hi;have MZ:=hi.length;have Ll:∀H:Hp,Only H->SqL K H a (ns.map V.int)->HOk P w H s₁.heap->(∀b,H b≠s_->b=a)->(H a≠s_->K.lookup a=s_)->
   SR (RS P w) SX (.call (.ref fa) #[[.ref a],[]]) (λr s'=>r=.ok (.ret (.bool true))/\OldK s₁.heap s'.heap/\s'.os=s₁.os/\SH s'.gens) s₁:=by
  intro H hO hS hok hA hK;have o8:∀{b:KF} {o:R_},s₁.heap.get? b=be o->H b=s_->(hidT s₁.heap H).get? b=be o:=λe n=>vJ e n;have Le:∀{b:KF} {o:R_} {es:Array DictEntry} {ep:Nat},s₁.heap.get? b=be o->o.data=.dict es ep->H b=none:=λ{b o es ep} e d=>by
   cases q:H b with
   |none=>rfl
   |some u=>
    have e':b=a:=hA b (by rw[q];simp);subst e';rw[ha]at e;cases e;have d':Data.seq vs.toArray _=Data.dict es ep:=d;cases d'
  have Ma:∀{b:KF} {m:E_->Option KB},s₁.heap.Ns b m->(hidT s₁.heap H).Ns b m:=λ{b m} ⟨o,es,ep,e,d,r⟩=>#[o,es,ep,o8 e (Le e d),d,r];have OB:K.In (hidT s₁.heap H):=λb o e=>o8 (KX b o e) (by
   cases q:H b with
   |none=>rfl
   |some u=>
    have e':b=a:=hA b (by rw[q];simp);subst e';rw[hK (by rw[q];simp)]at e;cases e)
  have hM:Mod K mg (hidT s₁.heap H):=#[OB,Ma hns,#[mb,Ma hb,PV],let ⟨mc,h1,h2⟩:=MX;#[mc,Ma h1,h2]];have e0:Env0 P w K mg (hidT s₁.heap H) SX [] s₁ H:=#[rfl,hM,λb o e=>vK e,Hw (vI _ _),trivial,λb hb=>absurd (show b∈([]:List KF)from hb) Ld,hok,.of_eq hg];refine SL ((F _ OB (Ma hns)).run SX [] s₁ H #[[.ref a],[]] [.ref a] [.ref a] _ _ hr e0 (Lj s₁ (.ref a)) (.cons rfl .nil) (z7 H hO hS)) λr s' h=>?_;cases r with
  |error e=>exact(MY H e s' h).elim
  |ok fl=>
   cases fl with
   |next=>exact False.elim h
   |brk=>exact False.elim h
   |cont=>exact False.elim h
   |ret u=>
    obtain⟨v,H',os,bare,un,M0,r',q⟩:=h;have q':v=.bl true:=q;subst q';obtain rfl:u=Value.bool true:=r';refine#[rfl,OldK.of_keep λb o e=>?_,os,bare];cases q:H b with
    |none=>exact un.keep b o e q (by intro z;exact absurd (show b∈([]:List KF)from z) Ld) Ld
    |some u=>
     rcases hO b with z|⟨ob,xs,z⟩
     .rw[q]at z;cases z
     .have z2:=un.frzs b ob _ z;obtain⟨e1,_⟩:=hok b _ z;obtain⟨e2,_⟩:=M0 b _ z2;rw[e]at e1;cases e1;exact e2
 cases hk:K.lookup a with
 |some o=>
  have e:=KX a o hk;rw[ha]at e;cases e;refine Ll (λ_=>s_) (λ_=>.inl rfl) (.inr #[_,vs.toArray,_,hk,rfl,rfl,rfl,by rw[FR,MZ];exact hl,by simpa using rv]) (λb u z=>by have z':(s_:Option HO)=be u:=z;cases z') (λb z=>absurd rfl z) λz=>absurd rfl z
 |none=>
  refine Ll (λb=>if b=a then be (.frz {cls:=.type "list",data:=.seq vs.toArray} (.lst (ns.map V.int)))else s_) (λb=>?_) (.inl (.inr #[{cls:=.type "list",data:=.seq vs.toArray},if_pos rfl])) (λb u z=>?_) (λb z=>?_) λ_=>hk
  .by_cases hb:b=a
   .exact .inr #[_,_,if_pos hb]
   .exact .inl (if_neg hb)
  .by_cases hb:b=a
   .have z':=(if_pos hb).symm.trans z;cases z';subst hb;exact#[ha,by rw[FP];exact hl,vs,_,rv,ha]
   .have z':=(if_neg hb).symm.trans z;cases z'
  .by_cases hb:b=a
   .exact hb
   .exact absurd (if_neg hb) z
def walk_of{l:HZ}{n k:Nat}{q:RQ}{j3:List E_}{XP:(E_->Option KB)->RW->Prop}{YP:RU->RW->Prop}{d:DefRec}{K:Params->Ex}{CX:RU->CXT}{sp:RU->Sp}{x:E_}
  (hn:l.most=be n) (Kf:n<=sizeLine) (Li:d.params.defaults=[]) (hr:Room k SX)
  (hY:∀(w:RU) (h:RW),YP w h->(K w.params).In h)
  (F:∀(w:RU) (mg:E_->Option KB) (fa:KF) (h:RW),(K w.params).In h->h.Ns Pi mg->mg d.name=be (.ref fa)->
   ∃fd:R4,(∀(s:KM) (u:KB),S2 s fd #[[u],[]] [(x,u)])/\
    ∀base:RW,(K w.params).In base->base.Ns Pi mg->FnOk l.prog w (K w.params) mg base (CX w) k fa fd [x] (sp w))
  (z7:∀(w:RU) (H:Hp) (a:KF) (ns:List Int),ns.length<=n->Only H->SqL (K w.params) H a (ns.map V.int)->sp w [.ref a] H (λv _=>v=.bl true) λ_ _ _=>False)
  (MY:∀(w:RU) (H:Hp) (s:KM) (e:KB) (s':KM),CX w [] H s (λ_ _ _=>False) e s'->False):
  ID q j3 XP YP l.row.toRowW d [] (λf vs=>PySem.call f vs):=by
 refine Oz.attach_call hn Li λw s₀ s₁ mg mb fa o pm cd doc a vs ns G Y ho hd i6 l5 Ki u9 b7 hg=>?_;have KX:=hY w _ Y;obtain⟨fd,hb,hF⟩:=F w mg fa _ KX G.T.g l5;exact xM KX G.T.g G.T.b G.T.builtins G.T.nolimit hg Ki u9 (FX b7 Kf) hr hF hb (λH hO hS=>z7 w H a ns b7 hO hS) λH e s'=>MY w H s₁ e s'
def bt(s:P3)(j:Nat):P3:=match s with
 |.ClassDef _ _ _ body _ _ _ _ _ _ _=>body.getD j (.Pass #[0,0,0,0])
 |_=>.Pass #[0,0,0,0]
def bM(s:P3):Arguments:=match s with
 |.FunctionDef _ a _ _ _ _ _ _ _ _=>a
 |_=>{posonlyargs:=[],args:=[],vararg:=s_,kwonlyargs:=[],kw_defaults:=[],kwarg:=s_,defaults:=[]}
def aQ(s:P3):List P3:=match s with
 |.FunctionDef _ _ b _ _ _ _ _ _ _=>b
 |_=>[]
def ao(s:P3):Sl:=match s with
 |.FunctionDef _ _ _ _ _ _ sc _ _ _=>sc
 |_=>{kind:=.function,names:=[],isGenerator:=false,isCoroutine:=false}
abbrev CX0:CXT:=λ_ _ _ _ _ _=>False
abbrev E0:XK:=λ_ _ _=>False
structure FunG(K:Ex)(dV:KB)(x qual:Str)(st:P3)(f:KF)(fd:R4):Prop where
 ex:∃(oc:KB) (od:Option KF) (kV doc pm:KB) (an:Option KF) (cdv ct:KB) (osl:Array (Option KB)),
  fd=fnOf x qual (bM st) (aQ st) (ao st) dV kV doc pm an cdv ct/\K.lookup f=be #[oc,od,.func fd,osl]/\codeIn K cdv qual=true
 kp:keepIn K (.ref f)=true
abbrev Fun(K:Ex):E_->E_->P3->KF->R4->Prop:=FunG K .none
section
variable {P:RQ}{w:RU}{K:Ex}{mg:E_->Option KB}{base:RW}
variable{x qual:E_}{st:P3}{f:KF}{ps:List E_}
def Fun.ok{fd:R4}{N:List E_}{k:Nat}{sp:Sp}(F:Fun K x qual st f fd)(S:FnScope N ps (ao st))(len:∀vs H Q E,sp vs H Q E->vs.length=ps.length)
  (a_:∀(cdv:KB) (A:RV) (outer:List SG) (s:KM) (H:Hp) (vs:List V) (Q:VK) (E:XK),Room k (A.deeper (R' qual (ao st) s.heap.objs.size f cdv))->sp vs H Q E->
   ∃t,PSs (cxOf CX0 P w K mg base N qual (ao st) f cdv A outer s H E).nox (aQ st) t/\t {nx:=λ_ H'=>Q .non H',rt:=Q} (start N vs) H):FnOk P w K mg base CX0 (k+1) f fd ps sp:=by
 obtain⟨oc,od,kV,doc,pm,an,cdv,ct,osl,rfl,lk,i6⟩:=F.ex;refine qI lk i6 S len λA outer s H vs Q E hr z7=>?_;obtain⟨t,h,q⟩:=a_ cdv A outer s H vs Q E hr z7;exact#[t,h.nox,q]
def Fun.binds{fd:R4}(F:Fun K x qual st f fd)
  (h:∀(kV doc pm:KB) (an:Option KF) (cdv ct:KB) (us:List KB),us.length=ps.length->Sv (fnOf x qual (bM st) (aQ st) (ao st) .none kV doc pm an cdv ct) #[us,[]]=pure (ps.zip us)):Binds K fd ps []:=by
 obtain⟨oc,od,kV,doc,pm,an,cdv,ct,osl,rfl,lk,i6⟩:=F.ex;exact .all (h kV doc pm an cdv ct)
def gC{oc:KB}{od an:Option KF}{osl:Array (Option KB)}{kV doc pm cdv ct:KB}(l:K.lookup f=be #[oc,od,.func (fnOf x qual (bM st) (aQ st) (ao st) .none kV doc pm an cdv ct),osl])
  (c:codeIn K cdv qual=true) (k:keepIn K (.ref f)=true):Fun K x qual st f (fnOf x qual (bM st) (aQ st) (ao st) .none kV doc pm an cdv ct):=#[#[oc,od,kV,doc,pm,an,cdv,ct,osl,rfl,l,c],k]
end
def gD{A:RV}{k:Nat}(hr:Room k A):A.units+1<SY:=IE (Nat.add_le_add_left (Kj:1<=64) _) hr.units
def xN{n:Nat}(h:n<=1000):n<sizeLine:=IE h Kj
def ite2{c A B:Prop}[Decidable c](h1:c->A)(h2:¬c->B):if c then A else B:=by
 by_cases h:c
 .rw[if_pos h];exact h1 h
 .rw[if_neg h];exact h2 h
def Same(H H':Hp):Prop:=∀b o,H b=be o->H' b=be o
def Same.refl(H:Hp):Same H H:=λ_ _ h=>h
variable{H:Hp}
def Same.trans{H1 H2:Hp}(a:Same H H1)(b:Same H1 H2):Same H H2:=λc o h=>b c o (a c o h)
variable{H':Hp}
def Same.free(e:Same H H'){l:KF}(h:H' l=Option.none):H l=Option.none:=by
 cases q:H l with
 |none=>rfl
 |some o=>
  rw[e l o q]at h;cases h
def Same.seq{K:Ex}{xs:List V}(e:Same H H')(h:SqL K H a xs):SqL K H' a xs:=by
 rcases h with(h|⟨o,h⟩)|h
 .exact .inl (.inl (e _ _ h))
 .exact .inl (.inr #[o,e _ _ h])
 .exact .inr h
section
variable {κ:Type}[DecidableEq κ]
def valV(a8:List (κ×V))(k:κ):Option V:=(a8.find? λkv=>decide (kv.1=k)).map (·.2)
def putK(a8:List (κ×V))(k:κ)(v:V):List (κ×V):=
 if(a8.any λkv=>decide (kv.1=k))=true then a8.map (λkv=>if kv.1=k then(kv.1,v)else kv)else a8++[(k,v)]
def jS{p:κ×V}{r:List (κ×V)}{k:κ}(e:p.1=k):valV (p::r) k=be p.2:=by simp[valV,G5,e]
def jT{p:κ×V}{r:List (κ×V)}{k:κ}(e:¬p.1=k):valV (p::r) k=valV r k:=by simp[valV,G5,e]
def RelO.getD{o:Option V}{u:Option KB}{d:V}{d':KB}(r:RelO o u)(rd:RelV d d'):RelV (o.getD d) (u.getD d'):=by
 cases o with
 |none=>cases u with
  |none=>exact rd
  |some _=>exact(show False from r).elim
 |some _=>cases u with
  |none=>exact(show False from r).elim
  |some _=>exact r
def KV.val{a8:List (κ×V)}{vs:List (κ×KB)}(r:KV a8 vs)(k:κ):RelO (valV a8 k) (S7 vs k):=by
 unfold KV at r;induction r with
 |nil=>exact True.intro
 |@cons p q ps qs h t ih=>
  obtain⟨h1,h2⟩:=h;by_cases e:p.1=k
  .have e':q.1=k:=h1.symm.trans e;have b:S7 (q::qs) k=be q.2:=by simp[S7,G5,e']
   rw[jS e,b];exact h2
  .have e':¬q.1=k:=λz=>e (h1.trans z);have b:S7 (q::qs) k=S7 qs k:=by simp[S7,G5,e']
   rw[jT e,b];exact ih
def KV.any{a8:List (κ×V)}{vs:List (κ×KB)}(r:KV a8 vs)(k:κ):(a8.any λkv=>decide (kv.1=k))=vs.any λkv=>decide (kv.1=k):=by
 unfold KV at r;induction r with
 |nil=>rfl
 |cons h t ih=>rw[G4,G4,ih,h.1]
def KV.keys{a8:List (κ×V)}{vs:List (κ×KB)}(r:KV a8 vs):a8.map (·.1)=vs.map (·.1):=by
 unfold KV at r;induction r with
 |nil=>rfl
 |cons h t ih=>rw[FY,FY,ih,h.1]
def KV.length{a8:List (κ×V)}{vs:List (κ×KB)}(r:KV a8 vs):a8.length=vs.length:=Paired.length r
end
def qW{k:Key}{u:KB}(r:RelV (kV k) u):(bR P w).is k u=true:=by
 cases k with
 |inl i=>obtain⟨t,e⟩:=(show ∃t,u=Value.int i t from r);subst e;exact mixKind_int P w i t
 |inr x=>obtain⟨t,e⟩:=(show ∃t,u=Value.str x t from r);subst e;exact vG P w x t
def qX{P:RQ}{w:RU}:∀{ks:List Key} {us:List KB},Vals (ks.map kV) us->ItemsAre (bR P w) ks us
 |[],_,r=>by rw[GJ]at r;cases r;exact .nil
 |k::ks,_,r=>by
  rw[FY]at r;cases r with
  |cons h t=>exact .cons (qW h) (qX t)
abbrev KT(H:Hp):List (List Key×V)->List (List Key×KF×KB)->Prop:=Paired λp q=>p.1=q.1/\H q.2.1=be (.tup (p.1.map kV))/\RelV p.2 q.2.2
variable{xs:List (List Key×KF×KB)}{a8:List (List Key×V)}
def KT.val(r:KT H a8 xs)(k:List Key):RelO (valV a8 k) ((S6 xs k).map (·.2)):=by
 induction r with
 |nil=>exact True.intro
 |@cons p q ps qs h t ih=>
  obtain⟨h1,_,h2⟩:=h;by_cases e:p.1=k
  .have e':q.1=k:=h1.symm.trans e;have b:S6 (q::qs) k=be q.2:=by simp[S6,G5,e']
   rw[jS e,b];exact h2
  .have e':¬q.1=k:=λz=>e (h1.trans z);have b:S6 (q::qs) k=S6 qs k:=by simp[S6,G5,e']
   rw[jT e,b];exact ih
def KT.keeps(r:KT H a8 xs)(ht:∀b ys,H b=be (.tup ys)->H' b=be (.tup ys)):KT H' a8 xs:=
 Paired.mapP r λ_ _ z=>#[z.1,ht _ _ z.2.1,z.2.2]
section
variable {P:RQ}{w:RU}{H:Hp}{h:RW}{a:KF}
def qY{u:HO}(ok:HOk P w H h)(e:Rd H a u):ObjOk P w H h a u:=e.ok ok
def xO{a8:List (Key×V)}(ok:HOk P w H h)(e:Rd H a (.dK a8)):a8.length<=sizeLine/\(a==Sj)=false/\∃vs,KV a8 vs/\h.DictOf (bR P w) a vs:=
 show ObjOk P w H h a (.dK a8)from qY ok e
def key_of{ks:List Key}(ok:HOk P w H h)(e:H a=be (.tup (ks.map kV))):(SI (bR P w)).is h ks a:=by
 obtain⟨_,its,r,o,h1,h2,n,h3⟩:=(show ObjOk P w H h a (.tup (ks.map kV))from ok a _ e);exact#[o,its.toArray,n,h1,h2,h3,by simpa using qX r]
variable{a8:List (List Key×V)}
def qZ(ok:HOk P w H h)(e:Rd H a (.dT a8)):a8.length<=sizeLine/\(a==Sj)=false/\
  ∃xs,KT H a8 xs/\h.DictOfH (SI (bR P w)) a xs:=by
 obtain⟨z,y,xs,r,o,es,ep,h1,h2,h3,h4,h5⟩:=(show ObjOk P w H h a (.dT a8)from qY ok e);refine#[z,y,xs,r,o,es,ep,h1,h2,h3,h4,λx hx=>?_,h5];have all:∀{l:List (List Key×V)} {m:List (List Key×KF×KB)},KT H l m->∀x∈m,(SI (bR P w)).is h x.1 x.2.1:=by
  intro l m q;induction q with
  |nil=>intro x hx;exact nomatch hx
  |@cons p q ps qs hq t ih=>
   intro x hx;rcases FQ.mp hx with e|hx
   .subst e;exact key_of ok (by rw[<-hq.1];exact hq.2.1)
   .exact ih x hx
 exact all r x hx
def xP(ok:HOk P w H h)(e:H a=be (.dT a8)):a8.length<=sizeLine/\(a==Sj)=false/\
  ∃xs,KT H a8 xs/\h.DictOfH (SI (bR P w)) a xs:=qZ ok (.inl e)
end
def DGet(H:Hp)(a:KF)(y:V)(r:Option V):Prop:=
 (∃a8 k,Rd H a (.dK a8)/\y=kV k/\r=valV a8 k)\/∃a8 k b,Rd H a (.dT a8)/\y=.ref b/\H b=be (.tup (k.map kV))/\r=valV a8 k
def DPut(H:Hp)(a:KF)(y v:V)(H':Hp):Prop:=
 (∃a8 k,H a=be (.dK a8)/\y=kV k/\a8.length<sizeLine/\H'=upd H a (.dK (putK a8 k v)))\/
 ∃a8 k b,H a=be (.dT a8)/\y=.ref b/\H b=be (.tup (k.map kV))/\a8.length<sizeLine/\H'=upd H a (.dT (putK a8 k v))
def DGet.k{a8:List (Key×V)}{k:Key}(e:H a=be (.dK a8)):DGet H a (kV k) (valV a8 k):=.inl #[a8,k,.inl e,rfl,rfl]
def DGet.t{b:KF}{k:List Key}(e:H a=be (.dT a8))(eb:H b=be (.tup (k.map kV))):DGet H a (.ref b) (valV a8 k):=.inr #[a8,k,b,.inl e,rfl,eb,rfl]
def DPut.k{a8:List (Key×V)}{k:Key}{v:V}(e:H a=be (.dK a8))(hl:a8.length<sizeLine):DPut H a (kV k) v (upd H a (.dK (putK a8 k v))):=.inl #[a8,k,e,rfl,hl,rfl]
def DPut.t{b:KF}{k:List Key}{v:V}(e:H a=be (.dT a8))(eb:H b=be (.tup (k.map kV)))(hl:a8.length<sizeLine):
  DPut H a (.ref b) v (upd H a (.dT (putK a8 k v))):=.inr #[a8,k,b,e,rfl,eb,hl,rfl]
section
variable {X:Cx}{pins:List (KF×R_)}{σ:St}{H:Hp}{s:KM}{a:KF}{y v:V}{u r:KB}{o:Option V}{A:RV}{E:KB->KM->Prop}
def Inv.big(I:Inv X pins σ H s):Sj<s.heap.objs.size:=by
 have h:Pi<s.heap.objs.size:=(I.mod.glob.keeps I.bk).lt;exact IF Kj h
def xQ{h':RW}{t':Nat}{ob:HO}(I:Inv X pins σ H s)(mu:Mut (H a))(hs:Heap.SameBut a s.heap h')(he:∃q,h'.get? a=be q)(new:ObjOk X.prog X.w (upd H a ob) h' a ob):
  Inv X pins σ (upd H a ob) {s with heap:=h',toks:=t'}:=
 I.write (x:=a) (e:=a) mu (.inl rfl) (λb q hb z=>(hs.2 b hb).trans z) he new
end
def xR(h:RW)(hb:Sj<h.objs.size):ObjOk P w H (h.push {cls:=.type "dict",data:=.dict [].toArray}) h.objs.size (.dT []):=
 #[Go _,beq_eq_false_iff_ne.mpr (Ne.symm (FW hb)),[],.nil,_,[].toArray,0,Heap.get?_push_size _ rfl,#[rfl,rfl,rfl],rfl,rfl,IG]
def xS:TE:=λ_ H Q=>∀p,H p=s_->Q (.ref p) (upd H p (.dT []))
section
variable {X:Cx}{pos:R6}
def pe_dnewT:PE X (.Dict [] [] pos) xS:=λpins s σ H Q I h=>
 wpAny_Dict_empty #[.ref s.heap.objs.size,_,I.laid (a:=s.heap.objs.size) (o:=.dT []) (t':=s.toks) (λ_ _ q=>Heap.get?_push_of_some _ q) (FM _) (xR s.heap I.big),rfl,h _ (I.hok.fresh (FM _))]
end
structure M1(X:Cx)(o:RP)(m:Str)(apos:R6)(e:RP)(cpos:R6):Prop where
 base:R1 o m X.env (R3 o X.env)=R3 o X.env
 few:((Sz cpos (RY [e] X.env)).all (λx=>!x.1)&&(SZ cpos (SE [] X.env)).all (λx=>x.1.isSome)
  && decide (([e]:List RP).length+([]:List SS).length+(if([]:List SS).isEmpty then 0 else 1)<30))=true
 line:(apos.endLine==cpos.line)=true
 trees:Sz cpos (RY [e] X.env)=[(false,R3 e X.env)]
structure M2(X:Cx)(o:RP)(m:Str)(apos:R6)(e f:RP)(cpos:R6):Prop where
 base:R1 o m X.env (R3 o X.env)=R3 o X.env
 few:((Sz cpos (RY [e,f] X.env)).all (λx=>!x.1)&&(SZ cpos (SE [] X.env)).all (λx=>x.1.isSome)
  && decide (([e,f]:List RP).length+([]:List SS).length+(if([]:List SS).isEmpty then 0 else 1)<30))=true
 line:(apos.endLine==cpos.line)=true
 trees:Sz cpos (RY [e,f] X.env)=[(false,R3 e X.env),(false,R3 f X.env)]
section
variable {X:Cx}{pins:List (KF×R_)}{σ:St}{H:Hp}{s:KM}{a:KF}{y d:V}{u r:KB}{o:Option V}{A:RV}{E:KB->KM->Prop}
def xT{Q:KB->KM->Prop}(hu:A.units+1<SY)(I:Inv X pins σ H s)(g:DGet H a y o)(ry:RelV y u)(rd:RelV d r)(h:∀w' s',Inv X pins σ H s'->RelV (o.getD d) w'->Q w' s'):
  RR (RS X.prog X.w) A (call (.builtin "dict.get") [.ref a,u,r]) Q E s:=by
 rcases g with⟨a8,k,e,ey,l⟩|⟨a8,k,b,e,ey,eb,l⟩
 .subst ey;obtain⟨z,hd,vs,rel,dd⟩:=xO I.hok e;refine To PySem.F.slot_dict_get dd.typeIs PySem.F.entry_dict_get (PySem.F.args_dict_get_3 _ _ _) (meets_dict_get_default (bR X.prog X.w) a (qW ry) hd r) #[_,dd.mapOf,h _ _ (I.tok _) ?_];rw[l];exact(rel.val k).getD rd
 .subst ey;cases(show u=Value.ref b from ry);obtain⟨z,hd,xs,rel,dd⟩:=qZ I.hok e;refine To PySem.F.slot_dict_get dd.typeIs PySem.F.entry_dict_get (PySem.F.args_dict_get_3 _ _ _) (meetsH_dict_get_default (SI (bR X.prog X.w)) a b hd r) #[TB hu,k,xs,key_of I.hok eb,dd,h _ _ (I.tok _) ?_];rw[l];exact(rel.val k).getD rd
end
end L2
end
section
open PySem PySem.Spec PyProof.Rows L2
namespace Exc
open PySem PySem.Spec PyProof.Rows PySem.W L2
def bc:List KB->Bool
 |.ref _::r=>bc r
 |l=>l==[.type "ValueError",.type "Exception",.type "BaseException",.type "object"]
def xU(self:KB):∀{l:List KB},bc l=true->refuseLoop self "__setattr__" l=pure ()
 |.ref c::r,e=>by rw[refuseLoop_ref];exact xU self (by unfold bc at e;exact e)
 |[],e=>by simp[bc]at e
 |.type n::r,e=>by
  have e':(Value.type n::r)=[.type "ValueError",.type "Exception",.type "BaseException",.type "object"]:=by simpa[bc]using e
  rw[e'];exact PySem.F.store_ValueError.passes self
 |.none::r,e=>by simp[bc]at e
 |.bool _::r,e=>by simp[bc]at e
 |.int _ _::r,e=>by simp[bc]at e
 |.float _ _::r,e=>by simp[bc]at e
 |.str _ _::r,e=>by simp[bc]at e
 |.bytes _ _::r,e=>by simp[bc]at e
 |.builtin _::r,e=>by simp[bc]at e
def ra{T:String}(hT:[Value.type "ValueError",.type "Exception",.type "BaseException",.type "object"].contains (.type T)=true):∀{l:List KB},bc l=true->l.contains (.type T)=true
 |.ref c::r,e=>by rw[H8,ra hT (l:=r) (by unfold bc at e;exact e),Hy]
 |[],e=>by simp[bc]at e
 |.type n::r,e=>by
  have e':(Value.type n::r)=[.type "ValueError",.type "Exception",.type "BaseException",.type "object"]:=by simpa[bc]using e
  rw[e'];exact hT
 |.none::r,e=>by simp[bc]at e
 |.bool _::r,e=>by simp[bc]at e
 |.int _ _::r,e=>by simp[bc]at e
 |.float _ _::r,e=>by simp[bc]at e
 |.str _ _::r,e=>by simp[bc]at e
 |.bytes _ _::r,e=>by simp[bc]at e
 |.builtin _::r,e=>by simp[bc]at e
abbrev veLine:List KB:=[.type "ValueError",.type "Exception",.type "BaseException",.type "object"]
section
variable {prog:RQ}{w:RU}{A:RV}{E:KB->KM->Prop}{s:KM}{env:SG}
variable {nm q:E_}{C N:KF}{bs bm:List KB}{hdct:Bool}{sn:List E_}{sub:List KB}{ab:Bool}{col:Option Bool}{dd:Option KF}{k0 k1 k2 k3 k5:Option KB}{newId:String}
variable{Q:Flow->KM->Prop}
def xV{x:Ts KB}(b8:bm.contains (.type "BaseException")=true)(hh:A.handled=s_)
  (h:RR (RS prog w) A x (λv s₁=>∃e t od sl,v=.ref e/\s₁.heap.get? C=be (Sk nm q C N bs bm hdct sn sub ab col dd k0 k1 k2 k3 k5 newId)/\
   s₁.heap.get? e=be #[.ref C,od,.fields [.ref t,.none,.none,.none,.bool false,.none].toArray,sl]/\E (.ref e) s₁) E s):
  RR (RS prog w) A (raiseStmt env (be x) s_) Q E s:=by
 have M4:(Value.ref C::bm).contains (.type "BaseException")=true:=by rw[H8,b8,Hy]
 unfold raiseStmt;refine Os (R8 h (λv s₁ h₁=>?_) λ_ _ x=>x);obtain⟨e,t,od,sl,rfl,hC,he,hE⟩:=h₁;obtain⟨hp,g,d,tk,os⟩:=s₁
 repeat(first|(with_reducible refine SB he ?_)|(with_reducible refine SB hC ?_)|(with_reducible refine SU hC ?_;rw[M4])|wp_step)
 exact wpAny_raiseNew_none hh hE
def xW{x:RP}{pos:R6}(b8:bm.contains (.type "BaseException")=true)(hh:A.handled=s_)
  (h:RR (RS prog w) A (R3 x env) (λv s₁=>∃e t od sl,v=.ref e/\s₁.heap.get? C=be (Sk nm q C N bs bm hdct sn sub ab col dd k0 k1 k2 k3 k5 newId)/\
   s₁.heap.get? e=be #[.ref C,od,.fields [.ref t,.none,.none,.none,.bool false,.none].toArray,sl]/\E (.ref e) s₁) E s):
  RR (RS prog w) A (exec (.Raise (be x) s_ pos) env) Q E s:=by
 rw[arm_exec_Raise];show RR (RS prog w) A (do SQ pos;raiseStmt env (be (do let v <-R3 x env;SQ pos;pure v)) s_) Q E s;exact Os (Sm (xV b8 hh (Os (R8 h (λv s₁ h₁=>Os (Sm (RT h₁))) λ_ _ x=>x))))
end
def ExAt(h:RW)(e C:KF)(od:Option KF)(T:KF)(fl:KB):Prop:=
 ∃sl vs oT ts,h.get? e=be #[.ref C,od,.fields vs,sl]/\vs[1]?=be (.ref T)/\T≠e/\h.get? T=be oT/\oT.data=.fields ts/\ts[3]?=be fl
structure Stay(fs ex:List KF)(h h':RW):Prop where
 keep:∀b o,h.get? b=be o->b∉ex->b∉fs->h'.get? b=be o
 slot:∀b o,h.get? b=be o->b∉ex->∃sl,h'.get? b=be {o with slots:=sl}
 there:∀b o,h.get? b=be o->∃o',h'.get? b=be o'
section
variable {M:TM}{A:RV}{E:KB->KM->Prop}{s:KM}{env:SG}{outer:List SG}{base:RW}{L e C T:KF}{od:Option KF}
variable{Q:Unit->KM->Prop}
def rb{sl:Array (Option KB)}{vs:Array KB}(hfr:A.frames=be (env::outer))(hl:s.heap.FunFrames base (env::outer))(hf:env.frame=be L)
  (he:s.heap.get? e=be #[.ref C,od,.fields vs,sl]) (h1:vs[1]?=be .none)
  (h:∀h' T,ExAt h' e C od T (SK L)->s.heap.objs.size<=T->Stay (frs (env::outer)) [e] s.heap h'->Q () {s with heap:=h'}):RR M A (SJ (.ref e) env) Q E s:=by
 have gt:1<vs.size:=(Hz.mp h1).1;have Kk:e∉(env::outer).filterMap (·.frame):=λhm=>by
  obtain⟨_,o,ho,hnf⟩:=hl.mem hm;rw[he]at ho;injection ho with ho;subst ho;exact hnf vs rfl
 unfold SJ;simp only[hf];refine Os (Ss he rfl h1 ?_);rw[if_neg Kj];refine Os (TF hfr hl hf λh₁ hs₁=>Os (Tu λpl c9=>?_));unfold EntryCells.newEntry newFields;refine Os (R7 ?_ (c9.sizeOk5 _ _ _ _ _));have he₁:h₁.get? e=be #[.ref C,od,.fields vs,sl]:=(hs₁.2.1 e Kk).trans he;have fresh:h₁.get? h₁.objs.size=none:=Heap.get?_none_of_le (FM _);generalize Ln:({cls:=.type "traceback",dict:=s_,data:=.fields ([Value.none,.ref L,.none,SK L,.none]++(if pl.isEmpty then Gy 6 Value.none else pl)).toArray}:R_)=oT;have he₂:=Heap.get?_push_of_some (h:=h₁) oT he₁;have u_:h₁.objs.size≠e:=GQ (Heap.lt_size he₁);refine SO he₂ rfl gt (h _ h₁.objs.size ?_ ?_ ?_)
 .refine#[sl,vs.setIfInBounds 1 (.ref h₁.objs.size),oT,([Value.none,.ref L,.none,SK L,.none]++(if pl.isEmpty then Gy 6 Value.none else pl)).toArray,?_,by simp[gt],u_,?_,by rw[<-Ln],Ld]
  .rw[Heap.get?_update_self _ he₂ rfl];rfl
  .rw[Heap.get?_update_other _ _ (Ne.symm u_)];exact Heap.get?_push_size h₁ (by rw[<-Ln];rfl)
 .exact Hw hs₁.1.symm
 .have kp:∀b o,b≠e->h₁.get? b=be o->((h₁.push oT).update e (Obj.mapFields (·.setIfInBounds 1 (Value.ref h₁.objs.size)))).get? b=be o:=λb o hb z=>by
   rw[Heap.get?_update_other _ _ (Ne.symm hb)];exact Heap.get?_push_of_some _ z
  refine#[λb o q n m=>kp b o (λz=>n (by simp[z])) ((hs₁.2.1 b m).trans q),λb o q n=>?_,λb o q=>?_]
  .obtain⟨u8,z⟩:=hs₁.2.2 b o q;exact#[u8,kp b _ (λz=>n (by simp[z])) z]
  .by_cases hb:b=e
   .subst hb;exact#[_,Heap.get?_update_self _ he₂ rfl]
   .obtain⟨u8,z⟩:=hs₁.2.2 b o q;exact#[_,kp b _ hb z]
def rg(hfr:A.frames=be (env::outer))(hl:s.heap.FunFrames base (env::outer))(hf:env.frame=be L)(hx:ExAt s.heap e C od T .none)
  (h:∀h' T',ExAt h' e C od T' (SK L)->s.heap.objs.size<=T'->Stay (frs (env::outer)) [T,e] s.heap h'->Q () {s with heap:=h'}):RR M A (SJ (.ref e) env) Q E s:=by
 obtain⟨sl,vs,oT,ts,he,h1,u_,hT,k6,h3⟩:=hx;have gt:1<vs.size:=(Hz.mp h1).1;have Mb:3<ts.size:=(Hz.mp h3).1;have Kk:e∉(env::outer).filterMap (·.frame):=λhm=>by
  obtain⟨_,o,ho,hnf⟩:=hl.mem hm;rw[he]at ho;injection ho with ho;subst ho;exact hnf vs rfl
 unfold SJ;simp only[hf];refine Os (Ss he rfl h1 ?_);rw[if_pos (show(Value.ref T !=Value.none)=true from Ld)];refine Os (Ss hT k6 h3 ?_);rw[if_neg (show¬((Value.none==SK L)=true)from by simp[SK])];refine Os (SO hT k6 Mb ?_);have other:∀b,b≠T->(s.heap.update T (Obj.mapFields (·.setIfInBounds 3 Value.none))).get? b=s.heap.get? b:=λb hb=>Heap.get?_update_other _ _ (Ne.symm hb);have nT:∀b o,s.heap.get? b=be o->(∀vs,o.data≠.fields vs)->b≠T:=λb o hb hnf q=>by
  rw[q,hT]at hb;injection hb with hb;subst hb;exact hnf ts k6
 have PX:(s.heap.update T (Obj.mapFields (·.setIfInBounds 3 Value.none))).FunFrames base (env::outer):=hl.of_keeps λb o hb hnf=>#[o,(other b (nT b o hb hnf)).trans hb,rfl];have PY:∃o',(s.heap.update T (Obj.mapFields (·.setIfInBounds 3 Value.none))).get? T=be o':=#[_,Heap.get?_update_self _ hT (Obj.isFreed_of_fields (Obj.data_mapFields k6 _))];refine Os (TF hfr PX hf λh₁ hs₁=>Os (Tu λpl c9=>?_));unfold EntryCells.newEntry newFields;refine Os (R7 ?_ (c9.sizeOk5 _ _ _ _ _));have he₁:h₁.get? e=be #[.ref C,od,.fields vs,sl]:=(hs₁.2.1 e Kk).trans ((other e (Ne.symm u_)).trans he);have fresh:h₁.get? h₁.objs.size=none:=Heap.get?_none_of_le (FM _);generalize Ln:({cls:=.type "traceback",dict:=s_,data:=.fields ([Value.ref T,.ref L,.none,SK L,.none]++(if pl.isEmpty then Gy 6 Value.none else pl)).toArray}:R_)=M5;have he₂:=Heap.get?_push_of_some (h:=h₁) M5 he₁;have Lo:h₁.objs.size≠e:=GQ (Heap.lt_size he₁);refine SO he₂ rfl gt (h _ h₁.objs.size ?_ ?_ ?_)
 .refine#[sl,vs.setIfInBounds 1 (.ref h₁.objs.size),M5,([Value.ref T,.ref L,.none,SK L,.none]++(if pl.isEmpty then Gy 6 Value.none else pl)).toArray,?_,by simp[gt],Lo,?_,by rw[<-Ln],Ld]
  .rw[Heap.get?_update_self _ he₂ rfl];rfl
  .rw[Heap.get?_update_other _ _ (Ne.symm Lo)];exact Heap.get?_push_size h₁ (by rw[<-Ln];rfl)
 .exact Hw (hs₁.1.trans (Heap.size_after_update _ _ _)).symm
 .have kp:∀b o,b≠e->h₁.get? b=be o->((h₁.push M5).update e (Obj.mapFields (·.setIfInBounds 1 (Value.ref h₁.objs.size)))).get? b=be o:=λb o hb z=>by
   rw[Heap.get?_update_other _ _ (Ne.symm hb)];exact Heap.get?_push_of_some _ z
  refine#[λb o q n m=>kp b o (λz=>n (by simp[z])) ((hs₁.2.1 b m).trans ((other b (λz=>n (by simp[z]))).trans q)),λb o q n=>?_,λb o q=>?_]
  .obtain⟨u8,z⟩:=hs₁.2.2 b o ((other b (λz=>n (by simp[z]))).trans q);exact#[u8,kp b _ (λz=>n (by simp[z])) z]
  .by_cases hb:b=e
   .subst hb;exact#[_,Heap.get?_update_self _ he₂ rfl]
   .have:∃o',(s.heap.update T (Obj.mapFields (·.setIfInBounds 3 Value.none))).get? b=be o':=by
     by_cases hb:b=T
     .rw[hb];exact PY
     .exact#[o,(other _ hb).trans q]
    obtain⟨o',q'⟩:=this;obtain⟨u8,z⟩:=hs₁.2.2 b o' q';exact#[_,kp b _ hb z]
def flight_none{fl:KB}(hx:ExAt s.heap e C od T fl)(h:∀h',ExAt h' e C od T .none->Stay [] [T] s.heap h'->Q () {s with heap:=h'}):RR M A (S3 (.ref e) s_) Q E s:=by
 obtain⟨sl,vs,oT,ts,he,h1,u_,hT,k6,h3⟩:=hx;have Mb:3<ts.size:=(Hz.mp h3).1;unfold S3;refine Os (Ss he rfl h1 ?_);rw[if_pos (show(Value.ref T !=Value.none)=true from Ld)];refine SO hT k6 Mb (h _ ?_ ?_)
 .exact#[sl,vs,_,_,(Heap.get?_update_other _ _ u_).trans he,h1,u_,Heap.get?_update_self _ hT (Obj.isFreed_of_fields (Obj.data_mapFields k6 _)),Obj.data_mapFields k6 _,by simp[Mb]]
 .have other:∀b o,b∉[T]->s.heap.get? b=be o->(s.heap.update T (Obj.mapFields (·.setIfInBounds 3 ((s_:Option KF).elim Value.none λf=>SK f)))).get? b=be o:=λb o hb q=>(Heap.get?_update_other _ _ (λz=>hb (by simp[z]))).trans q;refine#[λb o q n _=>other b o n q,λb o q n=>#[o.slots,other b o n q],λb o q=>?_];by_cases hb:b=T
  .subst hb;exact#[_,Heap.get?_update_self _ hT (Obj.isFreed_of_fields (Obj.data_mapFields k6 _))]
  .exact#[o,other b o (by simp[hb]) q]
end
def CX1(P:RQ)(w:RU):CXT:=λouter H s E ev s'=>∃e C od T H',ev=.ref e/\s'.os=s.os/\SH s'.gens/\Un (frs outer) [] H H' s.heap s'.heap/\HOk P w H' s'.heap/\ExAt s'.heap e C od T .none/\s.heap.get? e=s_/\s.heap.get? T=s_/\H' e=s_/\H' T=s_/\E (.ref C) od H'
variable{fs ex:List KF}
def fJ{P:RQ}{w:RU}{H:Hp}{h h':RW}(x:HOk P w H h)(st:Stay fs ex h h')(hf:∀b∈fs,H b=s_)(he:∀b∈ex,H b=s_):HOk P w H h':=λa o q=>
 (x a o q).stay (λb u hb r=>by
  have hn:H b≠none:=by
   rcases hb with rfl|hb
   .rw[q];exact λz=>nomatch z
   .rw[hb];exact λz=>nomatch z
  exact st.keep b u r (λz=>hn (he b z)) (λz=>hn (hf b z))) (λ_ q=>q) λ_ _ q=>q
def gE{m8:List KF}{H H':Hp}{h h1 h2:RW}(u:Un fs [] H H' h h1)(st:Stay m8 ex h1 h2)(hex:∀b∈ex,h.get? b=s_)(Mc:∀b∈m8,b∈fs\/h.get? b=s_):Un fs [] H H' h h2 where
 keep:=λb o q n hb hx=>st.keep b o (u.keep b o q n hb hx) (λz=>by rw[hex b z]at q;cases q) (λz=>(Mc b z).elim hb λy=>by rw[y]at q;cases q)
 slot:=λb o q n hb hx=>by
  obtain⟨sl,e1⟩:=u.slot b o q n hb hx;obtain⟨u8,e2⟩:=st.slot b _ e1 (λz=>by rw[hex b z]at q;cases q);exact#[u8,e2]
 free:=u.free
 there:=λb o q hx=>by
  obtain⟨o1,e1⟩:=u.there b o q hx;exact st.there b o1 e1
 tups:=u.tups
 frzs:=u.frzs
 tbls:=u.tbls
section
variable {P:RQ}{w:RU}{K:Ex}{mg:E_->Option KB}{base:RW}{N:List E_}{qual:E_}{scope:Sl}{f:KF}{cd:KB}{A:RV}{outer:List SG}{s:KM}{H:Hp}{E E':XK}
def rh{b:KF}(hb:b∈frs (R' qual scope s.heap.objs.size f cd::outer)):b∈frs outer\/s.heap.get? b=none:=by
 unfold frs at hb;rw[Hv]at hb;rcases FQ.mp (show b∈s.heap.objs.size::outer.filterMap (·.frame)from hb)with e|e
 .rw[e];exact .inr (Heap.get?_none_of_le (FM _))
 .exact .inl e
def rj{pins:List (KF×R_)}{σ:L2.St}{H1:Hp}{s1:KM}{e C:KF}{od:Option KF}{sl:Array (Option KB)}{vs:Array KB}(I:Inv (cxOf (CX1 P w) P w K mg base N qual scope f cd A outer s H E') pins σ H1 s1)
  (he:s1.heap.get? e=be #[.ref C,od,.fields vs,sl]) (h1:vs[1]?=be .none) (He:H1 e=s_) (ne:s.heap.get? e=s_) (hE:E' (.ref C) od H1):(cxOf (CX1 P w) P w K mg base N qual scope f cd A outer s H E').xe (.ref e) s1:=by
 show RR _ _ (Th _ _) _ _ _;unfold Th;refine Os (rb I.ok.frames I.stack rfl he h1 λh2 T2 o_ v3 p8=>flight_none (s:={s1 with heap:=h2}) o_ λh3 Lp z6=>?_);have I_:s1.heap.get? T2=none:=Heap.get?_none_of_le v3;have f1:∀b,s1.heap.get? b=s_->s.heap.get? b=none:=λb q=>by
  cases z:s.heap.get? b with
  |none=>rfl
  |some o=>
   obtain⟨o',z'⟩:=I.base.there b o z (by exact λy=>absurd (show b∈([]:List KF)from y) Ld);rw[q]at z';cases z'
 have hok:HOk P w H1 s1.heap:=I.hok;have JZ:H1 T2=none:=hok.fresh v3;have u2:Un (frs outer) [] H H1 s.heap h2:=gE (show Un (frs outer) [] H H1 s.heap s1.heap from I.base) p8 (λb hb=>by rw[FO.mp hb];exact ne) λb hb=>rh hb;have u3:Un (frs outer) [] H H1 s.heap h3:=gE u2 z6 (λb hb=>by rw[FO.mp hb];exact f1 T2 I_) λb hb=>by cases hb
 have k2:=fJ hok p8 (λb hb=>I.stkFree b hb) (λb hb=>by rw[FO.mp hb];exact He);have k3:=fJ k2 z6 (λb hb=>by cases hb) (λb hb=>by rw[FO.mp hb];exact JZ);exact#[e,C,od,T2,H1,rfl,I.os,I.bare,u3,k3,Lp,ne,f1 T2 I_,He,JZ,hE]
end
end Exc
namespace L2
def Same.tup{K:Ex}{H H':Hp}{a:KF}{xs:List V}(e:Same H H')(h:SqT K H a xs):SqT K H' a xs:=by
 rcases h with(h|⟨o,h⟩)|h
 .exact .inl (.inl (e _ _ h))
 .exact .inl (.inr #[o,e _ _ h])
 .exact .inr h
end L2
namespace My
def gG{X:Cx}:fH (Exc.CX1 X.prog X.w) X E0:=λ_ _ _ _ _ _ _ h=>by
 obtain⟨e,C,od,T,H',_,_,_,_,_,_,_,_,_,_,h⟩:=h;exact h.elim
def Fun.okC{P:RQ}{w:RU}{K:Ex}{mg:E_->Option KB}{base:RW}{CX:CXT}{x qual:E_}{st:P3}{f:KF}{fd:R4}{N ps:List E_}{k:Nat}{sp:Sp}{dV:KB}(F:FunG K dV x qual st f fd)(S:FnScope N ps (ao st))(len:∀vs H Q E,sp vs H Q E->vs.length=ps.length)
  (a_:∀(cdv:KB) (A:RV) (outer:List SG) (s:KM) (H:Hp) (vs:List V) (Q:VK) (E:XK),Room k (A.deeper (R' qual (ao st) s.heap.objs.size f cdv))->sp vs H Q E->
   ∃t,PSs (cxOf CX P w K mg base N qual (ao st) f cdv A outer s H E) (aQ st) t/\t {nx:=λ_ H'=>Q .non H',rt:=Q} (start N vs) H):FnOk P w K mg base CX (k+1) f fd ps sp:=by
 obtain⟨oc,od,kV,doc,pm,an,cdv,ct,osl,rfl,lk,i6⟩:=F.ex;refine qI lk i6 S len λA outer s H vs Q E hr z7=>?_;exact a_ cdv A outer s H vs Q E hr z7
def Cal(P:RQ)(w:RU)(K:Ex)(mg:E_->Option KB)(base:RW)(n:Nat)(x:E_)(ps:List E_)(sp:Sp):Prop:=
 ∃f fd,FnOk P w K mg base (Exc.CX1 P w) n f fd ps sp/\Binds K fd ps []/\keepIn K (.ref f)=true/\mg x=be (.ref f)
def Tx(K:Ex)(mg:E_->Option KB)(x:E_)(st:P3)(ps:List E_):Prop:=
 ∃f fd,Fun K x x st f fd/\Binds K fd ps []/\mg x=be (.ref f)
section
variable {X:Cx}{n m:Nat}{ps:List E_}{sp:Sp}{x:E_}{p pos:R6}{e:RP}{es:List RP}{t:TA}
def xX(C:Cal X.prog X.w X.K X.mg X.base n x ps sp)(hr:Room m X.A)(ha:PA X (e::es) t)(hg:autoParam (Gl X x) zA0)(hn:autoParam (n<=m) zA1)(f6:autoParam (zND x) zA1)
  (he:autoParam (zSE X e es) zA0) (c9:autoParam (zPL X pos es) zA0):
  PE X (.Call (.Name x p) (e::es) [] pos) (qF sp [] E0 t):=by
 obtain⟨f,fd,F,hb,hk,hm⟩:=C;exact xg F (hr.mono hn) hg hm hk hb .nil gG ha f6 he c9
end
section
variable {P:RQ}{w:RU}{K:Ex}{mg:E_->Option KB}{base:RW}
def Tx.ok{x:E_}{st:P3}{N ps:List E_}{k:Nat}{sp:Sp}(T:Tx K mg x st ps)(S:FnScope N ps (ao st))(len:∀vs H Q E,sp vs H Q E->vs.length=ps.length)
  (a_:∀(f:KF) (cdv:KB) (A:RV) (outer:List SG) (s:KM) (H:Hp) (vs:List V) (Q:VK) (E:XK),Room k (A.deeper (R' x (ao st) s.heap.objs.size f cdv))->sp vs H Q E->
   ∃t,PSs (cxOf (Exc.CX1 P w) P w K mg base N x (ao st) f cdv A outer s H E).nox (aQ st) t/\t {nx:=λ_ H'=>Q .non H',rt:=Q} (start N vs) H):Cal P w K mg base (k+1) x ps sp:=by
 obtain⟨f,fd,F,hb,hm⟩:=T;refine#[f,fd,Fun.okC F S len (λcdv A outer s H vs Q E hr h=>?_),hb,F.kp,hm];obtain⟨t,h1,h2⟩:=a_ f cdv A outer s H vs Q E hr h;exact#[t,h1.nox,h2]
end
def aV{H:Hp}{p:KF}(h:H p=s_)(o:HO):Same H (upd H p o):=λb u q=>by rw[aD (cU q h)];exact q
def sz{n:Nat}(h:n<=1000):n<=sizeLine:=Hu (xN h)
end My
namespace L2
section
variable {X:Cx}
variable{e:RP}
def PE.anti{t t':TE}(h:PE X e t)(a:∀s H Q,t' s H Q->t s H Q):PE X e t':=λpins s σ H Q I q=>h pins s σ H Q I (a _ _ _ q)
def PT.anti{t t':TT}(h:PT X e t)(a:∀s H Q,t' s H Q->t s H Q):PT X e t':=λpins s σ H Q I q=>h pins s σ H Q I (a _ _ _ q)
def PW.anti{t t':TT}(h:PW X e t)(a:∀s H Q,t' s H Q->t s H Q):PW X e t':=λwh pins s σ H Q I q=>h wh pins s σ H Q I (a _ _ _ q)
def PA.anti{e:List RP}{t t':TA}(h:PA X e t)(a:∀s H Q,t' s H Q->t s H Q):PA X e t':=λp pins s σ H Q I q=>h p pins s σ H Q I (a _ _ _ q)
def PS.anti{e:P3}{t t':TS}(h:PS X e t)(a:∀E s H,t' E s H->t E s H):PS X e t':=λpins s σ H Q I q=>h pins s σ H Q I (a _ _ _ q)
def PSs.anti{e:List P3}{t t':TS}(h:PSs X e t)(a:∀E s H,t' E s H->t E s H):PSs X e t':=λpins s σ H Q I q=>h pins s σ H Q I (a _ _ _ q)
end
end L2
namespace My
inductive D where
 |non|bl (b:Bool)|int (i:Int)|str (x:Str)|tup (xs:List D)|lst (xs:List D)
  |rol (xs:List D)
  |obj (x:E_) (fs:List (E_×D))
  |exc (x:E_) (fs:List (E_×D))
  |own (xs:List D)
  |ptr (a:KF)
  |dti (a8:List ((Int×Int)×Int))
def dtiV(a8:List ((Int×Int)×Int)):List (List Key×V):=a8.map λe=>([.inl e.1.1,.inl e.1.2],.int e.2)
def XO(e C:KF)(od:Option KF):HO:=.ext λh=>∃vs sl,h.get? e=be #[.ref C,od,.fields vs,sl]
mutual
def Rep(K:Ex)(H:Hp):D->V->Prop
 |.non,v=>v=.non
 |.bl b,v=>v=.bl b
 |.int i,v=>v=.int i
 |.str x,v=>v=.str x
 |.tup ds,v=>∃a vs,v=.ref a/\H a=be (.tup vs)/\Reps K H ds vs
 |.lst ds,v=>∃a vs,v=.ref a/\H a=be (.lst vs)/\Reps K H ds vs
 |.rol ds,v=>∃a vs,v=.ref a/\SqL K H a vs/\Reps K H ds vs
 |.obj x fs,v=>∃a C dx vs,v=.ref a/\nsIn K Pi x=be (be (.ref C))/\H a=be (.ins C dx vs)/\RepF K H fs vs
 |.exc x fs,v=>∃a C od vs,v=.ref a/\nsIn K Pi x=be (be (.ref C))/\H a=be (XO a C od)/\RepF K H fs vs/\((od=s_/\vs=[])\/∃b,od=be b/\H b=be (.xd vs))
 |.own _,_=>False
 |.ptr a,v=>v=.ref a
 |.dti a8,v=>∃a,v=.ref a/\H a=be (.dT (dtiV a8))
def RepF(K:Ex)(H:Hp):List (E_×D)->List (E_×V)->Prop
 |[],vs=>vs=[]
 |(f,d)::ds,vs=>∃v r,vs=(f,v)::r/\Rep K H d v/\RepF K H ds r
def Reps(K:Ex)(H:Hp):List D->List V->Prop
 |[],vs=>vs=[]
 |d::ds,vs=>∃v r,vs=v::r/\Rep K H d v/\Reps K H ds r
end
mutual
def Rep.mono{K:Ex}{H H':Hp}(g:Same H H'):∀(d:D) (v:V),Rep K H d v->Rep K H' d v
 |.non,v,h=>by unfold Rep at h ⊢;exact h
 |.bl b,v,h=>by unfold Rep at h ⊢;exact h
 |.int b,v,h=>by unfold Rep at h ⊢;exact h
 |.str b,v,h=>by unfold Rep at h ⊢;exact h
 |.tup ds,v,h=>by
  unfold Rep at h ⊢;obtain⟨a,vs,e,q,r⟩:=h;exact#[a,vs,e,g _ _ q,Reps.mono g ds vs r]
 |.lst ds,v,h=>by
  unfold Rep at h ⊢;obtain⟨a,vs,e,q,r⟩:=h;exact#[a,vs,e,g _ _ q,Reps.mono g ds vs r]
 |.rol ds,v,h=>by
  unfold Rep at h ⊢;obtain⟨a,vs,e,q,r⟩:=h;exact#[a,vs,e,g.seq q,Reps.mono g ds vs r]
 |.obj C fs,v,h=>by
  unfold Rep at h ⊢;obtain⟨a,C,dx,vs,e,n,q,r⟩:=h;exact#[a,C,dx,vs,e,n,g _ _ q,RepF.mono g fs vs r]
 |.exc C fs,v,h=>by
  unfold Rep at h ⊢;obtain⟨a,C,od,vs,e,n,q,r,d⟩:=h;exact#[a,C,od,vs,e,n,g _ _ q,RepF.mono g fs vs r,d.imp id λ⟨b,h1,h2⟩=>#[b,h1,g _ _ h2]]
 |.own ds,v,h=>by
  unfold Rep at h ⊢;exact h
 |.ptr a,v,h=>by unfold Rep at h ⊢;exact h
 |.dti a8,v,h=>by
  unfold Rep at h ⊢;obtain⟨a,e,q⟩:=h;exact#[a,e,g _ _ q]
def RepF.mono{K:Ex}{H H':Hp}(g:Same H H'):∀(ds:List (E_×D)) (vs:List (E_×V)),RepF K H ds vs->RepF K H' ds vs
 |[],vs,h=>by unfold RepF at h ⊢;exact h
 |(f,d)::ds,vs,h=>by
  unfold RepF at h ⊢;obtain⟨v,r,e,q1,q2⟩:=h;exact#[v,r,e,Rep.mono g d v q1,RepF.mono g ds r q2]
def Reps.mono{K:Ex}{H H':Hp}(g:Same H H'):∀(ds:List D) (vs:List V),Reps K H ds vs->Reps K H' ds vs
 |[],vs,h=>by unfold Reps at h ⊢;exact h
 |d::ds,vs,h=>by
  unfold Reps at h ⊢;obtain⟨v,r,e,q1,q2⟩:=h;exact#[v,r,e,Rep.mono g d v q1,Reps.mono g ds r q2]
end
section
variable {K:Ex}{H:Hp}
variable{v:V}
def rep_non:Rep K H .non v↔v=.non:=by unfold Rep;exact Iff.rfl
def rep_bl{b:Bool}:Rep K H (.bl b) v↔v=.bl b:=by unfold Rep;exact Iff.rfl
def rep_int{i:Int}:Rep K H (.int i) v↔v=.int i:=by unfold Rep;exact Iff.rfl
variable{x:E_}
def rep_str:Rep K H (.str x) v↔v=.str x:=by unfold Rep;exact Iff.rfl
variable{ds:List My.D}
def rep_tupS:Rep K H (.tup ds) v↔∃a vs,v=.ref a/\H a=be (.tup vs)/\Reps K H ds vs:=by
 constructor
 .intro h;unfold Rep at h;exact h
 .intro h;unfold Rep;exact h
def rep_tup_mp(h:Rep K H (.tup ds) v):∃a vs,v=.ref a/\SqT K H a vs/\Reps K H ds vs:=by
 obtain⟨a,vs,e,q,r⟩:=rep_tupS.mp h;exact#[a,vs,e,SqT.of q,r]
def rep_ptr{a:KF}:Rep K H (.ptr a) v↔v=.ref a:=by unfold Rep;exact Iff.rfl
def rep_dti{a8:List ((Int×Int)×Int)}:Rep K H (.dti a8) v↔∃a,v=.ref a/\H a=be (.dT (dtiV a8)):=by
 constructor
 .intro h;unfold Rep at h;exact h
 .intro h;unfold Rep;exact h
def rep_lst:Rep K H (.lst ds) v↔∃a vs,v=.ref a/\H a=be (.lst vs)/\Reps K H ds vs:=by
 constructor
 .intro h;unfold Rep at h;exact h
 .intro h;unfold Rep;exact h
def rep_rol:Rep K H (.rol ds) v↔∃a vs,v=.ref a/\SqL K H a vs/\Reps K H ds vs:=by
 constructor
 .intro h;unfold Rep at h;exact h
 .intro h;unfold Rep;exact h
variable{fs:List (E_×My.D)}
def rep_obj:Rep K H (.obj x fs) v↔∃a C dx vs,v=.ref a/\nsIn K Pi x=be (be (.ref C))/\H a=be (.ins C dx vs)/\RepF K H fs vs:=by
 constructor
 .intro h;unfold Rep at h;exact h
 .intro h;unfold Rep;exact h
def rep_exc:Rep K H (.exc x fs) v↔∃a C od vs,v=.ref a/\nsIn K Pi x=be (be (.ref C))/\H a=be (XO a C od)/\RepF K H fs vs/\((od=s_/\vs=[])\/∃b,od=be b/\H b=be (.xd vs)):=by
 constructor
 .intro h;unfold Rep at h;exact h
 .intro h;unfold Rep;exact h
def rep_own:¬Rep K H (.own ds) v:=by intro h;unfold Rep at h;exact h
variable{vs:List (E_×V)}
def repf_nil:RepF K H [] vs↔vs=[]:=by unfold RepF;exact Iff.rfl
def repf_cons{f:E_}{d:D}{ds:List (E_×D)}:RepF K H ((f,d)::ds) vs↔∃v r,vs=(f,v)::r/\Rep K H d v/\RepF K H ds r:=by
 constructor
 .intro h;unfold RepF at h;exact h
 .intro h;unfold RepF;exact h
def RepF.look{f:E_}{d:D}:∀{fs:List (E_×D)} {vs:List (E_×V)},RepF K H fs vs->fs.lookup f=be d->∃v,vs.lookup f=be v/\Rep K H d v
 |[],_,_,e=>by cases e
 |(g,x)::fs,vs,h,e=>by
  obtain⟨v,r,rfl,h1,h2⟩:=repf_cons.mp h;rw[Gc]at e ⊢;split at e
  .cases e;exact#[v,rfl,h1]
  .exact RepF.look h2 e
def RepF.none{f:E_}:∀{fs:List (E_×D)} {vs:List (E_×V)},RepF K H fs vs->fs.lookup f=Option.none->vs.lookup f=Option.none
 |[],vs,h,_=>by rw[repf_nil.mp h];rfl
 |(g,x)::fs,vs,h,e=>by
  obtain⟨v,r,rfl,h1,h2⟩:=repf_cons.mp h;rw[Gc]at e ⊢;split at e
  .cases e
  .exact RepF.none h2 e
def reps_nil{vs:List V}:Reps K H [] vs↔vs=[]:=by unfold Reps;exact Iff.rfl
def reps_cons{d:D}{vs:List V}:Reps K H (d::ds) vs↔∃v r,vs=v::r/\Rep K H d v/\Reps K H ds r:=by
 constructor
 .intro h;unfold Reps at h;exact h
 .intro h;unfold Reps;exact h
def Reps.length:∀{ds:List D} {vs:List V},Reps K H ds vs->vs.length=ds.length
 |[],vs,h=>by rw[reps_nil.mp h];rfl
 |d::ds,vs,h=>by
  obtain⟨v,r,rfl,_,h2⟩:=reps_cons.mp h;rw[FV,FV,Reps.length h2]
def Reps.get:∀{ds:List D} {vs:List V} {i:Nat} {d:D},Reps K H ds vs->ds[i]?=be d->∃v,vs[i]?=be v/\Rep K H d v
 |[],_,_,_,_,e=>by simp at e
 |x::ds,vs,0,d,h,e=>by
  obtain⟨v,r,rfl,h1,_⟩:=reps_cons.mp h;simp at e;subst e;exact#[v,rfl,h1]
 |x::ds,vs,i+1,d,h,e=>by
  obtain⟨v,r,rfl,_,h2⟩:=reps_cons.mp h;obtain⟨u,q1,q2⟩:=Reps.get (i:=i) h2 (by simpa using e);exact#[u,by simpa using q1,q2]
def Reps.ints:∀{ns:List Int} {vs:List V},Reps K H (ns.map D.int) vs↔vs=ns.map V.int
 |[],vs=>reps_nil
 |n::ns,vs=>by
  rw[FY,reps_cons,FY];constructor
  .rintro⟨v,r,rfl,h1,h2⟩;rw[rep_int.mp h1,Reps.ints.mp h2]
  .rintro rfl;exact#[_,_,rfl,rep_int.mpr rfl,Reps.ints.mpr rfl]
end
abbrev SD:=List (Option D)
def gH:D->Bool|.own _=>true|_=>false
structure RepS(K:Ex)(B F H:Hp)(t:SD)(s:L2.St):Prop where
 len:s.length=t.length
 val:∀(i:Nat) d,t[i]?=be (be d)->gH d=false->∃v,s[i]?=be (be v)/\Rep K F d v
 own:∀(i:Nat) ds,t[i]?=be (be (.own ds))->∃a vs,s[i]?=be (be (.ref a))/\H a=be (.lst vs)/\B a=s_/\F a=s_/\Reps K F ds vs
 apart:∀(i j:Nat) di dj a,t[i]?=be (be (.own di))->t[j]?=be (be (.own dj))->s[i]?=be (be (.ref a))->s[j]?=be (be (.ref a))->i=j
structure Grow(F H F' H':Hp):Prop where
 ff:Same F F'
 fh:Same F' H'
 hh:Same H H'
 out:∀b,F b=s_->H b≠s_->F' b=s_
variable{F H:Hp}
def Grow.refl(h:Same F H):Grow F H F H:=#[Same.refl F,h,Same.refl H,λ_ h _=>h]
def Grow.trans{F1 H1 F2 H2:Hp}(g:Grow F H F1 H1)(k:Grow F1 H1 F2 H2):Grow F H F2 H2:=
 ⟨g.ff.trans k.ff,k.fh,g.hh.trans k.hh,λb h1 h2=>k.out b (g.out b h1 h2) (by
  cases e:H b with
  |none=>exact absurd e h2
  |some o=>rw[g.hh b o e];exact λz=>nomatch z)⟩
def Grow.new{p:KF}(h:Same F H)(hp:H p=s_)(o:HO):Grow F H (upd F p o) (upd H p o):=by
 have fp:F p=none:=h.free hp;refine#[aV fp o,λb u e=>?_,aV hp o,λb h1 h2=>?_]
 .by_cases hb:b=p
  .subst hb;rw[aL]at e ⊢;exact e
  .rw[aD hb]at e ⊢;exact h b u e
 .by_cases hb:b=p
  .subst hb;exact absurd hp h2
  .rw[aD hb];exact h1
class Jx where
 B:Hp
 F0:Hp
 RX:SD->E_->List (E_×D)->Prop
structure Kept[J:Jx](B F0 F H:Hp):Prop where
 bh:Same B H
 fh:Same F H
 f0:Same F0 F
 out:∀b,F0 b=s_->B b≠s_->F b=s_
 eb:B=J.B
 jf:Same J.F0 F0
 jo:∀b,J.F0 b=s_->B b≠s_->F0 b=s_
variable{B:Hp}
def Kept.kf[J:Jx]{F0:Hp}(k:Kept B F0 F H):Kept B J.F0 F H:=#[k.bh,k.fh,k.jf.trans k.f0,λb h1 h2=>k.out b (k.jo b h1 h2) h2,k.eb,Same.refl _,λ_ h _=>h]
def Kept.grow[Jx]{F0 F' H':Hp}(k:Kept B F0 F H)(g:Grow F H F' H'):Kept B F0 F' H':=
 ⟨k.bh.trans g.hh,g.fh,k.f0.trans g.ff,λb h1 h2=>g.out b (k.out b h1 h2) (by
  cases e:B b with
  |none=>exact absurd e h2
  |some o=>rw[k.bh b o e];exact λz=>nomatch z),k.eb,k.jf,k.jo⟩
section
variable {K:Ex}{B F H F' H':Hp}{t:SD}{s:L2.St}
def RepS.grow(g:Grow F H F' H')(h:RepS K B F H t s):RepS K B F' H' t s where
 len:=h.len
 val:=λi d e no=>let ⟨v,q1,q2⟩:=h.val i d e no;#[v,q1,q2.mono g.ff]
 own:=λi ds e=>by
  obtain⟨a,vs,q1,q2,q3,q4,q5⟩:=h.own i ds e;exact#[a,vs,q1,g.hh a _ q2,q3,g.out a q4 (by rw[q2];exact λz=>nomatch z),q5.mono g.ff]
 apart:=h.apart
variable{i:Nat}
def RepS.set{d:D}{v:V}(h:RepS K B F H t s)(r:Rep K F d v):RepS K B F H (t.set i (be d)) (s.set i (be v)):=by
 have no:gH d=false:=by
  cases d with
  |own ds=>exact absurd r rep_own
  |_=>rfl
 have get:∀{j:Nat} {x:D},(t.set i (be d))[j]?=be (be x)->(j=i/\x=d/\i<t.length)\/(j≠i/\t[j]?=be (be x)):=λ{j x} e=>by
  by_cases hj:i=j
  .subst hj;rw[GS]at e;simp at e;exact .inl #[rfl,e.2.symm,e.1]
  .rw[Ge hj]at e;exact .inr #[λz=>hj z.symm,e]
 refine#[by rw[GC,GC];exact h.len,λj x e nx=>?_,λj ds e=>?_,λj k dj dk a e1 e2 e3 e4=>?_]
 .rcases get e with⟨rfl,rfl,hl⟩|⟨hj,e⟩
  .exact#[v,by rw[Gx (by rw[h.len];exact hl)],r]
  .obtain⟨u,q1,q2⟩:=h.val j x e nx;exact#[u,by rw[Ge (λz=>hj z.symm)];exact q1,q2]
 .rcases get e with⟨rfl,rfl,hl⟩|⟨hj,e⟩
  .cases no
  .obtain⟨a,vs,q1,q⟩:=h.own j ds e;exact#[a,vs,by rw[Ge (λz=>hj z.symm)];exact q1,q]
 .rcases get e1 with⟨rfl,rfl,hl⟩|⟨hj,e1⟩
  .cases no
  .rcases get e2 with⟨rfl,rfl,hl⟩|⟨hk,e2⟩
   .cases no
   .rw[Ge (λz=>hj z.symm)]at e3;rw[Ge (λz=>hk z.symm)]at e4;exact h.apart j k dj dk a e1 e2 e3 e4
variable{ds:List My.D}
def RepS.setOwn{a:KF}{vs:List V}(h:RepS K B F H t s)(hB:B a=s_)(hF:F a=s_)(r:Reps K F ds vs)
  (free:∀(j:Nat) dj,j≠i->t[j]?=be (be (.own dj))->s[j]?≠be (be (.ref a))):RepS K B F (upd H a (.lst vs)) (t.set i (be (.own ds))) (s.set i (be (.ref a))):=by
 have get:∀{j:Nat} {x:D},(t.set i (be (.own ds)))[j]?=be (be x)->(j=i/\x=.own ds/\i<t.length)\/(j≠i/\t[j]?=be (be x)):=λ{j x} e=>by
  by_cases hj:i=j
  .subst hj;rw[GS]at e;simp at e;exact .inl #[rfl,e.2.symm,e.1]
  .rw[Ge hj]at e;exact .inr #[λz=>hj z.symm,e]
 refine#[by rw[GC,GC];exact h.len,λj x e nx=>?_,λj dj e=>?_,λj k dj dk b e1 e2 e3 e4=>?_]
 .rcases get e with⟨rfl,rfl,hl⟩|⟨hj,e⟩
  .cases nx
  .obtain⟨u,q1,q2⟩:=h.val j x e nx;exact#[u,by rw[Ge (λz=>hj z.symm)];exact q1,q2]
 .rcases get e with⟨rfl,e,hl⟩|⟨hj,e⟩
  .cases e;exact#[a,vs,by rw[Gx (by rw[h.len];exact hl)],aL,hB,hF,r]
  .obtain⟨b,us,q1,q2,q⟩:=h.own j dj e;have ne:b≠a:=λz=>free j dj hj e (z ▸ q1);exact#[b,us,by rw[Ge (λz=>hj z.symm)];exact q1,by rw[aD ne];exact q2,q]
 .rcases get e1 with⟨hj,c1,hl⟩|⟨hj,f1⟩
  .rcases get e2 with⟨hk,c2,Kg⟩|⟨hk,f2⟩
   .rw[hj,hk]
   .rw[hj,Gx (by rw[h.len];exact hl)]at e3;rw[Ge (λz=>hk z.symm)]at e4;cases e3;exact absurd e4 (free k dk hk f2)
  .rcases get e2 with⟨hk,c2,Kg⟩|⟨hk,f2⟩
   .rw[hk,Gx (by rw[h.len];exact Kg)]at e4;rw[Ge (λz=>hj z.symm)]at e3;cases e4;exact absurd e3 (free j dj hj f1)
   .rw[Ge (λz=>hj z.symm)]at e3;rw[Ge (λz=>hk z.symm)]at e4;exact h.apart j k dj dk b f1 f2 e3 e4
def RepS.freeze[Jx]{F0:Hp}(h:RepS K B F H t s)(k:Kept B F0 F H)(e:t[i]?=be (be (.own ds))):∃F',Kept B F0 F' H/\RepS K B F' H (t.set i (be (.lst ds))) s:=by
 obtain⟨a,vs,q1,q2,q3,q4,q5⟩:=h.own i ds e;have hl:i<t.length:=(FZ.mp e).1;have g:Same F (upd F a (.lst vs)):=aV q4 _;have get:∀{j:Nat} {x:D},(t.set i (be (.lst ds)))[j]?=be (be x)->(j=i/\x=.lst ds)\/(j≠i/\t[j]?=be (be x)):=λ{j x} e=>by
  by_cases hj:i=j
  .subst hj;rw[GS]at e;simp at e;exact .inl #[rfl,e.2.symm]
  .rw[Ge hj]at e;exact .inr #[λz=>hj z.symm,e]
 refine#[upd F a (.lst vs),#[k.bh,λb o z=>?_,k.f0.trans g,λb h1 h2=>?_,k.eb,k.jf,k.jo],#[by rw[GC];exact h.len,λj x e' nx=>?_,λj dj e'=>?_,λj l dj dl b e1 e2 e3 e4=>?_]]
 .by_cases hb:b=a
  .subst hb;rw[aL]at z;cases z;exact q2
  .rw[aD hb]at z;exact k.fh b o z
 .by_cases hb:b=a
  .subst hb;exact absurd q3 h2
  .rw[aD hb];exact k.out b h1 h2
 .rcases get e' with⟨rfl,rfl⟩|⟨hj,e'⟩
  .exact#[.ref a,q1,rep_lst.mpr #[a,vs,rfl,aL,q5.mono g]]
  .obtain⟨u,p1,p2⟩:=h.val j x e' nx;exact#[u,p1,p2.mono g]
 .rcases get e' with⟨rfl,c⟩|⟨hj,e'⟩
  .cases c
  .obtain⟨b,us,p1,p2,p3,p4,p5⟩:=h.own j dj e';have ne:b≠a:=λz=>hj (h.apart j i dj ds a e' e (z ▸ p1) q1);exact#[b,us,p1,p2,p3,by rw[aD ne];exact p4,p5.mono g]
 .rcases get e1 with⟨rfl,c⟩|⟨hj,e1⟩
  .cases c
  .rcases get e2 with⟨rfl,c⟩|⟨hk,e2⟩
   .cases c
   .exact h.apart j l dj dl b e1 e2 e3 e4
end
def startD(N:List E_)(ds:List D):SD:=ds.map be++Gy (N.length-ds.length) s_
variable{K:Ex}
def Rep.noown{d:D}{v:V}(r:Rep K F d v):gH d=false:=by
 cases d with
 |own ds=>exact absurd r rep_own
 |_=>rfl
def fK{N:List E_}{ds:List D}{vs:List V}(h:Reps K F ds vs):RepS K B F H (startD N ds) (L2.start N vs):=by
 have hl:=h.length;have get:∀(i:Nat) d,(startD N ds)[i]?=be (be d)->∃v,(L2.start N vs)[i]?=be (be v)/\Rep K F d v:=λi d e=>by
  unfold startD at e;unfold L2.start;by_cases hi:i<ds.length
  .rw[Gz (by simpa using hi),FT]at e;cases q:ds[i]? with
   |none=>rw[q]at e;cases e
   |some x=>
    rw[q]at e;cases e;obtain⟨v,q1,q2⟩:=h.get q;exact#[v,by rw[Gz (by simpa[hl]using hi),FT,q1];rfl,q2]
  .rw[GI (by simpa using hi),HY]at e;split at e<;>cases e
 refine#[by unfold startD L2.start;simp[hl],λi d e _=>get i d e,λi d e=>?_,λi j di dj a e=>?_]
 .obtain⟨v,_,r⟩:=get i _ e;exact absurd r rep_own
 .obtain⟨v,_,r⟩:=get i _ e;exact absurd r rep_own
abbrev TD:=SD->(D->Prop)->Prop
abbrev TDT:=SD->(Bool->Prop)->Prop
abbrev TDA:=SD->(List D->Prop)->Prop
structure EndsD where
 nx:SD->Prop
 rt:D->Prop
 bk:SD->Prop:=λ_=>False
 ct:SD->Prop:=λ_=>False
abbrev TSD:=EndsD->SD->Prop
def lE(K:Ex)[J:Jx](t:TD):TE:=λs H Q=>∃B F z,Kept B J.F0 F H/\RepS K B F H z s/\∃R:D->Prop,t z R/\∀d v F' H',Grow F H F' H'->R d->Rep K F' d v->Q v H'
def lT(K:Ex)[J:Jx](t:TDT):TT:=λs H Q=>∃B F z,Kept B J.F0 F H/\RepS K B F H z s/\∃R:Bool->Prop,t z R/\∀b F' H',Grow F H F' H'->R b->Q b H'
def lA(K:Ex)[J:Jx](t:TDA):TA:=λs H Q=>∃B F z,Kept B J.F0 F H/\RepS K B F H z s/\∃R:List D->Prop,t z R/\∀ds vs F' H',Grow F H F' H'->R ds->Reps K F' ds vs->Q vs H'
structure EndsOk[Jx](K:Ex)(B F0:Hp)(ED:EndsD)(E:Ends):Prop where
 nx:∀z' s' F' H',Kept B F0 F' H'->ED.nx z'->RepS K B F' H' z' s'->E.nx s' H'
 rt:∀d v F' H',Kept B F0 F' H'->ED.rt d->Rep K F' d v->E.rt v H'
 bk:∀z' s' F' H',Kept B F0 F' H'->ED.bk z'->RepS K B F' H' z' s'->E.bk s' H'
 ct:∀z' s' F' H',Kept B F0 F' H'->ED.ct z'->RepS K B F' H' z' s'->E.ct s' H'
def lS(K:Ex)[Jx](t:TSD):TS:=λE s H=>∃B F0 F z,Kept B F0 F H/\RepS K B F H z s/\∃ED:EndsD,t ED z/\EndsOk K B F0 ED E
abbrev DE(X:Cx)[Jx](e:RP)(t:TD):Prop:=PE X e (lE X.K t)
abbrev DT(X:Cx)[Jx](e:RP)(t:TDT):Prop:=PT X e (lT X.K t)
abbrev DW(X:Cx)[Jx](e:RP)(t:TDT):Prop:=PW X e (lT X.K t)
abbrev DA(X:Cx)[Jx](es:List RP)(t:TDA):Prop:=PA X es (lA X.K t)
abbrev DS(X:Cx)[Jx](st:P3)(t:TSD):Prop:=PS X st (lS X.K t)
abbrev DSs(X:Cx)[Jx](st:List P3)(t:TSD):Prop:=PSs X st (lS X.K t)
structure WDE(X:Cx)[Jx](e:RP)(t:TD):Prop where
 out:DE X e t
structure WDT(X:Cx)[Jx](e:RP)(t:TDT):Prop where
 out:DT X e t
structure WDW(X:Cx)[Jx](e:RP)(t:TDT):Prop where
 out:DW X e t
structure WDA(X:Cx)[Jx](es:List RP)(t:TDA):Prop where
 out:DA X es t
structure WDS(X:Cx)[Jx](st:P3)(t:TSD):Prop where
 out:DS X st t
structure WDSs(X:Cx)[Jx](st:List P3)(t:TSD):Prop where
 out:DSs X st t
section
variable {X:Cx}
def okR(R:D->Prop):D->Prop|.own _=>False|d=>R d
def dVar(i:Nat):TD:=λz R=>match z[i]? with|some (be d)=>okR R d|_=>False
def dC(d:D):TD:=λ_ R=>R d
variable{x:E_}
def aa[Jx](i:Nat){pos:R6}(hN:autoParam (X.N[i]?=be x) zA0)(hv:autoParam (Vis X.env.scope x) zA5)(hd:autoParam (zND x) zA1)
  (i6:autoParam (zNC x) zA1):WDE X (.Name x pos) (dVar i):=⟨(fB hN hv hd i6).anti λs H Q h=>by
 obtain⟨B,F,z,kf,r,R,h1,h2⟩:=h;have fh:=kf.fh;unfold dVar at h1;split at h1
 .rename_i d e;have no:gH d=false:=by
   cases d with
   |own ds=>exact False.elim h1
   |_=>rfl
  have PZ:R d:=by
   cases d with
   |own ds=>exact False.elim h1
   |_=>exact h1
  obtain⟨v,q1,q2⟩:=r.val i d e no;exact#[v,q1,h2 d v F H (Grow.refl fh) PZ q2]
 .exact h1.elim⟩
variable{e:RP}
def de_c[Jx]{d:D}{v:V}(h:PE X e (tC v))(r:∀H,Rep X.K H d v):DE X e (dC d):=h.anti λs H Q q=>by
 obtain⟨B,F,z,kf,_,R,h1,h2⟩:=q;have fh:=kf.fh;exact h2 d v F H (Grow.refl fh) h1 (r F)
def ag[Jx]{i j pos}:WDE X (.Constant (.int i) j pos) (dC (.int i)):=#[de_c vL λ_=>rep_int.mpr rfl]
def ce[Jx]{b j pos}:WDE X (.Constant (.bool b) j pos) (dC (.bl b)):=#[de_c vM λ_=>rep_bl.mpr rfl]
def bG[Jx]{j pos}:WDE X (.Constant .none j pos) (dC .non):=#[de_c vN λ_=>rep_non.mpr rfl]
def aC[Jx]{x j pos}:WDE X (.Constant (.str x) j pos) (dC (.str x)):=#[de_c pW λ_=>rep_str.mpr rfl]
abbrev RD2:=D->D->(D->Prop)->Prop
def dOp(r:RD2)(ta tb:TD):TD:=λz R=>ta z λx=>tb z λy=>r x y R
def aW(K:Ex)(r:R2)(rd:RD2):Prop:=∀x y u v F H R Q,Same F H->rd x y R->Rep K F x u->Rep K F y v->(∀d w F' H',Grow F H F' H'->R d->Rep K F' d w->Q w H')->r u v H Q
variable{r:R2}{rd:RD2}
def jU[Jx]{ta tb:TD}(L:aW X.K r rd)(h:PE X e (tOp r (lE X.K ta) (lE X.K tb))):DE X e (dOp rd ta tb):=h.anti λs H Q q=>by
 obtain⟨B,F,z,kf,rs,R,h1,h2⟩:=q;have fh:=kf.fh;refine#[B,F,z,kf,rs,_,h1,λx u F1 H1 g1 hx rx=>?_];refine#[B,F1,z,kf.grow g1,rs.grow g1,_,hx,λy v F2 H2 g2 hy ry=>?_];exact L x y u v F2 H2 R Q g2.fh hy (rx.mono g2.ff) ry λd w F' H' g3=>h2 d w F' H' (g1.trans (g2.trans g3))
variable {a b c:RP}{ta tb tc:TD}{pos:R6}
def cX[Jx]{op:Operator}(ho:OpR X (Se op) r)(L:aW X.K r rd)(ha:DE X a ta)(hb:DE X b tb):DE X (.BinOp a op b pos) (dOp rd ta tb):=jU L (qo ho ha hb)
def gI[Jx]{op:Te}(ho:OpR X (R5 op) r)(L:aW X.K r rd)(ha:DE X a ta)(hb:DE X b tb)(hm:Sh op b=false):DE X (.Compare a [op] [b] pos) (dOp rd ta tb):=jU L (wE ho ha hb hm)
def xY[Jx](hr:IxR X r)(L:aW X.K r rd)(ha:DE X a ta)(hb:DE X b tb)(hs:autoParam (eA b) zA6):DE X (.Subscript a b pos) (dOp rd ta tb):=jU L (pe_ix hr ha hb hs)
def rdAdd:RD2:=λx y R=>match x,y with
 |.int i,.int j=>R (.int (i+j))
 |.str i,.str j=>i.length+j.length<=1000000/\R (.str (i++j))
 |.lst xs,.lst ys=>xs.length+ys.length<=1000000/\R (.lst (xs++ys))
 |.tup xs,.tup ys=>(xs≠[]/\ys≠[]/\xs.length+ys.length<=1000000)/\R (.tup (xs++ys))
 |_,_=>False
def rk(K:Ex):R2:=λx y H Q=>rI0 (λi j=>.int (i+j)) x y H Q\/((λx y H Q=>∃i j,x=.str i/\y=.str j/\i.length+j.length<=sizeLine/\Q (.str (i++j)) H) x y H Q\/(rCat x y H Q\/qP K x y H Q))
def rl:OpR X (Se .Add) (rk X.K):=OpR.or wr (OpR.or wK (OpR.or xI xr))
def Reps.append{K:Ex}{F:Hp}:∀{xs ys:List D} {us vs:List V},Reps K F xs us->Reps K F ys vs->Reps K F (xs++ys) (us++vs)
 |[],ys,us,vs,r1,r2=>by rw[reps_nil.mp r1];exact r2
 |x::xs,ys,us,vs,r1,r2=>by
  obtain⟨u,ur,rfl,a1,a2⟩:=reps_cons.mp r1;exact reps_cons.mpr #[u,ur++vs,rfl,a1,Reps.append a2 r2]
variable{K:Ex}
def Reps.ne_nil{F:Hp}{xs:List D}{us:List V}(r:Reps K F xs us)(h:xs≠[]):us≠[]:=by
 cases xs with
 |nil=>exact absurd rfl h
 |cons x xs=>obtain⟨u,ur,rfl,_⟩:=reps_cons.mp r;exact λz=>nomatch z
def rn:aW K (rk K) rdAdd:=by
 intro x y u v F H R Q fh h rx ry q;unfold rdAdd at h;split at h
 .exact .inl #[_,_,rep_int.mp rx,rep_int.mp ry,q _ _ F H (Grow.refl fh) h (rep_int.mpr rfl)]
 .exact .inr (.inl #[_,_,rep_str.mp rx,rep_str.mp ry,FX h.1 Kj,q _ _ F H (Grow.refl fh) h.2 (rep_str.mpr rfl)])
 .obtain⟨a,us,rfl,hq,rr⟩:=rep_lst.mp rx;obtain⟨b,vs,rfl,k_,l9⟩:=rep_lst.mp ry;refine .inr (.inr (.inl #[a,b,us,vs,rfl,rfl,fh _ _ hq,fh _ _ k_,by rw[rr.length,l9.length];exact FX h.1 Kj,λp hp=>?_]));exact q _ _ _ _ (Grow.new fh hp _) h.2 (rep_lst.mpr #[p,_,rfl,aL,(rr.append l9).mono (aV (fh.free hp) _)])
 .obtain⟨a,us,rfl,hq,rr⟩:=rep_tup_mp rx;obtain⟨b,vs,rfl,k_,l9⟩:=rep_tup_mp ry;obtain⟨⟨n1,n2,hz⟩,h⟩:=h;refine .inr (.inr (.inr #[a,b,us,vs,rfl,rfl,fh.tup hq,fh.tup k_,rr.ne_nil n1,by rw[rr.length,l9.length];exact FX hz Kj,λz=>absurd z (l9.ne_nil n2),λ_ p hp=>?_]));exact q _ _ _ _ (Grow.new fh hp _) h (rep_tupS.mpr #[p,_,rfl,aL,(rr.append l9).mono (aV (fh.free hp) _)])
 .exact h.elim
def au[Jx](ha:WDE X a ta)(hb:WDE X b tb):WDE X (.BinOp a .Add b pos) (dOp rdAdd ta tb):=#[have ha:=ha.out;have hb:=hb.out;cX rl rn ha hb]
def rdSub:RD2:=λx y R=>match x,y with|.int i,.int j=>R (.int (i-j))|_,_=>False
def rq:aW K (rI0 λi j=>.int (i-j)) rdSub:=by
 intro x y u v F H R Q fh h rx ry q;unfold rdSub at h;split at h
 .exact#[_,_,rep_int.mp rx,rep_int.mp ry,q _ _ F H (Grow.refl fh) h (rep_int.mpr rfl)]
 .exact h.elim
def aX[Jx](ha:WDE X a ta)(hb:WDE X b tb):WDE X (.BinOp a .Sub b pos) (dOp rdSub ta tb):=#[have ha:=ha.out;have hb:=hb.out;cX qp rq ha hb]
def rdMul:RD2:=λx y R=>match x,y with|.int i,.int j=>CMul i j/\R (.int (i*j))|_,_=>False
def xZ:aW K (rI CMul λi j=>.int (i*j)) rdMul:=by
 intro x y u v F H R Q fh h rx ry q;unfold rdMul at h;split at h
 .exact#[_,_,rep_int.mp rx,rep_int.mp ry,h.1,q _ _ F H (Grow.refl fh) h.2 (rep_int.mpr rfl)]
 .exact h.elim
def aA[Jx](ha:WDE X a ta)(hb:WDE X b tb):WDE X (.BinOp a .Mult b pos) (dOp rdMul ta tb):=#[have ha:=ha.out;have hb:=hb.out;cX wt xZ ha hb]
def rdFdiv:RD2:=λx y R=>match x,y with|.int i,.int j=>(0<j/\j<1073741824)/\R (.int (i/j))|_,_=>False
def ya:aW K (rI CDiv λi j=>.int (i/j)) rdFdiv:=by
 intro x y u v F H R Q fh h rx ry q;unfold rdFdiv at h;split at h
 .exact#[_,_,rep_int.mp rx,rep_int.mp ry,h.1,q _ _ F H (Grow.refl fh) h.2 (rep_int.mpr rfl)]
 .exact h.elim
def aN[Jx](ha:WDE X a ta)(hb:WDE X b tb):WDE X (.BinOp a .FloorDiv b pos) (dOp rdFdiv ta tb):=#[have ha:=ha.out;have hb:=hb.out;cX wu ya ha hb]
def rz(i j:Int):Prop:=j≠0/\j.natAbs<4611686018427387904
def yb:OpR X (Se .FloorDiv) (rI rz λi j=>.int (i.fdiv j)):=opI λ_ j _ _ _ _ _ hc q=>floordiv_int hc.1 q (.inl (PyProof.noPylong_of_log2 (IF ((IH (λz=>hc.1 (II.mp z))).mpr (show j.natAbs<2^62 from hc.2)) Kj)))
def rdFdivN:RD2:=λx y R=>match x,y with|.int i,.int j=>(j≠0/\j.natAbs<4611686018427387904)/\R (.int (i.fdiv j))|_,_=>False
def yc:aW K (rI rz λi j=>.int (i.fdiv j)) rdFdivN:=by
 intro x y u v F H R Q fh h rx ry q;unfold rdFdivN at h;split at h
 .exact#[_,_,rep_int.mp rx,rep_int.mp ry,h.1,q _ _ F H (Grow.refl fh) h.2 (rep_int.mpr rfl)]
 .exact h.elim
def yd[Jx](ha:WDE X a ta)(hb:WDE X b tb):WDE X (.BinOp a .FloorDiv b pos) (dOp rdFdivN ta tb):=#[have ha:=ha.out;have hb:=hb.out;cX yb yc ha hb]
def rdMod:RD2:=λx y R=>match x,y with|.int i,.int j=>0<j/\R (.int (i%j))|_,_=>False
def ye:aW K (rI (λ_ j=>0<j) λi j=>.int (i%j)) rdMod:=by
 intro x y u v F H R Q fh h rx ry q;unfold rdMod at h;split at h
 .exact#[_,_,rep_int.mp rx,rep_int.mp ry,h.1,q _ _ F H (Grow.refl fh) h.2 (rep_int.mpr rfl)]
 .exact h.elim
def az[Jx](ha:WDE X a ta)(hb:WDE X b tb):WDE X (.BinOp a .Mod b pos) (dOp rdMod ta tb):=#[have ha:=ha.out;have hb:=hb.out;cX wv ye ha hb]
def rdModN:RD2:=λx y R=>match x,y with|.int i,.int j=>j≠0/\R (.int (i.fmod j))|_,_=>False
def yf:aW K (rI (λ_ j=>j≠0) λi j=>.int (i.fmod j)) rdModN:=by
 intro x y u v F H R Q fh h rx ry q;unfold rdModN at h;split at h
 .exact#[_,_,rep_int.mp rx,rep_int.mp ry,h.1,q _ _ F H (Grow.refl fh) h.2 (rep_int.mpr rfl)]
 .exact h.elim
def rA[Jx](ha:WDE X a ta)(hb:WDE X b tb):WDE X (.BinOp a .Mod b pos) (dOp rdModN ta tb):=#[have ha:=ha.out;have hb:=hb.out;cX ww yf ha hb]
def rdPow:RD2:=λx y R=>match x,y with|.int i,.int j=>(0<=j/\j<=1000000/\i.natAbs<2^64)/\R (.int (i^j.toNat))|_,_=>False
def yg:aW K (rI CPow λi j=>.int (i^j.toNat)) rdPow:=by
 intro x y u v F H R Q fh h rx ry q;unfold rdPow at h;split at h
 .exact#[_,_,rep_int.mp rx,rep_int.mp ry,h.1,q _ _ F H (Grow.refl fh) h.2 (rep_int.mpr rfl)]
 .exact h.elim
def cY[Jx](ha:WDE X a ta)(hb:WDE X b tb):WDE X (.BinOp a .Pow b pos) (dOp rdPow ta tb):=#[have ha:=ha.out;have hb:=hb.out;cX wx yg ha hb]
def rdLt:RD2:=λx y R=>match x,y with|.int i,.int j=>R (.bl (decide (i<j)))|_,_=>False
def jV:aW K (rI0 λi j=>.bl (decide (i<j))) rdLt:=by
 intro x y u v F H R Q fh h rx ry q;unfold rdLt at h;split at h
 .exact#[_,_,rep_int.mp rx,rep_int.mp ry,q _ _ F H (Grow.refl fh) h (rep_bl.mpr rfl)]
 .exact h.elim
def rdLe:RD2:=λx y R=>match x,y with|.int i,.int j=>R (.bl (decide (i<=j)))|_,_=>False
def rB:aW K (rI0 λi j=>.bl (decide (i<=j))) rdLe:=by
 intro x y u v F H R Q fh h rx ry q;unfold rdLe at h;split at h
 .exact#[_,_,rep_int.mp rx,rep_int.mp ry,q _ _ F H (Grow.refl fh) h (rep_bl.mpr rfl)]
 .exact h.elim
def rdGt:RD2:=λx y R=>match x,y with|.int i,.int j=>R (.bl (decide (j<i)))|_,_=>False
def yi:aW K (rI0 λi j=>.bl (decide (j<i))) rdGt:=by
 intro x y u v F H R Q fh h rx ry q;unfold rdGt at h;split at h
 .exact#[_,_,rep_int.mp rx,rep_int.mp ry,q _ _ F H (Grow.refl fh) h (rep_bl.mpr rfl)]
 .exact h.elim
def rdGe:RD2:=λx y R=>match x,y with|.int i,.int j=>R (.bl (decide (j<=i)))|_,_=>False
def yj:aW K (rI0 λi j=>.bl (decide (j<=i))) rdGe:=by
 intro x y u v F H R Q fh h rx ry q;unfold rdGe at h;split at h
 .exact#[_,_,rep_int.mp rx,rep_int.mp ry,q _ _ F H (Grow.refl fh) h (rep_bl.mpr rfl)]
 .exact h.elim
def rdEq:RD2:=λx y R=>match x,y with
 |.int i,.int j=>R (.bl (decide (i=j)))
 |.bl i,.bl j=>R (.bl (decide (i=j)))
 |.str i,.str j=>R (.bl (decide (i=j)))
 |.non,.non=>R (.bl true)
 |_,_=>False
def rdNe:RD2:=λx y R=>match x,y with
 |.int i,.int j=>R (.bl (!decide (i=j)))
 |.bl i,.bl j=>R (.bl (!decide (i=j)))
 |.str i,.str j=>R (.bl (!decide (i=j)))
 |.non,.non=>R (.bl false)
 |_,_=>False
def jW:aW K rEq rdEq:=by
 intro x y u v F H R Q fh h rx ry q;unfold rdEq at h;split at h
 .rw[rep_int.mp rx,rep_int.mp ry];refine#[rfl,q _ _ F H (Grow.refl fh) h (rep_bl.mpr ?_)];simp
 .rw[rep_bl.mp rx,rep_bl.mp ry];refine#[rfl,q _ _ F H (Grow.refl fh) h (rep_bl.mpr ?_)];simp
 .rw[rep_str.mp rx,rep_str.mp ry];refine#[rfl,q _ _ F H (Grow.refl fh) h (rep_bl.mpr ?_)];simp
 .rw[rep_non.mp rx,rep_non.mp ry];refine#[rfl,q _ _ F H (Grow.refl fh) h (rep_bl.mpr ?_)];simp
 .exact h.elim
def yk:aW K rNe rdNe:=by
 intro x y u v F H R Q fh h rx ry q;unfold rdNe at h;split at h
 .rw[rep_int.mp rx,rep_int.mp ry];refine#[rfl,q _ _ F H (Grow.refl fh) h (rep_bl.mpr ?_)];simp
 .rw[rep_bl.mp rx,rep_bl.mp ry];refine#[rfl,q _ _ F H (Grow.refl fh) h (rep_bl.mpr ?_)];simp
 .rw[rep_str.mp rx,rep_str.mp ry];refine#[rfl,q _ _ F H (Grow.refl fh) h (rep_bl.mpr ?_)];simp
 .rw[rep_non.mp rx,rep_non.mp ry];refine#[rfl,q _ _ F H (Grow.refl fh) h (rep_bl.mpr ?_)];simp
 .exact h.elim
def cv[Jx](ha:WDE X a ta)(hb:WDE X b tb):WDE X (.Compare a [.Eq] [b] pos) (dOp rdEq ta tb):=#[have ha:=ha.out;have hb:=hb.out;gI jI jW ha hb (nomark _)]
def rC:D->Bool|.non=>true|_=>false
def rdIs(f:Bool->Bool):RD2:=λx y R=>match y with|.non=>R (.bl (f (rC x)))|_=>False
def rD{H:Hp}{x:D}{u:V}(r:Rep K H x u):decide (u=.non)=rC x:=by
 cases x with
 |non=>rw[rep_non.mp r];rfl
 |bl b=>rw[rep_bl.mp r];rfl
 |int b=>rw[rep_int.mp r];rfl
 |str b=>rw[rep_str.mp r];rfl
 |tup b=>obtain⟨a,vs,rfl,_⟩:=rep_tup_mp r;rfl
 |lst b=>obtain⟨a,vs,rfl,_⟩:=rep_lst.mp r;rfl
 |rol b=>obtain⟨a,vs,rfl,_⟩:=rep_rol.mp r;rfl
 |obj C b=>obtain⟨a,C,dx,vs,rfl,_⟩:=rep_obj.mp r;rfl
 |exc C b=>obtain⟨a,C,od,vs,rfl,_⟩:=rep_exc.mp r;rfl
 |own b=>exact absurd r rep_own
 |ptr b=>rw[rep_ptr.mp r];rfl
 |dti b=>obtain⟨a,rfl,_⟩:=rep_dti.mp r;rfl
def jX:aW K (λx y H Q=>y=.non/\Q (.bl (decide (x=.non))) H) (rdIs id):=by
 intro x y u v F H R Q fh h rx ry q;unfold rdIs at h;split at h
 .exact#[rep_non.mp ry,q _ _ F H (Grow.refl fh) h (rep_bl.mpr (by rw[rD rx];rfl))]
 .exact h.elim
def ym:aW K (λx y H Q=>y=.non/\Q (.bl (!decide (x=.non))) H) (rdIs not):=by
 intro x y u v F H R Q fh h rx ry q;unfold rdIs at h;split at h
 .exact#[rep_non.mp ry,q _ _ F H (Grow.refl fh) h (rep_bl.mpr (by rw[rD rx]))]
 .exact h.elim
def jY[Jx](ha:WDE X a ta)(hb:WDE X b tb):WDE X (.Compare a [.Is] [b] pos) (dOp (rdIs id) ta tb):=#[have ha:=ha.out;have hb:=hb.out;gI jK jX ha hb (nomark _)]
def rdIx:RD2:=λx y R=>match x,y with
 |.tup ds,.int i=>∃d,atI ds i=be d/\R d
 |.lst ds,.int i=>∃d,atI ds i=be d/\R d
 |.rol ds,.int i=>∃d,atI ds i=be d/\R d
 |.str x,.int i=>∃c,(x.length<=1000000/\atI x.cps.toList i=be c)/\R (.str #[[c].toArray])
 |_,_=>False
def Reps.at{H:Hp}{ds:List D}{vs:List V}{i:Int}{d:D}(r:Reps K H ds vs)(e:atI ds i=be d):∃v,atI vs i=be v/\Rep K H d v:=by
 unfold atI at e ⊢;rw[r.length];cases q:ixN ds.length i with
 |none=>rw[q]at e;cases e
 |some j=>
  rw[q]at e;exact r.get e
def rE:aW K (rIx K) rdIx:=by
 intro x y u v F H R Q fh h rx ry q;unfold rdIx at h;split at h
 .obtain⟨d,e,h⟩:=h;obtain⟨a,vs,e1,hq,rs⟩:=rep_tup_mp rx;obtain⟨w,e2,g7⟩:=rs.at e;exact .inr (.inl #[a,vs,_,w,e1,rep_int.mp ry,fh.tup hq,e2,q d w F H (Grow.refl fh) h g7])
 .obtain⟨d,e,h⟩:=h;obtain⟨a,vs,e1,hq,rs⟩:=rep_lst.mp rx;obtain⟨w,e2,g7⟩:=rs.at e;exact .inl #[a,vs,_,w,e1,rep_int.mp ry,fh.seq (SqL.of hq),e2,q d w F H (Grow.refl fh) h g7]
 .obtain⟨d,e,h⟩:=h;obtain⟨a,vs,e1,hq,rs⟩:=rep_rol.mp rx;obtain⟨w,e2,g7⟩:=rs.at e;exact .inl #[a,vs,_,w,e1,rep_int.mp ry,fh.seq hq,e2,q d w F H (Grow.refl fh) h g7]
 .obtain⟨c,⟨hz,e⟩,h⟩:=h;exact .inr (.inr #[_,_,c,rep_str.mp rx,rep_int.mp ry,FX hz Kj,e,q _ _ F H (Grow.refl fh) h (rep_str.mpr rfl)])
 .exact h.elim
def ai[Jx](ha:WDE X a ta)(hb:WDE X b tb)(hs:autoParam (eA b) zA6):WDE X (.Subscript a b pos) (dOp rdIx ta tb):=#[have ha:=ha.out;have hb:=hb.out;xY qR rE ha hb hs]
def dUn(r:D->(D->Prop)->Prop)(ta:TD):TD:=λz R=>ta z λx=>r x R
def rF:D->(D->Prop)->Prop:=λx R=>match x with|.int i=>R (.int (-i))|_=>False
def cw[Jx](ha:WDE X a ta):WDE X (.UnaryOp .USub a pos) (dUn rF ta):=⟨have ha:=ha.out;(wo wy ha).anti λs H Q h=>by
 obtain⟨B,F,z,kf,rs,R,h1,h2⟩:=h;have fh:=kf.fh;refine#[B,F,z,kf,rs,_,h1,λx u F1 H1 g1 hx rx=>?_];unfold rF at hx;split at hx
 .exact#[_,rep_int.mp rx,h2 _ _ F1 H1 g1 hx (rep_int.mpr rfl)]
 .exact hx.elim⟩
def dNil:TDA:=λ_ R=>R []
def yn(ta:TD)(tr:TDA):TDA:=λz R=>ta z λx=>tr z λxs=>R (x::xs)
def ah[Jx]:WDA X [] dNil:=⟨pa_nil.anti λs H Q h=>by
 obtain⟨B,F,z,kf,rs,R,h1,h2⟩:=h;have fh:=kf.fh;exact h2 [] [] F H (Grow.refl fh) h1 (reps_nil.mpr rfl)⟩
variable{es:List RP}{t:TDA}
def ac[Jx]{te:TD}(ha:WDE X e te)(hr:WDA X es t)(hs:autoParam (zSE X e es) zA0):WDA X (e::es) (yn te t):=⟨have ha:=ha.out;have hr:=hr.out;(bz ha hr hs).anti λs H Q h=>by
 obtain⟨B,F,z,kf,rs,R,h1,h2⟩:=h;have fh:=kf.fh;refine#[B,F,z,kf,rs,_,h1,λx u F1 H1 g1 hx rx=>?_];refine#[B,F1,z,kf.grow g1,rs.grow g1,_,hx,λxs us F2 H2 g2 hy ry=>?_];exact h2 _ _ F2 H2 (g1.trans g2) hy (reps_cons.mpr #[_,_,rfl,rx.mono g2.ff,ry])⟩
def dTup(t:TDA):TD:=λz R=>t z λxs=>xs.length<=1000/\R (.tup xs)
def dLst(t:TDA):TD:=λz R=>t z λxs=>xs.length<=1000/\R (.lst xs)
def aK[Jx]{x1}(h:WDA X es t):WDE X (.Tuple es x1 pos) (dTup t):=⟨have h:=h.out;(qE h).anti λs H Q q=>by
 obtain⟨B,F,z,kf,rs,R,h1,h2⟩:=q;have fh:=kf.fh;refine#[B,F,z,kf,rs,_,h1,λds vs F1 H1 g1 hx rx=>?_];have hl:=rx.length;refine#[sz (by rw[hl];exact hx.1),λp hp=>?_];exact h2 _ _ _ _ (g1.trans (Grow.new g1.fh hp _)) hx.2 (rep_tupS.mpr #[p,vs,rfl,aL,rx.mono (aV (g1.fh.free hp) _)])⟩
def bE[Jx](h:WDA X es t):WDE X (.List es pos) (dLst t):=⟨have h:=h.out;(jN h).anti λs H Q q=>by
 obtain⟨B,F,z,kf,rs,R,h1,h2⟩:=q;have fh:=kf.fh;refine#[B,F,z,kf,rs,_,h1,λds vs F1 H1 g1 hx rx=>?_];have hl:=rx.length;refine#[sz (by rw[hl];exact hx.1),λp hp=>?_];exact h2 _ _ _ _ (g1.trans (Grow.new g1.fh hp _)) hx.2 (rep_lst.mpr #[p,vs,rfl,aL,rx.mono (aV (g1.fh.free hp) _)])⟩
abbrev SpD:=List D->(D->Prop)->Prop
def lSp(K:Ex)(S:SpD):Sp:=λvs H Q _=>∃F ds,Same F H/\Reps K F ds vs/\∃R:D->Prop,S ds R/\∀d v F' H',Grow F H F' H'->R d->Rep K F' d v->Q v H'
def yo(S:SpD)(t:TDA):TD:=λz R=>t z λds=>S ds R
abbrev CalD(P:RQ)(w:RU)(K:Ex)(mg:E_->Option KB)(base:RW)(n:Nat)(x:E_)(ps:List E_)(S:SpD):Prop:=Cal P w K mg base n x ps (lSp K S)
variable{p:R6}
def aw[Jx]{n m:Nat}{ps:List E_}{S:SpD}(C:CalD X.prog X.w X.K X.mg X.base n x ps S)(hr:Room m X.A)(ha:WDA X (e::es) t)(hg:autoParam (Gl X x) zA0)(hn:autoParam (n<=m) zA1)(f6:autoParam (zND x) zA1)
  (he:autoParam (zSE X e es) zA0) (c9:autoParam (zPL X pos es) zA0):WDE X (.Call (.Name x p) (e::es) [] pos) (yo S t):=⟨have ha:=ha.out;(xX C hr ha hg hn f6 he c9).anti λs H Q h=>by
 obtain⟨B,F,z,kf,rs,R,h1,h2⟩:=h;have fh:=kf.fh;refine#[B,F,z,kf,rs,_,h1,λds vs F1 H1 g1 hx rx=>?_];exact#[F1,ds,g1.fh,by rw[GB];exact rx,R,hx,λd v F' H' g=>h2 d v F' H' (g1.trans g)]⟩
abbrev RDn:=List D->(D->Prop)->Prop
def cm(K:Ex)(r:List V->Hp->VK->Prop)(rd:RDn):Prop:=∀ds vs F H R Q,Same F H->rd ds R->Reps K F ds vs->(∀d w F' H',Grow F H F' H'->R d->Rep K F' d w->Q w H')->r vs H Q
def dCB(r:RDn)(t:TDA):TD:=λz R=>t z λds=>r ds R
def fL[Jx]{id:String}{r:List V->Hp->VK->Prop}{rd:RDn}(hc:bJ X (.builtin id) r)(L:cm X.K r rd)(hm:X.mg x=s_)(hv:Sa x=be (.builtin id))(ha:DA X (e::es) t)(hg:autoParam (Gl X x) zA0)(hn:autoParam (x≠"__name__") zA1)(f6:autoParam (zND x) zA1)
  (he:autoParam (zSE X e es) zA0) (c9:autoParam (zPL X pos es) zA0):DE X (.Call (.Name x p) (e::es) [] pos) (dCB rd t):=(gB hc hg hm hv ha hn f6 he c9).anti λs H Q h=>by
 obtain⟨B,F,z,kf,rs,R,h1,h2⟩:=h;have fh:=kf.fh;refine#[B,F,z,kf,rs,_,h1,λds vs F1 H1 g1 hx rx=>?_];exact L ds vs F1 H1 R Q g1.fh hx rx λd w F' H' g=>h2 d w F' H' (g1.trans g)
def rdLen:RDn:=λds R=>match ds with
 |[.tup xs]=>R (.int xs.length)
 |[.lst xs]=>R (.int xs.length)
 |[.rol xs]=>R (.int xs.length)
 |[.str x]=>x.length<=1000000/\R (.int x.length)
 |_=>False
def rG:cm K (λxs H Q=>∃x n,xs=[x]/\LenV K x H n/\Q (.int n) H) rdLen:=by
 intro ds vs F H R Q fh h rx q;unfold rdLen at h;split at h
 .obtain⟨v,r,rfl,h1,h2⟩:=reps_cons.mp rx;rw[reps_nil.mp h2];obtain⟨a,us,rfl,hq,rs⟩:=rep_tup_mp h1;exact#[.ref a,us.length,rfl,.inr #[us,fh.tup hq,rfl],q _ _ F H (Grow.refl fh) h (rep_int.mpr (by rw[rs.length]))]
 .obtain⟨v,r,rfl,h1,h2⟩:=reps_cons.mp rx;rw[reps_nil.mp h2];obtain⟨a,us,rfl,hq,rs⟩:=rep_lst.mp h1;exact#[.ref a,us.length,rfl,.inl #[us,fh.seq (SqL.of hq),rfl],q _ _ F H (Grow.refl fh) h (rep_int.mpr (by rw[rs.length]))]
 .obtain⟨v,r,rfl,h1,h2⟩:=reps_cons.mp rx;rw[reps_nil.mp h2];obtain⟨a,us,rfl,hq,rs⟩:=rep_rol.mp h1;exact#[.ref a,us.length,rfl,.inl #[us,fh.seq hq,rfl],q _ _ F H (Grow.refl fh) h (rep_int.mpr (by rw[rs.length]))]
 .obtain⟨v,r,rfl,h1,h2⟩:=reps_cons.mp rx;rw[reps_nil.mp h2,rep_str.mp h1];exact#[.str _,_,rfl,#[FX h.1 Kj,rfl],q _ _ F H (Grow.refl fh) h.2 (rep_int.mpr rfl)]
 .exact h.elim
def bH[Jx](hm:X.mg "len"=s_)(ha:WDA X [e] t)(hg:autoParam (Gl X "len") zA0)(he:autoParam (zSE X e []) zA0):WDE X (.Call (.Name "len" p) [e] [] pos) (dCB rdLen t):=#[have ha:=ha.out;fL jL rG hm PySem.boot_len ha hg Kj Kj he]
def rdAbs:RDn:=λds R=>match ds with
 |[.int i]=>R (.int (if i<0 then -i else i))
 |_=>False
def yp:cm K (λxs H Q=>∃i,xs=[.int i]/\Q (.int (if i<0 then -i else i)) H) rdAbs:=by
 intro ds vs F H R Q fh h rx q;unfold rdAbs at h;split at h
 .obtain⟨v,r,rfl,h1,h2⟩:=reps_cons.mp rx;rw[reps_nil.mp h2,rep_int.mp h1];exact#[_,rfl,q _ _ F H (Grow.refl fh) h (rep_int.mpr rfl)]
 .exact h.elim
def eE[Jx](hm:X.mg "abs"=s_)(ha:WDA X [e] t)(hg:autoParam (Gl X "abs") zA0)(he:autoParam (zSE X e []) zA0):WDE X (.Call (.Name "abs" p) [e] [] pos) (dCB rdAbs t):=#[have ha:=ha.out;fL wL yp hm PyProof.Rows.boot_abs ha hg Kj Kj he]
end
section
variable {X:Cx}{a b c e:RP}{ta tb tc te:TD}{pos:R6}
def dTst(t:TD):TDT:=λz R=>t z λx=>match x with|.bl k=>R k|_=>False
def cZ[Jx]{op:Te}{r:R2}{rd:RD2}(ho:OpR X (R5 op) r)(L:aW X.K r rd)(ha:DE X a ta)(hb:DE X b tb)(hm:Sh op b=false):DT X (.Compare a [op] [b] pos) (dTst (dOp rd ta tb)):=(qy ho ha hb hm).anti λs H Q q=>by
 obtain⟨B,F,z,kf,rs,R,h1,h2⟩:=q;have fh:=kf.fh;refine#[B,F,z,kf,rs,_,h1,λx u F1 H1 g1 hx rx=>?_];refine#[B,F1,z,kf.grow g1,rs.grow g1,_,hx,λy v F2 H2 g2 hy ry=>?_];refine L x y u v F2 H2 _ _ g2.fh hy (rx.mono g2.ff) ry λd w F' H' g3 hd rd=>?_;split at hd
 .exact#[_,rep_bl.mp rd,h2 _ F' H' (g1.trans (g2.trans g3)) hd]
 .exact hd.elim
def dH[Jx](ha:WDE X a ta)(hb:WDE X b tb):WDT X (.Compare a [.Lt] [b] pos) (dTst (dOp rdLt ta tb)):=#[have ha:=ha.out;have hb:=hb.out;cZ jJ jV ha hb (nomark _)]
def yq[Jx](ha:WDE X a ta)(hb:WDE X b tb):WDT X (.Compare a [.LtE] [b] pos) (dTst (dOp rdLe ta tb)):=#[have ha:=ha.out;have hb:=hb.out;cZ qv rB ha hb (nomark _)]
def jZ[Jx](ha:WDE X a ta)(hb:WDE X b tb):WDT X (.Compare a [.Gt] [b] pos) (dTst (dOp rdGt ta tb)):=#[have ha:=ha.out;have hb:=hb.out;cZ wA yi ha hb (nomark _)]
def rH[Jx](ha:WDE X a ta)(hb:WDE X b tb):WDT X (.Compare a [.GtE] [b] pos) (dTst (dOp rdGe ta tb)):=#[have ha:=ha.out;have hb:=hb.out;cZ wB yj ha hb (nomark _)]
def bp[Jx](ha:WDE X a ta)(hb:WDE X b tb):WDT X (.Compare a [.Eq] [b] pos) (dTst (dOp rdEq ta tb)):=#[have ha:=ha.out;have hb:=hb.out;cZ jI jW ha hb (nomark _)]
def bT[Jx](ha:WDE X a ta)(hb:WDE X b tb):WDT X (.Compare a [.NotEq] [b] pos) (dTst (dOp rdNe ta tb)):=#[have ha:=ha.out;have hb:=hb.out;cZ wz yk ha hb (nomark _)]
def gJ[Jx](ha:WDE X a ta)(hb:WDE X b tb):WDT X (.Compare a [.Is] [b] pos) (dTst (dOp (rdIs id) ta tb)):=#[have ha:=ha.out;have hb:=hb.out;cZ jK jX ha hb (nomark _)]
def rJ[Jx](ha:WDE X a ta)(hb:WDE X b tb):WDT X (.Compare a [.IsNot] [b] pos) (dTst (dOp (rdIs not) ta tb)):=#[have ha:=ha.out;have hb:=hb.out;cZ wC ym ha hb (nomark _)]
def dTru(t:TD):TDT:=λz R=>t z λx=>match x with
 |.non=>R false
 |.bl k=>R k
 |.int i=>R (i !=0)
 |.str y=>y.length<=1000/\R ((y.length:Int) !=0)
 |.tup xs=>R (!xs.isEmpty)
 |.lst xs=>R (!xs.isEmpty)
 |.rol xs=>R (!xs.isEmpty)
 |_=>False
variable{K:Ex}
def Reps.isEmpty{H:Hp}{ds:List D}{vs:List V}(r:Reps K H ds vs):vs.isEmpty=ds.isEmpty:=by
 cases ds with
 |nil=>rw[reps_nil.mp r];rfl
 |cons d ds=>obtain⟨v,r',rfl,_⟩:=reps_cons.mp r;rfl
def bN[Jx](ha:WDE X a ta)(he:autoParam (∀g6,isTrue a X.env g6=(do let v <-g6;SQ a.pos;SF [v] (truthy v))) zA2):WDT X a (dTru ta):=⟨have ha:=ha.out;(wJ ha he).anti λs H Q q=>by
 obtain⟨B,F,z,kf,rs,R,h1,h2⟩:=q;have fh:=kf.fh;refine#[B,F,z,kf,rs,_,h1,λx u F1 H1 g1 hx rx=>?_];split at hx
 .rw[rep_non.mp rx];exact#[false,rfl,h2 _ F1 H1 g1 hx]
 .rw[rep_bl.mp rx];exact#[_,rfl,h2 _ F1 H1 g1 hx]
 .rw[rep_int.mp rx];exact#[_,rfl,h2 _ F1 H1 g1 hx]
 .rw[rep_str.mp rx];exact#[_,#[sz hx.1,rfl],h2 _ F1 H1 g1 hx.2]
 .obtain⟨p,vs,rfl,hq,rr⟩:=rep_tup_mp rx;exact#[_,.inr (.inl #[vs,g1.fh.tup hq,by rw[rr.isEmpty]]),h2 _ F1 H1 g1 hx]
 .obtain⟨p,vs,rfl,hq,rr⟩:=rep_lst.mp rx;exact#[_,.inl #[vs,g1.fh.seq (SqL.of hq),by rw[rr.isEmpty]],h2 _ F1 H1 g1 hx]
 .obtain⟨p,vs,rfl,hq,rr⟩:=rep_rol.mp rx;exact#[_,.inl #[vs,g1.fh.seq hq,by rw[rr.isEmpty]],h2 _ F1 H1 g1 hx]
 .exact hx.elim⟩
variable {tA D_:TDT}{rest:List RP}
def dAnd(t u:TDT):TDT:=λz R=>t z λc=>if c=true then u z R else R false
def dOr(t u:TDT):TDT:=λz R=>t z λc=>if c=true then R true else u z R
def dNot(t:TDT):TDT:=λz R=>t z λc=>R (!c)
def yr[Jx](ha:WDT X a tA):WDW X (.BoolOp .And [a] pos) tA:=#[have ha:=ha.out;pX ha]
def dI[Jx](ha:WDT X a tA):WDW X (.BoolOp .Or [a] pos) tA:=#[have ha:=ha.out;pY ha]
def yt[Jx](ha:WDT X a tA)(hb:WDW X (.BoolOp .And (b::rest) pos) D_):WDW X (.BoolOp .And (a::b::rest) pos) (dAnd tA D_):=⟨have ha:=ha.out;have hb:=hb.out;(pZ ha hb).anti λs H Q q=>by
 obtain⟨B,F,z,kf,rs,R,h1,h2⟩:=q;have fh:=kf.fh;refine#[B,F,z,kf,rs,_,h1,λk F1 H1 g1 hx=>?_];cases k with
 |true=>exact#[B,F1,z,kf.grow g1,rs.grow g1,R,hx,λb F' H' g=>h2 b F' H' (g1.trans g)]
 |false=>exact h2 _ F1 H1 g1 hx⟩
def db[Jx](ha:WDT X a tA)(hb:WDW X (.BoolOp .Or (b::rest) pos) D_):WDW X (.BoolOp .Or (a::b::rest) pos) (dOr tA D_):=⟨have ha:=ha.out;have hb:=hb.out;(qa ha hb).anti λs H Q q=>by
 obtain⟨B,F,z,kf,rs,R,h1,h2⟩:=q;have fh:=kf.fh;refine#[B,F,z,kf,rs,_,h1,λk F1 H1 g1 hx=>?_];cases k with
 |false=>exact#[B,F1,z,kf.grow g1,rs.grow g1,R,hx,λb F' H' g=>h2 b F' H' (g1.trans g)]
 |true=>exact h2 _ F1 H1 g1 hx⟩
def de[Jx](h:WDW X a tA):WDT X a tA:=#[have h:=h.out;PW.pt h]
def cE[Jx](ha:WDT X a tA):WDT X (.UnaryOp .Not a pos) (dNot tA):=⟨have ha:=ha.out;(vQ ha).anti λs H Q q=>by
 obtain⟨B,F,z,kf,rs,R,h1,h2⟩:=q;have fh:=kf.fh;exact#[B,F,z,kf,rs,_,h1,λk F1 H1 g1 hx=>h2 _ F1 H1 g1 hx]⟩
def yu(ta tb:TD):TD:=λz R=>ta z λx=>match x with|.bl k=>if k=true then tb z R else R (.bl false)|_=>False
def yw(ta:TD):TD:=λz R=>ta z λx=>match x with|.bl k=>R (.bl (!k))|_=>False
def cQ[Jx]{op}(h:WDE X a ta):WDE X (.BoolOp op [a] pos) ta:=#[have h:=h.out;vT h]
def cR[Jx](ha:WDE X a ta)(hb:WDE X (.BoolOp .And (b::rest) pos) tb):WDE X (.BoolOp .And (a::b::rest) pos) (yu ta tb):=⟨have ha:=ha.out;have hb:=hb.out;(vU ha hb).anti λs H Q q=>by
 obtain⟨B,F,z,kf,rs,R,h1,h2⟩:=q;have fh:=kf.fh;refine#[B,F,z,kf,rs,_,h1,λx u F1 H1 g1 hx rx=>?_];split at hx
 .rename_i k;refine#[k,rep_bl.mp rx,?_];cases k with
  |true=>exact#[B,F1,z,kf.grow g1,rs.grow g1,R,hx,λd v F' H' g=>h2 d v F' H' (g1.trans g)]
  |false=>exact h2 _ _ F1 H1 g1 hx (rep_bl.mpr rfl)
 .exact hx.elim⟩
def yx[Jx](ha:WDE X a ta):WDE X (.UnaryOp .Not a pos) (yw ta):=⟨have ha:=ha.out;(vV ha).anti λs H Q q=>by
 obtain⟨B,F,z,kf,rs,R,h1,h2⟩:=q;have fh:=kf.fh;refine#[B,F,z,kf,rs,_,h1,λx u F1 H1 g1 hx rx=>?_];split at hx
 .exact#[_,rep_bl.mp rx,h2 _ _ F1 H1 g1 hx (rep_bl.mpr rfl)]
 .exact hx.elim⟩
def dIf(t:TDT)(ta tb:TD):TD:=λz R=>t z λc=>if c=true then ta z R else tb z R
def yy[Jx](hc:WDT X c tA)(ha:WDE X a ta)(hb:WDE X b tb):WDE X (.IfExp c a b pos) (dIf tA ta tb):=⟨have hc:=hc.out;have ha:=ha.out;have hb:=hb.out;(qc hc ha hb).anti λs H Q q=>by
 obtain⟨B,F,z,kf,rs,R,h1,h2⟩:=q;have fh:=kf.fh;refine#[B,F,z,kf,rs,_,h1,λk F1 H1 g1 hx=>?_];cases k with
 |false=>exact#[B,F1,z,kf.grow g1,rs.grow g1,R,hx,λd v F' H' g=>h2 d v F' H' (g1.trans g)]
 |true=>exact#[B,F1,z,kf.grow g1,rs.grow g1,R,hx,λd v F' H' g=>h2 d v F' H' (g1.trans g)]⟩
def tyD:D->String
 |.non=>"NoneType"|.bl _=>"bool"|.int _=>"int"|.str _=>"str"|.tup _=>"tuple"|.lst _=>"list"|.rol _=>"list"|.obj _ _=>"object"|.exc _ _=>"object"|.own _=>"list"|.ptr _=>"object"|.dti _=>"dict"
def dJ(t:String)(x:D):Bool:=tyD x==t||(tyD x=="bool" && t=="int")
def TyQ(K:Ex)(H:Hp)(x:V)(t:String):Prop:=TyOf K H x (.type t)\/(t="tuple"/\∃a xs,x=.ref a/\SqT K H a xs)\/(t="list"/\∃a xs,x=.ref a/\SqL K H a xs)
def yz:bJ X (.builtin "isinstance") (λxs H Q=>∃x t c k,xs=[x,.ty c]/\TyQ X.K H x t/\kitOne X.K (.type t) (.type c)=be k/\Q (.bl k) H):=by
 intro pins s σ H xs us Q I r h;obtain⟨x,t,c,k,rfl,ty,e,q⟩:=h;obtain⟨u,u',rfl,rx,rc⟩:=fG r;cases(show u'=Value.type c from rc);rcases ty with ty|⟨rfl,a,ys,rfl,hq⟩|⟨rfl,a,ys,rfl,hq⟩
 .exact wZ I rx ty e λtk=>#[.bl k,H,I.tok _,rfl,q]
 .cases(show u=Value.ref a from rx);obtain⟨its,_,⟨o,h1,h2,_⟩,_⟩:=I.tuple hq;exact kia_one kitx_tuple I.kIn #[o,h1,h2] e (λz=>nomatch z) λtk=>#[.bl k,H,I.tok _,rfl,q]
 .cases(show u=Value.ref a from rx);obtain⟨its,_,pl,_⟩:=I.list hq;obtain⟨o,n,h1,h2,_⟩:=pl;exact kia_one kitx_list I.kIn #[o,h1,h2] e (λz=>nomatch z) λtk=>#[.bl k,H,I.tok _,rfl,q]
def dL:D->Bool|.obj _ _=>false|.exc _ _=>false|.ptr _=>false|.dti _=>false|_=>true
def yB{F H:Hp}{x:D}{u:V}(fh:Same F H)(r:Rep K F x u)(no:dL x=true):TyQ K H u (tyD x):=by
 cases x with
 |non=>rw[rep_non.mp r];exact .inl .non
 |bl b=>rw[rep_bl.mp r];exact .inl (.bl b)
 |int b=>rw[rep_int.mp r];exact .inl (.int b)
 |str b=>rw[rep_str.mp r];exact .inl (.str b)
 |tup b=>obtain⟨a,vs,rfl,hq,_⟩:=rep_tup_mp r;exact .inr (.inl #[rfl,a,vs,rfl,fh.tup hq])
 |lst b=>obtain⟨a,vs,rfl,hq,_⟩:=rep_lst.mp r;exact .inr (.inr #[rfl,a,vs,rfl,fh.seq (SqL.of hq)])
 |rol b=>obtain⟨a,vs,rfl,hq,_⟩:=rep_rol.mp r;exact .inr (.inr #[rfl,a,vs,rfl,fh.seq hq])
 |obj C b=>cases no
 |exc C b=>cases no
 |ptr b=>cases no
 |dti b=>cases no
 |own b=>exact absurd r rep_own
def yD(t:String):D->(D->Prop)->Prop:=λx R=>match x with|.obj _ _=>False|.exc _ _=>False|.ptr _=>False|.dti _=>False|x=>R (.bl (dJ t x))
def df[Jx]{p p2:R6}{y:E_}{t:String}(hm:X.mg "isinstance"=s_)(P0:X.mg y=s_)(ha:WDE X a ta)(hv:Sa y=be (.type t))
  (hk:∀x:D,dL x=true->kitOne X.K (.type (tyD x)) (.type t)=be (dJ t x)) (hg:autoParam (Gl X "isinstance") zA0) (P1:autoParam (Gl X y) zA0) (hn:autoParam (y≠"__name__") zA1) (f6:autoParam (zND y) zA1)
  (n8:autoParam (RY [a,.Name y p2] X.env=(false,R3 a X.env)::RY [.Name y p2] X.env) zA0) (l8:autoParam (RY [.Name y p2] X.env=(false,R3 (.Name y p2) X.env)::RY [] X.env) zA0) (c9:autoParam ((Sz pos (RY [.Name y p2] X.env)).any (·.1)=false) zA0):WDE X (.Call (.Name "isinstance" p) [a,.Name y p2] [] pos) (dUn (yD t) ta):=⟨have ha:=ha.out;(gB yz hg hm PyProof.Rows.boot_isinstance (bz ha (bz (vP (v:=.ty t) P1 P0 hv rfl hn f6) pa_nil l8) n8) Kj Kj n8 c9).anti λs H Q q=>by
 obtain⟨B,F,z,kf,rs,R,h1,h2⟩:=q;have fh:=kf.fh;refine#[B,F,z,kf,rs,_,h1,λx u F1 H1 g1 hx rx=>?_];have no:dL x=true:=by
  cases x with
  |obj C b=>exact False.elim hx
  |exc C b=>exact False.elim hx
  |ptr b=>exact False.elim hx
  |dti b=>exact False.elim hx
  |_=>rfl
 have g8:R (.bl (dJ t x)):=by
  cases x with
  |obj C b=>exact False.elim hx
  |exc C b=>exact False.elim hx
  |ptr b=>exact False.elim hx
  |dti b=>exact False.elim hx
  |_=>exact hx
 exact#[u,tyD x,t,_,rfl,yB g1.fh rx no,hk x no,h2 _ _ F1 H1 g1 g8 (rep_bl.mpr rfl)]⟩
def yF:∀x:D,dL x=true->kitOne K (.type (tyD x)) (.type "int")=be (dJ "int" x):=by intro x no;cases x<;>first|rfl|cases no
def kit_bool:∀x:D,dL x=true->kitOne K (.type (tyD x)) (.type "bool")=be (dJ "bool" x):=by intro x no;cases x<;>first|rfl|cases no
def kit_tuple:∀x:D,dL x=true->kitOne K (.type (tyD x)) (.type "tuple")=be (dJ "tuple" x):=by intro x no;cases x<;>first|rfl|cases no
def kit_str:∀x:D,dL x=true->kitOne K (.type (tyD x)) (.type "str")=be (dJ "str" x):=by intro x no;cases x<;>first|rfl|cases no
def toV:D->Option V
 |.non=>be .non|.bl b=>be (.bl b)|.int i=>be (.int i)|.str x=>be (.str x)|_=>s_
def bv(d:D):Bool:=(toV d).isSome
def eqF:D->D->Bool
 |.non,.non=>true
 |.bl a,.bl b=>a==b
 |.bl a,.int b=>(if a then 1 else 0)==b
 |.int a,.bl b=>a==(if b then 1 else 0)
 |.int a,.int b=>a==b
 |.str a,.str b=>a==b
 |_,_=>false
def eqFs:List D->List D->Bool
 |[],[]=>true
 |x::xs,y::ys=>eqF x y&&eqFs xs ys
 |_,_=>false
end
section
variable {X:Cx}{a b:RP}{ta tb:TD}{pos:R6}
def eqVs:List V->List V->Bool
 |[],[]=>true
 |x::xs,y::ys=>eqV x y&&eqVs xs ys
 |_,_=>false
def gK:∀(xs ys:List V),((FN (min xs.length ys.length)).all (λj=>eqV (xs.getD j .non) (ys.getD j .non))&&xs.length==ys.length)=eqVs xs ys
 |[],[]=>rfl
 |[],_::_=>by simp[eqVs]
 |_::_,[]=>by simp[eqVs]
 |x::xs,y::ys=>by
  have ih:=gK xs ys;rw[eqVs,<-ih];have e:min (x::xs).length (y::ys).length=min xs.length ys.length+1:=by simp only[FV];lia
  rw[e,IJ,GD,H9];have e2:((x::xs).length==(y::ys).length)=(xs.length==ys.length):=Ld
  rw[e2,Bool.and_assoc];rfl
variable{xs:List V}
def Vals.getD{us:List KB}{j:Nat}(r:Vals xs us)(h:j<us.length):RelV (xs.getD j .non) us[j]:=by
 have hl:=L2.Vals.length r;obtain⟨u,q1,q2⟩:=L2.Vals.get (i:=j) (x:=xs.getD j .non) r (by rw[F9 Kd];simp[GA,F9 (show j<xs.length by lia)]);rw[F9 h]at q1;cases q1;exact q2
def flat_getD{j:Nat}(h:xs.all bA=true):bA (xs.getD j .non)=true:=by
 by_cases hj:j<xs.length
 .have q:=GK.mp h xs[j] (Gm hj);simpa[GA,F9 hj]using q
 .simp[GA,GE (Hk hj),bA]
def ke{K:Ex}{H:Hp}{x y:D}{u v:V}(rx:Rep K H x u)(ry:Rep K H y v)(fx:bv x=true)(fy:bv y=true):eqV u v=eqF x y:=by
 cases x with
 |tup _=>cases fx
 |lst _=>cases fx
 |rol _=>cases fx
 |obj _ _=>cases fx
 |exc _ _=>cases fx
 |ptr _=>cases fx
 |dti _=>cases fx
 |own _=>cases fx
 |non=>rw[rep_non.mp rx];cases y with
  |tup _=>cases fy
  |lst _=>cases fy
  |rol _=>cases fy
  |obj _ _=>cases fy
  |exc _ _=>cases fy
  |ptr _=>cases fy
  |dti _=>cases fy
  |own _=>cases fy
  |non=>rw[rep_non.mp ry];rfl
  |bl _=>rw[rep_bl.mp ry];rfl
  |int _=>rw[rep_int.mp ry];rfl
  |str _=>rw[rep_str.mp ry];rfl
 |bl _=>rw[rep_bl.mp rx];cases y with
  |tup _=>cases fy
  |lst _=>cases fy
  |rol _=>cases fy
  |obj _ _=>cases fy
  |exc _ _=>cases fy
  |ptr _=>cases fy
  |dti _=>cases fy
  |own _=>cases fy
  |non=>rw[rep_non.mp ry];rfl
  |bl _=>rw[rep_bl.mp ry];rfl
  |int _=>rw[rep_int.mp ry];rfl
  |str _=>rw[rep_str.mp ry];rfl
 |int _=>rw[rep_int.mp rx];cases y with
  |tup _=>cases fy
  |lst _=>cases fy
  |rol _=>cases fy
  |obj _ _=>cases fy
  |exc _ _=>cases fy
  |ptr _=>cases fy
  |dti _=>cases fy
  |own _=>cases fy
  |non=>rw[rep_non.mp ry];rfl
  |bl _=>rw[rep_bl.mp ry];rfl
  |int _=>rw[rep_int.mp ry];rfl
  |str _=>rw[rep_str.mp ry];rfl
 |str _=>rw[rep_str.mp rx];cases y with
  |tup _=>cases fy
  |lst _=>cases fy
  |rol _=>cases fy
  |obj _ _=>cases fy
  |exc _ _=>cases fy
  |ptr _=>cases fy
  |dti _=>cases fy
  |own _=>cases fy
  |non=>rw[rep_non.mp ry];rfl
  |bl _=>rw[rep_bl.mp ry];rfl
  |int _=>rw[rep_int.mp ry];rfl
  |str _=>rw[rep_str.mp ry];rfl
def eF{K:Ex}{H:Hp}{x:D}{u:V}(rx:Rep K H x u)(fx:bv x=true):bA u=true:=by
 cases x with
 |tup _=>cases fx
 |lst _=>cases fx
 |rol _=>cases fx
 |obj _ _=>cases fx
 |exc _ _=>cases fx
 |ptr _=>cases fx
 |dti _=>cases fx
 |own _=>cases fx
 |non=>rw[rep_non.mp rx];rfl
 |bl _=>rw[rep_bl.mp rx];rfl
 |int _=>rw[rep_int.mp rx];rfl
 |str _=>rw[rep_str.mp rx];rfl
def dg{K:Ex}{H:Hp}:∀{xs:List D} {us:List V},Reps K H xs us->xs.all bv=true->us.all bA=true
 |[],us,r,_=>by rw[reps_nil.mp r];rfl
 |x::xs,us,r,f=>by
  obtain⟨v,vr,rfl,r1,r2⟩:=reps_cons.mp r;rw[GD,Gg]at f ⊢;exact#[eF r1 f.1,dg r2 f.2]
def kg{K:Ex}{H:Hp}:∀{xs ys:List D} {us vs:List V},Reps K H xs us->Reps K H ys vs->xs.all bv=true->ys.all bv=true->eqVs us vs=eqFs xs ys
 |[],[],us,vs,r1,r2,_,_=>by rw[reps_nil.mp r1,reps_nil.mp r2];rfl
 |[],y::ys,us,vs,r1,r2,_,_=>by
  obtain⟨v,vr,rfl,_,_⟩:=reps_cons.mp r2;rw[reps_nil.mp r1];rfl
 |x::xs,[],us,vs,r1,r2,_,_=>by
  obtain⟨v,vr,rfl,_,_⟩:=reps_cons.mp r1;rw[reps_nil.mp r2];rfl
 |x::xs,y::ys,us,vs,r1,r2,f1,f2=>by
  obtain⟨u,ur,rfl,a1,a2⟩:=reps_cons.mp r1;obtain⟨v,vr,rfl,b1,b2⟩:=reps_cons.mp r2;rw[GD,Gg]at f1 f2;rw[eqVs,eqFs,ke a1 b1 f1.1 f2.1,kg a2 b2 f1.2 f2.2]
end
section
variable {X:Cx}{a b c e:RP}{ta tb tc te:TD}{pos:R6}{st:P3}{rest:List P3}{t u:TSD}
def yG:TSD:=λE z=>E.nx z
def dSeq(t u:TSD):TSD:=λE z=>t {E with nx:=u E} z
def aM[Jx]:WDSs X [] yG:=⟨pss_nil.anti λE s H q=>by
 obtain⟨B,F0,F,z,k,rs,ED,h,e⟩:=q;exact e.nx z s F H k h rs⟩
def aj[Jx](h1:WDS X st t)(h2:WDSs X rest u):WDSs X (st::rest) (dSeq t u):=⟨have h1:=h1.out;have h2:=h2.out;(jD h1 h2).anti λE s H q=>by
 obtain⟨B,F0,F,z,k,rs,ED,h,e⟩:=q;exact#[B,F0,F,z,k,rs,{ED with nx:=u ED},h,#[λz' s' F' H' k' hz r'=>#[B,F0,F',z',k',r',ED,hz,e],e.rt,e.bk,e.ct]]⟩
def ar[Jx](h1:WDS X st t):WDSs X [st] t:=#[have h1:=h1.out;qd h1]
def dFrz(i:Nat)(t:TSD):TSD:=λE z=>match z[i]? with|some (be (.own ds))=>t E (z.set i (be (.lst ds)))|_=>False
def dh[Jx](i:Nat){Lq:List P3}(h:WDSs X Lq t):WDSs X Lq (dFrz i t):=⟨have h:=h.out;PSs.anti h λE s H q=>by
 obtain⟨B,F0,F,z,k,rs,ED,h,e⟩:=q;unfold dFrz at h;split at h
 .rename_i ds ez;obtain⟨F',k',r'⟩:=rs.freeze k ez;exact#[B,F0,F',_,k',r',ED,h,e]
 .exact h.elim⟩
def dRet(te:TD):TSD:=λE z=>te z E.rt
def ay[Jx](he:WDE X e te):WDS X (.Return (be e) pos) (dRet te):=⟨have he:=he.out;(qe he).anti λE s H q=>by
 obtain⟨B,F0,F,z,k,rs,ED,h,e⟩:=q;exact#[B,F,z,k.kf,rs,_,h,λd v F' H' g hd rd=>e.rt d v F' H' (k.grow g) hd rd]⟩
def yH(te:TD):TSD:=λE z=>te z λ_=>E.nx z
def rK[Jx](he:WDE X e te)(hs:autoParam (R9 e s_ pos.line X.env=pure false) zA0):WDS X (.Expr e pos) (yH te):=⟨have he:=he.out;(jE he hs).anti λE s H q=>by
 obtain⟨B,F0,F,z,k,rs,ED,h,e⟩:=q;exact#[B,F,z,k.kf,rs,_,h,λd v F' H' g hd rd=>e.nx z s F' H' (k.grow g) hd (rs.grow g)]⟩
def dIfS(c:TDT)(t u:TSD):TSD:=λE z=>c z λb=>if b=true then t E z else u E z
variable{l r:List P3}
def rL[Jx]{c:RP}{tc:TDT}(hc:DT X c tc)(ha:DSs X l t)(hb:DSs X r u):DS X (.If c l r pos) (dIfS tc t u):=(qf hc ha hb).anti λE s H q=>by
 obtain⟨B,F0,F,z,k,rs,ED,h,e⟩:=q;refine#[B,F,z,k.kf,rs,_,h,λb F1 H1 g hk=>?_];cases b with
 |true=>exact#[B,F0,F1,z,k.grow g,rs.grow g,ED,hk,e]
 |false=>exact#[B,F0,F1,z,k.grow g,rs.grow g,ED,hk,e]
def dIfJ(c:TDT)(t u:TSD):TSD:=λE z=>∃J:SD->Prop,(c z λb=>if b=true then t {E with nx:=J} z else u {E with nx:=J} z)/\∀z',J z'->E.nx z'
def cx[Jx]{c:RP}{tc:TDT}(hc:WDT X c tc)(ha:WDSs X l t)(hb:WDSs X r u):WDS X (.If c l r pos) (dIfJ tc t u):=⟨have hc:=hc.out;have ha:=ha.out;have hb:=hb.out;(rL hc ha hb).anti λE s H q=>by
 obtain⟨B,F0,F,z,k,rs,ED,⟨J,h,j⟩,e⟩:=q;exact#[B,F0,F,z,k,rs,{ED with nx:=J},h,#[λz' s' F' H' k' hz r'=>e.nx z' s' F' H' k' (j z' hz) r',e.rt,e.bk,e.ct]]⟩
def dSet(i:Nat)(te:TD):TSD:=λE z=>∃P:D->Prop,te z P/\∀d,P d->E.nx (z.set i (be d))
variable{x:E_}
def aq[Jx](i:Nat){c_:R6}(hN:X.N.Nodup)(he:WDE X e te)(hi:autoParam (X.N[i]?=be x) zA0)(hx:autoParam (Loc X.env.scope x) zA4)(hs:autoParam (R9 e (be (.Name x c_)) pos.line X.env=pure false) zA0)
  (hf:autoParam (zFN X x) zA3):WDS X (.Assign [.Name x c_] e pos) (dSet i te):=⟨have he:=he.out;(gw hN hi hx he hs hf).anti λE s H q=>by
 obtain⟨B,F0,F,z,k,rs,ED,⟨P,h,j⟩,e⟩:=q;exact#[B,F,z,k.kf,rs,P,h,λd v F' H' g hd rd=>e.nx _ _ F' H' (k.grow g) (j d hd) ((rs.grow g).set rd)]⟩
def dNew(i:Nat)(ta:TDA):TSD:=λE z=>ta z λds=>ds.length<=1000/\E.nx (z.set i (be (.own ds)))
variable{es:List RP}
def fM[Jx](i:Nat){c_ p2:R6}{ta:TDA}(hN:X.N.Nodup)(he:WDA X es ta)(hi:autoParam (X.N[i]?=be x) zA0)(hx:autoParam (Loc X.env.scope x) zA4)(hs:autoParam (R9 (.List es p2) (be (.Name x c_)) pos.line X.env=pure false) zA0)
  (hf:autoParam (zFN X x) zA3):WDS X (.Assign [.Name x c_] (.List es p2) pos) (dNew i ta):=⟨have he:=he.out;(gw hN hi hx (jN he) hs hf).anti λE s H q=>by
 obtain⟨B,F0,F,z,k,rs,ED,h,e⟩:=q;refine#[B,F,z,k.kf,rs,_,h,λds vs F1 H1 g hd rd=>?_];have hl:=rd.length;refine#[sz (by rw[hl];exact hd.1),λp hp=>?_];have k1:=k.grow g;have r1:=rs.grow g;have hB:B p=none:=k1.bh.free hp;have hF:F1 p=none:=k1.fh.free hp;refine e.nx _ _ F1 _ #[k1.bh.trans (aV hp _),k1.fh.trans (aV hp _),k1.f0,k1.out,k1.eb,k1.jf,k1.jo] hd.2 (r1.setOwn hB hF rd λj dj hj e1 e2=>?_);obtain⟨a,us,q1,q2,_⟩:=r1.own j dj e1;rw[e2]at q1;cases q1;rw[hp]at q2;cases q2⟩
def dApp(i:Nat)(te:TD):TSD:=λE z=>match z[i]? with|some (be (.own ds))=>(te z λd=>ds.length<=100000/\E.nx (z.set i (be (.own (ds++[d])))))|_=>False
def eI{K:Ex}{F:Hp}{d:D}{v:V}(r:Rep K F d v):Reps K F [d] [v]:=reps_cons.mpr #[v,[],rfl,r,reps_nil.mpr rfl]
def fN[Jx](i:Nat){p1 apos cpos:R6}(he:WDE X e te)(hN:autoParam (X.N[i]?=be x) zA0)(hv:autoParam (Vis X.env.scope x) zA5)(hd:autoParam (zND x) zA1)
  (i6:autoParam (zNC x) zA1) (n8:autoParam (zSE X e []) zA0)
  (b8:autoParam (R1 (.Name x p1) "append" X.env (R3 (.Name x p1) X.env)=R3 (.Name x p1) X.env) zA0)
  (d9:autoParam (zHF X cpos [e]) zA0)
  (c5:autoParam ((apos.endLine==cpos.line)=true) zA0) (p_:autoParam (R9 (.Call (.Attribute (.Name x p1) "append" apos) [e] [] cpos) s_ pos.line X.env=pure false) zA0):WDS X (.Expr (.Call (.Attribute (.Name x p1) "append" apos) [e] [] cpos) pos) (dApp i te):=⟨have he:=he.out;(jE (eB PySem.F.plainAttrs_list PySem.F.slot_list_append PySem.F.type_list_append jR (fB hN hv hd i6) (bz he pa_nil n8) b8 d9 c5 n8) p_).anti λE s H q=>by
 obtain⟨B,F0,F,z,k,rs,ED,h,e⟩:=q;unfold dApp at h;split at h
 .rename_i ds ez;obtain⟨a,vs,q1,q2,q3,q4,q5⟩:=rs.own i ds ez;refine#[.ref a,q1,.inl #[rfl,vs,SqL.of q2],?_];refine#[B,F,z,k.kf,rs,_,h,λd v F1 H1 g hd rd=>?_];have k1:=k.grow g;have r1:=rs.grow g;have a1:H1 a=be (.lst vs):=g.hh a _ q2;have f1:F1 a=none:=g.out a q4 (by rw[q2];exact λz=>nomatch z);have hl:vs.length=ds.length:=q5.length;have hz:vs.length<sizeLine:=by
   have h1:ds.length<=100000:=hd.1;have h2:(100000:Nat)<sizeLine:=Kj
   lia
  refine#[a,vs,v,rfl,rfl,a1,hz,?_];have same:∀{G:Hp},G a=s_->Same G H1->Same G (upd H1 a (.lst (vs++[v]))):=λ{G} ga gs b o eb=>by
   have ne:b≠a:=λz=>by rw[z,ga]at eb;cases eb
   rw[aD ne];exact gs b o eb
  have r2:=r1.setOwn (i:=i) (a:=a) (vs:=vs++[v]) (ds:=ds++[d]) q3 f1 ((q5.mono g.ff).append (eI rd)) (λj dj hj e1 e2=>hj (rs.apart j i dj ds a e1 ez e2 q1));have es:s.set i (be (.ref a))=s:=by
   apply Hl;intro n;by_cases hn:i=n
   .subst hn;rw[Gx (FZ.mp q1).1,q1]
   .rw[Ge hn]
  rw[es]at r2;exact e.nx _ s F1 _ #[same q3 k1.bh,same f1 k1.fh,k1.f0,k1.out,k1.eb,k1.jf,k1.jo] hd.2 r2
 .exact h.elim⟩
def aY:List Nat->List D->SD->SD
 |i::is,d::ds,z=>aY is ds (z.set i (be d))
 |_,_,z=>z
def DGs(X:Cx)(ts:List RP)(is:List Nat):Prop:=∃u:TGs,PGs X ts u/\∀(ds:List D) (vs:List V) (z:SD) (s:L2.St) (B F H:Hp) (Q:L2.St->Hp->Prop),ds.length=is.length->Reps X.K F ds vs->RepS X.K B F H z s->(∀s',RepS X.K B F H (aY is ds z) s'->Q s' H)->u vs s H Q
def dM[Jx]:DGs X [] []:=⟨_,wa,λds vs z s B F H Q hl r rs q=>by
 cases ds with
 |nil=>exact#[reps_nil.mp r,q s rs]
 |cons _ _=>cases hl⟩
variable{p:R6}{is:List Nat}
def dg_cons[Jx](i:Nat)(hN:X.N.Nodup)(h2:DGs X es is)(hi:autoParam (X.N[i]?=be x) zA0)(hx:autoParam (Loc X.env.scope x) zA4)(hf:autoParam (zFN X x) zA3)
  (hs:autoParam ((RZ (.Name x p::es) X.env).map (·.2)=Sy (.Name x p) X.env::(RZ es X.env).map (·.2)) zA0):DGs X (.Name x p::es) (i::is):=by
 obtain⟨u,hu,k⟩:=h2;refine#[_,wc (fD hN hi hx hf) hu hs,λds vs z s B F H Q hl r rs q=>?_];cases ds with
 |nil=>cases hl
 |cons d ds=>
  obtain⟨v,vr,rfl,r1,r2⟩:=reps_cons.mp r;exact#[v,vr,rfl,k ds vr _ _ B F H Q (Nat.succ.inj hl) r2 (rs.set r1) q]
def yI(is:List Nat)(te:TD):TSD:=λE z=>te z λx=>match x with|.tup ds=>ds.length=is.length/\E.nx (aY is ds z)|_=>False
def rM[Jx]{k:Nat}(hc:X.calm=true)(he:WDE X e te)(hg:DGs X es is)(hn:autoParam ((RZ es X.env).length=is.length) zA0)(j6:autoParam ((RZ es X.env).findIdx? (·.1)=none) zA0)
  (hs:autoParam (Sq [.Tuple es k p] e pos.line X.env=pure false) zA0) (hw:autoParam (Sr [.Tuple es k p] e X.env=pure none) zA0) (h1:autoParam ((RZ [.Tuple es k p] X.env).map (·.2)=[Sy (.Tuple es k p) X.env]) zA0):WDS X (.Assign [.Tuple es k p] e pos) (yI is te):=⟨by
 have he:=he.out;obtain⟨u,hu,kk⟩:=hg;refine(jF he (fE hc hu hn j6) hs hw h1).anti λE s H q=>?_;obtain⟨B,F0,F,z,k,rs,ED,h,e⟩:=q;refine#[B,F,z,k.kf,rs,_,h,λd v F' H' g hd rd=>?_];split at hd
 .obtain⟨p,vs,rfl,hq,rr⟩:=rep_tup_mp rd;exact#[p,vs,rfl,g.fh.tup hq,by rw[rr.length];exact hd.1,kk _ vs z s B F' H' _ hd.1 rr (rs.grow g) λs' r'=>e.nx _ _ F' H' (k.grow g) hd.2 r']
 .exact hd.elim⟩
def dPar(i j:Nat)(ta:TDA):TSD:=λE z=>ta z λds=>match ds with|[x,y]=>E.nx ((z.set i (be x)).set j (be y))|_=>False
def yJ[Jx](i j:Nat){y:E_}{t:TDA}{px py pt:R6}{kt k2 Kc}(hc:X.calm=true)(hN:X.N.Nodup)(ha:WDA X [a,b] t)(hi:autoParam (X.N[i]?=be x) zA0)(hj:autoParam (X.N[j]?=be y) zA0)(ML:autoParam (i≠j) zA1)
  (hx:autoParam (X.env.scope.names.lookup x=be .local) zA0) (hy:autoParam (X.env.scope.names.lookup y=be .local) zA0)
  (hw:autoParam (Sr [.Tuple [.Name x px,.Name y py] kt pt] (.Tuple [a,b] k2 Kc) X.env=pure (be [x,y])) zA0)
  (hs:autoParam (Sq [.Tuple [.Name x px,.Name y py] kt pt] (.Tuple [a,b] k2 Kc) pos.line X.env=pure false) zA0):WDS X (.Assign [.Tuple [.Name x px,.Name y py] kt pt] (.Tuple [a,b] k2 Kc) pos) (dPar i j t):=⟨have ha:=ha.out;(wg hc hN hi hj ML hx hy ha hw hs).anti λE s H q=>by
 obtain⟨B,F0,F,z,k,rs,ED,h,e⟩:=q;refine#[B,F,z,k.kf,rs,_,h,λds vs F' H' g hd rd=>?_];split at hd
 .obtain⟨v,r,rfl,r1,r2⟩:=reps_cons.mp rd;obtain⟨w,r,rfl,r3,r4⟩:=reps_cons.mp r2;rw[reps_nil.mp r4];exact#[v,w,rfl,e.nx _ _ F' H' (k.grow g) hd (((rs.grow g).set r1).set r3)]
 .exact hd.elim⟩
def yL(c:TDT)(tb:TSD):TSD:=λE z=>∃W:Nat->SD->Prop,(∃m,W m z)/\∀m z,W m z->
 c z λb=>if b=true then tb {E with nx:=λz'=>∃m',m'<m/\W m' z',ct:=λz'=>∃m',m'<m/\W m' z',bk:=E.nx} z else E.nx z
variable{body:List P3}
def dN[Jx]{c:RP}{tc:TDT}{tb:TSD}(hp:Sd (RS X.prog X.w) X.A X.env X.xe)(hc:WDT X c tc)(hb:WDSs X body tb):WDS X (.While c body [] pos) (yL tc tb):=⟨have hc:=hc.out;have hb:=hb.out;(qg hp hc hb).anti λE s H q=>by
 obtain⟨B,F0,F,z,k,rs,ED,⟨W,⟨m0,w0⟩,b_⟩,e⟩:=q;refine#[λm s' H'=>∃F' z',Kept B F0 F' H'/\RepS X.K B F' H' z' s'/\W m z',#[m0,F,z,k,rs,w0],?_];rintro m s1 H1⟨F1,z1,k1,r1,w1⟩;refine#[B,F1,z1,k1.kf,r1,_,b_ m z1 w1,λb F2 H2 g2 hk=>?_];cases b with
 |true=>
  refine#[λs3 H3=>∃F3 z3,Kept B F0 F3 H3/\RepS X.K B F3 H3 z3 s3/\∃m',m'<m/\W m' z3,λs3 H3 ⟨F3,z3,k3,r3,m',l,w3⟩=>#[m',l,F3,z3,k3,r3,w3],?_];exact#[B,F0,F2,z1,k1.grow g2,r1.grow g2,_,hk,#[λz3 s3 F3 H3 k3 h3 r3=>#[F3,z3,k3,r3,h3],e.rt,e.nx,λz3 s3 F3 H3 k3 h3 r3=>#[F3,z3,k3,r3,h3]]]
 |false=>exact e.nx z1 s1 F2 H2 (k1.grow g2) hk (r1.grow g2)⟩
abbrev TDI:=SD->(List D->Prop)->Prop
def dItL(t:TD):TDI:=λz R=>t z λx=>match x with|.lst ds=>R ds|.rol ds=>R ds|_=>False
def dItR(t:TD):TDI:=λz R=>t z λx=>match x with|.int n=>(0<=n/\n<2^62)/\R ((FN n.toNat).map λk=>D.int ((k:Nat):Int))|_=>False
def dFor(i:Nat)(ti:TDI)(tb:TSD):TSD:=λE z=>ti z λds=>∃W:Nat->SD->Prop,W 0 z/\(∀k x z,ds[k]?=be x->W k z->tb {E with nx:=W (k+1),ct:=W (k+1),bk:=E.nx} (z.set i (be x)))/\∀z,W ds.length z->E.nx z
def Reps.get'{K:Ex}{H:Hp}{ds:List D}{vs:List V}{k:Nat}{v:V}(r:Reps K H ds vs)(e:vs[k]?=be v):∃d,ds[k]?=be d/\Rep K H d v:=by
 have hk:k<ds.length:=by rw[<-r.length];exact(FZ.mp e).1
 obtain⟨u,q1,q2⟩:=r.get (F9 hk);rw[e]at q1;cases q1;exact#[_,F9 hk,q2]
def kh[Jx](i:Nat){tb:TSD}(hp:Sd (RS X.prog X.w) X.A X.env X.xe)(hc:X.calm=true)(hN:X.N.Nodup)(he:WDE X e te)(hb:WDSs X body tb)(hi:autoParam (X.N[i]?=be x) zA0)(hx:autoParam (Loc X.env.scope x) zA4)
  (hf:autoParam (zFN X x) zA3) (hs:autoParam (∀y,zFS X e y) zA2):WDS X (.For (.Name x p) e body [] pos) (dFor i (dItL te) tb):=⟨have he:=he.out;have hb:=hb.out;(cV hp hc (fF he) (fD hN hi hx hf) hb hs).anti λE s H q=>by
 obtain⟨B,F0,F,z,kp,rs,ED,h,e⟩:=q;refine#[B,F,z,kp.kf,rs,_,h,λd v F1 H1 g1 hd rd=>?_];split at hd
 .obtain⟨p,vs,rfl,hq,rr⟩:=rep_lst.mp rd;obtain⟨W,w0,b_,out⟩:=hd;refine#[p,rfl,#[vs,g1.fh.seq (SqL.of hq)],qm (K:=X.K) (a:=p) (xs:=vs) (λk s' H'=>∃F' z',Kept B F0 F' H'/\Same F1 F'/\RepS X.K B F' H' z' s'/\W k z') #[F1,z,kp.grow g1,Same.refl F1,rs.grow g1,w0] (λk s' H' _ ⟨F',z',k',g',r',w'⟩=>k'.fh.seq (g'.seq (SqL.of hq))) ?_ ?_]
  .rintro k y s' H' hk⟨F',z',k',g',r',w'⟩;obtain⟨d,hd,ry⟩:=rr.get' hk;refine#[B,F',F',_,#[k'.bh,k'.fh,Same.refl F',λb h1 _=>h1,k'.eb,k'.jf.trans k'.f0,λb h1 h2=>k'.out b (k'.jo b h1 h2) h2],r'.set (ry.mono g'),_,b_ k d z' hd w',?_];have up:∀{F2 H2:Hp},Kept B F' F2 H2->Kept B F0 F2 H2:=λk2=>#[k2.bh,k2.fh,k'.f0.trans k2.f0,λb h1 h2=>k2.out b (k'.out b h1 h2) h2,k'.eb,k'.jf,k'.jo];exact#[λz3 s3 F3 H3 k3 h3 r3=>#[F3,z3,up k3,g'.trans k3.f0,r3,h3],λd v F3 H3 k3=>e.rt d v F3 H3 (up k3),λz3 s3 F3 H3 k3=>e.nx z3 s3 F3 H3 (up k3),λz3 s3 F3 H3 k3 h3 r3=>#[F3,z3,up k3,g'.trans k3.f0,r3,h3]]
  .rintro s' H'⟨F',z',k',g',r',w'⟩;exact e.nx z' s' F' H' k' (out z' (by rw[<-rr.length];exact w')) r'
 .obtain⟨p,vs,rfl,hq,rr⟩:=rep_rol.mp rd;obtain⟨W,w0,b_,out⟩:=hd;refine#[p,rfl,#[vs,g1.fh.seq hq],qm (K:=X.K) (a:=p) (xs:=vs) (λk s' H'=>∃F' z',Kept B F0 F' H'/\Same F1 F'/\RepS X.K B F' H' z' s'/\W k z') #[F1,z,kp.grow g1,Same.refl F1,rs.grow g1,w0] (λk s' H' _ ⟨F',z',k',g',r',w'⟩=>k'.fh.seq (g'.seq hq)) ?_ ?_]
  .rintro k y s' H' hk⟨F',z',k',g',r',w'⟩;obtain⟨d,hd,ry⟩:=rr.get' hk;refine#[B,F',F',_,#[k'.bh,k'.fh,Same.refl F',λb h1 _=>h1,k'.eb,k'.jf.trans k'.f0,λb h1 h2=>k'.out b (k'.jo b h1 h2) h2],r'.set (ry.mono g'),_,b_ k d z' hd w',?_];have up:∀{F2 H2:Hp},Kept B F' F2 H2->Kept B F0 F2 H2:=λk2=>#[k2.bh,k2.fh,k'.f0.trans k2.f0,λb h1 h2=>k2.out b (k'.out b h1 h2) h2,k'.eb,k'.jf,k'.jo];exact#[λz3 s3 F3 H3 k3 h3 r3=>#[F3,z3,up k3,g'.trans k3.f0,r3,h3],λd v F3 H3 k3=>e.rt d v F3 H3 (up k3),λz3 s3 F3 H3 k3=>e.nx z3 s3 F3 H3 (up k3),λz3 s3 F3 H3 k3 h3 r3=>#[F3,z3,up k3,g'.trans k3.f0,r3,h3]]
  .rintro s' H'⟨F',z',k',g',r',w'⟩;exact e.nx z' s' F' H' k' (out z' (by rw[<-rr.length];exact w')) r'
 .exact hd.elim⟩
def bK[Jx](i:Nat){p1 p2:R6}{tb:TSD}(hp:Sd (RS X.prog X.w) X.A X.env X.xe)(hc:X.calm=true)(hN:X.N.Nodup)(hm:X.mg "range"=s_)(he:WDE X e te)(hb:WDSs X body tb)(hg:autoParam (Gl X "range") zA0)(hi:autoParam (X.N[i]?=be x) zA0)(hx:autoParam (Loc X.env.scope x) zA4)
  (hf:autoParam (zFN X x) zA3) (hs:autoParam (∀y,zFS X (.Call (.Name "range" p1) [e] [] p2) y) zA2) (j7:autoParam (zSE X e []) zA0) (d_:autoParam (RY [e] X.env=[(false,R3 e X.env)]) zA0):WDS X (.For (.Name x p) (.Call (.Name "range" p1) [e] [] p2) body [] pos) (dFor i (dItR te) tb):=⟨have he:=he.out;have hb:=hb.out;(cV hp hc (gx hg hm (bz he pa_nil j7) d_) (fD hN hi hx hf) hb hs).anti λE s H q=>by
 obtain⟨B,F0,F,z,kp,rs,ED,h,e⟩:=q;refine#[B,F,z,kp.kf,rs,_,h,λd v F1 H1 g1 hd rd=>?_];split at hd
 .rename_i n;obtain⟨⟨b1,b2⟩,W,w0,b_,out⟩:=hd;have hl:((FN n.toNat).map λk=>D.int ((k:Nat):Int)).length=n.toNat:=by simp
  refine#[n,by rw[rep_int.mp rd],Kd,b2,jH (lo:=0) (n:=n.toNat) (λk s' H'=>∃F' z',Kept B F0 F' H'/\RepS X.K B F' H' z' s'/\W k z') #[F1,z,kp.grow g1,rs.grow g1,w0] ?_ ?_]
  .rintro k s' H' hk⟨F',z',k',r',w'⟩;have e1:(0:Int)+(k:Int)=(k:Int):=by lia
   exact#[B,F0,F',_,k',r'.set (d:=.int (k:Int)) (rep_int.mpr (by rw[e1])),_,b_ k (.int (k:Int)) z' (by simp[hk]) w',#[λz3 s3 F3 H3 k3 h3 r3=>#[F3,z3,k3,r3,h3],e.rt,e.nx,λz3 s3 F3 H3 k3 h3 r3=>#[F3,z3,k3,r3,h3]]]
  .rintro s' H'⟨F',z',k',r',w'⟩;exact e.nx z' s' F' H' k' (out z' (by rw[hl];exact w')) r'
 .exact hd.elim⟩
end
section
variable {P:RQ}{w:RU}{K:Ex}{mg:E_->Option KB}{base:RW}
variable{N ps:List E_}
def _root_.L2.Fun.okD{x qual:E_}{st:P3}{f:KF}{fd:R4}{k:Nat}{S:SpD}(T:Fun K x qual st f fd)(F:FnScope N ps (ao st))(len:∀ds R,S ds R->ds.length=ps.length)
  (a_:∀(cdv:KB) (A:RV) (outer:List SG) (s:KM) (H:Hp) (E:XK) (J:Jx),Room k (A.deeper (R' qual (ao st) s.heap.objs.size f cdv))->
   ∃t,DSs (cxOf (Exc.CX1 P w) P w K mg base N qual (ao st) f cdv A outer s H E).nox (aQ st) t/\∀ds R,S ds R->t {nx:=λ_=>R .non,rt:=R} (startD N ds)):FnOk P w K mg base (Exc.CX1 P w) (k+1) f fd ps (lSp K S):=by
 refine Fun.okC T F (λvs H Q E h=>?_) (λcdv A outer s H vs Q E hr h=>?_)
 .obtain⟨F,ds,fh,rs,R,h,_⟩:=h;rw[rs.length];exact len ds R h
 .obtain⟨F,ds,fh,rs,R,h,q⟩:=h
  letI:Jx:=#[H,F,λ_ _ _=>False]
  obtain⟨t,ht,hq⟩:=a_ cdv A outer s H E inferInstance hr;refine#[_,ht.nox,H,F,F,startD N ds,#[Same.refl H,fh,Same.refl F,λ_ h _=>h,rfl,Same.refl F,λ_ h _=>h],fK rs,_,hq ds R h,#[λz' s' F' H' k hn _=>q _ _ F' H' #[k.f0,k.fh,k.bh,k.out] hn (rep_non.mpr rfl),λd v F' H' k hd rd=>q d v F' H' #[k.f0,k.fh,k.bh,k.out] hd rd,λ_ _ _ _ _ h _=>h.elim,λ_ _ _ _ _ h _=>h.elim]]
def Tx.okD{x:E_}{st:P3}{k:Nat}{S:SpD}(T:Tx K mg x st ps)(F:FnScope N ps (ao st))(len:∀ds R,S ds R->ds.length=ps.length)
  (a_:∀(f:KF) (cdv:KB) (A:RV) (outer:List SG) (s:KM) (H:Hp) (E:XK) (J:Jx),Room k (A.deeper (R' x (ao st) s.heap.objs.size f cdv))->
   ∃t,DSs (cxOf (Exc.CX1 P w) P w K mg base N x (ao st) f cdv A outer s H E).nox (aQ st) t/\∀ds R,S ds R->t {nx:=λ_=>R .non,rt:=R} (startD N ds)):CalD P w K mg base (k+1) x ps S:=by
 obtain⟨f,fd,T,hb,hm⟩:=T;exact#[f,fd,T.okD F len λcdv A outer s H E J hr=>a_ f cdv A outer s H E J hr,hb,T.kp,hm]
end
def eJ:SpD:=λds R=>∃ns:List Int,ds=[.rol (ns.map D.int)]/\ns.length<=63/\R (.bl true)
def yM{a:KF}{ns:List Int}(hl:ns.length<=63)(hS:SqL K H a (ns.map V.int)){E:XK}:lSp K eJ [.ref a] H (λv _=>v=.bl true) E:=
 #[H,[.rol (ns.map D.int)],Same.refl H,reps_cons.mpr #[_,_,rfl,rep_rol.mpr #[a,_,rfl,hS,Reps.ints.mpr rfl],reps_nil.mpr rfl],λd=>d=.bl true,#[ns,rfl,hl,rfl],λd v F' H' _ hd rd=>by subst hd;exact rep_bl.mp rd]
section
variable {X:Cx}{a b c e:RP}{ta tb tc te:TD}{pos:R6}
variable{p:R6}{es:List RP}{t:TDA}
def gL[Jx]{x:E_}{T:String}{r:List V->Hp->VK->Prop}{rd:RDn}(hc:bJ X (.type T) r)(L:cm X.K r rd)(hm:X.mg x=s_)(hv:Sa x=be (.type T))(ha:DA X (e::es) t)(hg:autoParam (Gl X x) zA0)(hn:autoParam (x≠"__name__") zA1)(f6:autoParam (zND x) zA1)
  (he:autoParam (zSE X e es) zA0) (c9:autoParam (zPL X pos es) zA0):DE X (.Call (.Name x p) (e::es) [] pos) (dCB rd t):=(jP hc hg hm hv ha hn f6 he c9).anti λs H Q h=>by
 obtain⟨B,F,z,kf,rs,R,h1,h2⟩:=h;have fh:=kf.fh;refine#[B,F,z,kf,rs,_,h1,λds vs F1 H1 g1 hx rx=>?_];exact L ds vs F1 H1 R Q g1.fh hx rx λd w F' H' g=>h2 d w F' H' (g1.trans g)
def rdStr:RDn:=λds R=>match ds with|[.int i]=>i.natAbs<18446744073709551616/\R (.str (toString i))|_=>False
variable{K:Ex}
def yO:cm K (λxs H Q=>∃i,xs=[.int i]/\i.natAbs.log2<1920/\Q (.str (toString i)) H) rdStr:=by
 intro ds vs F H R Q fh h rx q;unfold rdStr at h;split at h
 .obtain⟨v,r,rfl,h1,h2⟩:=reps_cons.mp rx;rw[reps_nil.mp h2,rep_int.mp h1];refine#[_,rfl,?_,q _ _ F H (Grow.refl fh) h.2 (rep_str.mpr rfl)];rename_i i;by_cases h0:i.natAbs=0
  .rw[h0];decide
  .have:=(IH h0).mpr (show i.natAbs<2^64 from h.1);lia
 .exact h.elim
def dm[Jx](hm:X.mg "str"=s_)(ha:WDA X [e] t)(hg:autoParam (Gl X "str") zA0)(he:autoParam (zSE X e []) zA0):WDE X (.Call (.Name "str" p) [e] [] pos) (dCB rdStr t):=#[have ha:=ha.out;gL wQ yO hm PyProof.Rows.boot_str ha hg Kj Kj he]
def rdInt:RDn:=λds R=>match ds with
 |[.int i]=>R (.int i)
 |[.bl k]=>R (.int (if k then 1 else 0))
 |[.str x]=>∃n,(PySem.intText? x=be n/\x.length<=640)/\R (.int n)
 |_=>False
def rN:bJ X (.type "int") (λxs H Q=>((∃i,xs=[.int i]/\Q (.int i) H)\/∃k,xs=[.bl k]/\Q (.int (if k then 1 else 0)) H)\/∃x n,xs=[.str x]/\PySem.intText? x=be n/\x.length<=640/\Q (.int n) H):=by
 intro pins s σ H xs us Q I r h;rcases h with h|⟨x,n,rfl,h1,h2,q⟩
 .exact wP pins s σ H xs us Q I r h
 .obtain⟨u,rfl,t,rfl⟩:=bS r;exact PySem.W.KIN.call_text h1 h2 #[.int n,H,I.tok _,#[_,rfl],q]
def rO:cm K (λxs H Q=>((∃i,xs=[.int i]/\Q (.int i) H)\/∃k,xs=[.bl k]/\Q (.int (if k then 1 else 0)) H)\/∃x n,xs=[.str x]/\PySem.intText? x=be n/\x.length<=640/\Q (.int n) H) rdInt:=by
 intro ds vs F H R Q fh h rx q;unfold rdInt at h;split at h
 .obtain⟨v,r,rfl,h1,h2⟩:=reps_cons.mp rx;rw[reps_nil.mp h2,rep_int.mp h1];exact .inl (.inl #[_,rfl,q _ _ F H (Grow.refl fh) h (rep_int.mpr rfl)])
 .obtain⟨v,r,rfl,h1,h2⟩:=reps_cons.mp rx;rw[reps_nil.mp h2,rep_bl.mp h1];exact .inl (.inr #[_,rfl,q _ _ F H (Grow.refl fh) h (rep_int.mpr rfl)])
 .obtain⟨v,r,rfl,h1,h2⟩:=reps_cons.mp rx;rw[reps_nil.mp h2,rep_str.mp h1];obtain⟨n,⟨e1,e2⟩,h⟩:=h;exact .inr #[_,n,rfl,e1,e2,q _ _ F H (Grow.refl fh) h (rep_int.mpr rfl)]
 .exact h.elim
def fO[Jx](hm:X.mg "int"=s_)(ha:WDA X [e] t)(hg:autoParam (Gl X "int") zA0)(he:autoParam (zSE X e []) zA0):WDE X (.Call (.Name "int" p) [e] [] pos) (dCB rdInt t):=#[have ha:=ha.out;gL rN rO hm PyProof.Rows.boot_int ha hg Kj Kj he]
def rdList:RDn:=λds R=>match ds with|[.lst xs]=>R (.lst xs)|[.tup xs]=>R (.lst xs)|[.rol xs]=>R (.lst xs)|_=>False
def yQ:cm K (λxs H Q=>∃p ys,xs=[.ref p]/\(SqL K H p ys\/SqT K H p ys)/\∀l,H l=s_->Q (.ref l) (upd H l (.lst ys))) rdList:=by
 intro ds vs F H R Q fh h rx q;unfold rdList at h;split at h
 .obtain⟨v,r,rfl,h1,h2⟩:=reps_cons.mp rx;rw[reps_nil.mp h2];obtain⟨a,us,rfl,hq,rs⟩:=rep_lst.mp h1;exact#[a,us,rfl,.inl (fh.seq (SqL.of hq)),λl hl=>q _ _ _ _ (Grow.new fh hl _) h (rep_lst.mpr #[l,us,rfl,aL,rs.mono (aV (fh.free hl) _)])]
 .obtain⟨v,r,rfl,h1,h2⟩:=reps_cons.mp rx;rw[reps_nil.mp h2];obtain⟨a,us,rfl,hq,rs⟩:=rep_tup_mp h1;exact#[a,us,rfl,.inr (fh.tup hq),λl hl=>q _ _ _ _ (Grow.new fh hl _) h (rep_lst.mpr #[l,us,rfl,aL,rs.mono (aV (fh.free hl) _)])]
 .obtain⟨v,r,rfl,h1,h2⟩:=reps_cons.mp rx;rw[reps_nil.mp h2];obtain⟨a,us,rfl,hq,rs⟩:=rep_rol.mp h1;exact#[a,us,rfl,.inl (fh.seq hq),λl hl=>q _ _ _ _ (Grow.new fh hl _) h (rep_lst.mpr #[l,us,rfl,aL,rs.mono (aV (fh.free hl) _)])]
 .exact h.elim
def yR[Jx](hm:X.mg "list"=s_)(ha:WDA X [e] t)(hg:autoParam (Gl X "list") zA0)(he:autoParam (zSE X e []) zA0):WDE X (.Call (.Name "list" p) [e] [] pos) (dCB rdList t):=#[have ha:=ha.out;gL qU yQ hm PyProof.Rows.boot_list ha hg Kj Kj he]
def rdMax:RDn:=λds R=>match ds with|[.int i,.int j]=>R (.int (if j>i then j else i))|_=>False
def rdMin:RDn:=λds R=>match ds with|[.int i,.int j]=>R (.int (if j<i then j else i))|_=>False
def yT:cm K (λxs H Q=>∃i j,xs=[.int i,.int j]/\Q (.int (if j>i then j else i)) H) rdMax:=by
 intro ds vs F H R Q fh h rx q;unfold rdMax at h;split at h
 .obtain⟨v,r,rfl,h1,h2⟩:=reps_cons.mp rx;obtain⟨v',r',rfl,h3,h4⟩:=reps_cons.mp h2;rw[reps_nil.mp h4,rep_int.mp h1,rep_int.mp h3];exact#[_,_,rfl,q _ _ F H (Grow.refl fh) h (rep_int.mpr rfl)]
 .exact h.elim
def yU:cm K (λxs H Q=>∃i j,xs=[.int i,.int j]/\Q (.int (if j<i then j else i)) H) rdMin:=by
 intro ds vs F H R Q fh h rx q;unfold rdMin at h;split at h
 .obtain⟨v,r,rfl,h1,h2⟩:=reps_cons.mp rx;obtain⟨v',r',rfl,h3,h4⟩:=reps_cons.mp h2;rw[reps_nil.mp h4,rep_int.mp h1,rep_int.mp h3];exact#[_,_,rfl,q _ _ F H (Grow.refl fh) h (rep_int.mpr rfl)]
 .exact h.elim
def gM[Jx](hc:X.calm=true)(hm:X.mg "max"=s_)(ha:WDA X [e,a] t)(hg:autoParam (Gl X "max") zA0)(he:autoParam (zSE X e [a]) zA0)(c9:autoParam (zPL X pos [a]) zA0):WDE X (.Call (.Name "max" p) [e,a] [] pos) (dCB rdMax t):=#[have ha:=ha.out;fL (wM hc) yT hm PyProof.Rows.boot_max ha hg Kj Kj he c9]
def ki[Jx](hc:X.calm=true)(hm:X.mg "min"=s_)(ha:WDA X [e,a] t)(hg:autoParam (Gl X "min") zA0)(he:autoParam (zSE X e [a]) zA0)(c9:autoParam (zPL X pos [a]) zA0):WDE X (.Call (.Name "min" p) [e,a] [] pos) (dCB rdMin t):=#[have ha:=ha.out;fL (wO hc) yU hm PyProof.Rows.boot_min ha hg Kj Kj he c9]
def cS:List D->Option (List E_)
 |[]=>be []
 |.str x::r=>(cS r).map (x::·)
 |_=>s_
def rP{K:Ex}{F:Hp}:∀{ds:List D} {xs:List E_} {vs:List V} {us:List KB},cS ds=be xs->Reps K F ds vs->Vals vs us->StrsAre us xs
 |[],xs,vs,us,e,r,q=>by
  cases e;rw[reps_nil.mp r]at q;cases q;exact .nil
 | .str x::ds,xs,vs,us,e,r,q=>by
  obtain⟨v,r',rfl,h1,h2⟩:=reps_cons.mp r;rw[rep_str.mp h1]at q;cases q with
  |cons q1 q2=>
   obtain⟨t,rfl⟩:=q1;cases e2:cS ds with
   |none=>simp[cS,e2]at e
   |some ys=>
    simp[cS,e2]at e;subst e;exact .cons x t (rP e2 h2 q2)
def yV:V->List V->Hp->VK->Prop:=λx vs H Q=>∃p6 l xs ys,x=.str p6/\vs=[.ref l]/\H l=be (.lst xs)/\(∀us,Vals xs us->StrsAre us ys)/\(ys.map (·.length)).sum+ys.length*p6.length<=16777216/\Q (.str (Txt.join p6 ys)) H
def yY:MtR X "str.join" yV:=by
 intro pins s σ H x vs v us Q I rx rv h;obtain⟨p6,l,xs,ys,rfl,rfl,hl,hs,hz,q⟩:=h;obtain⟨t,rfl⟩:=rx;obtain⟨u,rfl,ru⟩:=bS rv;cases ru;obtain⟨its,r,pl,_⟩:=I.list (SqL.of hl);exact PyProof.Rows.join_list pl.isList (by simpa using hs its r) hz λt' k=>#[.str _,H,I.tok _,#[_,rfl],q]
def yZ(p6:E_)(te:TD):TD:=λz R=>te z λx=>match x with
 |.lst ds=>∃ys,cS ds=be ys/\(ys.map (·.length)).sum+ys.length*p6.length<=1000000/\R (.str (Txt.join p6 ys))
 |_=>False
variable{k:Nat}
def gN[Jx]{p6:E_}{p1 apos cpos:R6}(he:WDE X e te)(n8:autoParam (zSE X e []) zA0)
  (b8:autoParam (R1 (.Constant (.str p6) k p1) "join" X.env (R3 (.Constant (.str p6) k p1) X.env)=R3 (.Constant (.str p6) k p1) X.env) zA0)
  (d9:autoParam (zHF X cpos [e]) zA0)
  (c5:autoParam ((apos.endLine==cpos.line)=true) zA0):WDE X (.Call (.Attribute (.Constant (.str p6) k p1) "join" apos) [e] [] cpos) (yZ p6 te):=⟨have he:=he.out;(eB PySem.F.plainAttrs_str PySem.F.slot_str_join PySem.F.type_str_join yY pW (bz he pa_nil n8) b8 d9 c5 n8).anti λs H Q q=>by
 obtain⟨B,F,z,kf,rs,R,h1,h2⟩:=q;have fh:=kf.fh;refine#[rfl,?_];refine#[B,F,z,kf,rs,_,h1,λx u F1 H1 g1 hx rx=>?_];split at hx
 .obtain⟨ys,e1,e2,hx⟩:=hx;obtain⟨l,vs,rfl,hq,rr⟩:=rep_lst.mp rx;exact#[p6,l,vs,ys,rfl,rfl,g1.fh _ _ hq,λus q=>rP e1 rr q,FX e2 Kj,h2 _ _ F1 H1 g1 hx (rep_str.mpr rfl)]
 .exact hx.elim⟩
def dOix(i:Nat)(tb:TD):TD:=λz R=>match z[i]? with
 |some (be (.own ds))=>tb z λy=>match y with|.int k=>∃d,atI ds k=be d/\R d|_=>False
 |_=>False
def bU[Jx](i:Nat){x:E_}(hb:WDE X b tb)(hN:autoParam (X.N[i]?=be x) zA0)(hv:autoParam (Vis X.env.scope x) zA5)(hd:autoParam (zND x) zA1)
  (i6:autoParam (zNC x) zA1) (hs:autoParam (eA b) zA6):WDE X (.Subscript (.Name x p) b pos) (dOix i tb):=⟨have hb:=hb.out;(pe_ix ix_list (fB hN hv hd i6) hb hs).anti λs H Q q=>by
 obtain⟨B,F,z,kf,rs,R,h1,h2⟩:=q;have fh:=kf.fh;unfold dOix at h1;split at h1
 .rename_i ds ez;obtain⟨a,vs,q1,q2,q3,q4,q5⟩:=rs.own i ds ez;refine#[.ref a,q1,B,F,z,kf,rs,_,h1,λy v F1 H1 g1 hy ry=>?_];split at hy
  .obtain⟨d,e1,hR⟩:=hy;obtain⟨w,e2,g7⟩:=(q5.mono g1.ff).at e1;exact#[a,vs,_,w,rfl,rep_int.mp ry,SqL.of (g1.hh _ _ q2),e2,h2 d w F1 H1 g1 hR g7]
  .exact hy.elim
 .exact h1.elim⟩
def cutD(xs:List D)(lo hi:Option Int):List D:=(xs.drop (HT.sIx xs.length 0 lo)).take (HT.sIx xs.length xs.length hi-HT.sIx xs.length 0 lo)
def Reps.drop{K:Ex}{F:Hp}:∀(n:Nat) {xs:List D} {us:List V},Reps K F xs us->Reps K F (xs.drop n) (us.drop n)
 |0,_,_,r=>r
 |n+1,[],us,r=>by rw[reps_nil.mp r];exact reps_nil.mpr rfl
 |n+1,x::xs,us,r=>by
  obtain⟨u,ur,rfl,_,a2⟩:=reps_cons.mp r;exact Reps.drop n a2
def Reps.take{K:Ex}{F:Hp}:∀(n:Nat) {xs:List D} {us:List V},Reps K F xs us->Reps K F (xs.take n) (us.take n)
 |0,_,_,_=>reps_nil.mpr rfl
 |n+1,[],us,r=>by rw[reps_nil.mp r];exact reps_nil.mpr rfl
 |n+1,x::xs,us,r=>by
  obtain⟨u,ur,rfl,a1,a2⟩:=reps_cons.mp r;exact reps_cons.mpr #[u,_,rfl,a1,Reps.take n a2]
def Reps.cut{F:Hp}{xs:List D}{us:List V}(r:Reps K F xs us)(lo hi:Option Int):Reps K F (cutD xs lo hi) (cutV us lo hi):=by
 unfold cutD cutV;rw[r.length];exact(r.drop _).take _
def za(ta tb:TD):TD:=λz R=>ta z λx=>tb z λy=>match x,y with|.lst xs,.int i=>R (.lst (cutD xs (be i) s_))|_,_=>False
def zb[Jx]{p2:R6}(ha:WDE X a ta)(hb:WDE X b tb):WDE X (.Subscript a (.Slice (be b) s_ s_ p2) pos) (za ta tb):=⟨have ha:=ha.out;have hb:=hb.out;(qN qS ha (qM hb) qL).anti λs H Q q=>by
 obtain⟨B,F,z,kf,rs,R,h1,h2⟩:=q;have fh:=kf.fh;refine#[B,F,z,kf,rs,_,h1,λx u F1 H1 g1 hx rx=>?_];refine#[B,F1,z,kf.grow g1,rs.grow g1,_,hx,λy v F2 H2 g2 hy ry=>?_];split at hy
 .refine#[_,rep_int.mp ry,?_];obtain⟨l,vs,rfl,hq,rr⟩:=rep_lst.mp (rx.mono g2.ff);refine#[l,vs,rfl,SqL.of (g2.fh _ _ hq),λp hp=>?_];exact h2 _ _ _ _ (g1.trans (g2.trans (Grow.new g2.fh hp _))) hy (rep_lst.mpr #[p,_,rfl,aL,(rr.cut _ _).mono (aV (g2.fh.free hp) _)])
 .exact hy.elim⟩
def zc{t:TGs}{n:Nat}(hc:X.calm=true)(h:PGs X es t)(hn:autoParam ((RZ es X.env).length=n) zA0)(j6:autoParam ((RZ es X.env).findIdx? (·.1)=none) zA0):
  PG X (.Tuple es k pos) (λv σ H Q=>∃a xs,v=.ref a/\SqL X.K H a xs/\xs.length=n/\t xs σ H Q):=by
 intro pins s σ H v u Q I r hw;obtain⟨a,xs,e1,hq,hl,hw⟩:=hw;subst e1;cases r;obtain⟨its,rv,pl,hz⟩:=I.list hq;have e2:(RZ es X.env).length=its.toArray.size:=by simp[hn,<-hl,rv.length]
 rw[PyProof.Rows.assign_Tuple];refine Os (Sm ?_);unfold unpack;rw[e2,j6];refine Os (So (kun_itemsOf (I.ok.hd hc) pl.isList λh' hx=>?_));have I1:Inv X pins σ H {s with heap:=h'}:=I.kept (t':=s.toks) λb o e=>hx b o (FW (Heap.lt_size e)) e;exact h pins _ σ H xs _ Q I1 (by simpa using rv) hw
def zd(is:List Nat)(te:TD):TSD:=λE z=>te z λx=>match x with|.lst ds=>ds.length=is.length/\E.nx (aY is ds z)|_=>False
def ze[Jx]{is:List Nat}(hc:X.calm=true)(he:WDE X e te)(hg:DGs X es is)(hn:autoParam ((RZ es X.env).length=is.length) zA0)(j6:autoParam ((RZ es X.env).findIdx? (·.1)=none) zA0)
  (hs:autoParam (Sq [.Tuple es k p] e pos.line X.env=pure false) zA0) (hw:autoParam (Sr [.Tuple es k p] e X.env=pure none) zA0) (h1:autoParam ((RZ [.Tuple es k p] X.env).map (·.2)=[Sy (.Tuple es k p) X.env]) zA0):WDS X (.Assign [.Tuple es k p] e pos) (zd is te):=⟨by
 have he:=he.out;obtain⟨u,hu,kk⟩:=hg;refine(jF he (zc hc hu hn j6) hs hw h1).anti λE s H q=>?_;obtain⟨B,F0,F,z,k,rs,ED,h,e⟩:=q;refine#[B,F,z,k.kf,rs,_,h,λd v F' H' g hd rd=>?_];split at hd
 .obtain⟨p,vs,rfl,hq,rr⟩:=rep_lst.mp rd;exact#[p,vs,rfl,SqL.of (g.fh _ _ hq),by rw[rr.length];exact hd.1,kk _ vs z s B F' H' _ hd.1 rr (rs.grow g) λs' r'=>e.nx _ _ F' H' (k.grow g) hd.2 r']
 .exact hd.elim⟩
end
end My
namespace L2
def kj{env:SG}:∀(names:List (E_×Sw)) (td:List (E_×KF)),(∀n,(n,NameKind.free)∈names->∃c,env.cells.lookup n=be c)->
  ∃cl,(forIn (m:=Ts) names td λx r=>match x with
     |(name,kind)=>if(kind==NameKind.free)=true then(do let a <-cellOf env name;pure (ForInStep.yield ((name,a)::r)))else pure (ForInStep.yield r))=(pure cl:Ts (List (E_×KF)))/\
   (∀n c,cl.lookup n=be c->env.cells.lookup n=be c\/td.lookup n=be c)/\(∀n,(n,NameKind.free)∈names->∃c,cl.lookup n=be c)/\∀n c,td.lookup n=be c->∃c',cl.lookup n=be c'
 |[],td,_=>#[td,rfl,(λ_ _ h=>.inr h),(λ_ h=>by cases h),(λ_ c h=>#[c,h])]
 |(name,kind)::r,td,h=>by
  by_cases hk:(kind==NameKind.free)=true
  .have ek:kind=.free:=by simpa using hk
   subst ek;obtain⟨c,hc⟩:=h name FU;obtain⟨cl,e,p1,p2,p3⟩:=kj r ((name,c)::td) λn q=>h n (FS _ q);refine#[cl,?_,λn c' q=>?_,λn q=>?_,λn c' q=>?_]
   .rw[Ia];have ec:cellOf env name=pure c:=by unfold cellOf;rw[hc]
    simp only[hk,if_true,ec];exact e
   .rcases p1 n c' q with z|z
    .exact .inl z
    .rw[Gc]at z;split at z
     .rename_i q2;have en:n=name:=by simpa using q2
      cases z;exact .inl (en ▸ hc)
     .exact .inr z
   .rcases FQ.mp q with z|z
    .cases z;exact p3 _ c (by rw[Gc];simp)
    .exact p2 n z
   .by_cases hn:n=name
    .subst hn;exact p3 n c (by rw[Gc];simp)
    .exact p3 n c' (by rw[Gc,beq_eq_false_iff_ne.mpr hn];exact q)
  .obtain⟨cl,e,p1,p2,p3⟩:=kj r td λn q=>h n (FS _ q);refine#[cl,?_,p1,λn q=>?_,p3]
   .rw[Ia];simp only[hk];exact e
   .rcases FQ.mp q with z|z
    .cases z;exact absurd rfl hk
    .exact p2 n z
def closure_is{env:SG}{scope:Sl}(h:∀n,(n,NameKind.free)∈scope.names->∃c,env.cells.lookup n=be c):
  ∃cl,closureFor scope env=pure cl/\(∀n c,cl.lookup n=be c->env.cells.lookup n=be c)/\∀n,(n,NameKind.free)∈scope.names->∃c,cl.lookup n=be c:=by
 obtain⟨cl,e,p1,p2,_⟩:=kj scope.names [] h;refine#[cl,?_,λn c q=>(p1 n c q).elim id (λz=>nomatch z),p2];unfold closureFor;show(forIn (m:=Ts) scope.names [] _>>=λs=>pure s)=pure cl;rw[e];rfl
def gO{env:SG}:∀{names:List (E_×Sw)} {n:E_} {k:Sw},(∀y∈names,y.2≠.cell)->k=.cell\/k=.free->
  (names.map λ(n,k)=>if(k==NameKind.free&&env.scope.kind== .function&&env.kindOf n==be .cell)then(n,NameKind.cell)else(n,k)).lookup n=be k->(n,NameKind.free)∈names
 |[],_,_,_,_,h=>by simp at h
 |(a,b)::r,n,k,hc,hk,h=>by
  rw[FY]at h;by_cases hb:(b==NameKind.free&&env.scope.kind== .function&&env.kindOf a==be .cell)=true
  .have eb:b=.free:=by
    have:=(Gg _ _ ▸ ((Gg _ _ ▸ hb).1)).1;simpa using this
   simp only[hb,if_true]at h;rw[Gc]at h;split at h
   .rename_i q;have en:n=a:=by simpa using q
    subst en eb;exact FU
   .exact FS _ (gO (λy q=>hc y (FS _ q)) hk h)
  .simp only[hb]at h;rw[if_neg Ld,Gc]at h;split at h
   .rename_i q;have en:n=a:=by simpa using q
    cases h;subst en;rcases hk with z|z
    .exact absurd z (hc _ FU)
    .rw[z];exact FU
   .exact FS _ (gO (λy q=>hc y (FS _ q)) hk h)
section
variable {prog:RQ}{w:RU}{A:RV}{R:Result->KM->Prop}{s:KM}
abbrev rQ(i8:List RP)(env:SG):Ts Bool:=forIn i8 true λc r=>if r=true then do let ok <-isTrue c env (R3 c env);pure (ForInStep.yield ok)else pure (ForInStep.yield r)
def zf{e8 f9 iter:RP}{i8:List RP}{scope:Sl}{pos:R6}{it td:KB}{env:SG}(I:Nat->KM->Prop)
  (b_:∀n s,I n s->RR (RS prog w) A (pyNext it) (λr s₁=>match r with
   |none=>R (.ok .next) s₁
   |some v=>RR (RS prog w) A (SN f9 it v) (λ_ s₁'=>RR (RS prog w) A (Sy f9 env v) (λ_ s₂=>RR (RS prog w) A (rQ i8 env) (λok s₂'=>if ok=true then RR (RS prog w) A (R3 e8 env) (λx s₃=>
     RR (RS prog w) A (call (.builtin "list.append") [td,x]) (λ_ s₄=>∃m,m<n/\I m s₄) (λ_ _=>False) s₃)
     (λ_ _=>False) s₂' else ∃m,m<n/\I m s₂') (λ_ _=>False) s₂) (λ_ _=>False) s₁') (λ_ _=>False) s₁) (λ_ _=>False) s)
  (n:Nat) (h:I n s):
  SR (RS prog w) A (.compLoop (.ListComp e8 [#[f9,iter,i8,0]] scope pos) 0 it td env) R s:=by
 refine codeAny_loop rfl I (λn s hI=>?_) n h;show RR _ _ ((compTurn (.ListComp e8 [#[f9,iter,i8,0]] scope pos) 0 it td env).onRaise (λx=>do SJ x env;theTreesLotGoes x)) _ _ s;refine wpAny_noted ?_;rw[compTurn_list];refine Os (Sm (Os (R8 (b_ n s hI) (λr s₁ h₁=>?_) λ_ _ h'=>h'.elim)));cases r with
 |none=>exact RT h₁
 |some v=>
  refine Os (R8 h₁ (λ_ s₁' h₁'=>Os (R8 h₁' (λ_ s₂ h₂=>Os (R8 h₂ (λok s₃ h₃=>?_) λ_ _ h'=>h'.elim)) λ_ _ h'=>h'.elim)) λ_ _ h'=>h'.elim);cases ok with
  |false=>exact RT #[rfl,h₃]
  |true=>
   exact Os (Os (R8 h₃ (λx s₄ h₄=>Os (R8 h₄ (λ_ s₅ h₅=>RT (RT #[rfl,h₅])) λ_ _ h'=>h'.elim)) λ_ _ h'=>h'.elim))
end
def bB(X:Cx)(scope:Sl)(cl:List (E_×KF))(x:E_)(s₀:KM)(H₀:Hp)(fp:List KF):Cx where
 prog:=X.prog
 w:=X.w
 K:=X.K
 mg:=X.mg
 base:=X.base
 A:=X.A
 N:=X.N.map (λn=>if n=x then("":E_)else n)++[x]
 s₀:=s₀
 H₀:=H₀
 env:=compEnvC scope cl s₀.heap.objs.size X.env
 outer:=X.stack
 stack:=X.stack
 ex:=fp
 fn:=λ_=>false
 calm:=X.calm
 pn:=[]
 xe:=λ_ _=>False
structure CompScope(X:Cx)(scope:Sl)(x:Str):Prop where
 kind:scope.kind=.function
 nocell:∀y∈scope.names,y.2≠.cell
 names:∀y∈scope.names,y.2=.local->scope.names.lookup y.1=be .local
 own:scope.names.lookup x=be .local
 free:∀n,(n,NameKind.free)∈scope.names->X.env.kindOf n=be .cell
 vis:∀n∈X.N,n≠x->Vis (TJ scope X.env) n->(n,NameKind.free)∈scope.names
 empty:¬Vis (TJ scope X.env) ("":E_)
 cells:∀n,(n,NameKind.free)∈scope.names->(TJ scope X.env).names.lookup n=be .cell
 nd:(X.N.map (λn=>if n=x then("":E_)else n)++[x]).Nodup
section
variable {X:Cx}{pins:List (KF×R_)}{σ:St}{H:Hp}{s:KM}{scope:Sl}{cl:List (E_×KF)}{x:E_}{fp:List KF}
def rR(I:Inv X pins σ H s)(S:CompScope X scope x)(c1:∀n c,cl.lookup n=be c->X.env.cells.lookup n=be c)(c2:∀n,(n,NameKind.free)∈scope.names->∃c,cl.lookup n=be c)
  (hf:∀b∈fp,FpOk X pins H b) (hl:∀b∈fp,b<s.heap.objs.size):(bB X scope cl x s H fp).Ok where
 mod:=I.ok.mod
 kind:=S.kind
 glob:=I.ok.glob
 blt:=I.ok.blt
 above:=FM _
 inj:=λy z c h1 h2=>I.ok.inj y z c (c1 y c h1) (c1 z c h2)
 has:=λn hn=>by
  rcases hn with hn|hn
  .exact c2 n (gO S.nocell (.inl rfl) hn)
  .exact c2 n (gO S.nocell (.inr rfl) hn)
 cab:=λ_ _ h=>nomatch h
 hd:=I.ok.hd
 frames:=I.ok.frames
 stk:=.inl rfl
 exf:=λb hb=>#[FW (hl b hb),λy c h=>(hf b hb).2.2.2.2.1 y c (c1 y c h)]
 bs:=I.bs
 bsz:=FX I.ok.bsz I.sz
 noex:=λb o e hb=>by
  have h1:=I.ok.noex b o e;rcases(hf b hb).2.2.2.1 with z|z
  .exact h1 z
  .exact absurd (Gj (Heap.lt_size e) (FX I.ok.bsz z)) (GO _)
 exfs:=λb hb hs=>by
  rcases FQ.mp (I.stkSub b hs)with z|z
  .exact(hf b hb).2.1 z
  .exact(hf b hb).2.2.1 z
 funs:=I.stack
 frf:=I.stkFree
def rS{h':RW}{t':Nat}(I:Inv X pins σ H s)(S:CompScope X scope x)(c1:∀n c,cl.lookup n=be c->X.env.cells.lookup n=be c)(c2:∀n,(n,NameKind.free)∈scope.names->∃c,cl.lookup n=be c)
  (hf:∀b∈fp,FpOk X pins H b) (hl:∀b∈fp,b<s.heap.objs.size) {m:E_->Option KB} (hn:h'.Ns s.heap.objs.size m) (k:∀b o,s.heap.get? b=be o->h'.get? b=be o):
  Inv (bB X scope cl x s H fp) [] (σ++[s_]) H {s with heap:=h',toks:=t'}:=by
 refine#[rR I S c1 c2 hf hl,rfl,I.bare,Un.kept k,#[m,hn,λi n v e1 e2 e3=>?_],λn c e=>?_,I.hok.fresh (FM _),λn c e=>I.freeC n c (c1 n c e),λp hp=>absurd (show p∈([]:List (KF×R_))from hp) Ld,I.hok.kept k,?_]
 .have hi:i<σ.length:=by
   rcases G6 i σ.length with q|q
   .exact q
   .rw[GI q]at e2;cases hz:i-σ.length with
    |zero=>rw[hz]at e2;simp at e2
    |succ z=>rw[hz]at e2;simp at e2
  rw[Gz hi]at e2;have Md:i<X.N.length:=by rw[<-I.len];exact hi
  have KG:(X.N.map (λn=>if n=x then("":E_)else n)++[x])[i]?=be n:=e1;rw[Gz (by simpa using Md),FT,F9 Md]at KG;simp only[Ib,Option.some.injEq]at KG;by_cases hx:X.N[i]=x
  .rw[if_pos hx]at KG;subst KG;exact absurd e3 S.empty
  .rw[if_neg hx]at KG;subst KG;have i_:=S.vis _ (Gm Md) hx e3;have k9:=S.free _ i_;obtain⟨c,hc⟩:=c2 _ i_;obtain⟨mX,Rj,P2⟩:=I.loc;obtain⟨u,ru,lk⟩:=P2 i X.N[i] v (F9 Md) e2 (.inr (.inl k9));refine#[u,ru,.inr #[?_,c,hc,?_]]
   .exact .inl (S.cells _ i_)
   .rcases lk with⟨kl,_⟩|⟨_,c',JX,v4⟩
    .rw[k9]at kl;cases kl
    .have:c=c':=by
      have:=c1 _ c hc;rw[JX]at this;exact(Option.some.inj this).symm
     subst this;obtain⟨o,ho,hd⟩:=v4;exact#[o,k _ _ ho,hd]
 .obtain⟨v,o,ho,hd⟩:=I.cell n c (c1 n c e);exact#[v,o,k _ _ ho,hd]
 .show(σ++[s_]).length=(X.N.map _++[x]).length;rw[F8,F8,FP,I.len];rfl
end
def fP(wi:TI)(tt:TT)(ge:TE):TE:=λσ H Q=>wi σ H λJ H1=>∀D,H1 D=s_->∃W:Nat->Nat->Hp->Prop,(∃m,W 0 m (upd H1 D (.lst [])))/\∀i m H,W i m H->
 (J.stop i H/\Q (.ref D) H)\/(J.go i H/\∀x H',J.yld i H x H'->tt (σ++[be x]) H' λb H1=>if b=true then ge (σ++[be x]) H1 λy H''=>∃vs,H'' D=be (.lst vs)/\vs.length<sizeLine/\∃m',m'<m/\W (i+1) m' (upd H'' D (.lst (vs++[y])))else ∃m',m'<m/\W (i+1) m' H1)
def PIf(X:Cx)(i8:List RP)(t:TT):Prop:=
 ∀(pins:List (KF×R_)) (s:KM) (σ:St) (H:Hp) (Q:Bool->Hp->Prop),Inv X pins σ H s->t σ H Q->RR (RS X.prog X.w) X.A (rQ i8 X.env) (TP X pins σ Q) X.xe s
variable{X:Cx}
def pif_nil:PIf X [] (λ_ H Q=>Q true H):=λpins s σ H Q I q=>wpAny_tests_nil #[H,I,q]
def zg{c:RP}{t:TT}(h:PT X c t):PIf X [c] t:=λpins s σ H Q I q=>wpAny_tests_one (h pins s σ H Q I q)
def PIf.anti{e:List RP}{t t':TT}(h:PIf X e t)(a:∀s H Q,t' s H Q->t s H Q):PIf X e t':=λpins s σ H Q I q=>h pins s σ H Q I (a _ _ _ q)
section
variable {X:Cx}
variable{e8 iter:RP}{i8:List RP}{x:E_}{px pos:R6}{scope:Sl}{tt:TT}{ge:TE}
def rT{pins:List (KF×R_)}{s2:KM}{σ:St}{H1:Hp}{cl:List (E_×KF)}{it:KF}{fp:List KF}{tn:Nat->RW->Prop}{J:It}{Qs:Hp->Prop}{R:Result->KM->Prop}{W:Nat->Nat->Hp->Prop}{m0:Nat}{h₁:RW}(hc:X.calm=true)(S:CompScope X scope x)
  (hq:∀cl s₀ H₀ fp,PIf (bB X scope cl x s₀ H₀ fp) i8 tt) (he:∀cl s₀ H₀ fp,PE (bB X scope cl x s₀ H₀ fp) e8 ge) (c1:∀n c,cl.lookup n=be c->X.env.cells.lookup n=be c) (c2:∀n,(n,NameKind.free)∈scope.names->∃c,cl.lookup n=be c)
  (I1:Inv X pins σ H1 s2) (T:Turn X.prog X.w X.K (.Name x px) J fp it tn) (st:tn 0 s2.heap) (f1:∀b∈fp,FpOk X pins H1 b) (w0:W 0 m0 (upd H1 s2.heap.objs.size (.lst [])))
  (step:∀i m H,W i m H->(J.stop i H/\Qs H)\/(J.go i H/\∀x H',J.yld i H x H'->tt (σ++[be x]) H' λb H1=>if b=true then ge (σ++[be x]) H1 λy H''=>∃vs,H'' s2.heap.objs.size=be (.lst vs)/\vs.length<sizeLine/\∃m',m'<m/\W (i+1) m' (upd H'' s2.heap.objs.size (.lst (vs++[y])))else ∃m',m'<m/\W (i+1) m' H1))
  (I4:Inv (bB X scope cl x {s2 with heap:=s2.heap.push {cls:=.type "list",data:=.seq ([]:List KB).toArray},toks:=s2.toks} (upd H1 s2.heap.objs.size (.lst [])) fp) [] (σ++[s_]) (upd H1 s2.heap.objs.size (.lst [])) {s2 with heap:=h₁,toks:=s2.toks+([]:List (E_×KB)).length}) (t0:tn 0 h₁)
  (M7:∀H' s4 m,Inv X pins σ H' s4->s4.heap.Ns (s2.heap.push {cls:=.type "list",data:=.seq ([]:List KB).toArray}).objs.size m->H' (s2.heap.push {cls:=.type "list",data:=.seq ([]:List KB).toArray}).objs.size=s_->Qs H'->R (.ok .next) s4):
  SR (RS X.prog X.w) X.A (.compLoop (.ListComp e8 [#[.Name x px,iter,i8,0]] scope pos) 0 (.ref it) (.ref s2.heap.objs.size) (compEnvC scope cl (s2.heap.push {cls:=.type "list",data:=.seq ([]:List KB).toArray}).objs.size X.env)) R {s2 with heap:=h₁,toks:=s2.toks+([]:List (E_×KB)).length}:=by
 have f_:∀b∈fp,b<s2.heap.objs.size:=λb hb=>by
  obtain⟨o,ho,_⟩:=T.obj _ _ st b hb;exact Heap.lt_size ho
 have I3:Inv X pins σ (upd H1 s2.heap.objs.size (.lst [])) {s2 with heap:=s2.heap.push {cls:=.type "list",data:=.seq ([]:List KB).toArray},toks:=s2.toks}:=I1.lnew (its:=[]) (ys:=[]) .nil (Go _);have gt:∀b∈fp,b<(s2.heap.push {cls:=.type "list",data:=.seq ([]:List KB).toArray}).objs.size:=λb hb=>by
  rw[Heap.size_push];exact Ic (f_ b hb)
 have z8:∀b∈fp,FpOk X pins (upd H1 s2.heap.objs.size (.lst [])) b:=λb hb=>#[by rw[aD (FW (f_ b hb))];exact(f1 b hb).1,(f1 b hb).2];have Me:=rR (x:=x) (fp:=fp) I3 S c1 c2 z8 gt;generalize hY:bB X scope cl x {s2 with heap:=s2.heap.push {cls:=.type "list",data:=.seq ([]:List KB).toArray},toks:=s2.toks} (upd H1 s2.heap.objs.size (.lst [])) fp=Y at I4 Me;have yP:Y.prog=X.prog:=NO
 have yW:Y.w=X.w:=NO
 have yK:Y.K=X.K:=NO
 have yA:Y.A=X.A:=NO
 have yN:Y.N=X.N.map (λn=>if n=x then("":E_)else n)++[x]:=NO
 have yE:Y.env=compEnvC scope cl (s2.heap.push {cls:=.type "list",data:=.seq ([]:List KB).toArray}).objs.size X.env:=NO
 have yX:Y.xe=λ_ _=>False:=NO
 have yC:Y.calm=true:=by rw[<-hY];exact hc
 have OC:Y.ex=fp:=NO
 have P4:Y.pn=[]:=NO
 have P5:Y.fs=frs X.stack:=NO
 have P6:Y.H₀=upd H1 s2.heap.objs.size (.lst []):=NO
 have OD:Y.s₀={s2 with heap:=s2.heap.push {cls:=.type "list",data:=.seq ([]:List KB).toArray},toks:=s2.toks}:=NO
 have P7:PE Y e8 ge:=by rw[<-hY];exact he _ _ _ _
 have P8:PIf Y i8 tt:=by rw[<-hY];exact hq _ _ _ _
 have m_:∀{H':Hp},(∀b∈fp,H' b=s_)->∀b∈fp,FpOk Y [] H' b:=λ{H'} hn b hb=>by
  have l_:b∈Y.ex:=by rw[OC];exact hb
  exact#[hn b hb,(Me.exf b l_).1,Me.exfs b l_,.inl l_,λn c e=>(Me.exf b l_).2 n c e,by rw[P4];simp]
 have Ls:Y.env.scope.names.lookup x=be .local:=by rw[yE];exact lookup_relabel_local S.own
 have M8:Y.N[X.N.length]?=be x:=by rw[yN];simp
 have P9:Y.N.Nodup:=by rw[yN];exact S.nd
 have M9:Y.env.locals=(s2.heap.push {cls:=.type "list",data:=.seq ([]:List KB).toArray}).objs.size:=by rw[yE];rfl
 have fI:∀(o:Option V) (H':Hp) (s':KM),Inv Y [] (σ++[o]) H' s'->Inv X pins σ H' s':=λo H' s' I'=>by
  have bs:=I'.base;rw[P5,OC,P6,OD]at bs;refine I3.call' (ch:=fp) ?_ bs ?_ I'.bare ?_
  .have:=I'.os;rw[OD]at this;exact this
  .have:=I'.hok;rw[yP,yW]at this;exact this
  .exact λb hb=>#[(z8 b hb).2.2.2.1,(z8 b hb).2.1,(z8 b hb).2.2.2.2.1,(z8 b hb).2.2.2.2.2]
 refine zf (λn s'=>∃i o H',Inv Y [] (σ++[o]) H' s'/\tn i s'.heap/\(∀b∈fp,H' b=s_)/\W i n H') ?_ m0 #[0,s_,_,I4,t0,λb hb=>(z8 b hb).1,w0];rintro n s3⟨i,o,H3,I5,t3,f3,w3⟩;rcases step i n H3 w3 with⟨stop,q⟩|⟨go,q⟩
 .have dn:=T.done Y yP yW yK yC i [] s3 _ H3 (λ_ _=>False) I5 (m_ f3) t3 stop;rw[yA]at dn;refine thn dn λr s4 b9=>?_;obtain⟨hr,I6⟩:=b9;subst hr;obtain⟨m,hn,_⟩:=I6.loc;have hfr:=I6.free;rw[M9]at hn hfr;exact M7 H3 s4 m (fI o H3 s4 I6) hn hfr q
 .have OF:=T.item Y yP yW yK yC i [] s3 _ H3 (λ_ _=>False) I5 (m_ f3) t3 go;rw[yA]at OF;refine thn OF λr s4 b9=>?_;obtain⟨u,hr,h4⟩:=b9;subst hr;refine thn h4 λ_ s5 b9=>?_;obtain⟨xv,H5,I6,r5,y5,F_,MN⟩:=b9;have P':=I6.pinned (m_ MN) (T.obj _ _ F_);rw[<-yE];refine SW (fA P' P9 M8 (.inl Ls) r5 (λs6 I7=>?_) (.inr Ls));have M_:(σ++[o]).set X.N.length (be xv)=σ++[be xv]:=by
   rw[<-I1.len];simp
  rw[M_]at I7;have tv:=P8 _ s6 _ H5 _ I7 (q xv H5 y5);rw[yP,yW,yA,yX]at tv;refine thn tv λb P_ b9=>?_;obtain⟨Qa,Mf,qb⟩:=b9;cases b with
  |false=>
   obtain⟨m',hm,w7⟩:=qb;refine#[m',hm,i+1,be xv,_,Mf.unpinned,T.keep _ _ _ F_ λb hb ob e=>(Mf.pin (b,ob) (Gh _ (Gh _ (eg hb e)))).1,λb hb=>?_,w7];obtain⟨ob,e,d⟩:=T.obj _ _ F_ b hb;exact(Mf.pin (b,ob) (Gh _ (Gh _ (eg hb e)))).2.1
  |true=>
  have ev:=P7 _ P_ _ Qa _ Mf qb;rw[yP,yW,yA,yX]at ev;refine thn ev λyv s7 b9=>?_;obtain⟨y,H6,I8,ry,vs,Qb,b7,m',hm,w7⟩:=b9;have ap:=jR (X:=Y) _ s7 _ H6 (.ref s2.heap.objs.size) [y] (.ref s2.heap.objs.size) [yv] (λ_ H7=>H7=upd H6 s2.heap.objs.size (.lst (vs++[y]))) I8 rfl (.cons ry .nil) #[_,vs,y,rfl,rfl,Qb,b7,rfl];rw[yP,yW,yA,yX]at ap;refine thn ap λ_ s8 b9=>?_;obtain⟨_,H7,I9,_,e7⟩:=b9;subst e7;refine#[m',hm,i+1,be xv,_,I9.unpinned,T.keep _ _ _ F_ λb hb ob e=>(I9.pin (b,ob) (Gh _ (Gh _ (eg hb e)))).1,λb hb=>?_,w7];obtain⟨ob,e,d⟩:=T.obj _ _ F_ b hb;exact(I9.pin (b,ob) (Gh _ (Gh _ (eg hb e)))).2.1
def gP{wi:TI}(hc:X.calm=true)(S:CompScope X scope x)(hi:PI X (.Name x px) iter wi)
  (hq:∀cl s₀ H₀ fp,PIf (bB X scope cl x s₀ H₀ fp) i8 tt) (he:∀cl s₀ H₀ fp,PE (bB X scope cl x s₀ H₀ fp) e8 ge) (hs:autoParam (∀y,zFS X iter y) zA2):
  PE X (.ListComp e8 [#[.Name x px,iter,i8,0]] scope pos) (fP wi tt ge):=by
 intro pins s σ H Q I h;obtain⟨cl,v4,c1,c2⟩:=closure_is (env:=X.env) (scope:=scope) (λn q=>I.ok.has n (.inl (S.free n q)));rw[eval_ListComp];refine S_ (use:=s_) rfl hs v4 S.kind S.names (thn (hi pins s σ H _ I h) λv s1 h1=>thn h1 λL5 s2 h2=>?_);obtain⟨it,fp,tn,J,H1,e,I1,T,st,f1,hr⟩:=h2;subst e;have f_:∀b∈fp,b<s2.heap.objs.size:=λb hb=>by
  obtain⟨o,ho,_⟩:=T.obj _ _ st b hb;exact Heap.lt_size ho
 have hD:H1 s2.heap.objs.size=none:=I1.hok.fresh (FM _);obtain⟨W,⟨m0,w0⟩,step⟩:=hr _ hD;refine R7 (Tp S.nocell (by intro y hy;simp at hy) (λh₁ hns₁ hsb₁=>?_) S.kind);have I3:Inv X pins σ (upd H1 s2.heap.objs.size (.lst [])) {s2 with heap:=s2.heap.push {cls:=.type "list",data:=.seq ([]:List KB).toArray},toks:=s2.toks}:=I1.lnew (its:=[]) (ys:=[]) .nil (Go _);have gt:∀b∈fp,b<(s2.heap.push {cls:=.type "list",data:=.seq ([]:List KB).toArray}).objs.size:=λb hb=>by
  rw[Heap.size_push];exact Ic (f_ b hb)
 have z8:∀b∈fp,FpOk X pins (upd H1 s2.heap.objs.size (.lst [])) b:=λb hb=>#[by rw[aD (FW (f_ b hb))];exact(f1 b hb).1,(f1 b hb).2];have kp:∀b o,(s2.heap.push {cls:=.type "list",data:=.seq ([]:List KB).toArray}).get? b=be o->h₁.get? b=be o:=λb o e=>
  (hsb₁.2 b (FW (Heap.lt_size e))).trans (Heap.get?_push_of_some _ e)
 have I4:=rS (x:=x) (fp:=fp) (t':=s2.toks+([]:List (E_×KB)).length) I3 S c1 c2 z8 gt hns₁ kp;have JF:(s2.heap.push {cls:=.type "list",data:=.seq ([]:List KB).toArray}).objs.size≠X.env.locals:=GQ I3.lt;have JG:∀z c,X.env.cells.lookup z=be c->c≠(s2.heap.push {cls:=.type "list",data:=.seq ([]:List KB).toArray}).objs.size:=λz c e=>by
  obtain⟨vv,oo,ho,_⟩:=I3.cell z c e;exact FW (Heap.lt_size ho)
 have Kn:∀p∈X.pn++pins,p.1≠(s2.heap.push {cls:=.type "list",data:=.seq ([]:List KB).toArray}).objs.size:=λp hp=>FW (Heap.lt_size (I3.pin p hp).1);have p9:=rT (pos:=pos) (iter:=iter) (R:=compPost (RS X.prog X.w) X.A X.xe s_ (EP X pins σ Q) (.ref s2.heap.objs.size) (s2.heap.push {cls:=.type "list",data:=.seq ([]:List KB).toArray}).objs.size) hc S hq he c1 c2 I1 T st f1 w0 step I4 (T.keep _ _ _ st (λb hb ob e=>kp b ob (Heap.get?_push_of_some _ e))) λH' s4 m IX hn hfr q=>
  #[m,hn,λh' hsb=>#[.ref s2.heap.objs.size,H',IX.turned (t':=s4.toks) (it:=(s2.heap.push {cls:=.type "list",data:=.seq ([]:List KB).toArray}).objs.size) (λb ob hb e=>(hsb.2 b hb).trans e) hfr JF (.inr I3.sz) JG Kn,rfl,q]]
 exact Tn p9 (T.self _ _ _ _ _ (T.keep _ _ _ st (λb hb ob e=>kp b ob (Heap.get?_push_of_some _ e))) p9)
def gQ{y:E_}{py f7:R6}{wi:TI}{ix:Nat}(hc:X.calm=true)(S:CompScope X scope x)(hi:PI X (.Name x px) iter wi)
  (hq:∀cl s₀ H₀ fp,PIf (bB X scope cl x s₀ H₀ fp) i8 tt) (he:∀cl s₀ H₀ fp,PE (bB X scope cl x s₀ H₀ fp) e8 ge) (hN:X.N.Nodup) (JH:X.N[ix]?=be y) (hy:Loc X.env.scope y) (hf:zFN X y)
  (p_:R9 (.ListComp e8 [#[.Name x px,iter,i8,0]] scope pos) (be (.Name y py)) f7.line X.env=pure true) (hs:autoParam (∀y,zFS X iter y) zA2):
  PS X (.Assign [.Name y py] (.ListComp e8 [#[.Name x px,iter,i8,0]] scope pos) f7) (tAsg (fP wi tt ge) (fC ix)):=by
 intro pins s σ H DE I h;have h:wi σ H λJ H1=>∀D,H1 D=s_->∃W:Nat->Nat->Hp->Prop,(∃m,W 0 m (upd H1 D (.lst [])))/\∀i m H,W i m H->
  (J.stop i H/\DE.nx (σ.set ix (be (.ref D))) H)\/(J.go i H/\∀x H',J.yld i H x H'->tt (σ++[be x]) H' λb H1=>if b=true then ge (σ++[be x]) H1 λy H''=>∃vs,H'' D=be (.lst vs)/\vs.length<sizeLine/\∃m',m'<m/\W (i+1) m' (upd H'' D (.lst (vs++[y])))else ∃m',m'<m/\W (i+1) m' H1):=h
 obtain⟨cl,v4,c1,c2⟩:=closure_is (env:=X.env) (scope:=scope) (λn q=>I.ok.has n (.inl (S.free n q)));rw[exec_Assign_Name_used _ _ _ _ p_];refine Os (Sm (Os ?_));show RR _ X.A (do let _ <-comprehension (.ListComp e8 [#[.Name x px,iter,i8,0]] scope pos) scope X.env _ (newList []) false (R3 iter X.env) (be (Sy (.Name y py) X.env))) _ _ s;refine Os (R8 (S_ (use:=be (Sy (.Name y py) X.env)) (Q:=λ_ s'=>SP X pins DE .next s') rfl hs v4 S.kind S.names
  (thn (hi pins s σ H _ I h) λv s1 h1=>thn h1 λL5 s2 h2=>?_)) (λ_ s' hq=>RT (RT hq)) λ_ _ e=>e)
 obtain⟨it,fp,tn,J,H1,e,I1,T,st,f1,hr⟩:=h2;subst e;have f_:∀b∈fp,b<s2.heap.objs.size:=λb hb=>by
  obtain⟨o,ho,_⟩:=T.obj _ _ st b hb;exact Heap.lt_size ho
 have hD:H1 s2.heap.objs.size=none:=I1.hok.fresh (FM _);obtain⟨W,⟨m0,w0⟩,step⟩:=hr _ hD;refine R7 (Tp S.nocell (by intro y hy;simp at hy) (λh₁ hns₁ hsb₁=>?_) S.kind);have I3:Inv X pins σ (upd H1 s2.heap.objs.size (.lst [])) {s2 with heap:=s2.heap.push {cls:=.type "list",data:=.seq ([]:List KB).toArray},toks:=s2.toks}:=I1.lnew (its:=[]) (ys:=[]) .nil (Go _);have gt:∀b∈fp,b<(s2.heap.push {cls:=.type "list",data:=.seq ([]:List KB).toArray}).objs.size:=λb hb=>by
  rw[Heap.size_push];exact Ic (f_ b hb)
 have z8:∀b∈fp,FpOk X pins (upd H1 s2.heap.objs.size (.lst [])) b:=λb hb=>#[by rw[aD (FW (f_ b hb))];exact(f1 b hb).1,(f1 b hb).2];have kp:∀b o,(s2.heap.push {cls:=.type "list",data:=.seq ([]:List KB).toArray}).get? b=be o->h₁.get? b=be o:=λb o e=>
  (hsb₁.2 b (FW (Heap.lt_size e))).trans (Heap.get?_push_of_some _ e)
 have I4:=rS (x:=x) (fp:=fp) (t':=s2.toks+([]:List (E_×KB)).length) I3 S c1 c2 z8 gt hns₁ kp;have JF:(s2.heap.push {cls:=.type "list",data:=.seq ([]:List KB).toArray}).objs.size≠X.env.locals:=GQ I3.lt;have JG:∀z c,X.env.cells.lookup z=be c->c≠(s2.heap.push {cls:=.type "list",data:=.seq ([]:List KB).toArray}).objs.size:=λz c e=>by
  obtain⟨vv,oo,ho,_⟩:=I3.cell z c e;exact FW (Heap.lt_size ho)
 have Kn:∀p∈X.pn++pins,p.1≠(s2.heap.push {cls:=.type "list",data:=.seq ([]:List KB).toArray}).objs.size:=λp hp=>FW (Heap.lt_size (I3.pin p hp).1);have p9:=rT (pos:=pos) (iter:=iter) (R:=compPost (RS X.prog X.w) X.A X.xe (be (Sy (.Name y py) X.env)) (λ_ s'=>SP X pins DE .next s') (.ref s2.heap.objs.size) (s2.heap.push {cls:=.type "list",data:=.seq ([]:List KB).toArray}).objs.size) hc S hq he c1 c2 I1 T st f1 w0 step I4 (T.keep _ _ _ st (λb hb ob e=>kp b ob (Heap.get?_push_of_some _ e))) λH' s4 m IX hn hfr q=>by
  show RR _ X.A (Sy (.Name y py) X.env (.ref s2.heap.objs.size)) _ _ s4;refine SW (pV IX hN JH hy (v:=.ref s2.heap.objs.size) rfl (λs5 I7 ⟨a,hsb,ha⟩=>?_) hf);have Na:(s2.heap.push {cls:=.type "list",data:=.seq ([]:List KB).toArray}).objs.size≠a:=by
   rcases ha with e|e
   .rw[e];exact JF
   .exact λz=>JG y a e z.symm
  exact#[m,hn.sameBut hsb Na,λh' J0=>#[_,H',I7.turned (t':=s5.toks) (it:=(s2.heap.push {cls:=.type "list",data:=.seq ([]:List KB).toArray}).objs.size) (λb ob hb e=>(J0.2 b hb).trans e) hfr JF (.inr I3.sz) JG Kn,q]]
 exact Tn p9 (T.self _ _ _ _ _ (T.keep _ _ _ st (λb hb ob e=>kp b ob (Heap.get?_push_of_some _ e))) p9)
end
end L2
namespace My
def RepS.snoc{K:Ex}{B F H:Hp}{z:SD}{s:L2.St}{d:D}{v:V}(h:RepS K B F H z s)(r:Rep K F d v):RepS K B F H (z++[be d]) (s++[be v]):=by
 have no:=r.noown;have get:∀{j:Nat} {x:D},(z++[be d])[j]?=be (be x)->(j<z.length/\z[j]?=be (be x))\/(j=z.length/\x=d):=λ{j x} e=>by
  rcases G6 j z.length with q|q
  .rw[Gz q]at e;exact .inl #[q,e]
  .rw[GI q]at e;cases hz:j-z.length with
   |zero=>rw[hz]at e;simp at e;exact .inr #[Kd,e.symm]
   |succ n=>rw[hz]at e;simp at e
 have lt:∀{j:Nat},j<z.length->(s++[be v])[j]?=s[j]?:=λ{j} q=>Gz (by rw[h.len];exact q);refine#[by rw[F8,F8,h.len];rfl,λj x e nx=>?_,λj ds e=>?_,λj k dj dk a e1 e2 e3 e4=>?_]
 .rcases get e with⟨q,e⟩|⟨q,rfl⟩
  .rw[lt q];exact h.val j x e nx
  .exact#[v,by rw[q,GI (by rw[h.len];exact FM _),h.len];simp,r]
 .rcases get e with⟨q,e⟩|⟨q,e⟩
  .rw[lt q];exact h.own j ds e
  .rw[<-e]at no;cases no
 .rcases get e1 with⟨q,e1⟩|⟨q,e1⟩
  .rcases get e2 with⟨q2,e2⟩|⟨q2,e2⟩
   .rw[lt q]at e3;rw[lt q2]at e4;exact h.apart j k dj dk a e1 e2 e3 e4
   .rw[<-e2]at no;cases no
  .rw[<-e1]at no;cases no
def okB:Bool->Bool->Prop->Prop->Prop
 |_,true,A,_=>A
 |false,false,_,B=>B
 |true,false,_,_=>False
def okF{b:Bool}{A B:Prop}(h1:b=true->A)(h2:b=false->B):okB false b A B:=by
 cases b
 .exact h2 rfl
 .exact h1 rfl
def cmpG(nf:Bool)(tt:TDT)(te:TD)(z:SD)(R:D->Prop)(items:List D):Prop:=items.length<=100000/\∃W:Nat->List D->Prop,W 0 []/\(∀k x ys,items[k]?=be x->(nf=true->ys.length=k)->W k ys->tt (z++[be x]) λb=>okB nf b (te (z++[be x]) λy=>W (k+1) (ys++[y])) (W (k+1) ys))/\∀ys,(nf=true->ys.length=items.length)->W items.length ys->R (.lst ys)
def cmpF(tt:TDT)(te:TD)(z:SD)(R:D->Prop)(items:List D):Prop:=items.length<=100000/\∃W:Nat->List D->Prop,W 0 []/\(∀k x ys,items[k]?=be x->W k ys->tt (z++[be x]) λb=>okB false b (te (z++[be x]) λy=>W (k+1) (ys++[y])) (W (k+1) ys))/\∀ys,W items.length ys->R (.lst ys)
def cmpP(te:TD)(z:SD)(R:D->Prop)(items:List D):Prop:=items.length<=100000/\∃W:Nat->List D->Prop,W 0 []/\(∀k x ys,items[k]?=be x->ys.length=k->W k ys->te (z++[be x]) λy=>W (k+1) (ys++[y]))/\∀ys,ys.length=items.length->W items.length ys->R (.lst ys)
def fQ(ti:TDI)(te:TD):TD:=λz R=>ti z (cmpP te z R)
def rV(ti:TDI)(tt:TDT)(te:TD):TD:=λz R=>ti z (cmpF tt te z R)
def dT1:TDT:=λ_ R=>R true
abbrev DIf(X:Cx)[Jx](i8:List RP)(t:TDT):Prop:=PIf X i8 (lT X.K t)
variable{X:Cx}
def eK[Jx]:DIf X [] dT1:=pif_nil.anti λs H Q q=>by
 obtain⟨B,F,z,kf,rs,R,h1,h2⟩:=q;exact h2 true F H (Grow.refl kf.fh) h1
def rW[Jx]{c:RP}{t:TDT}(h:DT X c t):DIf X [c] t:=zg h
structure ItIs(K:Ex)(J:It)(F1 H1:Hp)(items:List D):Prop where
 go:∀k F' H',Grow F1 H1 F' H'->k<items.length->J.go k H'
 yld:∀k F' H' x H'',Grow F1 H1 F' H'->k<items.length->J.yld k H' x H''->H''=H'/\∃d,items[k]?=be d/\Rep K F' d x
 stop:∀F' H',Grow F1 H1 F' H'->J.stop items.length H'
def ItOk[Jx](K:Ex)(wi:TI)(ti:TDI):Prop:=∀{s:L2.St} {H B F:Hp} {z:SD} {P:List D->Prop} {Q:It->Hp->Prop},Kept B Jx.F0 F H->RepS K B F H z s->ti z P->(∀items J F1 H1,Grow F H F1 H1->P items->ItIs K J F1 H1 items->Q J H1)->wi s H Q
section
variable {X:Cx}
variable{K:Ex}{H:Hp}{z:SD}{s:L2.St}{R:My.D->Prop}{items:List My.D}
def rX[Jx]{B F F1 H1:Hp}{Q:VK}{nf:Bool}{tt:TDT}{te:TD}{J:It}(kf:Kept B Jx.F0 F H)(g1:Grow F H F1 H1)(rs:RepS K B F H z s)(h2:∀D ys us F' H',H D=s_->F' D=s_->Grow F H F' H'->H' D=be (.lst us)->Reps K F' ys us->R (.lst ys)->Q (.ref D) H')
    (it:ItIs K J F1 H1 items) (hd:cmpG nf tt te z R items):
    ∀D,H1 D=s_->∃W:Nat->Nat->Hp->Prop,(∃m,W 0 m (upd H1 D (.lst [])))/\∀i m H,W i m H->
      (J.stop i H/\Q (.ref D) H)\/(J.go i H/\∀x H',J.yld i H x H'->lT K tt (s++[be x]) H' λb H1=>if b=true then lE K te (s++[be x]) H1 λy H''=>∃vs,H'' D=be (.lst vs)/\vs.length<sizeLine/\∃m',m'<m/\W (i+1) m' (upd H'' D (.lst (vs++[y])))else ∃m',m'<m/\W (i+1) m' H1):=by
  intro D hD;obtain⟨hz,W,w0,b_,out⟩:=hd;have Qc:F1 D=none:=g1.fh.free hD;have hH:H D=none:=g1.hh.free hD;refine⟨λk m H'=>m=items.length-k/\k<=items.length/\∃F' ys us,Grow F1 H1 F' H'/\H' D=be (.lst us)/\F' D=s_/\Reps K F' ys us/\(ys.length<=k/\(nf=true->ys.length=k))/\W k ys,
    #[items.length,Ld,Go _,F1,[],[],#[Same.refl F1,g1.fh.trans (aV hD _),aV hD _,λb h _=>h],aL,Qc,reps_nil.mpr rfl,#[FM _,λ_=>rfl],w0],?_⟩
  rintro k m H'⟨rfl,hk,F',ys,us,G,hu,hF,ry,hl,w⟩;by_cases f_:k<items.length
  . refine .inr #[it.go k F' H' G f_,λx H'' hy=>?_];obtain⟨e,d,hd,rd⟩:=it.yld k F' H' x H'' G f_ hy;subst e;refine#[B,F',z++[be d],kf.grow (g1.trans G),(rs.grow (g1.trans G)).snoc rd,_,b_ k d ys hd hl.2 w,λb F3 H3 g3 hb=>?_];have Nb:H3 D=be (.lst us):=g3.hh D _ hu;have OG:F3 D=none:=g3.out D hF (by rw[hu];exact λq=>nomatch q);cases b with
    |false=>
      cases nf with
      |true=>exact hb.elim
      |false=>exact#[items.length-(k+1),Kd,rfl,Kd,F3,ys,us,G.trans g3,Nb,OG,ry.mono g3.ff,#[Kd,λz=>nomatch z],hb]
    |true=>
    refine#[B,F3,z++[be d],(kf.grow (g1.trans G)).grow g3,((rs.grow (g1.trans G)).snoc rd).grow g3,_,(show te _ _ from by cases nf<;>exact hb),λy yv F2 H2 g2 hw rv=>?_];have Qd:H2 D=be (.lst us):=g2.hh D _ Nb;have Ko:F2 D=none:=g2.out D OG (by rw[Nb];exact λq=>nomatch q);have Rk:us.length<=k:=by rw[ry.length];exact hl.1
    refine⟨us,Qd,by     have:(100000:Nat)<sizeLine:=by decide
                        lia,items.length-(k+1),Kd,rfl,Kd,F2,ys++[y],us++[yv],?_,aL,Ko,((ry.mono g3.ff).mono g2.ff).append (eI rv),#[Ou,λz=>by simp[hl.2 z]],hw⟩
    have GG:=(G.trans g3).trans g2;refine#[GG.ff,λb o e=>?_,λb o e=>?_,GG.out]
    . have ne:b≠D:=λq=>by rw[q,Ko]at e;cases e
      rw[aD ne];exact GG.fh b o e
    . have ne:b≠D:=λq=>by rw[q,hD]at e;cases e
      rw[aD ne];exact GG.hh b o e
  . have ek:k=items.length:=by lia
    subst ek;exact .inl #[it.stop F' H' G,h2 D ys us F' H' hH hF (g1.trans G) hu ry (out ys hl.2 w)]
def zh{F F' H':Hp}{D:KF}{us:List V}(GG:Grow F H F' H')(hu:H' D=be (.lst us))(hF:F' D=s_)(hH:H D=s_):Grow F H (upd F' D (.lst us)) H':=by
 refine#[GG.ff.trans (aV hF _),λb o e=>?_,GG.hh,λb h1 h3=>?_]
 .by_cases hb:b=D
  .subst hb;rw[aL]at e;cases e;exact hu
  .rw[aD hb]at e;exact GG.fh b o e
 .have ne:b≠D:=λq=>h3 (q ▸ hH);rw[aD ne];exact GG.out b h1 h3
variable {e8 iter:RP}{i8:List RP}{x:E_}{px pos:R6}{scope:Sl}{ti te:TD}{tt:TDT}{wi:TI}{JI:TDI}
def fR[Jx]{nf:Bool}{G:SD->(D->Prop)->List D->Prop}(hG:∀z R items,G z R items->cmpG nf tt te z R items)(hI:ItOk K wi JI){Q:VK}(q:lE K (λz R=>JI z (G z R)) s H Q):fP wi (lT K tt) (lE K te) s H Q:=by
 obtain⟨B,F,z,kf,rs,R,h1,h2⟩:=q;exact hI kf rs h1 λitems J F1 H1 g1 hg it=>rX kf g1 rs (λD ys us F' H' hH hF GG hu ry hR=>h2 (.lst ys) (.ref D) _ H' (zh GG hu hF hH) hR (rep_lst.mpr #[D,us,rfl,aL,ry.mono (aV hF _)])) it (hG _ _ _ hg)
def cmpP.g(h:cmpP te z R items):cmpG true dT1 te z R items:=
 let ⟨hz,W,w0,b_,out⟩:=h
 #[hz,W,w0,λk x ys e l w=>b_ k x ys e (l rfl) w,λys l w=>out ys (l rfl) w]
def cmpF.g(h:cmpF tt te z R items):cmpG false tt te z R items:=
 let ⟨hz,W,w0,b_,out⟩:=h
 #[hz,W,w0,λk x ys e _ w=>b_ k x ys e w,λys _ w=>out ys w]
def itL[Jx]:ItOk K (qh K (lE K ti)) (dItL ti):=λ{s H B F z P Q} kf rs h1 h2=>by
 refine#[B,F,z,kf,rs,_,h1,λd v F1 H1 g1 hd rd=>?_];have key:∀(items:List D) (p:KF) (vs:List V),SqL K F1 p vs->Reps K F1 items vs->P items->∃a,V.ref p=.ref a/\(∃xs,SqL K H1 a xs)/\Q (Itl K a) H1:=λitems p vs hq rr hd=>by
  refine#[p,rfl,#[vs,g1.fh.seq hq],h2 items _ F1 H1 g1 hd #[λk F' H' G hk=>?_,λk F' H' x H'' G hk hy=>?_,λF' H' G=>?_]]
  .have n9:k<vs.length:=by rw[rr.length];exact hk
   exact#[vs,vs[k],G.hh.seq (g1.fh.seq hq),by simp[n9]]
  .obtain⟨e,hy⟩:=hy;obtain⟨d,e2,r2⟩:=rr.get' (hy vs (G.hh.seq (g1.fh.seq hq)));exact#[e,d,e2,r2.mono G.ff]
  .exact#[vs,G.hh.seq (g1.fh.seq hq),by rw[rr.length];exact FM _]
 split at hd
 .obtain⟨p,vs,rfl,hq,rr⟩:=rep_lst.mp rd;exact key _ p vs (SqL.of hq) rr hd
 .obtain⟨p,vs,rfl,hq,rr⟩:=rep_rol.mp rd;exact key _ p vs hq rr hd
 .exact hd.elim
def itR[Jx]:ItOk K (qj (gA (lE K ti) tNil)) (dItR ti):=λ{s H B F z P Q} kf rs h1 h2=>by
 refine#[B,F,z,kf,rs,_,h1,λd v F1 H1 g1 hd rd=>?_];split at hd
 .rename_i n;obtain⟨⟨b1,b2⟩,hd⟩:=hd;have hl:((FN n.toNat).map λk=>D.int ((k:Nat):Int)).length=n.toNat:=by simp
  refine#[n,by rw[rep_int.mp rd],Kd,b2,h2 _ _ F1 H1 g1 hd #[λk F' H' G hk=>by rw[hl]at hk;exact hk,λk F' H' x H'' G hk hy=>?_,λF' H' G=>by show n.toNat<=_;rw[hl];exact FM _]];rw[hl]at hk;obtain⟨e,rfl⟩:=hy;exact#[e,.int (k:Int),by simp[hk],rep_int.mpr (by congr 1;lia)]
 .exact hd.elim
def zi[Jx](hc:X.calm=true)(S:CompScope X scope x)(hi:WDE X iter ti)(he:∀cl s₀ H₀ fp,WDE (bB X scope cl x s₀ H₀ fp) e8 te)(hs:autoParam (∀y,zFS X iter y) zA2):WDE X (.ListComp e8 [#[.Name x px,iter,[],0]] scope pos) (fQ (dItL ti) te):=#[have hi:=hi.out;have he:=λcl s₀ H₀ fp=>(he cl s₀ H₀ fp).out;(gP hc S (fF hi) (λ_ _ _ _=>eK) he hs).anti λs H Q q=>fR (λ_ _ _=>cmpP.g) itL q]
def gR[Jx]{p1 p2:R6}(hc:X.calm=true)(S:CompScope X scope x)(hm:X.mg "range"=s_)(hi:WDE X iter ti)(he:∀cl s₀ H₀ fp,WDE (bB X scope cl x s₀ H₀ fp) e8 te)(hg:autoParam (Gl X "range") zA0)
  (hs:autoParam (∀y,zFS X (.Call (.Name "range" p1) [iter] [] p2) y) zA2) (j7:autoParam (zSE X iter []) zA0) (d_:autoParam (RY [iter] X.env=[(false,R3 iter X.env)]) zA0):WDE X (.ListComp e8 [#[.Name x px,.Call (.Name "range" p1) [iter] [] p2,[],0]] scope pos) (fQ (dItR ti) te):=#[have hi:=hi.out;have he:=λcl s₀ H₀ fp=>(he cl s₀ H₀ fp).out;(gP hc S (gx hg hm (bz hi pa_nil j7) d_) (λ_ _ _ _=>eK) he hs).anti λs H Q q=>fR (λ_ _ _=>cmpP.g) itR q]
def rY[Jx]{E:Ends}{ix:Nat}(hI:ItOk K wi JI)(q:lS K (dSet ix (fQ JI te)) E s H):tAsg (fP wi (lT K dT1) (lE K te)) (fC ix) E s H:=by
 obtain⟨B,F0,F,z,k,rs,ED,⟨P,h,j⟩,e⟩:=q;exact fR (λ_ _ _=>cmpP.g) hI #[B,F,z,k.kf,rs,P,h,λd v F' H' g hd rd=>e.nx _ _ F' H' (k.grow g) (j d hd) ((rs.grow g).set rd)]
def zj[Jx](ix:Nat){y:E_}{py f7:R6}(hc:X.calm=true)(S:CompScope X scope x)(hN:X.N.Nodup)(hi:WDE X iter ti)(he:∀cl s₀ H₀ fp,WDE (bB X scope cl x s₀ H₀ fp) e8 te)(JH:autoParam (X.N[ix]?=be y) zA0)(hy:autoParam (Loc X.env.scope y) zA4)
  (hf:autoParam (zFN X y) zA3) (p_:autoParam (R9 (.ListComp e8 [#[.Name x px,iter,[],0]] scope pos) (be (.Name y py)) f7.line X.env=pure true) zA0) (hs:autoParam (∀y,zFS X iter y) zA2):WDS X (.Assign [.Name y py] (.ListComp e8 [#[.Name x px,iter,[],0]] scope pos) f7) (dSet ix (fQ (dItL ti) te)):=#[have hi:=hi.out;have he:=λcl s₀ H₀ fp=>(he cl s₀ H₀ fp).out;(gQ hc S (fF hi) (λ_ _ _ _=>eK) he hN JH hy hf p_ hs).anti λE s H q=>rY itL q]
def km[Jx](ix:Nat){y:E_}{py f7 p1 p2:R6}(hc:X.calm=true)(S:CompScope X scope x)(hN:X.N.Nodup)(hm:X.mg "range"=s_)(hi:WDE X iter ti)(he:∀cl s₀ H₀ fp,WDE (bB X scope cl x s₀ H₀ fp) e8 te)(hg:autoParam (Gl X "range") zA0)(JH:autoParam (X.N[ix]?=be y) zA0)(hy:autoParam (Loc X.env.scope y) zA4)
  (hf:autoParam (zFN X y) zA3) (p_:autoParam (R9 (.ListComp e8 [#[.Name x px,.Call (.Name "range" p1) [iter] [] p2,[],0]] scope pos) (be (.Name y py)) f7.line X.env=pure true) zA0)
  (hs:autoParam (∀y,zFS X (.Call (.Name "range" p1) [iter] [] p2) y) zA2) (j7:autoParam (zSE X iter []) zA0) (d_:autoParam (RY [iter] X.env=[(false,R3 iter X.env)]) zA0):WDS X (.Assign [.Name y py] (.ListComp e8 [#[.Name x px,.Call (.Name "range" p1) [iter] [] p2,[],0]] scope pos) f7) (dSet ix (fQ (dItR ti) te)):=#[have hi:=hi.out;have he:=λcl s₀ H₀ fp=>(he cl s₀ H₀ fp).out;(gQ hc S (gx hg hm (bz hi pa_nil j7) d_) (λ_ _ _ _=>eK) he hN JH hy hf p_ hs).anti λE s H q=>rY itR q]
end
def eL(scope fsc:Sl):List (E_×Sw):=scope.names.map λ(n,k)=>if(k==NameKind.free&&fsc.kind== .function&&fsc.names.lookup n==be .cell)then(n,NameKind.cell)else(n,k)
def visB(l:List (E_×Sw))(n:E_):Bool:=l.lookup n==be .local||l.lookup n==be .cell||l.lookup n==be .free
def bO(scope fsc:Sl)(N:List E_)(x:E_):Bool:=
 scope.kind== .function&&scope.names.all (λy=>!(y.2== .cell))&&scope.names.all (λy=>!(y.2== .local)||scope.names.lookup y.1==be .local)&&scope.names.lookup x==be .local &&
 scope.names.all (λy=>!(y.2== .free)||fsc.names.lookup y.1==be .cell)&&N.all (λn=>decide (n=x)||!visB (eL scope fsc) n||scope.names.any (λy=>decide (y=(n,NameKind.free))))&&!visB (eL scope fsc) "" &&
 scope.names.all (λy=>!(y.2== .free)||(eL scope fsc).lookup y.1==be .cell)&&decide (N.map (λn=>if n=x then("":E_)else n)++[x]).Nodup
def rZ{l:List (E_×Sw)}{n:E_}(h:l.lookup n=be .local\/l.lookup n=be .cell\/l.lookup n=be .free):visB l n=true:=by
 unfold visB;rcases h with h|h|h<;>rw[h]<;>rfl
def compScope{scope:Sl}{x:E_}(h:bO scope X.env.scope X.N x=true):CompScope X scope x:=by
 unfold bO at h;simp only[Gg]at h;obtain⟨⟨⟨⟨⟨⟨⟨⟨h1,h2⟩,h3⟩,h4⟩,h5⟩,h6⟩,h7⟩,h8⟩,h9⟩:=h;have er:(TJ scope X.env).names=eL scope X.env.scope:=rfl;refine#[by simpa using h1,λy hy=>?_,λy hy e=>?_,by simpa using h4,λn hn=>?_,λn hn ne v=>?_,λv=>?_,λn hn=>?_,of_decide_eq_true h9]
 .have:=GK.mp h2 y hy;simpa using this
 .have:=GK.mp h3 y hy;rw[e]at this;simpa using this
 .have:=GK.mp h5 _ hn;show X.env.scope.names.lookup n=be .cell;simpa using this
 .have:=GK.mp h6 n hn;have v':visB (eL scope X.env.scope) n=true:=rZ v;rw[v']at this;simp[ne]at this;exact this
 .have v':visB (eL scope X.env.scope) ""=true:=rZ v;rw[v']at h7;cases h7
 .have:=GK.mp h8 _ hn;rw[er];simpa using this
def putD(f:E_)(v:D):List (E_×D)->List (E_×D)
 |[]=>[(f,v)]
 |(g,x)::r=>if g=f then(g,v)::r else(g,x)::putD f v r
def RepF.put{K:Ex}{F:Hp}{f:E_}{d:D}{v:V}(r:Rep K F d v):∀{fs:List (E_×D)} {ws:List (E_×V)},RepF K F fs ws->RepF K F (putD f d fs) (putF f v ws)
 |[],ws,h=>by
  rw[repf_nil.mp h];exact repf_cons.mpr #[v,[],rfl,r,repf_nil.mpr rfl]
 |(g,x)::fs,ws,h=>by
  obtain⟨w,Kp,rfl,h1,h2⟩:=repf_cons.mp h;unfold putD putF;by_cases e:g=f
  .rw[if_pos e,if_pos e];exact repf_cons.mpr #[v,Kp,rfl,r,h2]
  .rw[if_neg e,if_neg e];exact repf_cons.mpr #[w,_,rfl,h1,RepF.put r h2]
def RepF.length{K:Ex}{F:Hp}:∀{fs:List (E_×D)} {ws:List (E_×V)},RepF K F fs ws->ws.length=fs.length
 |[],ws,h=>by rw[repf_nil.mp h];rfl
 |(g,x)::fs,ws,h=>by
  obtain⟨w,Kp,rfl,h1,h2⟩:=repf_cons.mp h;rw[FV,FV,RepF.length h2]
def ClsA(K:Ex)(x f:E_):Prop:=∃C,nsIn K Pi x=be (be (.ref C))/\Cls K C/\NoAttr K C f
section
variable {X:Cx}{a b c e:RP}{ta tb tc te:TD}{pos:R6}
def dFld(x f:E_)(te:TD):TD:=λz R=>te z λd=>match d with|.obj y fs=>y=x/\∃d,fs.lookup f=be d/\R d|_=>False
variable{x:E_}
def eM[Jx]{f:E_}(h:ClsA X.K x f)(he:WDE X e te)(hb:autoParam (R1 e f X.env (R3 e X.env)=R3 e X.env) zA0):WDE X (.Attribute e f pos) (dFld x f te):=⟨have he:=he.out;(qC he hb).anti λs H Q q=>by
 obtain⟨C,hn,hc,hf⟩:=h;obtain⟨B,F,z,kf,rs,R,h1,h2⟩:=q;have fh:=kf.fh;refine#[B,F,z,kf,rs,_,h1,λd u F1 H1 g1 hx rx=>?_];split at hx
 .obtain⟨rfl,d,hl,hR⟩:=hx;obtain⟨a,C',dx,vs,rfl,m9,q,r⟩:=rep_obj.mp rx;rw[hn]at m9;cases m9;obtain⟨v,l,rv⟩:=r.look hl;exact#[a,C,dx,vs,v,rfl,g1.fh _ _ q,hc,hf,l,h2 d v F1 H1 g1 hR rv]
 .exact hx.elim⟩
def se[Jx]{d:D}{v:V}{u:KB}(hm:X.mg x=be u)(r:RelV v u)(rd:∀H,Rep X.K H d v)(hg:autoParam (Gl X x) zA0)(hd:autoParam (zND x) zA1):DE X (.Name x pos) (dC d):=de_c (vO hg hm r hd) rd
def eN[Jx]{i:Int}(h:∃t,X.mg x=be (.int i t))(hg:autoParam (Gl X x) zA0)(hd:autoParam (zND x) zA1):WDE X (.Name x pos) (dC (.int i)):=⟨by
 obtain⟨t,h⟩:=h;exact se (v:=.int i) h #[t,rfl] (λ_=>rep_int.mpr rfl) hg hd⟩
def eO[Jx]{y:E_}(h:∃t,X.mg x=be (.str y t))(hg:autoParam (Gl X x) zA0)(hd:autoParam (zND x) zA1):WDE X (.Name x pos) (dC (.str y)):=⟨by
 obtain⟨t,h⟩:=h;exact se (v:=.str y) h #[t,rfl] (λ_=>rep_str.mpr rfl) hg hd⟩
structure ClsI(K:Ex)(mg:Str->Option KB)(x:Str)(C:KF):Prop where
 ns:nsIn K Pi x=be (be (.ref C))
 mg:mg x=be (.ref C)
 cl:Cls K C
 ha:findIn K (.ref C) "__class__"=be (be (.builtin "object.__class__"))
 hn:specialIn K (.builtin "object.__class__") "__get__"=be (be (.builtin "getset_descriptor.__get__"))
 htk:takesIn K (.builtin "object.__class__")=be true
 hm:mroIn K C (.type "object")=be true
 self:kitOne K (.ref C) (.ref C)=be true
end
abbrev SiD:=List D->(List (E_×D)->Prop)->Prop
def lSi(K:Ex)(C:KF)(S:SiD):Sp:=λvs H Q _=>∃a dx us H1 F ds,vs=.ref a::us/\H=upd (upd H1 dx (.own a)) a (.ins C dx [])/\H1 a=s_/\H1 dx=s_/\dx≠a/\Same F H1/\Reps K F ds us/\
 ∃R:List (E_×D)->Prop,S ds R/\∀fs ws JJ F' H',Grow F H1 F' H'->R fs->H' a=be (.ins C JJ ws)->F' a=s_->RepF K F' fs ws->Q .non H'
def CalM(P:RQ)(w:RU)(K:Ex)(mg:E_->Option KB)(base:RW)(n:Nat)(x:E_)(ps:List E_)(S:SiD):Prop:=
 ∃C f fd,nsIn K Pi x=be (be (.ref C))/\mg x=be (.ref C)/\Mk K C f/\FnOk P w K mg base (Exc.CX1 P w) n f fd ps (lSi K C S)/\Binds K fd ps []
def zk(x:E_)(S:SiD)(t:TDA):TD:=λz R=>t z λds=>S ds λfs=>R (.obj x fs)
def ko[Jx]{pos:R6}{n m:Nat}{ps:List E_}{S:SiD}{x:E_}{p:R6}{e:RP}{es:List RP}{t:TDA}(M:CalM X.prog X.w X.K X.mg X.base n x ps S)(hr:Room m X.A)(ha:WDA X (e::es) t)(hg:autoParam (Gl X x) zA0)(hn:autoParam (n+1<=m) zA1)(f6:autoParam (zND x) zA1)
  (he:autoParam (zSE X e es) zA0) (c9:autoParam (zPL X pos es) zA0):WDE X (.Call (.Name x p) (e::es) [] pos) (zk x S t):=⟨by
 have ha:=ha.out;obtain⟨C,f,fd,hns,l5,mk,F,hb⟩:=M;refine(jO mk F (hr.mono hn) hg l5 hb .nil gG ha f6 he c9).anti λs H Q q=>?_;obtain⟨B,F,z,kf,rs,R,h1,h2⟩:=q;have fh:=kf.fh;refine#[B,F,z,kf,rs,_,h1,λds vs F1 H1 g1 hx rx=>?_];intro a dx ha v7 p7;refine#[a,dx,vs,H1,F1,ds,by rw[GB],rfl,ha,v7,p7,g1.fh,rx,_,hx,λfs ws JJ F' H' g hR k7 q8 rf=>#[rfl,?_]];have s1:Same F' (upd F' a (.ins C JJ ws)):=aV q8 _;refine h2 (.obj x fs) (.ref a) (upd F' a (.ins C JJ ws)) H' #[(g1.ff.trans g.ff).trans s1,λb o q=>?_,g1.hh.trans g.hh,λb q1 q2=>?_] hR (rep_obj.mpr #[a,C,JJ,ws,rfl,hns,aL,RepF.mono s1 fs ws rf])
 .by_cases hb:b=a
  .subst hb;rw[aL]at q;cases q;exact k7
  .rw[aD hb]at q;exact g.fh b o q
 .by_cases hb:b=a
  .subst hb;exact absurd (g1.hh.free ha) q2
  .rw[aD hb];exact(g1.trans g).out b q1 q2⟩
abbrev TID:=SD->List (E_×D)->(List (E_×D)->Prop)->Prop
def lI(K:Ex)[J:Jx](x:E_)(t:TID):TS:=λE σ H=>∃C a dx ws F z fs,nsIn K Pi x=be (be (.ref C))/\σ[0]?=be (be (.ref a))/\H a=be (.ins C dx ws)/\J.B a=s_/\F a=s_/\Kept J.B J.F0 F H/\RepS K J.B F H z σ/\RepF K F fs ws/\
 ∃R:List (E_×D)->Prop,t z fs R/\∀m8 Kp F' H',Kept J.B J.F0 F' H'->R m8->H' a=be (.ins C dx Kp)->F' a=s_->RepF K F' m8 Kp->E.nx σ H'
abbrev DI(X:Cx)[Jx](x:E_)(st:List P3)(t:TID):Prop:=PSs X st (lI X.K x t)
structure WDI(X:Cx)[Jx](x:Str)(st:List P3)(t:TID):Prop where
 out:DI X x st t
section
variable {X:Cx}{x f:E_}{e:RP}{te:TD}{pos c_ p:R6}{rest:List P3}{tr:TID}
def zl:TID:=λ_ fs R=>R fs
def zm(f:E_)(te:TD)(tr:TID):TID:=λz fs R=>te z λd=>fs.length<1000/\tr z (putD f d fs) R
def dO[Jx]:WDI X x [] zl:=⟨pss_nil.anti λE s H q=>by
 obtain⟨C,a,dx,ws,F,z,fs,hn,h0,k7,JK,q8,g,rs,rf,R,hR,k⟩:=q;exact k fs ws F H g hR k7 q8 rf⟩
def RepS.other{K:Ex}{B F H:Hp}{z:SD}{σ:L2.St}{a:KF}{o o':HO}(rs:RepS K B F H z σ)(h:H a=be o)(hl:∀vs,o≠.lst vs):RepS K B F (upd H a o') z σ:=
 ⟨rs.len,rs.val,λi ds e=>by
  obtain⟨b,vs,q1,q2,q⟩:=rs.own i ds e;have ne:b≠a:=by
   rintro rfl;rw[h]at q2;cases q2;exact hl vs rfl
  exact#[b,vs,q1,by rw[aD ne];exact q2,q],rs.apart⟩
def bV[J:Jx]{ps:R6}{sx:E_}(hA:ClsA X.K x f)(he:WDE X e te)(hr:WDI X x rest tr)(hN:autoParam (X.N[0]?=be sx) zA0)(hv:autoParam (Vis X.env.scope sx) zA5)(hd:autoParam (zND sx) zA1)
  (i6:autoParam (zNC sx) zA1) (hs:autoParam (R9 e (be (.Attribute (.Name sx ps) f c_)) pos.line X.env=pure false) zA0):WDI X x (.Assign [.Attribute (.Name sx ps) f c_] e pos::rest) (zm f te tr):=⟨have he:=he.out;have hr:=hr.out;(jD (qD (fB (i:=0) hN hv hd i6) he hs) hr).anti λE s H q=>by
 obtain⟨C,a,dx,ws,F,z,fs,hn,h0,k7,JK,q8,g,rs,rf,R,hR,k⟩:=q;obtain⟨C',m9,hc,hf⟩:=hA;rw[hn]at m9;cases m9;refine#[_,F,z,g,rs,_,hR,λd v F2 H2 g2 hx rv=>?_];have k2:=g.grow g2;have OH:=g2.hh a _ k7;have Ko:F2 a=none:=g2.out a q8 (by rw[k7];exact λz=>nomatch z);refine#[.ref a,h0,a,C,dx,ws,rfl,OH,hc,hf,by rw[rf.length];exact hx.1,?_];have Qe:Same F2 (upd H2 a (.ins C dx (putF f v ws))):=λb o q=>by
  have ne:b≠a:=by rintro rfl;rw[Ko]at q;cases q
  rw[aD ne];exact g2.fh b o q
 have z9:Same J.B (upd H2 a (.ins C dx (putF f v ws))):=λb o q=>by
  have ne:b≠a:=by rintro rfl;rw[JK]at q;cases q
  rw[aD ne];exact k2.bh b o q
 exact#[C,a,dx,putF f v ws,F2,z,putD f d fs,hn,h0,aL,JK,Ko,#[z9,Qe,k2.f0,k2.out,k2.eb,k2.jf,k2.jo],(rs.grow g2).other OH (λ_ z=>nomatch z),RepF.put rv (RepF.mono g2.ff fs ws rf),R,hx.2,k]⟩
end
section
variable {P:RQ}{w:RU}{K:Ex}{mg:E_->Option KB}{base:RW}
def zn{K:Ex}{B F H:Hp}{z:SD}{σ:L2.St}{v:V}(rs:RepS K B F H z σ):RepS K B F H (s_::z) (be v::σ):=
  ⟨by rw[FV,FV,rs.len],λi d e no=>by
    cases i with
    |zero=>cases e
    |succ i=>exact rs.val i d e no,λi ds e=>by
    cases i with
    |zero=>cases e
    |succ i=>exact rs.own i ds e,λi j di dj a e1 e2 e3 e4=>by
    cases i with
    |zero=>cases e1
    |succ i=>
      cases j with
      |zero=>cases e2
      |succ j=>rw[rs.apart i j di dj a e1 e2 e3 e4]⟩
def Cls.okI{x qual:E_}{st:P3}{f C:KF}{fd:R4}{N:List E_}{p0:E_}{ps:List E_}{k:Nat}{S:SiD}(T:Fun K "__init__" qual st f fd)(hb:Binds K fd (p0::ps) [])(F:FnScope (p0::N) (p0::ps) (ao st))(len:∀ds R,S ds R->ds.length=ps.length)
  (hns:nsIn K Pi x=be (be (.ref C))) (l5:mg x=be (.ref C)) (mk:Mk K C f)
  (a_:∀(cdv:KB) (A:RV) (outer:List SG) (s:KM) (H:Hp) (E:XK) (J:Jx),Room k (A.deeper (R' qual (ao st) s.heap.objs.size f cdv))->
   ∃t,DI (cxOf (Exc.CX1 P w) P w K mg base (p0::N) qual (ao st) f cdv A outer s H E).nox x (aQ st) t/\∀ds R,S ds R->t (s_::startD N ds) [] R):CalM P w K mg base (k+1) x (p0::ps) S:=by
 refine#[C,f,fd,hns,l5,mk,Fun.okC T F (λvs H Q E h=>?_) (λcdv A outer s H vs Q E hr h=>?_),hb]
 .obtain⟨a,dx,us,H1,F,ds,rfl,_,_,_,_,_,rs,R,h,_⟩:=h;rw[FV,FV,rs.length,len ds R h]
 .obtain⟨a,dx,us,H1,F1,ds,rfl,rfl,ha,v7,p7,fh,rs,R,h,q⟩:=h
  letI:Jx:=#[H1,F1,λ_ _ _=>False]
  obtain⟨t,ht,hq⟩:=a_ cdv A outer s _ E inferInstance hr;have Fa:F1 a=none:=fh.free ha;have hl:L2.start (p0::N) (.ref a::us)=be (.ref a)::L2.start N us:=by
   unfold L2.start;rw[FY,FV,FV,Nat.add_sub_add_right];rfl
  have s1:Same H1 (upd (upd H1 dx (.own a)) a (.ins C dx [])):=(aV v7 _).trans (aV (by rw[aD (Ne.symm p7)];exact ha) _);refine#[_,ht.nox,C,a,dx,[],F1,s_::startD N ds,[],hns,by rw[hl];rfl,aL,ha,Fa,#[s1,fh.trans s1,Same.refl F1,λ_ h _=>h,rfl,Same.refl F1,λ_ h _=>h],?_,repf_nil.mpr rfl,R,hq ds R h,λm8 Kp F' H' g hR k7 q8 rf=>q m8 Kp dx F' H' #[g.f0,g.fh,g.bh,g.out] hR k7 q8 rf];rw[hl];exact zn (fK rs)
end
section
variable {X:Cx}{a b c e:RP}{ta tb tc te:TD}{pos:R6}
def kq(t u:TD):TDI:=λz R=>t z λx=>u z λy=>match x,y with|.int i,.int j=>(-(2^62)<=i/\i<2^62/\-(2^62)<=j/\j<2^62)/\R ((FN (j-i).toNat).map λk=>D.int (i+((k:Nat):Int)))|_,_=>False
def kr[Jx](i:Nat){x:E_}{p p1 p2:R6}{body:List P3}{OI:TSD}(hp:Sd (RS X.prog X.w) X.A X.env X.xe)(hc:X.calm=true)(hN:X.N.Nodup)(hm:X.mg "range"=s_)(ha:WDE X a ta)(l_:WDE X b tb)(hb:WDSs X body OI)(hg:autoParam (Gl X "range") zA0)(hi:autoParam (X.N[i]?=be x) zA0)(hx:autoParam (Loc X.env.scope x) zA4)
  (hf:autoParam (zFN X x) zA3) (hs:autoParam (∀y,zFS X (.Call (.Name "range" p1) [a,b] [] p2) y) zA2) (j7:autoParam (zSE X a [b]) zA0) (Kq:autoParam (zSE X b []) zA0) (d_:autoParam (RY [a,b] X.env=[(false,R3 a X.env),(false,R3 b X.env)]) zA0) (Kr:autoParam (RY [b] X.env=[(false,R3 b X.env)]) zA0):WDS X (.For (.Name x p) (.Call (.Name "range" p1) [a,b] [] p2) body [] pos) (dFor i (kq ta tb) OI):=⟨have ha:=ha.out;have l_:=l_.out;have hb:=hb.out;(cV hp hc (ql hg hm (bz ha (bz l_ pa_nil Kq) j7) d_ Kr) (fD hN hi hx hf) hb hs).anti λE s H q=>by
 obtain⟨B,F0,F,z,kp,rs,ED,h,e⟩:=q;refine#[B,F,z,kp.kf,rs,_,h,λd1 v1 F1 H1 g1 h1 r1=>?_];refine#[B,F1,z,kp.kf.grow g1,rs.grow g1,_,h1,λd2 v2 F2 H2 g2 h2 r2=>?_];split at h2
 .rename_i lo f8;obtain⟨bd,W,w0,b_,out⟩:=h2;have hl:((FN (f8-lo).toNat).map λk=>D.int (lo+((k:Nat):Int))).length=(f8-lo).toNat:=by simp
  refine#[lo,f8,by rw[rep_int.mp r1,rep_int.mp r2],bd,jH (lo:=lo) (n:=(f8-lo).toNat) (λk s' H'=>∃F' z',Kept B F0 F' H'/\RepS X.K B F' H' z' s'/\W k z') #[F2,z,(kp.grow g1).grow g2,(rs.grow g1).grow g2,w0] ?_ ?_]
  .rintro k s' H' hk⟨F',z',k',r',w'⟩;exact#[B,F0,F',_,k',r'.set (d:=.int (lo+(k:Int))) (rep_int.mpr rfl),_,b_ k (.int (lo+(k:Int))) z' (by simp[hk]) w',#[λz3 s3 F3 H3 k3 h3 r3=>#[F3,z3,k3,r3,h3],e.rt,e.nx,λz3 s3 F3 H3 k3 h3 r3=>#[F3,z3,k3,r3,h3]]]
  .rintro s' H'⟨F',z',k',r',w'⟩;exact e.nx z' s' F' H' k' (out z' (by rw[hl];exact w')) r'
 .exact h2.elim⟩
def RepS.change[Jx]{K:Ex}{B F0 F H:Hp}{z:SD}{s:L2.St}{i:Nat}{ds Nd:List D}{a:KF}{l6:List V}(rs:RepS K B F H z s)(k:Kept B F0 F H)(ez:z[i]?=be (be (.own ds)))(q1:s[i]?=be (be (.ref a)))(hB:B a=s_)(hF:F a=s_)(r:Reps K F Nd l6):
  Kept B F0 F (upd H a (.lst l6))/\RepS K B F (upd H a (.lst l6)) (z.set i (be (.own Nd))) s:=by
 have same:∀{G:Hp},G a=s_->Same G H->Same G (upd H a (.lst l6)):=λ{G} ga gs b o eb=>by
  have ne:b≠a:=λz=>by rw[z,ga]at eb;cases eb
  rw[aD ne];exact gs b o eb
 have r2:=rs.setOwn (i:=i) (a:=a) (vs:=l6) (ds:=Nd) hB hF r (λj dj hj e1 e2=>hj (rs.apart j i dj ds a e1 ez e2 q1));have es:s.set i (be (.ref a))=s:=by
  apply Hl;intro n;by_cases hn:i=n
  .subst hn;rw[Gx (FZ.mp q1).1,q1]
  .rw[Ge hn]
 rw[es]at r2;exact#[#[same hB k.bh,same hF k.fh,k.f0,k.out,k.eb,k.jf,k.jo],r2]
def Reps.put{K:Ex}{F:Hp}{d:D}{v:V}(r:Rep K F d v):∀{ds:List D} {vs:List V} (j:Nat),Reps K F ds vs->Reps K F (ds.set j d) (vs.set j v)
 |[],vs,j,h=>by rw[reps_nil.mp h];exact reps_nil.mpr rfl
 |x::ds,vs,0,h=>by
  obtain⟨u,us,rfl,h1,h2⟩:=reps_cons.mp h;exact reps_cons.mpr #[v,us,rfl,r,h2]
 |x::ds,vs,j+1,h=>by
  obtain⟨u,us,rfl,h1,h2⟩:=reps_cons.mp h;exact reps_cons.mpr #[u,_,rfl,h1,Reps.put r j h2]
def sf(i:Nat)(te ti:TD):TSD:=λE z=>match z[i]? with
 |some (be (.own ds))=>te z λd=>ti z λy=>match y with|.int k=>∃j,ixN ds.length k=be j/\E.nx (z.set i (be (.own (ds.set j d))))|_=>False
 |_=>False
def gS[Jx](i:Nat){x:E_}{p1 p2:R6}(he:WDE X e te)(hb:WDE X b tb)(hN:autoParam (X.N[i]?=be x) zA0)(hv:autoParam (Vis X.env.scope x) zA5)(hd:autoParam (zND x) zA1)
  (i6:autoParam (zNC x) zA1)
  (ha:∀v,Sy (.Subscript (.Name x p1) b p2) X.env v=(do
   let ov <-SF [v] (R3 (.Name x p1) X.env)
   let iv <-SF [v,ov] (R3 b X.env)
   SQ p2
   SF [v,ov,iv] (setItem ov iv v)
   release [v,ov,iv] []):=by intro _;rfl)
  (hs:autoParam (Sq [.Subscript (.Name x p1) b p2] e pos.line X.env=pure false) zA0) (hw:autoParam (Sr [.Subscript (.Name x p1) b p2] e X.env=pure none) zA0)
  (h1:autoParam ((RZ [.Subscript (.Name x p1) b p2] X.env).map (·.2)=[Sy (.Subscript (.Name x p1) b p2) X.env]) zA0):WDS X (.Assign [.Subscript (.Name x p1) b p2] e pos) (sf i te tb):=⟨have he:=he.out;have hb:=hb.out;(jF he (we (fB hN hv hd i6) hb xy ha) hs hw h1).anti λE s H q=>by
 obtain⟨B,F0,F,z,k,rs,ED,h,e⟩:=q;unfold sf at h;split at h
 .rename_i ds ez;refine#[B,F,z,k.kf,rs,_,h,λd v F1 H1 g1 hx rv=>?_];obtain⟨a,vs,q1,q2,q3,q4,q5⟩:=(rs.grow g1).own i ds ez;refine#[.ref a,q1,B,F1,z,k.kf.grow g1,rs.grow g1,_,hx,λy w F2 H2 g2 hy ry=>?_];split at hy
  .obtain⟨j,ej,hn⟩:=hy;have r2:=(rs.grow g1).grow g2;have k2:=(k.grow g1).grow g2;have Ko:F2 a=none:=g2.out a q4 (by rw[q2];exact λz=>nomatch z);refine#[a,vs,_,j,rfl,rep_int.mp ry,g2.hh _ _ q2,by rw[q5.length];exact ej,?_];obtain⟨k3,r3⟩:=r2.change k2 ez q1 q3 Ko (Reps.put (rv.mono g2.ff) j (q5.mono g2.ff));exact e.nx _ s F2 _ k3 hn r3
  .exact hy.elim
 .exact h.elim⟩
end
end My
namespace My
open Exc
abbrev XD:=E_->List (E_×D)->Prop
def ErrD(K:Ex)(F:Hp)(x:E_)(fs:List (E_×D))(C:KF)(od:Option KF):Prop:=
 nsIn K Pi x=be (be (.ref C))/\∃vs,RepF K F fs vs/\((od=s_/\vs=[])\/∃b,od=be b/\F b=be (.xd vs))
abbrev SpX:=List D->(D->Prop)->XD->Prop
def lSpX(K:Ex)(S:SpX):Sp:=λvs H Q E=>∃F ds,Same F H/\Reps K F ds vs/\∃(R:D->Prop) (RX:XD),S ds R RX/\(∀d v F' H',Grow F H F' H'->R d->Rep K F' d v->Q v H')/\
 ∀x fs C od F' H',Grow F H F' H'->RX x fs->ErrD K F' x fs C od->E (.ref C) od H'
def Exd(X:Cx)(H:Hp)(s:KM)(e C:KF)(od:Option KF):Prop:=
  H e=s_/\X.s₀.heap.get? e=s_/\(∀p∈X.pn,p.1≠e)/\
  ((∃sl vs,s.heap.get? e=be #[.ref C,od,.fields vs,sl]/\vs[1]?=be .none)\/
    ∃T,ExAt s.heap e C od T .none/\X.s₀.heap.get? T=s_/\H T=s_/\∀p∈X.pn,p.1≠T)
def XOk(X:Cx)[J:Jx]:Prop:=∀(σ:L2.St) (z:SD) (F H:Hp) (s:KM) (e C:KF) (od:Option KF) (x:E_) (fs:List (E_×D)),Inv X [] σ H s->Kept J.B J.F0 F H->RepS X.K J.B F H z σ->J.RX z x fs->ErrD X.K F x fs C od->Exd X H s e C od->X.xe (.ref e) s
variable{X:Cx}{pins:List (KF×R_)}{σ:L2.St}{H:Hp}{s:KM}
def Inv.nopins(I:Inv X pins σ H s):Inv X [] σ H s:=I.pins_of λp hp=>by cases hp
section
variable {X:Cx}{k:Nat}{f:KF}{fd:R4}{ps:List E_}{sp:Sp}{E:XK}
def gT{pins:List (KF×R_)}{σ:L2.St}{H:Hp}{s:KM}{Q:VK}{us:List KB}{vs:List V}(F:FnOk X.prog X.w X.K X.mg X.base (CX1 X.prog X.w) k f fd ps sp)(hr:Room k X.A)(hb:Binds X.K fd ps [])
  (hx:∀e s',CX1 X.prog X.w X.stack H s E e s'->X.xe e s') (I:Inv X pins σ H s) (r:Vals vs us) (h:sp vs H Q E):RR (RS X.prog X.w) X.A (call (.ref f) us) (EP X pins σ Q) X.xe s:=by
 have hl:us.length=ps.length:=by rw[<-L2.Vals.length r];exact F.len _ _ _ _ h
 have l_:=hb s us I.kIn (by rw[GB];exact hl);rw[GB]at l_;refine Tv (SL (F.run X.A X.stack s H #[us,[]] us vs Q E hr I.env0 l_ r h) λr s' hq=>?_);cases r with
 |error e=>exact hx e s' hq
 |ok fl=>
  cases fl with
  |ret u=>exact I.after hq
  |next=>exact False.elim hq
  |brk=>exact False.elim hq
  |cont=>exact False.elim hq
end
def dP{b:KF}(I:Inv X pins σ H s)(hex:X.ex=[])(q:s.heap.get? b=s_):X.s₀.heap.get? b=none:=by
 cases z:X.s₀.heap.get? b with
 |none=>rfl
 |some o=>
  obtain⟨o',z'⟩:=I.base.there b o z (by rw[hex];simp);rw[q]at z';cases z'
def pn_free{b:KF}(I:Inv X pins σ H s)(q:s.heap.get? b=s_):∀p∈X.pn,p.1≠b:=λp hp z=>by
 have:=(I.pin p (G0 _ hp)).1;rw[z,q]at this;cases this
def XOk.out[J:Jx](hx:XOk X)(hex:X.ex=[]){z:SD}{s':KM}{ev:KB}(I:Inv X pins σ H s)
  (h:CX1 X.prog X.w X.stack H s (λCv od H'=>∃x fs C F',Cv=.ref C/\Kept J.B J.F0 F' H'/\RepS X.K J.B F' H' z σ/\J.RX z x fs/\ErrD X.K F' x fs C od) ev s'):X.xe ev s':=by
 obtain⟨e,C,od,T,H',rfl,G',hb,un,hok,Nf,ne,nT,He,HT,x,fs,C',F',hC,kk,rr,hR,er⟩:=h;cases hC;have I':Inv X pins σ H' s':=I.call' G' un hok hb (λb z=>absurd z Ld);exact hx σ z F' H' s' e C od x fs (Inv.nopins I') kk rr hR er #[He,dP I hex ne,pn_free I ne,.inr #[T,Nf,dP I hex nT,HT,pn_free I nT]]
abbrev CalX(P:RQ)(w:RU)(K:Ex)(mg:E_->Option KB)(base:RW)(n:Nat)(x:E_)(ps:List E_)(S:SpX):Prop:=Cal P w K mg base n x ps (lSpX K S)
def zo[J:Jx](S:SpX)(t:TDA):TD:=λz R=>t z λds=>S ds R (J.RX z)
variable{ps:List E_}{x:E_}
def fS[J:Jx]{pos:R6}{n m:Nat}{S:SpX}{p:R6}{e:RP}{es:List RP}{t:TDA}(C:CalX X.prog X.w X.K X.mg X.base n x ps S)(hx:XOk X)(hr:Room m X.A)(ha:WDA X (e::es) t)(hex:autoParam (X.ex=[]) zA0)(hg:autoParam (Gl X x) zA0)(hn:autoParam (n<=m) zA1)(f6:autoParam (zND x) zA1)
  (he:autoParam (zSE X e es) zA0) (c9:autoParam (zPL X pos es) zA0):WDE X (.Call (.Name x p) (e::es) [] pos) (zo S t):=⟨by
 have ha:=ha.out;obtain⟨f,fd,F,hb,hk,hm⟩:=C;intro pins s σ H Q I h;obtain⟨B,Fr,z,kf,rs,R,h1,h2⟩:=h;obtain rfl:B=J.B:=kf.eb;refine Sb (dF I hg hm ?_ f6);refine callWith_K (h₀:=X.base) I.ok.mod.kin hk (thn (ha pos pins s σ H (λvs H1=>lSpX X.K S vs H1 Q (λCv od H'=>∃x fs C F',Cv=.ref C/\Kept J.B J.F0 F' H'/\RepS X.K J.B F' H' z σ/\J.RX z x fs/\ErrD X.K F' x fs C od)) I #[_,Fr,z,kf,rs,_,h1,λds vs F1 H1 g1 hx rx=>?_]) λus s1 ⟨vs,H1,I1,r,q⟩=>#[I1.kIn,?_]) he c9
 .exact#[F1,ds,g1.fh,rx,R,J.RX z,hx,λd v F' H' g=>h2 d v F' H' (g1.trans g),λx fs C od F' H' g hR er=>#[x,fs,C,F',rfl,(kf.grow g1).grow g,(rs.grow g1).grow g,hR,er]]
 .exact gT F (hr.mono hn) hb (λe s' hq=>hx.out hex I1 hq) I1 r q⟩
section
variable {P:RQ}{w:RU}{K:Ex}{mg:E_->Option KB}{base:RW}
variable{N:List E_}
def si{qual:E_}{scope:Sl}{f:KF}{cd:KB}{A:RV}{outer:List SG}{s:KM}{H:Hp}{E':XK}{pins:List (KF×R_)}{σ:L2.St}{H':Hp}{s':KM}{e C T:KF}{od:Option KF}
  (I':Inv (cxOf (CX1 P w) P w K mg base N qual scope f cd A outer s H E') pins σ H' s') (hx:ExAt s'.heap e C od T .none) (ne:s.heap.get? e=s_) (nT:s.heap.get? T=s_) (He:H' e=s_) (HT:H' T=s_) (hE:E' (.ref C) od H'):
  (cxOf (CX1 P w) P w K mg base N qual scope f cd A outer s H E').xe (.ref e) s':=by
 show RR _ _ (Th _ _) _ _ _;unfold Th;refine Os (rg I'.ok.frames I'.stack rfl hx λh2 T2 o_ v3 p8=>flight_none (s:={s' with heap:=h2}) o_ λh3 Lp z6=>?_);have I_:s'.heap.get? T2=none:=Heap.get?_none_of_le v3;have f1:∀b,s'.heap.get? b=s_->s.heap.get? b=none:=λb q=>dP I' rfl q;have hok:HOk P w H' s'.heap:=I'.hok;have JZ:H' T2=none:=hok.fresh v3;have Qf:∀b∈[T,e],s.heap.get? b=none:=λb hb=>by
  rcases FQ.mp hb with z|z
  .rw[z];exact nT
  .rw[FO.mp z];exact ne
 have u2:Un (frs outer) [] H H' s.heap h2:=gE (show Un (frs outer) [] H H' s.heap s'.heap from I'.base) p8 Qf λb hb=>rh hb;have u3:Un (frs outer) [] H H' s.heap h3:=gE u2 z6 (λb hb=>by rw[FO.mp hb];exact f1 T2 I_) λb hb=>by cases hb
 have k2:=fJ hok p8 (λb hb=>I'.stkFree b hb) (λb hb=>by
  rcases FQ.mp hb with z|z
  .rw[z];exact HT
  .rw[FO.mp z];exact He)
 have k3:=fJ k2 z6 (λb hb=>by cases hb) (λb hb=>by rw[FO.mp hb];exact JZ);exact#[e,C,od,T2,H',rfl,I'.os,I'.bare,u3,k3,Lp,ne,f1 T2 I_,He,JZ,hE]
variable{ps:List E_}
def _root_.L2.Fun.okX{x:E_}{st:P3}{f:KF}{fd:R4}{k:Nat}{S:SpX}(T:Fun K x x st f fd)(F:FnScope N ps (ao st))(len:∀ds R RX,S ds R RX->ds.length=ps.length)
  (a_:∀(cdv:KB) (A:RV) (outer:List SG) (s:KM) (H:Hp) (E:XK) (J:Jx),Room k (A.deeper (R' x (ao st) s.heap.objs.size f cdv))->XOk (cxOf (CX1 P w) P w K mg base N x (ao st) f cdv A outer s H E)->
   ∃t,DSs (cxOf (CX1 P w) P w K mg base N x (ao st) f cdv A outer s H E) (aQ st) t/\∀ds R RX,(∀z,J.RX z=RX)->S ds R RX->t {nx:=λ_=>R .non,rt:=R} (startD N ds)):FnOk P w K mg base (CX1 P w) (k+1) f fd ps (lSpX K S):=by
 refine Fun.okC T F (λvs H Q E h=>?_) (λcdv A outer s H vs Q E hr h=>?_)
 .obtain⟨F,ds,fh,rs,R,RX,h,_⟩:=h;rw[rs.length];exact len ds R RX h
 .obtain⟨F,ds,fh,rs,R,RX,h,q,qx⟩:=h
  letI:Jx:=#[H,F,λ_=>RX]
  have hx:XOk (cxOf (CX1 P w) P w K mg base N x (ao st) f cdv A outer s H E):=by
   intro σ z F' H' s' e C od y fs I kk rr hR er ⟨He,ne,_,hx⟩;have hE:E (.ref C) od H':=qx y fs C od F' H' #[kk.f0,kk.fh,kk.bh,kk.out] hR er;rcases hx with⟨sl,vs,h1,h2⟩|⟨T,h1,h2,h3,_⟩
   .exact rj I h1 h2 He ne hE
   .exact si I h1 ne h2 He h3 hE
  obtain⟨t,ht,hq⟩:=a_ cdv A outer s H E inferInstance hr hx;refine#[_,ht,H,F,F,startD N ds,#[Same.refl H,fh,Same.refl F,λ_ h _=>h,rfl,Same.refl F,λ_ h _=>h],fK rs,_,hq ds R RX (λ_=>rfl) h,#[λz' s' F' H' k hn _=>q _ _ F' H' #[k.f0,k.fh,k.bh,k.out] hn (rep_non.mpr rfl),λd v F' H' k hd rd=>q d v F' H' #[k.f0,k.fh,k.bh,k.out] hd rd,λ_ _ _ _ _ h _=>h.elim,λ_ _ _ _ _ h _=>h.elim]]
def Tx.okX{x:E_}{st:P3}{k:Nat}{S:SpX}(T:Tx K mg x st ps)(F:FnScope N ps (ao st))(len:∀ds R RX,S ds R RX->ds.length=ps.length)
  (a_:∀(f:KF) (cdv:KB) (A:RV) (outer:List SG) (s:KM) (H:Hp) (E:XK) (J:Jx),Room k (A.deeper (R' x (ao st) s.heap.objs.size f cdv))->XOk (cxOf (CX1 P w) P w K mg base N x (ao st) f cdv A outer s H E)->
   ∃t,DSs (cxOf (CX1 P w) P w K mg base N x (ao st) f cdv A outer s H E) (aQ st) t/\∀ds R RX,(∀z,J.RX z=RX)->S ds R RX->t {nx:=λ_=>R .non,rt:=R} (startD N ds)):CalX P w K mg base (k+1) x ps S:=by
 obtain⟨f,fd,T,hb,hm⟩:=T;exact#[f,fd,T.okX F len λcdv A outer s H E J hr hx=>a_ f cdv A outer s H E J hr hx,hb,T.kp,hm]
end
variable{P:RQ}{w:RU}{h:RW}
def ObjOk.there{a:KF}{o:HO}(x:ObjOk P w H h a o):∃u,h.get? a=be u:=by
 cases o with
 |lst xs=>obtain⟨_,_,_,_,e⟩:=x;exact#[_,e]
 |tup xs=>obtain⟨_,_,_,o,e,_⟩:=x;exact#[_,e]
 |dK a8=>obtain⟨_,_,_,_,o,_,_,e,_⟩:=x;exact#[_,e]
 |dT a8=>obtain⟨_,_,_,_,o,_,_,e,_⟩:=x;exact#[_,e]
 |set S n=>obtain⟨o,_,_,_,e,_⟩:=x;exact#[_,e]
 |ins C dx fs=>obtain⟨_,_,_,e,_⟩:=x;exact#[_,e]
 |own y=>exact x
 |xd fs=>obtain⟨_,⟨_,_,_,e,_⟩,_⟩:=x;exact#[_,e]
 |rng lo hi=>obtain⟨_,_,_,e⟩:=x;exact#[_,e]
 |frz ob u=>obtain⟨e,_⟩:=x;exact#[_,e]
 |tbl ps=>exact#[_,(show h.get? a=be _ from x)]
 |met f y=>exact#[_,(show h.get? a=be _ from x)]
 |ext φ=>obtain⟨_,e,_⟩:=x;exact e
def sj{a:KF}(x:HOk P w H h)(e:h.get? a=s_):H a=none:=by
 cases q:H a with
 |none=>rfl
 |some o=>
  obtain⟨u,hu⟩:=ObjOk.there (x a o q);rw[e]at hu;cases hu
structure ErrK(K:Ex)(mg:Str->Option KB)(x:Str)(C N:KF)(bm:List KB):Prop where
 ns:nsIn K Pi x=be (be (.ref C))
 mg:mg x=be (.ref C)
 kp:keepIn K (.ref C)=true
 obj:∃nm q bs sn sub ab col dd k0 k1 k2 k3 k5,K.lookup C=be (Sk nm q C N bs bm true sn sub ab col dd k0 k1 k2 k3 k5 "ValueError.__new__")
 tail:tailIn K veLine bm=true
structure ErrN(K:Ex)(N:KF):Prop where
 ok:nsOkIn K N=true
 no:nsIn K N "__init__"=be s_
def ku{K:Ex}:∀{l:List KB},tailIn K veLine l=true->bc l=true
 |[],e=>by simp[tailIn,veLine]at e
 |v::r,e=>by
  unfold tailIn at e;rcases Bool.or_eq_true_iff.mp e with q|q
  .rw[beq_iff_eq.mp q];decide+kernel
  .split at q
   .split at q
    .simp only[Gg,beq_iff_eq]at q;unfold bc;exact ku q.2
    .cases q
   .cases q
variable{K:Ex}{mg:E_->Option KB}{C N:KF}{bm:List KB}
def ErrK.base(k:ErrK K mg x C N bm):bm.contains (.type "BaseException")=true:=ra Kl (ku k.tail)
section
variable {X:Cx}[J:Jx]{x:E_}{C N:KF}{bm:List KB}{e:RP}{es:List RP}{t:TDA}{p cpos pos:R6}
def zp(x:E_)(t:TDA):TSD:=λ_ z=>t z λds=>ds.length<=1000/\J.RX z x []
def so(h:∃C N bm,ErrK X.K X.mg x C N bm/\ErrN X.K N)(hx:XOk X)(hc:X.calm=true)(ha:WDA X (e::es) t)(hex:autoParam (X.ex=[]) zA0)(hg:autoParam (Gl X x) zA0)(f6:autoParam (zND x) zA1)
  (he:autoParam (zSE X e es) zA0) (c9:autoParam (zPL X cpos es) zA0):WDS X (.Raise (be (.Call (.Name x p) (e::es) [] cpos)) s_ pos) (zp x t):=⟨by
 have ha:=ha.out;obtain⟨C,N,bm,k,kn⟩:=h;intro pins s σ H D I h;obtain⟨B,F0,F,z,kf,rs,ED,h,ee⟩:=h;obtain rfl:B=J.B:=kf.eb;obtain⟨nm,q,bs,sn,sub,ab,col,dd,k0,k1,k2,k3,k5,lk⟩:=k.obj;refine xW (nm:=nm) (q:=q) (C:=C) (N:=N) (bs:=bs) (bm:=bm) (hdct:=true) (sn:=sn) (sub:=sub) (ab:=ab) (col:=col) (dd:=dd) (k0:=k0) (k1:=k1) (k2:=k2) (k3:=k3) (k5:=k5) (newId:="ValueError.__new__") k.base (I.ok.hd hc) ?_;refine Sb (dF I hg k.mg ?_ f6);refine callWith_K (h₀:=X.base) I.ok.mod.kin k.kp (thn (ha cpos pins s σ H (λvs H1=>∃F1,vs.length<=1000/\Grow F H F1 H1/\J.RX z x []) I #[_,F,z,kf.kf,rs,_,h,λds vs F1 H1 g1 hx rx=>#[F1,by rw[rx.length];exact hx.1,g1,hx.2]]) λus s1 hh=>#[hh.elim λ_ h=>h.elim λ_ h=>h.1.kIn,?_]) he c9;obtain⟨vs,H1,I1,r,F1,hl,g1,hR⟩:=hh;have hC:=I1.kIn _ _ lk;obtain⟨hp,gg,dr,tk,os⟩:=s1;refine wpAny_call_exc_subT PySem.F.excBase_ValueError (tail_of_in I1.kIn k.tail) hC (.of_isNs (isNs_of_in I1.kIn kn.ok)) (nsMap_none_of_in I1.kIn kn.ok kn.no) (λh' ea hm=>?_) (by show us.length<=_;rw[<-L2.Vals.length r];exact sz hl);obtain⟨ta,h1,h2,h3⟩:=hm.there;have I2:Inv X pins σ H1 #[h',gg,dr,tk,os]:=I1.kept (t':=tk) hm.keeps;refine#[ea,ta,s_,[].toArray,rfl,hm.keeps _ _ hC,h1,?_];exact hx σ z F1 H1 _ ea C s_ x [] (Inv.nopins I2) (kf.kf.grow g1) (rs.grow g1) hR #[k.ns,[],repf_nil.mpr rfl,.inl #[rfl,rfl]] #[sj I1.hok hm.new,dP I1 hex hm.new,pn_free I1 hm.new,.inl #[[].toArray,_,h1,rfl]]⟩
end
def XN(e C:KF)(od:Option KF):HO:=.ext λh=>∃t sl,h.get? e=be #[.ref C,od,.fields [.ref t,.none,.none,.none,.bool false,.none].toArray,sl]
variable{e:KF}{od:Option KF}{sl:Array (Option KB)}
def XN.ok{t:KF}(q:h.get? e=be #[.ref C,od,.fields [.ref t,.none,.none,.none,.bool false,.none].toArray,sl]):ObjOk P w H h e (XN e C od):=
 #[#[t,sl,q],#[_,q],λh1 h2 ⟨t,sl,q⟩ k=>#[t,sl,k _ q]]
def XN.get(x:HOk P w H h)(q:H e=be (XN e C od)):∃t sl,h.get? e=be #[.ref C,od,.fields [.ref t,.none,.none,.none,.bool false,.none].toArray,sl]:=(x e _ q).1
def ErrF(K:Ex)(F:Hp)(fs:List (E_×D))(od:Option KF):Prop:=∃vs,RepF K F fs vs/\((od=s_/\vs=[])\/∃b,od=be b/\F b=be (.xd vs))
def lEi(K:Ex)(C:KF)(S:SiD):Sp:=λvs H Q _=>∃e us H1 F ds,vs=.ref e::us/\H=upd H1 e (XN e C s_)/\H1 e=s_/\Same F H1/\Reps K F ds us/\
 ∃R:List (E_×D)->Prop,S ds R/\∀fs od F' H',Grow F H1 F' H'->R fs->H' e=be (XN e C od)->F' e=s_->ErrF K F' fs od->Q .non H'
def CalE(P:RQ)(w:RU)(K:Ex)(mg:E_->Option KB)(base:RW)(n:Nat)(x:E_)(ps:List E_)(S:SiD):Prop:=
 ∃C N bm f fd,ErrK K mg x C N bm/\findIn K (.ref C) "__init__"=be (be (.ref f))/\isFn K (.ref f)=true/\FnOk P w K mg base (CX1 P w) n f fd ps (lEi K C S)/\Binds K fd ps []
structure BaseK(K:Ex)(mg:Str->Option KB)(y:Str)(M:KF):Prop where
 mg:mg y=be (.ref M)
 rd:readsIn K M (.type "type")=true
 fc:findCls K (.ref M) (.type "type") "__init__"=be (.val (.builtin "ValueError.__init__"))
 sp:specialIn K (.ref M) "__getattribute__"=be (be (.builtin "type.__getattribute__"))
structure ErrA(K:Ex)(x:Str)(C:KF)(cd:ClassData):Prop where
 ns:nsIn K Pi x=be (be (.ref C))
 cl:clsIn K C=be cd
 mro:bc cd.mro=true
 hd:cd.hasDict=true
 sa:findIn K (.ref C) "__setattr__"=be (be (.builtin "object.__setattr__"))
def ErrK.a(k:ErrK K mg x C N bm)(sa:findIn K (.ref C) "__setattr__"=be (be (.builtin "object.__setattr__"))):∃cd,ErrA K x C cd:=by
 obtain⟨nm,q,bs,sn,sub,ab,col,dd,k0,k1,k2,k3,k5,lk⟩:=k.obj;exact⟨_,k.ns,by unfold clsIn;rw[lk],by
  show bc (.ref C::bm)=true;unfold bc;exact ku k.tail,rfl,sa⟩
def zq{a:KF}{o:HO}(h:H a=be o):upd H a o=H:=by
 funext b;unfold upd;by_cases q:b=a
 .rw[if_pos q,q,h]
 .rw[if_neg q]
section
variable {M:TM}{A:RV}{E:KB->KM->Prop}{h:RW}{g:Array GenState}{d:Drawn}{t:Nat}{os:OsState}
variable {nm q:E_}{C N:KF}{bs bm:List KB}{hdct:Bool}{sn:List E_}{sub:List KB}{ab:Bool}{col:Option Bool}{dd:Option KF}{k0 k1 k2 k3 k5:Option KB}{newId:String}
variable {OJ q':E_}{C' N':KF}{OK Lu:List KB}{Lv:Bool}{OL:List E_}{Lw:List KB}{OM:Bool}{Lx:Option Bool}{Mg:Option KF}{ON OO OP OQ OR:Option KB}{Ks:String}
def zr{e:KF}{oe:R_}{b:Bool}{Q:Bool->KM->Prop}(hC:h.get? C=be (Sk nm q C N bs bm hdct sn sub ab col dd k0 k1 k2 k3 k5 newId))(hD:h.get? C'=be (Sk OJ q' C' N' OK Lu Lv OL Lw OM Lx Mg ON OO OP OQ OR Ks))
  (he:h.get? e=be oe) (Kb:oe.cls=.ref C) (b8:Lu.contains (.type "BaseException")=true) (hb:(Value.ref C::bm).contains (.ref C')=b) (hq:Q b #[h,g,d,t,os]):RR M A (excMatches (.ref e) (.ref C')) Q E #[h,g,d,t,os]:=by
 have M4:(Value.ref C'::Lu).contains (.type "BaseException")=true:=by rw[H8,b8,Hy]
 have f:=tc_notTuple;unfold excMatches
 repeat(first|(with_reducible refine SB he ?_;rw[Kb])|with_reducible refine SB hD ?_|(with_reducible refine SU hD ?_;rw[M4])|(with_reducible refine SU hC ?_;rw[hb])|wp_step)
 cases b with
 |true=>wp_walk;exact hq
 |false=>wp_walk;exact hq
end
abbrev _root_.L2.Cx.held(X:Cx)(e:KF):Cx:={X with A:=X.A.mark (be (.ref e)),calm:=false,xe:=λ_ _=>False}
section
variable {X:Cx}{pins:List (KF×R_)}{σ:L2.St}{H:Hp}{s:KM}{e:KF}
def Cx.Ok.held(ok:X.Ok):(X.held e).Ok:=
 #[ok.mod,ok.kind,ok.glob,ok.blt,ok.above,ok.inj,ok.has,ok.cab,(λz=>nomatch z),ok.frames,ok.stk,ok.exf,ok.bs,ok.bsz,ok.noex,ok.exfs,ok.funs,ok.frf]
def Inv.held(I:Inv X pins σ H s):Inv (X.held e) pins σ H s:=#[Cx.Ok.held I.ok,I.os,I.bare,I.base,I.loc,I.cell,I.free,I.freeC,I.pin,I.hok,I.len]
def Inv.unheld(ok:X.Ok)(I:Inv (X.held e) pins σ H s):Inv X pins σ H s:=#[ok,I.os,I.bare,I.base,I.loc,I.cell,I.free,I.freeC,I.pin,I.hok,I.len]
def SP.unheld{D:Ends}{f:Flow}{s':KM}(ok:X.Ok)(h:SP (X.held e) pins D f s'):SP X pins D f s':=by
 cases f with
 |next=>obtain⟨σ',H',I,q⟩:=h;exact#[σ',H',Inv.unheld ok I,q]
 |brk=>obtain⟨σ',H',I,q⟩:=h;exact#[σ',H',Inv.unheld ok I,q]
 |cont=>obtain⟨σ',H',I,q⟩:=h;exact#[σ',H',Inv.unheld ok I,q]
 |ret u=>obtain⟨v,σ',H',I,r,q⟩:=h;exact#[v,σ',H',Inv.unheld ok I,r,q]
def Inv.stay{h':RW}{m8 ex:List KF}(I:Inv X pins σ H s)(st:Stay m8 ex s.heap h')(Mc:∀b∈m8,b∈frs X.stack)(hH:∀b∈ex,H b=s_)(h0:∀b∈ex,X.s₀.heap.get? b=s_)(hL:∀b∈ex,b≠X.env.locals)(hc:∀b∈ex,∀x c,X.env.cells.lookup x=be c->c≠b)
  (hp:∀b∈ex,∀p∈X.pn++pins,p.1≠b):Inv X pins σ H {s with heap:=h'}:=by
 have hok:HOk X.prog X.w H h':=fJ I.hok st (λb hb=>I.stkFree b (Mc b hb)) hH;have sub:∀b∈m8,b=X.env.locals\/b∈X.fs:=λb hb=>FQ.mp (I.stkSub b (Mc b hb));have nL:∀b o,X.s₀.heap.get? b=be o->b≠X.env.locals:=λb o q=>FW (Gj (Heap.lt_size q) I.ok.above);have OS:∀b o,X.s₀.heap.get? b=be o->b∉ex:=λb o q z=>by rw[h0 b z]at q;cases q
 have k8:∀x c v,X.env.cells.lookup x=be c->s.heap.IsCell c v->h'.IsCell c v:=λx c v e ⟨o,ho,hd⟩=>by
  obtain⟨sl,z⟩:=st.slot c o ho (λz=>hc c z x c e rfl);exact#[_,z,hd]
 refine#[I.ok,I.os,I.bare,#[λb o e n hb hx=>?_,λb o e n hb hx=>?_,I.base.free,λb o e hx=>?_,I.base.tups,I.base.frzs,I.base.tbls],?_,λy c e=>?_,I.free,I.freeC,λp Ng=>?_,hok,I.len]
 .exact st.keep b o (I.base.keep b o e n hb hx) (OS b o e) (λz=>(sub b z).elim (nL b o e) hb)
 .obtain⟨sl,e1⟩:=I.base.slot b o e n hb hx;obtain⟨u8,e2⟩:=st.slot b _ e1 (OS b o e);exact#[u8,e2]
 .obtain⟨o',e1⟩:=I.base.there b o e hx;exact st.there b o' e1
 .obtain⟨m,⟨o,es,ep,ho,r⟩,hl⟩:=I.loc;obtain⟨sl,z⟩:=st.slot _ o ho (λz=>hL _ z rfl);refine#[m,#[_,es,ep,z,r],λj y v' e1 e2 e3=>?_];obtain⟨u',r',q⟩:=hl j y v' e1 e2 e3;refine#[u',r',?_];rcases q with q|⟨k,c,e,z⟩
  .exact .inl q
  .exact .inr #[k,c,e,k8 y c _ e z]
 .obtain⟨w',z⟩:=I.cell y c e;exact#[w',k8 y c _ e z]
 .obtain⟨e,n,ne,nf,d⟩:=I.pin p Ng;exact#[st.keep _ _ e (λz=>hp _ z p Ng rfl) (λz=>(sub _ z).elim ne nf),n,ne,nf,d]
end
def subE(x c:E_):Bool:=x==c||c=="MotifError"
structure ErrsK(K:Ex)(mg:Str->Option KB)(es:List Str):Prop where
 cls:∀x∈es,∃C N bm,ErrK K mg x C N bm
 sub:∀x∈es,∀y∈es,∀C C',nsIn K Pi x=be (be (.ref C))->nsIn K Pi y=be (be (.ref C'))->mroIn K C (.ref C')=be (subE x y)
def ErrsK.has{es:List E_}(k:ErrsK K mg es){y:E_}{C' N':KF}{Lu:List KB}(hx:x∈es)(hy:y∈es)(a:ErrK K mg x C N bm)(b:ErrK K mg y C' N' Lu):(Value.ref C::bm).contains (.ref C')=subE x y:=by
 have h:=k.sub x hx y hy C C' a.ns b.ns;obtain⟨nm,q,bs,sn,sub,ab,col,dd,k0,k1,k2,k3,k5,lk⟩:=a.obj;unfold mroIn clsIn at h;rw[lk]at h;simp only[Option.bind_some,List.isEmpty_cons,Bool.false_eq_true,if_false,Option.some.injEq]at h;exact h
structure Held(X:Cx)(pins:List (KF×R_))(H:Hp)(s:KM)(e C:KF)(od:Option KF)(T:KF):Prop where
 ex:ExAt s.heap e C od T .none
 He:H e=s_
 HT:H T=s_
 e0:X.s₀.heap.get? e=s_
 T0:X.s₀.heap.get? T=s_
 eP:∀p∈X.pn++pins,p.1≠e
 TP:∀p∈X.pn++pins,p.1≠T
section
variable {X:Cx}{pins:List (KF×R_)}{σ:L2.St}{H:Hp}{s:KM}
variable{vs:Array KB}
def ky{b:KF}{o:R_}(I:Inv X pins σ H s)(h:s.heap.get? b=be o)(hd:o.data=.fields vs):b≠X.env.locals:=λz=>by
 obtain⟨m,⟨o',es,ep,ho,d7,_⟩,_⟩:=I.loc;rw[<-z,h]at ho;cases ho;rw[hd]at d7;cases d7
def fld_cell{b:KF}{o:R_}(I:Inv X pins σ H s)(h:s.heap.get? b=be o)(hd:o.data=.fields vs):∀x c,X.env.cells.lookup x=be c->c≠b:=λx c q z=>by
 obtain⟨v,o',ho,d7⟩:=I.cell x c q;rw[z,h]at ho;cases ho;rw[hd]at d7;cases d7
variable{od:Option KF}
def Held.flight{e C T:KF}{h':RW}(I:Inv X pins σ H s)(k:Held X pins H s e C od T)(hx:ExAt h' e C od T .none)(st:Stay [] [T] s.heap h'):Inv X pins σ H {s with heap:=h'}/\Held X pins H {s with heap:=h'} e C od T:=by
 obtain⟨sl,vs,oT,ts,he,h1,u_,hT,k6,h3⟩:=k.ex;refine#[Inv.stay I st (λb hb=>by cases hb) (λb hb=>?_) (λb hb=>?_) (λb hb=>?_) (λb hb=>?_) (λb hb=>?_),#[hx,k.He,k.HT,k.e0,k.T0,k.eP,k.TP]]<;>rw[FO.mp hb]
 .exact k.HT
 .exact k.T0
 .exact ky I hT k6
 .exact fld_cell I hT k6
 .exact k.TP
def XO.ok{P:RQ}{w:RU}{h:RW}{e C:KF}{sl:Array (Option KB)}(q:h.get? e=be #[.ref C,od,.fields vs,sl]):ObjOk P w H h e (XO e C od):=
 #[#[vs,sl,q],#[_,q],λh1 h2 ⟨vs,sl,q⟩ k=>#[vs,sl,k _ q]]
end
abbrev TH:=E_->List (E_×D)->TSD
def DH(X:Cx)[J:Jx](hs:List Sf)(th:TH):Prop:=
 ∀(pins:List (KF×R_)) (s:KM) (σ:L2.St) (H:Hp) (D:Ends) (e C:KF) (od:Option KF) (T:KF) (x:E_) (fs:List (E_×My.D)) (B F0 F:Hp) (z:SD) (ED:EndsD),Inv X pins σ H s->Held X pins H s e C od T->Kept B F0 F H->RepS X.K B F H z σ->ErrD X.K F x fs C od->
  th x fs ED z->EndsOk X.K B F0 ED D->RR (RS X.prog X.w) X.A (S9 (.ref e) X.env hs) (SP X pins D) X.xe s
structure WDH(X:Cx)[Jx](hs:List Sf)(th:TH):Prop where
 out:DH X hs th
section
variable {X:Cx}[J:Jx]{es:List E_}{c:E_}{b₀:P3}{J1:List P3}{pos pc:R6}{rest:List Sf}{t:TSD}{r:TH}
def zt:TH:=λ_ _ _ _=>False
def zu(es:List E_)(c:E_)(t:TSD)(r:TH):TH:=λx fs E z=>(x∈es/\c∈es)/\if subE x c=true then t E z else r x fs E z
def zv:WDH X [] zt:=#[λ_ _ _ _ _ _ _ _ _ _ _ _ _ _ _ _ _ _ _ _ _ h _=>h.elim]
def zw(hE:ErrsK X.K X.mg es)(hs:∀e,WDSs (X.held e) (b₀::J1) t)(hr:WDH X rest r)(hg:autoParam (Gl X c) zA0)(f6:autoParam (zND c) zA1):WDH X (.ExceptHandler (be (.Name c pc)) s_ (b₀::J1) pos::rest) (zu es c t r):=⟨by
 have hs:=λe=>(hs e).out;have hr:=hr.out;intro pins s σ H D e C od T x fs B F0 F z ED I hd k rs er ht ee;obtain⟨⟨OT,OU⟩,ht⟩:=ht;obtain⟨Cc,Nc,Rl,kc⟩:=hE.cls c OU;obtain⟨OV,Nx,Rm,kx⟩:=hE.cls x OT;obtain rfl:OV=C:=by have h1:=kx.ns;rw[er.1]at h1;cases h1;rfl
 have hb:=hE.has OT OU kx kc;obtain⟨nm,q,bs,sn,sub,ab,col,dd,k0,k1,k2,k3,k5,lk⟩:=kx.obj;obtain⟨OJ,q',OK,OL,Lw,OM,Lx,Mg,ON,OO,OP,OQ,OR,Qg⟩:=kc.obj;refine wpAny_handleBy_cons (codeAny_handlers_test (dF (X:=X.held e) (Inv.held I) hg kc.mg ?_ f6)) (by intro q;cases q);obtain⟨sl,vs,oT,ts,he,h1,u_,hT,k6,h3⟩:=id hd.ex;refine zr (g:=s.gens) (d:=s.drawn) (t:=s.toks) (os:=s.os) (I.kIn _ _ lk) (I.kIn _ _ Qg) he rfl kc.base hb ?_;cases Ly:subE x c with
 |true=>
  rw[Ly,if_pos rfl]at ht;refine codeAny_handlers_suite (flight_none hd.ex λh' g8 y_=>?_);obtain⟨I',_⟩:=Held.flight I hd g8 y_;exact R8 (hs e pins _ σ H D (Inv.held I') #[B,F0,F,z,k,rs,ED,ht,ee]) (λf s1 q=>SP.unheld I.ok q) λ_ _ z=>False.elim z
 |false=>
  rw[Ly,if_neg F6]at ht;exact hr pins s σ H D e OV od T x fs B F0 F z ED I hd k rs er ht ee⟩
end
abbrev _root_.L2.Cx.tried(X:Cx)(pn:List (KF×R_))(xe:KB->KM->Prop):Cx:={X with pn:=pn,xe:=xe}
section
variable {X:Cx}{pn pins:List (KF×R_)}{xe:KB->KM->Prop}{σ:L2.St}{H:Hp}{s:KM}
def Cx.Ok.tried(ok:X.Ok):(X.tried pn xe).Ok:=#[ok.mod,ok.kind,ok.glob,ok.blt,ok.above,ok.inj,ok.has,ok.cab,ok.hd,ok.frames,ok.stk,ok.exf,ok.bs,ok.bsz,ok.noex,ok.exfs,ok.funs,ok.frf]
def Inv.tried(I:Inv X pins σ H s):Inv (X.tried (X.pn++pins) xe) [] σ H s:=#[Cx.Ok.tried I.ok,I.os,I.bare,I.base,I.loc,I.cell,I.free,I.freeC,λp hp=>I.pin p (by simpa using hp),I.hok,I.len]
def Inv.untried(ok:X.Ok)(I:Inv (X.tried (X.pn++pins) xe) [] σ H s):Inv X pins σ H s:=#[ok,I.os,I.bare,I.base,I.loc,I.cell,I.free,I.freeC,λp hp=>I.pin p (by simpa using hp),I.hok,I.len]
def SP.untried{D:Ends}{f:Flow}{s':KM}(ok:X.Ok)(h:SP (X.tried (X.pn++pins) xe) [] D f s'):SP X pins D f s':=by
 cases f with
 |next=>obtain⟨σ',H',I,q⟩:=h;exact#[σ',H',Inv.untried ok I,q]
 |brk=>obtain⟨σ',H',I,q⟩:=h;exact#[σ',H',Inv.untried ok I,q]
 |cont=>obtain⟨σ',H',I,q⟩:=h;exact#[σ',H',Inv.untried ok I,q]
 |ret u=>obtain⟨v,σ',H',I,r,q⟩:=h;exact#[v,σ',H',Inv.untried ok I,r,q]
end
variable{RX:SD->XD}
def Kept.re{J:Jx}{B F0 F:Hp}(k:@Kept J B F0 F H):@Kept #[B,F0,RX] B F0 F H:=@Kept.mk #[B,F0,RX] B F0 F H k.bh k.fh k.f0 k.out rfl (Same.refl F0) (λ_ h _=>h)
def Kept.un{J:Jx}{B F0 F F' H':Hp}(k:@Kept J B F0 F H)(k':@Kept #[B,F0,RX] B F0 F' H'):@Kept J B F0 F' H':=by
 obtain⟨a,b,c,d,_,_,_⟩:=k';exact @Kept.mk J B F0 F' H' a b c d k.eb k.jf k.jo
variable{hs:List Sf}
def try_core{h₀:Sf}{σ':L2.St}{H':Hp}{s':KM}{D:Ends}{xe:KB->KM->Prop}(I2:Inv X pins σ' H' s')
  (hd:Exd (X.tried (X.pn++pins) xe) H' s' e C od) (hex:X.ex=[]) (hstk:X.stack=X.env::X.outer) (hfr:X.env.frame=be X.env.locals)
  (hh:∀s4 T2,Inv X pins σ' H' s4->Held X pins H' s4 e C od T2->RR (RS X.prog X.w) X.A (S9 (.ref e) X.env (h₀::hs)) (SP X pins D) X.xe s4):
  RR (RS X.prog X.w) X.A (SJ (.ref e) X.env) (λ_ s₂=>RR (RS X.prog X.w) X.A (S3 (.ref e) s_) (λ_ s₃=>RR (RS X.prog X.w) X.A (S9 (.ref e) X.env (h₀::hs)) (SP X pins D) X.xe s₃) X.xe s₂) X.xe s':=by
 obtain⟨He,e0,eP,hd⟩:=hd;have stk:s'.heap.FunFrames X.base (X.env::X.outer):=by rw[<-hstk];exact I2.stack
 have OW:X.A.frames=be (X.env::X.outer):=by rw[<-hstk];exact I2.ok.frames
 have fI:∀(v8:RW) (T2:KF) (ex:List KF),(∀b∈ex,H' b=s_/\X.s₀.heap.get? b=s_/\(∃o vs,s'.heap.get? b=be o/\o.data=.fields vs)/\∀p∈X.pn++pins,p.1≠b)->ExAt v8 e C od T2 (SK X.env.locals)->s'.heap.objs.size<=T2->Stay (frs (X.env::X.outer)) ex s'.heap v8->
   RR (RS X.prog X.w) X.A (S3 (.ref e) s_) (λ_ s₃=>RR (RS X.prog X.w) X.A (S9 (.ref e) X.env (h₀::hs)) (SP X pins D) X.xe s₃) X.xe {s' with heap:=v8}:=by
  intro v8 T2 ex v9 o_ v3 p8;have I_:s'.heap.get? T2=none:=Heap.get?_none_of_le v3;have I3:Inv X pins σ' H' {s' with heap:=v8}:=Inv.stay I2 p8 (λb hb=>by rw[hstk];exact hb) (λb hb=>(v9 b hb).1) (λb hb=>(v9 b hb).2.1) (λb hb=>let ⟨_,_,q1,q2⟩:=(v9 b hb).2.2.1;ky I2 q1 q2) (λb hb=>let ⟨_,_,q1,q2⟩:=(v9 b hb).2.2.1;fld_cell I2 q1 q2) (λb hb=>(v9 b hb).2.2.2);obtain⟨sl,vs,oT,ts,he,g1,u_,hT,k6,g3⟩:=id o_;have JZ:H' T2=none:=sj I2.hok I_;have T0:X.s₀.heap.get? T2=none:=dP I2 hex I_;have TP:∀p∈X.pn++pins,p.1≠T2:=λp hp z=>by
   have:=(I2.pin p hp).1;rw[z,I_]at this;cases this
  refine flight_none (s:={s' with heap:=v8}) o_ λh3 Lp z6=>?_;have I4:Inv X pins σ' H' {s' with heap:=h3}:=Inv.stay (s:={s' with heap:=v8}) I3 z6 (λb hb=>by cases hb) (λb hb=>by rw[FO.mp hb];exact JZ) (λb hb=>by rw[FO.mp hb];exact T0) (λb hb=>by rw[FO.mp hb];exact ky I3 hT k6) (λb hb=>by rw[FO.mp hb];exact fld_cell I3 hT k6) (λb hb=>by rw[FO.mp hb];exact TP);exact hh _ T2 I4 #[Lp,He,JZ,e0,T0,eP,TP]
 rcases hd with⟨sl,vs,he,hv⟩|⟨T,KH,T0,HT,TP⟩
 .refine rb OW stk hfr he hv λv8 T2 o_ v3 p8=>fI v8 T2 [e] (λb hb=>?_) o_ v3 p8;rw[FO.mp hb];exact#[He,e0,#[_,_,he,rfl],eP]
 .obtain⟨sl,vs,oT,ts,he,g1,u_,hT,k6,g3⟩:=id KH;refine rg OW stk hfr KH λv8 T2 o_ v3 p8=>fI v8 T2 [T,e] (λb hb=>?_) o_ v3 p8;rcases FQ.mp hb with z|z
  .rw[z];exact#[HT,T0,#[_,_,hT,k6],TP]
  .rw[FO.mp z];exact#[He,e0,#[_,_,he,rfl],eP]
def dTry(tb:Jx->TSD)(th:TH):TSD:=λE z=>∃RX:SD->XD,(∀J:Jx,J.RX=RX->tb J E z)/\∀z' x fs,RX z' x fs->th x fs E z'
def zx[J:Jx]{body:List P3}{h₀:Sf}{pos:R6}{tb:Jx->TSD}{th:TH}
  (hb:∀(pn:List (KF×R_)) (xe:KB->KM->Prop) (J':Jx),Sd (RS X.prog X.w) X.A X.env xe->@XOk (X.tried pn xe) J'->@DSs (X.tried pn xe) J' body (tb J'))
  (hh:DH X (h₀::hs) th) (hex:autoParam (X.ex=[]) zA0) (hstk:autoParam (X.stack=X.env::X.outer) zA0) (hfr:autoParam (X.env.frame=be X.env.locals) zA0):DS X (.Try body (h₀::hs) [] [] pos) (dTry tb th):=by
 intro pins s σ H D I h;obtain⟨B,F0,F,z,k,rs,ED,⟨RX,h1,h2⟩,ee⟩:=h;have ok:=I.ok;have hx:@XOk (X.tried (X.pn++pins) (λe s₁=>RR (RS X.prog X.w) X.A (SJ e X.env) (λ_ s₂=>RR (RS X.prog X.w) X.A (S3 e s_) (λ_ s₃=>RR (RS X.prog X.w) X.A (S9 e X.env (h₀::hs)) (SP X pins D) X.xe s₃) X.xe s₂) X.xe s₁)) #[B,F0,RX]:=by
  intro σ' z' F' H' s' e C od x fs I1 kk rr hR er hd;exact try_core (Inv.untried ok I1) hd hex hstk hfr λs4 T2 I4 hl=>hh pins _ σ' H' D e C od T2 x fs B F0 F' z' ED I4 hl (Kept.un k kk) rr er (h2 z' x fs hR) ee
 refine wpAny_Try_except (R8 (hb (X.pn++pins) _ #[B,F0,RX] PassesOwn.looking hx [] s σ H D (Inv.tried I) ?_) (λf s1 q=>?_) λe s1 q=>q)
 .refine#[B,F0,F,z,Kept.re k,rs,ED,h1 #[B,F0,RX] rfl,@EndsOk.mk #[B,F0,RX] _ _ _ _ _ (λz' s' F' H' k'=>ee.nx z' s' F' H' (Kept.un k k')) (λd v F' H' k'=>ee.rt d v F' H' (Kept.un k k')) (λz' s' F' H' k'=>ee.bk z' s' F' H' (Kept.un k k')) (λz' s' F' H' k'=>ee.ct z' s' F' H' (Kept.un k k'))]
 .have q:=SP.untried ok q;cases f with
  |next=>exact Sx q
  |ret v=>exact q
  |brk=>exact q
  |cont=>exact q
def ErrG(K:Ex)(f y:E_):Prop:=∃C cd,ErrA K y C cd/\findIn K (.ref C) "__getattribute__"=be (be (.builtin "BaseException.__getattribute__"))/\findIn K (.ref C) "__getattr__"=be s_/\findIn K (.ref C) f=be s_
def sq:tailIn K veLine veLine=true:=by
 unfold tailIn;rfl
def sr{c:KB}{d:Option KF}{es:Array DictEntry}{ep:Nat}(l:K.lookup N=be #[c,d,.dict es ep,sl])(h:es.toList.all (λe=>match e.key with|.str _ _=>true|_=>false)=true):nsOkIn K N=true:=by
 unfold nsOkIn;rw[l];dsimp only;rw[<-IK];exact h
def zy{M:KF}{c0:KB}{dd:Option KF}{cd:ClassData}(l:K.lookup M=be #[c0,dd,.cls cd,sl])(hn:cd.ns=N)(h1:nsOkIn K N=true)(h2:nsIn K N "__init__"=be s_):tailIn K veLine (.ref M::veLine)=true:=by
 unfold tailIn;subst hn;dsimp only;rw[l];dsimp only;rw[h1,h2,sq];simp
def zz:kitOne K (.ref C) (.ref C)=be true:=by
 unfold kitOne;rw[if_pos (beq_self_eq_true _)]
def gU(S:SpX):SpD:=λds R=>S ds R λ_ _=>False
def CalX.no{base:RW}{n:Nat}{S:SpX}(C:CalX P w K mg base n x ps S):CalD P w K mg base n x ps (gU S):=by
 obtain⟨f,fd,F,hb,hk,hm⟩:=C;refine#[f,fd,F.imp λvs H Q E h=>?_,hb,hk,hm];obtain⟨F,ds,fh,rs,R,h,q⟩:=h;exact#[F,ds,fh,rs,R,_,h,q,λ_ _ _ _ _ _ _ z=>z.elim]
end My
namespace My
def repS(x:E_)(n:Nat):Str:=#[(Gy n x.cps.toList).flatten.toArray]
def ss{α:Type}(l:List α):∀m:Nat,(FN m).filterMap (λk=>l[k]?)=l.take m
 |0=>by simp
 |m+1=>by
  rw[GT,List.filterMap_append,ss l m,IL];cases h:l[m]?<;>simp[h]
def zA(lo hi:Option Int)(n:Nat):Builtin.Str.strSliceIndices lo hi 1 n=(FN (HT.sIx n n hi-HT.sIx n 0 lo)).map λk=>HT.sIx n 0 lo+k:=by
 have JL:∀(i:Int) (d:Nat),max 0 (min (if i<0 then i+(n:Int)else i) (n:Int))=((HT.sIx n d (be i):Nat):Int):=by
  intro i d;show max 0 (min (if i<0 then i+(n:Int)else i) (n:Int))=(((if i<0 then(i+(n:Int)).toNat else min i.toNat n):Nat):Int);by_cases h:i<0
  .rw[if_pos h,if_pos h];lia
  .rw[if_neg h,if_neg h];lia
 have h1:Builtin.Str.strSliceIndices lo hi 1 n=sliceRange ((HT.sIx n 0 lo:Nat):Int) ((HT.sIx n n hi:Nat):Int) 1:=by
  unfold Builtin.Str.strSliceIndices;simp only[show(1:Int)>0 by decide,if_true];cases lo with
  |none=>cases hi with
   |none=>rfl
   |some j=>rw[<-JL j n];rfl
  |some i=>cases hi with
   |none=>rw[<-JL i 0];rfl
   |some j=>rw[<-JL i 0,<-JL j n]
 rw[h1];unfold sliceRange;simp only[show(1:Int)>0 by decide,if_true];have e3:(if((HT.sIx n 0 lo:Nat):Int)<((HT.sIx n n hi:Nat):Int)then(((HT.sIx n n hi:Nat):Int)-((HT.sIx n 0 lo:Nat):Int)+1-1)/1 else 0).toNat=HT.sIx n n hi-HT.sIx n 0 lo:=by
  split<;>lia
 rw[e3];apply HA;intro k _;lia
def slice_cps(y:E_)(lo hi:Option Int):Txt.slice y lo hi=#[((y.cps.toList.drop (HT.sIx y.length 0 lo)).take (HT.sIx y.length y.length hi-HT.sIx y.length 0 lo)).toArray]:=by
 have la:HT.sIx y.length 0 lo<=y.length:=HT.sIx_le _ _ (Go _) lo;have lb:HT.sIx y.length y.length hi<=y.length:=HT.sIx_le _ _ (FM _) hi;unfold Txt.slice;rw[zA];split
 .rename_i h;have hl:HT.sIx y.length y.length hi-HT.sIx y.length 0 lo=y.length:=by simpa using h
  have ha:HT.sIx y.length 0 lo=0\/y.length=0:=Kd
  rw[hl];obtain⟨cp⟩:=y;have e:(Hm (HT.sIx (Str.mk cp).length 0 lo) cp.toList)=cp.toList:=by
   rcases ha with ha|ha
   .rw[ha];rfl
   .have:cp=[].toArray:=Array.eq_empty_of_size_eq_zero ha;subst this;simp
  show(#[cp]:E_)=#[((Hm (HT.sIx (Str.mk cp).length 0 lo) cp.toList).take cp.size).toArray];rw[e,G7 Ld]
 .congr 2;rw[Iz];have:=ss (y.cps.toList.drop (HT.sIx y.length 0 lo)) (HT.sIx y.length y.length hi-HT.sIx y.length 0 lo);rw[<-this];congr 1;funext k;simp
section
variable {X:Cx}[J:Jx]{a b c e:RP}{ta tb tc te:TD}{pos:R6}
def FJ:RD2:=λx y R=>match x,y with
 |.int i,.int j=>CMul i j/\R (.int (i*j))
 |.str i,.int n=>(-(2^62)<=n/\n<=1000000/\i.length*n.toNat<=1000000)/\R (.str (repS i n.toNat))
 |.lst xs,.int n=>(-(2^62)<=n/\n<=1000000/\xs.length*n.toNat<=1000000)/\R (.lst (Gy n.toNat xs).flatten)
 |_,_=>False
def zB:SlR X (λx lo hi H Q=>∃y,x=.str y/\y.length<=sizeLine/\Q (.str (Txt.slice y lo hi)) H):=by
 intro pins s σ H x v vl vu lo hi sl Q I rx hs pl pu h;obtain⟨y,rfl,hz,q⟩:=h;obtain⟨t,rfl⟩:=rx;have fI:∀t' k,EP X pins σ Q (.str (Txt.slice y lo hi) t') {s with toks:=k}:=λt' k=>#[.str _,H,I.tok k,#[_,rfl],q];have le:=FX (Txt.slice_le y lo hi) hz;refine#["str",_,PySem.F.slot_str_getitem.lookup,Tz _ _ _,?_];cases pl with
 |none=>cases pu with
  |none=>exact Sn (l:=s_) (u:=s_) (st:=s_) hs rfl (SM #[le,fI])
  |int j tj=>exact Sn (l:=s_) (u:=be (j,tj)) (st:=s_) hs rfl (SM #[le,fI])
 |int i ti=>cases pu with
  |none=>exact Sn (l:=be (i,ti)) (u:=s_) (st:=s_) hs rfl (SM #[le,fI])
  |int j tj=>exact Sn (l:=be (i,ti)) (u:=be (j,tj)) (st:=s_) hs rfl (SM #[le,fI])
abbrev TDO:=SD->(Option Int->Prop)->Prop
def zC:TDO:=λ_ R=>R s_
def zD(te:TD):TDO:=λz R=>te z λx=>match x with|.int i=>R (be i)|_=>False
def lO(K:Ex)[J:Jx](t:TDO):TO:=λs H Q=>∃B F z,Kept B J.F0 F H/\RepS K B F H z s/\∃R:Option Int->Prop,t z R/\∀o F' H',Grow F H F' H'->R o->Q o H'
abbrev DPO(X:Cx)[Jx](e:Option RP)(t:TDO):Prop:=PO X e (lO X.K t)
structure WDPO(X:Cx)[Jx](e:Option RP)(t:TDO):Prop where
 out:DPO X e t
def PO.anti{X:Cx}{e:Option RP}{t t':TO}(h:PO X e t)(a:∀s H Q,t' s H Q->t s H Q):PO X e t':=λpins s σ H Q I q=>h pins s σ H Q I (a _ _ _ q)
def cF:WDPO X s_ zC:=⟨PO.anti qL λs H Q q=>by
 obtain⟨B,F,z,kf,rs,R,h1,h2⟩:=q;exact h2 s_ F H (Grow.refl kf.fh) h1⟩
def cG(he:WDE X e te):WDPO X (be e) (zD te):=⟨have he:=he.out;PO.anti (qM he) λs H Q q=>by
 obtain⟨B,F,z,kf,rs,R,h1,h2⟩:=q;refine#[B,F,z,kf,rs,_,h1,λx u F1 H1 g1 hx rx=>?_];split at hx
 .exact#[_,rep_int.mp rx,h2 _ F1 H1 g1 hx]
 .exact hx.elim⟩
def rdSl:D->Option Int->Option Int->(D->Prop)->Prop:=λx lo hi R=>match x with
 |.str y=>y.length<=1000000/\R (.str (Txt.slice y lo hi))
 |.lst xs=>R (.lst (cutD xs lo hi))
 |.rol xs=>R (.lst (cutD xs lo hi))
 |.tup xs=>¬(HT.sIx xs.length 0 lo=0/\HT.sIx xs.length xs.length hi=xs.length)/\R (.tup (cutD xs lo hi))
 |_=>False
def dSl(ta:TD)(tl th:TDO):TD:=λz R=>ta z λx=>tl z λlo=>th z λhi=>rdSl x lo hi R
def cH{lo hi:Option RP}{tl th:TDO}{p2:R6}(ha:WDE X a ta)(hl:WDPO X lo tl)(hu:WDPO X hi th):WDE X (.Subscript a (.Slice lo hi s_ p2) pos) (dSl ta tl th):=⟨have ha:=ha.out;have hl:=hl.out;have hu:=hu.out;(qN (SlR.or zB (SlR.or qS xq)) ha hl hu).anti λs H Q q=>by
 obtain⟨B,F,z,kf,rs,R,h1,h2⟩:=q;refine#[B,F,z,kf,rs,_,h1,λx u F1 H1 g1 hx rx=>?_];refine#[B,F1,z,kf.grow g1,rs.grow g1,_,hx,λlo F2 H2 g2 hy=>?_];refine#[B,F2,z,(kf.grow g1).grow g2,(rs.grow g1).grow g2,_,hy,λhi F3 H3 g3 hw=>?_];have g:=g1.trans (g2.trans g3);have Mh:=(rx.mono g2.ff).mono g3.ff;unfold rdSl at hw;split at hw
 .exact .inl #[_,rep_str.mp Mh,FX hw.1 Kj,h2 _ _ F3 H3 g hw.2 (rep_str.mpr rfl)]
 .obtain⟨l,vs,rfl,hq,rr⟩:=rep_lst.mp Mh;refine .inr (.inl #[l,vs,rfl,SqL.of (g3.fh _ _ hq),λp hp=>?_]);exact h2 _ _ _ _ (g.trans (Grow.new g3.fh hp _)) hw (rep_lst.mpr #[p,_,rfl,aL,(rr.cut _ _).mono (aV (g3.fh.free hp) _)])
 .obtain⟨l,vs,rfl,hq,rr⟩:=rep_rol.mp Mh;refine .inr (.inl #[l,vs,rfl,g3.fh.seq hq,λp hp=>?_]);exact h2 _ _ _ _ (g.trans (Grow.new g3.fh hp _)) hw (rep_lst.mpr #[p,_,rfl,aL,(rr.cut _ _).mono (aV (g3.fh.free hp) _)])
 .obtain⟨l,vs,rfl,hq,rr⟩:=rep_tup_mp Mh;refine .inr (.inr #[l,vs,rfl,g3.fh.tup hq,by rw[rr.length];exact hw.1,λp hp=>?_]);exact h2 _ _ _ _ (g.trans (Grow.new g3.fh hp _)) hw.2 (rep_tupS.mpr #[p,_,rfl,aL,(rr.cut _ _).mono (aV (g3.fh.free hp) _)])
 .exact hw.elim⟩
def rdIn(neg:Bool):RD2:=λx y R=>match x,y with
 |.str i,.str j=>R (.bl (if neg then !(!(Builtin.Str.occurrences j i 0 j.length 1).isEmpty)else !(Builtin.Str.occurrences j i 0 j.length 1).isEmpty))
 |x,.lst ys=>(bv x=true/\ys.all bv=true)/\R (.bl (if neg then !(ys.any λy=>eqF y x)else ys.any λy=>eqF y x))
 |x,.rol ys=>(bv x=true/\ys.all bv=true)/\R (.bl (if neg then !(ys.any λy=>eqF y x)else ys.any λy=>eqF y x))
 |x,.tup ys=>(bv x=true/\ys.all bv=true)/\R (.bl (if neg then !(ys.any λy=>eqF y x)else ys.any λy=>eqF y x))
 |_,_=>False
def gW{K:Ex}{H:Hp}{x:D}{u:V}(rx:Rep K H x u)(fx:bv x=true):∀{ys:List D} {vs:List V},Reps K H ys vs->ys.all bv=true->inV u vs=ys.any λy=>eqF y x
 |[],vs,r,_=>by rw[reps_nil.mp r];rfl
 |y::ys,vs,r,f=>by
  obtain⟨v,vr,rfl,r1,r2⟩:=reps_cons.mp r;rw[GD,Gg]at f;have ih:=gW rx fx r2 f.2;unfold inV at ih ⊢;rw[G4,G4,ih,ke r1 rx f.1 fx]
def rInV(K:Ex)(neg:Bool):R2:=λx y H Q=>(∃i j,x=.str i/\y=.str j/\Q (.bl (if neg then !(!(Builtin.Str.occurrences j i 0 j.length 1).isEmpty)else !(Builtin.Str.occurrences j i 0 j.length 1).isEmpty)) H)\/rIn K neg x y H Q
def zE{K:Ex}{neg:Bool}:aW K (rInV K neg) (rdIn neg):=by
 intro x y u v F H R Q fh h rx ry q;unfold rdIn at h;split at h
 .exact .inl #[_,_,rep_str.mp rx,rep_str.mp ry,q _ _ F H (Grow.refl fh) h (rep_bl.mpr rfl)]
 .obtain⟨⟨f1,f2⟩,h⟩:=h;obtain⟨l,vs,rfl,hq,rr⟩:=rep_lst.mp ry;exact .inr #[l,vs,rfl,.inl (fh.seq (SqL.of hq)),eF rx f1,dg rr f2,q _ _ F H (Grow.refl fh) h (rep_bl.mpr (by rw[gW rx f1 rr f2]))]
 .obtain⟨⟨f1,f2⟩,h⟩:=h;obtain⟨l,vs,rfl,hq,rr⟩:=rep_rol.mp ry;exact .inr #[l,vs,rfl,.inl (fh.seq hq),eF rx f1,dg rr f2,q _ _ F H (Grow.refl fh) h (rep_bl.mpr (by rw[gW rx f1 rr f2]))]
 .obtain⟨⟨f1,f2⟩,h⟩:=h;obtain⟨l,vs,rfl,hq,rr⟩:=rep_tup_mp ry;exact .inr #[l,vs,rfl,.inr (fh.tup hq),eF rx f1,dg rr f2,q _ _ F H (Grow.refl fh) h (rep_bl.mpr (by rw[gW rx f1 rr f2]))]
 .exact h.elim
def zF:OpR X (R5 .NotIn) (rInV X.K true):=OpR.or xC xB
end
end My
namespace L2
def Its(x:E_):It:=#[λi _=>i<x.length,λi H v H'=>H'=H/\∃c,x.cps[i]?=be c/\v=.str #[[c].toArray],λi _=>x.length<=i]
def zG{P:RQ}{w:RU}{K:Ex}{tg:RP}(x:E_)(t:Tok)(it:KF):Turn P w K tg (Its x) [it] it (λi h=>h.IsStrIter it "str_ascii_iterator" x t i) where
 mem:=Ld
 obj:=λi h st b hb=>by
  have e:b=it:=by simpa using hb
  subst e;obtain⟨o,e,c,d⟩:=st;exact#[o,e,λv z=>by rw[d]at z;cases z]
 keep:=λi h h' st k=>by
  obtain⟨o,e,r⟩:=st;exact#[o,k it Ld o e,r]
 item:=by
  intro X hP hw hK hc i pins s σ H E I hf st hg;subst hP hw hK;have hi:i<x.cps.size:=hg;obtain⟨f0,f1,f2,f3,f4,f5⟩:=hf it Ld;refine wpAny_pyNext_ascii_item st (c:=x.cps[i]) (IM hi) λh' y_ sb=>?_;have I1:Inv X pins σ H {s with heap:=h',toks:=s.toks+1}:=I.turned (t':=s.toks+1) (λb o hb e=>(sb.2 b hb).trans e) f0 f1 f3 f4 f5;obtain⟨o,e,c,d⟩:=id y_;exact#[_,rfl,jG (s:={s with heap:=h',toks:=s.toks+1}) e c d Kj #[.str #[[x.cps[i]].toArray],H,I1,#[_,rfl],#[rfl,_,IM hi,rfl],y_,λb hb=>(hf b hb).1]]
 done:=by
  intro X hP hw hK hc i pins s σ H E I hf st hg;subst hP hw hK;have hi:x.cps.size<=i:=hg;obtain⟨f0,f1,f2,f3,f4,f5⟩:=hf it Ld;exact wpAny_pyNext_ascii_end (I.ok.hd hc) st (Array.getElem?_eq_none hi) λh' eb=>#[rfl,I.turned (t':=s.toks) (λb o hb e=>eb b o hb e) f0 f1 f3 f4 f5]
 self:=λA i s Q E st hQ=>wpAny_pyIter_striter_ascii st hQ
def iStr(tl:TE):TI:=λσ H R=>tl σ H λv H1=>∃x,v=.str x/\x.cps.all (·<128)=true/\R (Its x) H1
def zH{X:Cx}{tg l:RP}{tl:TE}(hl:PE X l tl):PI X tg l (iStr tl):=by
 intro pins s σ H R I h;refine thn (hl pins s σ H _ I h) λv s1 b9=>?_;obtain⟨v1,H1,I1,r1,q1⟩:=b9;obtain⟨x,rfl,ha,q⟩:=q1;obtain⟨t,rfl⟩:=r1;refine wpAny_pyIter_ascii ha ?_;refine#[s1.heap.objs.size,[s1.heap.objs.size],_,_,H1,rfl,I1.kept (t':=s1.toks) λb o e=>Heap.get?_push_of_some _ e,zG x t _,#[_,Heap.get?_push_size _ rfl,rfl,rfl],λb hb=>?_,q];have e:b=s1.heap.objs.size:=by simpa using hb
 subst e;exact I1.fpOk (FM _) (I1.hok.fresh (FM _))
end L2
namespace My
section
variable {X:Cx}[J:Jx]{a b c e:RP}{ta tb tc te:TD}{pos:R6}
def cn(x:E_):List D:=x.cps.toList.map λc=>D.str #[[c].toArray]
def dItS(t:TD):TDI:=λz R=>t z λy=>match y with|.str x=>x.cps.all (·<128)=true/\R (cn x)|_=>False
def kz{x:E_}{k c:Nat}(h:x.cps[k]?=be c):(cn x)[k]?=be (.str #[[c].toArray]):=by
 unfold cn;rw[FT,Array.getElem?_toList,h];rfl
def gX(x:E_):(cn x).length=x.length:=by unfold cn;rw[FP];simp[Str.length]
variable {e8 iter:RP}{x:E_}{px:R6}{scope:Sl}{ti:TD}
def itS{K:Ex}:ItOk K (iStr (lE K ti)) (dItS ti):=λ{s H B F z P Q} kf rs h1 h2=>by
 refine#[B,F,z,kf,rs,_,h1,λd v F1 H1 g1 hd rd=>?_];split at hd
 .rename_i y;obtain⟨ha,hd⟩:=hd;have hl:=gX y;refine#[y,rep_str.mp rd,ha,h2 _ _ F1 H1 g1 hd #[λk F' H' G hk=>by rw[hl]at hk;exact hk,λk F' H' v H'' G hk hy=>?_,λF' H' G=>by show y.length<=_;rw[hl];exact FM _]];obtain⟨e,c,hc,rfl⟩:=hy;exact#[e,.str #[[c].toArray],kz hc,rep_str.mpr rfl]
 .exact hd.elim
end
section
variable {X:Cx}[J:Jx]{a b c e o:RP}{es:List RP}{ta tb tc te to:TD}{t:TDA}{pos:R6}
abbrev RTx:=E_->List D->(D->Prop)->Prop
def dTx(r:RTx)(to:TD)(t:TDA):TD:=λz R=>to z λx=>match x with|.str y=>t z λds=>r y ds R|_=>False
def MtS(X:Cx)(id:String)(r:RTx):Prop:=∃rv:V->List V->Hp->VK->Prop,MtR X id rv/\∀(y:E_) (ds:List D) (vs:List V) (F H:Hp) (R:D->Prop) (Q:VK),Reps X.K F ds vs->r y ds R->(∀d v,(∀G,Rep X.K G d v)->R d->Q v H)->rv (.str y) vs H Q
variable{apos cpos:R6}
def kA{name:E_}{id:String}{r:RTx}(slot:Slot "str" name id)(MU:typeOf (.builtin id)=pure (.type "method_descriptor"))(hm:MtS X id r)(ho:DE X o to)(ha:DA X (e::es) t)
  (b8:autoParam (R1 o name X.env (R3 o X.env)=R3 o X.env) zA0)
  (d9:autoParam (zHF X cpos (e::es)) zA0)
  (c5:autoParam ((apos.endLine==cpos.line)=true) zA0) (hs:autoParam (zSE X e es) zA0) (n6:autoParam (zPL X cpos es) zA0):
  DE X (.Call (.Attribute o name apos) (e::es) [] cpos) (dTx r to t):=by
 obtain⟨rv,hm,L⟩:=hm;refine(eB PySem.F.plainAttrs_str slot MU hm ho ha b8 d9 c5 hs n6).anti λs H Q q=>?_;obtain⟨B,F,z,kf,rs,R,h1,h2⟩:=q;refine#[B,F,z,kf,rs,_,h1,λx u F1 H1 g1 hx rx=>?_];split at hx
 .rename_i y;rw[rep_str.mp rx];refine#[rfl,B,F1,z,kf.grow g1,rs.grow g1,_,hx,λds vs F2 H2 g2 hy ry=>?_];exact L y ds vs F2 H2 R Q ry hy λd v rd hR=>h2 d v F2 H2 (g1.trans g2) hR (rd F2)
 .exact hx.elim
def FK:RTx:=λy ds R=>match ds with|[.str p]=>R (.bl (Txt.startswith y p))|_=>False
def rEnds:RTx:=λy ds R=>match ds with|[.str p]=>R (.bl (Txt.endswith y p))|_=>False
def ms_ends:MtS X "str.endswith" rEnds:=by
 refine#[λx vs H Q=>∃y p,x=.str y/\vs=[.str p]/\Q (.bl (Txt.endswith y p)) H,?_,?_]
 .intro pins s σ H x vs v us Q I rx rv h;obtain⟨y,p,rfl,rfl,q⟩:=h;obtain⟨t,rfl⟩:=rx;obtain⟨u,rfl,t',rfl⟩:=bS rv;exact SC.endswith #[.bl _,H,I,rfl,q]
 .intro y ds vs F H R Q r h q;unfold rEnds at h;split at h
  .obtain⟨v,vr,rfl,h1,h2⟩:=reps_cons.mp r;rw[reps_nil.mp h2,rep_str.mp h1];exact#[_,_,rfl,rfl,q _ _ (λ_=>rep_bl.mpr rfl) h]
  .exact h.elim
def zI(ho:WDE X o to)(ha:WDA X [e] t)(b8:autoParam (R1 o "endswith" X.env (R3 o X.env)=R3 o X.env) zA0)
  (d9:autoParam (zHF X cpos [e]) zA0)
  (c5:autoParam ((apos.endLine==cpos.line)=true) zA0) (hs:autoParam (zSE X e []) zA0):WDE X (.Call (.Attribute o "endswith" apos) [e] [] cpos) (dTx rEnds to t):=#[have ho:=ho.out;have ha:=ha.out;kA PySem.F.slot_str_endswith PySem.F.type_str_endswith ms_ends ho ha b8 d9 c5 hs]
def rSIndex:RTx:=λy ds R=>match ds with|[.str p]=>∃i rest,Builtin.Str.occurrences y p 0 y.length 1=i::rest/\R (.int (i:Nat))|_=>False
def zJ:MtS X "str.index" rSIndex:=by
 refine#[λx vs H Q=>∃y p i rest,x=.str y/\vs=[.str p]/\Builtin.Str.occurrences y p 0 y.length 1=i::rest/\Q (.int (i:Nat)) H,?_,?_]
 .intro pins s σ H x vs v us Q I rx rv h;obtain⟨y,p,i,rest,rfl,rfl,ho,q⟩:=h;obtain⟨t,rfl⟩:=rx;obtain⟨u,rfl,t',rfl⟩:=bS rv;exact SC.index ho #[.int _,H,I.tok _,#[_,rfl],q]
 .intro y ds vs F H R Q r h q;unfold rSIndex at h;split at h
  .obtain⟨i,rest,ho,h⟩:=h;obtain⟨v,vr,rfl,h1,h2⟩:=reps_cons.mp r;rw[reps_nil.mp h2,rep_str.mp h1];exact#[_,_,i,rest,rfl,rfl,ho,q _ _ (λ_=>rep_int.mpr rfl) h]
  .exact h.elim
def su(ho:WDE X o to)(ha:WDA X [e] t)(b8:autoParam (R1 o "index" X.env (R3 o X.env)=R3 o X.env) zA0)
  (d9:autoParam (zHF X cpos [e]) zA0)
  (c5:autoParam ((apos.endLine==cpos.line)=true) zA0) (hs:autoParam (zSE X e []) zA0):WDE X (.Call (.Attribute o "index" apos) [e] [] cpos) (dTx rSIndex to t):=#[have ho:=ho.out;have ha:=ha.out;kA PySem.F.slot_str_index PySem.F.type_str_index zJ ho ha b8 d9 c5 hs]
def Reps.init{K:Ex}{F:Hp}:∀{ds:List D} {vs:List V},Reps K F ds vs->Reps K F ds.dropLast vs.dropLast
 |[],vs,r=>by rw[reps_nil.mp r];exact reps_nil.mpr rfl
 |[d],vs,r=>by
  obtain⟨v,vr,rfl,_,h2⟩:=reps_cons.mp r;rw[reps_nil.mp h2];exact reps_nil.mpr rfl
 |d::d2::ds,vs,r=>by
  obtain⟨v,vr,rfl,h1,h2⟩:=reps_cons.mp r;obtain⟨v2,Rn,rfl,h3,h4⟩:=reps_cons.mp h2;rw[IN,IN];exact reps_cons.mpr #[v,_,rfl,h1,Reps.init h2]
end
end My
namespace My
open Exc
section
variable {X:Cx}{a b c e:RP}{ta tb tc te:TD}{pos:R6}{st:P3}{rest:List P3}{t u:TSD}
def aT[Jx]{c:RP}{l r:List P3}{tc:TDT}(hc:WDT X c tc)(ha:WDSs X l t)(hb:WDSs X r u):WDS X (.If c l r pos) (dIfS tc t u):=#[rL (c:=c) (l:=l) (r:=r) (tc:=tc) (hc:=hc.out) (ha:=ha.out) (hb:=hb.out)]
end
def zK{X:Cx}[J:Jx]{body:List P3}{h₀:Sf}{hs:List Sf}{pos:R6}{tb:Jx->TSD}{th:TH}(hb:∀(pn:List (KF×R_)) (xe:KB->KM->Prop) (J':Jx),Sd (RS X.prog X.w) X.A X.env xe->@XOk (X.tried pn xe) J'->@WDSs (X.tried pn xe) J' body (tb J'))(hh:WDH X (h₀::hs) th)(hex:autoParam (X.ex=[]) zA0)(hstk:autoParam (X.stack=X.env::X.outer) zA0)(hfr:autoParam (X.env.frame=be X.env.locals) zA0):WDS X (.Try body (h₀::hs) [] [] pos) (dTry tb th):=#[zx (X:=X) (body:=body) (h₀:=h₀) (hs:=hs) (pos:=pos) (tb:=tb) (th:=th) (hb:=λa b c d e=>(hb a b c d e).out) (hh:=hh.out) (hex:=hex) (hstk:=hstk) (hfr:=hfr)]
section
variable {P:RQ}{w:RU}{K:Ex}{mg:E_->Option KB}{base:RW}
variable{x:E_}{st:P3}{N ps:List E_}{k:Nat}
def _root_.L2.Fun.okDW{qual:E_}{f:KF}{fd:R4}{S:SpD}(T:Fun K x qual st f fd)(F:FnScope N ps (ao st))(len:∀ds R,S ds R->ds.length=ps.length)
  (a_:∀(cdv:KB) (A:RV) (outer:List SG) (s:KM) (H:Hp) (E:XK) (J:Jx),Room k (A.deeper (R' qual (ao st) s.heap.objs.size f cdv))->
   ∃t,WDSs (cxOf (Exc.CX1 P w) P w K mg base N qual (ao st) f cdv A outer s H E).nox (aQ st) t/\∀ds R,S ds R->t {nx:=λ_=>R .non,rt:=R} (startD N ds)):FnOk P w K mg base (Exc.CX1 P w) (k+1) f fd ps (lSp K S):=
 T.okD F len λcdv A outer s H E J hr=>let ⟨t,h,q⟩:=a_ cdv A outer s H E J hr;#[t,h.out,q]
def Tx.okDW{S:SpD}(T:Tx K mg x st ps)(F:FnScope N ps (ao st))(len:∀ds R,S ds R->ds.length=ps.length)
  (a_:∀(f:KF) (cdv:KB) (A:RV) (outer:List SG) (s:KM) (H:Hp) (E:XK) (J:Jx),Room k (A.deeper (R' x (ao st) s.heap.objs.size f cdv))->
   ∃t,WDSs (cxOf (Exc.CX1 P w) P w K mg base N x (ao st) f cdv A outer s H E).nox (aQ st) t/\∀ds R,S ds R->t {nx:=λ_=>R .non,rt:=R} (startD N ds)):CalD P w K mg base (k+1) x ps S:=
 Tx.okD T F len λf cdv A outer s H E J hr=>let ⟨t,h,q⟩:=a_ f cdv A outer s H E J hr;#[t,h.out,q]
def Tx.okXW{S:SpX}(T:Tx K mg x st ps)(F:FnScope N ps (ao st))(len:∀ds R RX,S ds R RX->ds.length=ps.length)
  (a_:∀(f:KF) (cdv:KB) (A:RV) (outer:List SG) (s:KM) (H:Hp) (E:XK) (J:Jx),Room k (A.deeper (R' x (ao st) s.heap.objs.size f cdv))->XOk (cxOf (CX1 P w) P w K mg base N x (ao st) f cdv A outer s H E)->
   ∃t,WDSs (cxOf (CX1 P w) P w K mg base N x (ao st) f cdv A outer s H E) (aQ st) t/\∀ds R RX,(∀z,J.RX z=RX)->S ds R RX->t {nx:=λ_=>R .non,rt:=R} (startD N ds)):CalX P w K mg base (k+1) x ps S:=
 Tx.okX T F len λf cdv A outer s H E J hr hx=>let ⟨t,h,q⟩:=a_ f cdv A outer s H E J hr hx;#[t,h.out,q]
def Cls.okIW{qual:E_}{f C:KF}{fd:R4}{p0:E_}{S:SiD}(T:Fun K "__init__" qual st f fd)(hb:Binds K fd (p0::ps) [])(F:FnScope (p0::N) (p0::ps) (ao st))(len:∀ds R,S ds R->ds.length=ps.length)
  (hns:nsIn K Pi x=be (be (.ref C))) (l5:mg x=be (.ref C)) (mk:Mk K C f)
  (a_:∀(cdv:KB) (A:RV) (outer:List SG) (s:KM) (H:Hp) (E:XK) (J:Jx),Room k (A.deeper (R' qual (ao st) s.heap.objs.size f cdv))->
   ∃t,WDI (cxOf (Exc.CX1 P w) P w K mg base (p0::N) qual (ao st) f cdv A outer s H E).nox x (aQ st) t/\∀ds R,S ds R->t (s_::startD N ds) [] R):CalM P w K mg base (k+1) x (p0::ps) S:=
 Cls.okI T hb F len hns l5 mk λcdv A outer s H E J hr=>let ⟨t,h,q⟩:=a_ cdv A outer s H E J hr;#[t,h.out,q]
end
inductive MO where
 |ins (x:Str) (fs:List (Str×D))|lst (ds:List D)|dti (a8:List ((Int×Int)×Int))
abbrev MS:=List (KF×MO)
def MRep(K:Ex)(F H:Hp)(a:KF):MO->Prop
 |.ins x fs=>∃C dx ws,nsIn K Pi x=be (be (.ref C))/\H a=be (.ins C dx ws)/\RepF K F fs ws
 |.lst ds=>∃vs,H a=be (.lst vs)/\Reps K F ds vs
 |.dti a8=>H a=be (.dT (dtiV a8))
def aE(M:MS):List KF:=M.map (·.1)
def mget:MS->KF->Option MO
 |[],_=>s_
 |(b,o)::r,a=>if b=a then be o else mget r a
def mput:MS->KF->MO->MS
 |[],_,_=>[]
 |(b,p)::r,a,o=>if b=a then(b,o)::r else(b,p)::mput r a o
def mdel:MS->KF->MS
 |[],_=>[]
 |(b,p)::r,a=>if b=a then r else(b,p)::mdel r a
def cf:∀{M:MS} {a:KF} {o:MO},mget M a=be o->(a,o)∈M
 |[],_,_,h=>by cases h
 |(b,p)::r,a,o,h=>by
  unfold mget at h;split at h
  .rename_i e;subst e;cases h;exact FU
  .exact FS _ (cf h)
variable{M:MS}{a:KF}{o:MO}
def cI(h:(a,o)∈M):a∈aE M:=Gn.mpr #[_,h,rfl]
def gY:∀(M:MS) (a:KF) (o:MO),aE (mput M a o)=aE M
 |[],_,_=>rfl
 |(b,p)::r,a,o=>by
  unfold mput;split
  .rfl
  .show b::aE (mput r a o)=b::aE r;rw[gY r a o]
def mem_put:∀{M:MS} {a b:KF} {o q:MO},(aE M).Nodup->(b,q)∈mput M a o->(b=a/\q=o/\a∈aE M)\/(b≠a/\(b,q)∈M)
 |[],_,_,_,_,_,h=>by cases h
 |(c,p)::r,a,b,o,q,nd,h=>by
  have Lz:c∉aE r/\(aE r).Nodup:=GH.mp nd;unfold mput at h;split at h
  .rename_i e;subst e;rcases FQ.mp h with z|z
   .cases z;exact .inl #[rfl,rfl,FU]
   .have:b∈aE r:=cI z;exact .inr #[λe=>Lz.1 (e ▸ this),FS _ z]
  .rename_i ne;rcases FQ.mp h with z|z
   .cases z;exact .inr #[ne,FU]
   .rcases mem_put Lz.2 z with⟨e1,e2,e3⟩|⟨e1,e2⟩
    .exact .inl #[e1,e2,FS _ e3]
    .exact .inr #[e1,FS _ e2]
def kB:∀{M:MS} {a b:KF} {q:MO},(aE M).Nodup->(b,q)∈mdel M a->b≠a/\(b,q)∈M
 |[],_,_,_,_,h=>by cases h
 |(c,p)::r,a,b,q,nd,h=>by
  have Lz:c∉aE r/\(aE r).Nodup:=GH.mp nd;unfold mdel at h;split at h
  .rename_i e;subst e;exact#[λe=>Lz.1 (e ▸ cI h),FS _ h]
  .rename_i ne;rcases FQ.mp h with z|z
   .cases z;exact#[ne,FU]
   .obtain⟨e1,e2⟩:=kB Lz.2 z;exact#[e1,FS _ e2]
def del_sub:∀{M:MS} {a:KF},(aE (mdel M a)).Sublist (aE M)
 |[],_=>.slnil
 |(c,p)::r,a=>by
  unfold mdel;split
  .exact List.sublist_cons_self _ _
  .exact List.Sublist.cons_cons _ del_sub
variable{K:Ex}{F H F' H':Hp}
def MRep.mono(ff:Same F F')(hh:∀o,H a=be o->H' a=be o):∀{o:MO},MRep K F H a o->MRep K F' H' a o
 |.ins x fs,⟨C,dx,ws,n,h,r⟩=>#[C,dx,ws,n,hh _ h,RepF.mono ff fs ws r]
 |.lst ds,⟨vs,h,r⟩=>#[vs,hh _ h,Reps.mono ff ds vs r]
 |.dti a8,h=>hh _ h
def MRep.there:∀{o:MO},MRep K F H a o->H a≠s_
 |.ins x fs,⟨C,dx,ws,n,h,r⟩=>by rw[h];exact λz=>nomatch z
 |.lst ds,⟨vs,h,r⟩=>by rw[h];exact λz=>nomatch z
 |.dti a8,h=>by rw[show H a=_ from h];exact λz=>nomatch z
structure RepM(K:Ex)(F H:Hp)(M:MS):Prop where
 nd:(aE M).Nodup
 ok:∀a o,(a,o)∈M->MRep K F H a o
 fr:∀a,a∈aE M->F a=s_
def RepM.nil:RepM K F H []:=#[IG,(λ_ _ h=>nomatch h),(λ_ h=>nomatch h)]
def RepM.here(r:RepM K F H M)(h:a∈aE M):H a≠none:=by
 obtain⟨⟨b,o⟩,h1,rfl⟩:=Gn.mp h;exact(r.ok _ _ h1).there
structure GrowM(M M':MS)(F H F' H':Hp):Prop where
 ff:Same F F'
 fh:Same F' H'
 hh:∀b o,b∉aE M->H b=be o->H' b=be o
 out:∀b,b∉aE M->F b=s_->H b≠s_->F' b=s_
 ks:∀b,b∈aE M'->b∈aE M\/H b=s_
def Grow.toM(g:Grow F H F' H'):GrowM M M F H F' H':=#[g.ff,g.fh,λb o _ h=>g.hh b o h,λb _ h1 h2=>g.out b h1 h2,λb h=>.inl h]
def GrowM.refl(h:Same F H):GrowM M M F H F H:=(Grow.refl h).toM
def GrowM.trans{M1 M2:MS}{F1 H1 F2 H2:Hp}(g:GrowM M M1 F H F1 H1)(k:GrowM M1 M2 F1 H1 F2 H2):GrowM M M2 F H F2 H2 where
  ff:=g.ff.trans k.ff
  fh:=k.fh
  hh:=λb o nb h=>k.hh b o (λz=>by rcases g.ks b z with q|q;exact nb q;rw[q]at h;cases h) (g.hh b o nb h)
  out:=λb nb h1 h2=>k.out b (λz=>by rcases g.ks b z with q|q;exact nb q;exact h2 q) (g.out b nb h1 h2) (by
    cases e:H b with
    |none=>exact absurd e h2
    |some o=>rw[g.hh b o nb e];exact λz=>nomatch z)
  ks :=λb h=>by
    rcases k.ks b h with q|q
    . exact g.ks b q
    . by_cases nb:b∈aE M
      . exact .inl nb
      . right;cases e:H b with
        |none=>rfl
        |some o=>rw[g.hh b o nb e]at q;cases q
def RepM.grow(r:RepM K F H M)(g:Grow F H F' H'):RepM K F' H' M:=
 #[r.nd,λa o h=>(r.ok a o h).mono g.ff λo e=>g.hh a o e,λa h=>g.out a (r.fr a h) (r.here h)]
variable{ho:HO}
def RepM.put{o':MO}(r:RepM K F H M)(e:mget M a=be o)(h:MRep K F (upd H a ho) a o'):RepM K F (upd H a ho) (mput M a o'):=
 ⟨by rw[gY];exact r.nd,λb q hb=>by
  rcases mem_put r.nd hb with⟨rfl,rfl,_⟩|⟨ne,hb⟩
  .exact h
  .exact(r.ok b q hb).mono (Same.refl F) λu z=>by rw[aD ne];exact z,λb hb=>r.fr b (by rw[gY]at hb;exact hb)⟩
def GrowM.put{o':MO}(fh:Same F H)(fa:F a=s_)(e:mget M a=be o):GrowM M (mput M a o') F H F (upd H a ho) where
 ff:=Same.refl F
 fh:=λb u z=>by
  have ne:b≠a:=by rintro rfl;rw[fa]at z;cases z
  rw[aD ne];exact fh b u z
 hh:=λb u nb z=>by
  have ne:b≠a:=by rintro rfl;exact nb (cI (cf e))
  rw[aD ne];exact z
 out:=λb _ h _=>h
 ks:=λb h=>.inl (by rw[gY]at h;exact h)
def RepM.new{p:KF}(r:RepM K F H M)(fh:Same F H)(hp:H p=s_)(h:MRep K F (upd H p ho) p o):RepM K F (upd H p ho) ((p,o)::M):=by
 have np:p∉aE M:=λz=>r.here z hp;refine#[GH.mpr #[np,r.nd],λb q hb=>?_,λb hb=>?_]
 .rcases FQ.mp hb with z|z
  .cases z;exact h
  .exact(r.ok b q z).mono (Same.refl F) λu z'=>by rw[aD (λe:b=p=>np (e ▸ cI z))];exact z'
 .rcases FQ.mp hb with z|z
  .rw[z];exact fh.free hp
  .exact r.fr b z
def GrowM.new{p:KF}(fh:Same F H)(hp:H p=s_):GrowM M ((p,o)::M) F H F (upd H p ho) where
 ff:=Same.refl F
 fh:=fh.trans (aV hp _)
 hh:=λb u _ z=>aV hp _ b u z
 out:=λb _ h _=>h
 ks:=λb h=>by
  rcases FQ.mp h with z|z
  .exact .inr (by rw[z];exact hp)
  .exact .inl z
structure RepZ(K:Ex)(B F H:Hp)(z:SD)(s:L2.St)(M:MS):Prop where
 rs:RepS K B F H z s
 no:∀(i:Nat) ds,z[i]?≠be (be (.own ds))
 rm:RepM K F H M
 mb:∀a,a∈aE M->B a=s_
variable{B:Hp}{M':MS}
def Kept.growM[Jx]{F0:Hp}(k:Kept B F0 F H)(mb:∀a,a∈aE M->B a=s_)(g:GrowM M M' F H F' H'):Kept B F0 F' H' where
 bh:=λb o e=>g.hh b o (λz=>by rw[mb b z]at e;cases e) (k.bh b o e)
 fh:=g.fh
 f0:=k.f0.trans g.ff
 out:=λb h1 h2=>g.out b (λz=>h2 (mb b z)) (k.out b h1 h2) (by
  cases e:B b with
  |none=>exact absurd e h2
  |some o=>rw[k.bh b o e];exact λz=>nomatch z)
 eb:=k.eb
 jf:=k.jf
 jo:=k.jo
variable{z:SD}{s:L2.St}
def RepS.growM(r:RepS K B F H z s)(no:∀(i:Nat) ds,z[i]?≠be (be (.own ds)))(g:GrowM M M' F H F' H'):RepS K B F' H' z s where
 len:=r.len
 val:=λi d e n=>let ⟨v,q1,q2⟩:=r.val i d e n;#[v,q1,q2.mono g.ff]
 own:=λi ds e=>absurd e (no i ds)
 apart:=r.apart
def RepZ.growM(r:RepZ K B F H z s M)(bh:Same B H)(g:GrowM M M' F H F' H')(rm:RepM K F' H' M'):RepZ K B F' H' z s M':=
 ⟨r.rs.growM r.no g,r.no,rm,λa h=>by
  rcases g.ks a h with q|q
  .exact r.mb a q
  .exact bh.free q⟩
def RepZ.set{i:Nat}{d:D}{v:V}(r:RepZ K B F H z s M)(rd:Rep K F d v):RepZ K B F H (z.set i (be d)) (s.set i (be v)) M:=
 ⟨r.rs.set rd,λj ds e=>by
  by_cases hj:i=j
  .subst hj;rw[GS]at e;simp at e;have:=rd.noown;rw[e.2]at this;cases this
  .rw[Ge hj]at e;exact r.no j ds e,r.rm,r.mb⟩
class Jm extends Jx where
 RM:SD->MS->XD
abbrev TME:=SD->MS->(D->MS->Prop)->Prop
abbrev TMT:=SD->MS->(Bool->MS->Prop)->Prop
abbrev TMA:=SD->MS->(List D->MS->Prop)->Prop
structure EndsM where
 nx:SD->MS->Prop
 rt:D->MS->Prop
 bk:SD->MS->Prop:=λ_ _=>False
 ct:SD->MS->Prop:=λ_ _=>False
abbrev TMS:=EndsM->SD->MS->Prop
def mE(K:Ex)[J:Jm](t:TME):TE:=λs H Q=>∃F z M,Kept J.B J.F0 F H/\RepZ K J.B F H z s M/\∃R:D->MS->Prop,t z M R/\∀d v M' F' H',GrowM M M' F H F' H'->R d M'->Rep K F' d v->RepM K F' H' M'->Q v H'
def mT(K:Ex)[J:Jm](t:TMT):TT:=λs H Q=>∃F z M,Kept J.B J.F0 F H/\RepZ K J.B F H z s M/\∃R:Bool->MS->Prop,t z M R/\∀b M' F' H',GrowM M M' F H F' H'->R b M'->RepM K F' H' M'->Q b H'
def mA(K:Ex)[J:Jm](t:TMA):TA:=λs H Q=>∃F z M,Kept J.B J.F0 F H/\RepZ K J.B F H z s M/\∃R:List D->MS->Prop,t z M R/\∀ds vs M' F' H',GrowM M M' F H F' H'->R ds M'->Reps K F' ds vs->RepM K F' H' M'->Q vs H'
structure EndsOkM[J:Jm](K:Ex)(F0:Hp)(ED:EndsM)(E:Ends):Prop where
 nx:∀z' s' M' F' H',Kept J.B F0 F' H'->ED.nx z' M'->RepZ K J.B F' H' z' s' M'->E.nx s' H'
 rt:∀d v M' F' H',Kept J.B F0 F' H'->ED.rt d M'->Rep K F' d v->RepM K F' H' M'->(∀a,a∈aE M'->J.B a=s_)->E.rt v H'
 bk:∀z' s' M' F' H',Kept J.B F0 F' H'->ED.bk z' M'->RepZ K J.B F' H' z' s' M'->E.bk s' H'
 ct:∀z' s' M' F' H',Kept J.B F0 F' H'->ED.ct z' M'->RepZ K J.B F' H' z' s' M'->E.ct s' H'
def mS(K:Ex)[J:Jm](t:TMS):TS:=λE s H=>∃F0 F z M,Kept J.B F0 F H/\RepZ K J.B F H z s M/\∃ED:EndsM,t ED z M/\EndsOkM K F0 ED E
structure ME(X:Cx)[Jm](e:RP)(t:TME):Prop where
 out:PE X e (mE X.K t)
structure MT(X:Cx)[Jm](e:RP)(t:TMT):Prop where
 out:PT X e (mT X.K t)
structure MW(X:Cx)[Jm](e:RP)(t:TMT):Prop where
 out:PW X e (mT X.K t)
structure MA(X:Cx)[Jm](es:List RP)(t:TMA):Prop where
 out:PA X es (mA X.K t)
structure MSt(X:Cx)[Jm](st:P3)(t:TMS):Prop where
 out:PS X st (mS X.K t)
structure MSs(X:Cx)[Jm](st:List P3)(t:TMS):Prop where
 out:PSs X st (mS X.K t)
section
variable {X:Cx}{a b c e:RP}{ta tb:TME}{pos:R6}
def mP(t:TD):TME:=λz M R=>t z λd=>R d M
def mPT(t:TDT):TMT:=λz M R=>t z λd=>R d M
def mPA(t:TDA):TMA:=λz M R=>t z λd=>R d M
def av[J:Jm]{t:TD}(h:WDE X e t):ME X e (mP t):=⟨PE.anti h.out λs H Q q=>by
 obtain⟨F,z,M,k,r,R,h1,h2⟩:=q;exact#[J.B,F,z,k,r.rs,_,h1,λd v F' H' g hd rd=>h2 d v M F' H' g.toM hd rd (r.rm.grow g)]⟩
def cy[J:Jm]{t:TDT}(h:WDT X e t):MT X e (mPT t):=⟨PT.anti h.out λs H Q q=>by
 obtain⟨F,z,M,k,r,R,h1,h2⟩:=q;exact#[J.B,F,z,k,r.rs,_,h1,λd F' H' g hd=>h2 d M F' H' g.toM hd (r.rm.grow g)]⟩
variable{es:List RP}
def aG[J:Jm]{t:TDA}(h:WDA X es t):MA X es (mPA t):=⟨PA.anti h.out λs H Q q=>by
 obtain⟨F,z,M,k,r,R,h1,h2⟩:=q;exact#[J.B,F,z,k,r.rs,_,h1,λd v F' H' g hd rd=>h2 d v M F' H' g.toM hd rd (r.rm.grow g)]⟩
def mOp(r:RD2)(ta tb:TME):TME:=λz M R=>ta z M λx M1=>tb z M1 λy M2=>r x y λd=>R d M2
variable{r:R2}{rd:RD2}
def sy[J:Jm]{e:RP}{ta tb:TME}(L:aW X.K r rd)(h:PE X e (tOp r (mE X.K ta) (mE X.K tb))):ME X e (mOp rd ta tb):=⟨h.anti λs H Q q=>by
 obtain⟨F,z,M,k,rs,R,h1,h2⟩:=q;refine#[F,z,M,k,rs,_,h1,λx u M1 F1 H1 g1 hx rx m1=>?_];refine#[F1,z,M1,k.growM rs.mb g1,rs.growM k.bh g1 m1,_,hx,λy v M2 F2 H2 g2 hy ry m2=>?_];exact L x y u v F2 H2 _ Q g2.fh hy (rx.mono g2.ff) ry λd w F3 H3 g3 hd rd=>h2 d w M2 F3 H3 ((g1.trans g2).trans g3.toM) hd rd (m2.grow g3)⟩
def sA[J:Jm]{op:Operator}(ho:OpR X (Se op) r)(L:aW X.K r rd)(ha:ME X a ta)(hb:ME X b tb):ME X (.BinOp a op b pos) (mOp rd ta tb):=sy L (qo ho ha.out hb.out)
def sB[J:Jm](ha:ME X a ta)(hb:ME X b tb)(hs:autoParam (eA b) zA6):ME X (.Subscript a b pos) (mOp rdIx ta tb):=sy rE (pe_ix qR ha.out hb.out hs)
def gZ[Jm](ha:ME X a ta)(hb:ME X b tb):ME X (.BinOp a .Add b pos) (mOp rdAdd ta tb):=sA rl rn ha hb
def kC[Jm](ha:ME X a ta)(hb:ME X b tb):ME X (.BinOp a .Sub b pos) (mOp rdSub ta tb):=sA qp rq ha hb
def mTst(t:TME):TMT:=λz M R=>t z M λx M1=>match x with|.bl k=>R k M1|_=>False
def hU[J:Jm]{op:Te}(ho:OpR X (R5 op) r)(L:aW X.K r rd)(ha:ME X a ta)(hb:ME X b tb)(hm:Sh op b=false):MT X (.Compare a [op] [b] pos) (mTst (mOp rd ta tb)):=⟨(qy ho ha.out hb.out hm).anti λs H Q q=>by
 obtain⟨F,z,M,k,rs,R,h1,h2⟩:=q;refine#[F,z,M,k,rs,_,h1,λx u M1 F1 H1 g1 hx rx m1=>?_];refine#[F1,z,M1,k.growM rs.mb g1,rs.growM k.bh g1 m1,_,hx,λy v M2 F2 H2 g2 hy ry m2=>?_];refine L x y u v F2 H2 _ _ g2.fh hy (rx.mono g2.ff) ry λd w F3 H3 g3 hd rd=>?_;dsimp only at hd;split at hd
 .exact#[_,rep_bl.mp rd,h2 _ M2 F3 H3 ((g1.trans g2).trans g3.toM) hd (m2.grow g3)]
 .exact hd.elim⟩
def sC[Jm](ha:ME X a ta)(hb:ME X b tb):MT X (.Compare a [.Lt] [b] pos) (mTst (mOp rdLt ta tb)):=hU jJ jV ha hb (nomark _)
def hV[Jm](ha:ME X a ta)(hb:ME X b tb):MT X (.Compare a [.Eq] [b] pos) (mTst (mOp rdEq ta tb)):=hU jI jW ha hb (nomark _)
def sE[Jm](ha:ME X a ta)(hb:ME X b tb):MT X (.Compare a [.Is] [b] pos) (mTst (mOp (rdIs id) ta tb)):=hU jK jX ha hb (nomark _)
def zL[Jm](ha:ME X a ta)(hb:ME X b tb)(hm:autoParam (Sh .NotIn b=false) zA0):MT X (.Compare a [.NotIn] [b] pos) (mTst (mOp (rdIn true) ta tb)):=hU zF zE ha hb hm
variable {tA tB:TMT}{rest:List RP}
def mt_w[Jm](h:MW X a tA):MT X a tA:=#[PW.pt h.out]
def zM[Jm](ha:MT X a tA):MW X (.BoolOp .And [a] pos) tA:=#[pX ha.out]
def zN[Jm](ha:MT X a tA):MW X (.BoolOp .Or [a] pos) tA:=#[pY ha.out]
def mAnd(tA tB:TMT):TMT:=λz M R=>tA z M λk M1=>if k=true then tB z M1 R else R false M1
def mOr(tA tB:TMT):TMT:=λz M R=>tA z M λk M1=>if k=true then R true M1 else tB z M1 R
def zO[J:Jm](ha:MT X a tA)(hb:MW X (.BoolOp .And (b::rest) pos) tB):MW X (.BoolOp .And (a::b::rest) pos) (mAnd tA tB):=⟨(pZ ha.out hb.out).anti λs H Q q=>by
 obtain⟨F,z,M,k,rs,R,h1,h2⟩:=q;refine#[F,z,M,k,rs,_,h1,λx M1 F1 H1 g1 hx m1=>?_];cases x with
 |true=>exact#[F1,z,M1,k.growM rs.mb g1,rs.growM k.bh g1 m1,R,hx,λy M2 F2 H2 g2 hy m2=>h2 y M2 F2 H2 (g1.trans g2) hy m2]
 |false=>exact h2 _ M1 F1 H1 g1 hx m1⟩
def zP[J:Jm](ha:MT X a tA)(hb:MW X (.BoolOp .Or (b::rest) pos) tB):MW X (.BoolOp .Or (a::b::rest) pos) (mOr tA tB):=⟨(qa ha.out hb.out).anti λs H Q q=>by
 obtain⟨F,z,M,k,rs,R,h1,h2⟩:=q;refine#[F,z,M,k,rs,_,h1,λx M1 F1 H1 g1 hx m1=>?_];cases x with
 |false=>exact#[F1,z,M1,k.growM rs.mb g1,rs.growM k.bh g1 m1,R,hx,λy M2 F2 H2 g2 hy m2=>h2 y M2 F2 H2 (g1.trans g2) hy m2]
 |true=>exact h2 _ M1 F1 H1 g1 hx m1⟩
def mIf(tc:TMT)(ta tb:TME):TME:=λz M R=>tc z M λk M1=>if k=true then ta z M1 R else tb z M1 R
def fT[J:Jm]{tc:TMT}(hc:MT X c tc)(ha:ME X a ta)(hb:ME X b tb):ME X (.IfExp c a b pos) (mIf tc ta tb):=⟨(qc hc.out ha.out hb.out).anti λs H Q q=>by
 obtain⟨F,z,M,k,rs,R,h1,h2⟩:=q;refine#[F,z,M,k,rs,_,h1,λx M1 F1 H1 g1 hx m1=>?_];cases x with
 |true=>exact#[F1,z,M1,k.growM rs.mb g1,rs.growM k.bh g1 m1,R,hx,λd v M2 F2 H2 g2 hy rd m2=>h2 d v M2 F2 H2 (g1.trans g2) hy rd m2]
 |false=>exact#[F1,z,M1,k.growM rs.mb g1,rs.growM k.bh g1 m1,R,hx,λd v M2 F2 H2 g2 hy rd m2=>h2 d v M2 F2 H2 (g1.trans g2) hy rd m2]⟩
def mNil:TMA:=λ_ M R=>R [] M
def zQ(ta:TME)(tr:TMA):TMA:=λz M R=>ta z M λx M1=>tr z M1 λxs M2=>R (x::xs) M2
def bL[J:Jm]:MA X [] mNil:=⟨pa_nil.anti λs H Q q=>by
 obtain⟨F,z,M,k,rs,R,h1,h2⟩:=q;exact h2 [] [] M F H (GrowM.refl k.fh) h1 (reps_nil.mpr rfl) rs.rm⟩
variable{t:TMA}
def bg[J:Jm]{e:RP}{te:TME}(ha:ME X e te)(hr:MA X es t)(hs:autoParam (zSE X e es) zA0):MA X (e::es) (zQ te t):=⟨(bz ha.out hr.out hs).anti λs H Q q=>by
 obtain⟨F,z,M,k,rs,R,h1,h2⟩:=q;refine#[F,z,M,k,rs,_,h1,λx u M1 F1 H1 g1 hx rx m1=>?_];refine#[F1,z,M1,k.growM rs.mb g1,rs.growM k.bh g1 m1,_,hx,λxs us M2 F2 H2 g2 hy ry m2=>?_];exact h2 _ _ M2 F2 H2 (g1.trans g2) hy (reps_cons.mpr #[_,_,rfl,rx.mono g2.ff,ry]) m2⟩
def mTup(t:TMA):TME:=λz M R=>t z M λxs M1=>xs.length<=1000/\R (.tup xs) M1
def zR[J:Jm]{x1}(h:MA X es t):ME X (.Tuple es x1 pos) (mTup t):=⟨(qE h.out).anti λs H Q q=>by
 obtain⟨F,z,M,k,rs,R,h1,h2⟩:=q;refine#[F,z,M,k,rs,_,h1,λds vs M1 F1 H1 g1 hx rx m1=>?_];have hl:=rx.length;refine#[sz (by rw[hl];exact hx.1),λp hp=>?_];have gn:=Grow.new g1.fh hp (.tup vs);exact h2 _ _ M1 _ _ (g1.trans gn.toM) hx.2 (rep_tupS.mpr #[p,vs,rfl,aL,rx.mono (aV (g1.fh.free hp) _)]) (m1.grow gn)⟩
def mLst(t:TMA):TME:=λz M R=>t z M λxs M1=>xs.length<=1000/\∀p,p∉aE M1->R (.ptr p) ((p,.lst xs)::M1)
def zS[J:Jm](h:MA X es t):ME X (.List es pos) (mLst t):=⟨(jN h.out).anti λs H Q q=>by
 obtain⟨F,z,M,k,rs,R,h1,h2⟩:=q;refine#[F,z,M,k,rs,_,h1,λds vs M1 F1 H1 g1 hx rx m1=>?_];have hl:=rx.length;refine#[sz (by rw[hl];exact hx.1),λp hp=>?_];exact h2 _ _ _ F1 _ (g1.trans (GrowM.new g1.fh hp)) (hx.2 p λz=>m1.here z hp) (rep_ptr.mpr rfl) (m1.new g1.fh hp #[vs,aL,rx])⟩
def mCB(r:RDn)(t:TMA):TME:=λz M R=>t z M λds M1=>r ds λd=>R d M1
variable{x:E_}{p:R6}
def zT[J:Jm]{e:RP}{id:String}{r:List V->Hp->VK->Prop}{rd:RDn}(hc:bJ X (.builtin id) r)(L:cm X.K r rd)(hm:X.mg x=s_)(hv:Sa x=be (.builtin id))(ha:MA X (e::es) t)(hg:autoParam (Gl X x) zA0)(hn:autoParam (x≠"__name__") zA1)(f6:autoParam (zND x) zA1)
  (he:autoParam (zSE X e es) zA0) (c9:autoParam (zPL X pos es) zA0):ME X (.Call (.Name x p) (e::es) [] pos) (mCB rd t):=⟨(gB hc hg hm hv ha.out hn f6 he c9).anti λs H Q h=>by
 obtain⟨F,z,M,k,rs,R,h1,h2⟩:=h;refine#[F,z,M,k,rs,_,h1,λds vs M1 F1 H1 g1 hx rx m1=>?_];exact L ds vs F1 H1 _ Q g1.fh hx rx λd w F' H' g hd rd=>h2 d w M1 F' H' (g1.trans g.toM) hd rd (m1.grow g)⟩
def sF[Jm]{e:RP}(hm:X.mg "len"=s_)(ha:MA X [e] t)(hg:autoParam (Gl X "len") zA0)(he:autoParam (zSE X e []) zA0):ME X (.Call (.Name "len" p) [e] [] pos) (mCB rdLen t):=zT jL rG hm PySem.boot_len ha hg Kj Kj he
def zU[J:Jm]{e:RP}{T:String}{r:List V->Hp->VK->Prop}{rd:RDn}(hc:bJ X (.type T) r)(L:cm X.K r rd)(hm:X.mg x=s_)(hv:Sa x=be (.type T))(ha:MA X (e::es) t)(hg:autoParam (Gl X x) zA0)(hn:autoParam (x≠"__name__") zA1)(f6:autoParam (zND x) zA1)
  (he:autoParam (zSE X e es) zA0) (c9:autoParam (zPL X pos es) zA0):ME X (.Call (.Name x p) (e::es) [] pos) (mCB rd t):=⟨(jP hc hg hm hv ha.out hn f6 he c9).anti λs H Q h=>by
 obtain⟨F,z,M,k,rs,R,h1,h2⟩:=h;refine#[F,z,M,k,rs,_,h1,λds vs M1 F1 H1 g1 hx rx m1=>?_];exact L ds vs F1 H1 _ Q g1.fh hx rx λd w F' H' g hd rd=>h2 d w M1 F' H' (g1.trans g.toM) hd rd (m1.grow g)⟩
def sG[Jm](hm:X.mg "int"=s_)(ha:MA X [e] t)(hg:autoParam (Gl X "int") zA0)(he:autoParam (zSE X e []) zA0):ME X (.Call (.Name "int" p) [e] [] pos) (mCB rdInt t):=zU rN rO hm PyProof.Rows.boot_int ha hg Kj Kj he
def eQ(M:MS)(d:D)(x:E_)(fs:List (E_×D)):Prop:=match d with|.ptr a=>mget M a=be (.ins x fs)|.obj y gs=>y=x/\gs=fs|_=>False
def mFld(x f:E_)(te:TME):TME:=λz M R=>te z M λd M1=>∃fs,eQ M1 d x fs/\∃d',fs.lookup f=be d'/\R d' M1
def kD{K:Ex}{F H:Hp}{M:MS}{d:D}{v:V}{fs:List (E_×D)}(fh:Same F H)(rm:RepM K F H M)(rd:Rep K F d v)(h:eQ M d x fs):∃a C dx ws,v=.ref a/\nsIn K Pi x=be (be (.ref C))/\H a=be (.ins C dx ws)/\RepF K F fs ws:=by
 unfold eQ at h;split at h
 .rename_i a;obtain⟨C,dx,ws,n,h1,h2⟩:=rm.ok _ _ (cf h);exact#[a,C,dx,ws,rep_ptr.mp rd,n,h1,h2]
 .obtain⟨rfl,rfl⟩:=h;obtain⟨a,C,dx,ws,e,n,h1,h2⟩:=rep_obj.mp rd;exact#[a,C,dx,ws,e,n,fh _ _ h1,h2]
 .exact h.elim
def aU[J:Jm]{f:E_}(hA:ClsA X.K x f)(he:ME X e ta)(hb:autoParam (R1 e f X.env (R3 e X.env)=R3 e X.env) zA0):ME X (.Attribute e f pos) (mFld x f ta):=⟨(qC he.out hb).anti λs H Q q=>by
 obtain⟨C,hn,hc,hf⟩:=hA;obtain⟨F,z,M,k,rs,R,h1,h2⟩:=q;refine#[F,z,M,k,rs,_,h1,λd u M1 F1 H1 g1 hx rx m1=>?_];obtain⟨fs,hi,d',hl,hR⟩:=hx;obtain⟨a,C',dx,ws,rfl,m9,hH,rf⟩:=kD g1.fh m1 rx hi;rw[hn]at m9;cases m9;obtain⟨v,l,rv⟩:=rf.look hl;exact#[a,C,dx,ws,v,rfl,hH,hc,hf,l,h2 d' v M1 F1 H1 g1 hR rv m1]⟩
end
abbrev XDM:=E_->List (E_×D)->MS->Prop
abbrev SpM:=List D->MS->(D->MS->Prop)->XDM->Prop
def lSpM(K:Ex)(S:SpM):Sp:=λvs H Q E=>∃F ds M,Same F H/\Reps K F ds vs/\RepM K F H M/\∃(R:D->MS->Prop) (RX:XDM),S ds M R RX/\(∀d v M' F' H',GrowM M M' F H F' H'->R d M'->Rep K F' d v->RepM K F' H' M'->Q v H')/\
 ∀x fs C od M' F' H',GrowM M M' F H F' H'->RX x fs M'->ErrD K F' x fs C od->RepM K F' H' M'->E (.ref C) od H'
abbrev CalMM(P:RQ)(w:RU)(K:Ex)(mg:E_->Option KB)(base:RW)(n:Nat)(x:E_)(ps:List E_)(S:SpM):Prop:=Cal P w K mg base n x ps (lSpM K S)
def ofX(S:SpX):SpM:=λds M R RX=>S ds (λd=>R d M) λx fs=>RX x fs M
def ofD(S:SpD):SpM:=λds M R _=>S ds λd=>R d M
variable{vs:List V}
def zV{S:SpX}{Q:VK}{E:XK}(h:lSpM K (ofX S) vs H Q E):lSpX K S vs H Q E:=by
 obtain⟨F,ds,M,fh,rs,rm,R,RX,hS,q,qx⟩:=h;exact#[F,ds,fh,rs,_,_,hS,λd v F' H' g hd rd=>q d v M F' H' g.toM hd rd (rm.grow g),λx fs C od F' H' g hR er=>qx x fs C od M F' H' g.toM hR er (rm.grow g)]
def zW{S:SpD}{Q:VK}{E:XK}(h:lSpM K (ofD S) vs H Q E):lSp K S vs H Q E:=by
 obtain⟨F,ds,M,fh,rs,rm,R,RX,hS,q,qx⟩:=h;exact#[F,ds,fh,rs,_,hS,λd v F' H' g hd rd=>q d v M F' H' g.toM hd rd (rm.grow g)]
section
variable {P:RQ}{w:RU}{K:Ex}{mg:E_->Option KB}{base:RW}{n:Nat}{x:E_}{ps:List E_}
def CalX.toM{S:SpX}(C:CalX P w K mg base n x ps S):CalMM P w K mg base n x ps (ofX S):=by
 obtain⟨f,fd,F,hb,hk,hm⟩:=C;exact#[f,fd,F.imp λvs H Q E h=>zV h,hb,hk,hm]
def CalD.toM{S:SpD}(C:CalD P w K mg base n x ps S):CalMM P w K mg base n x ps (ofD S):=by
 obtain⟨f,fd,F,hb,hk,hm⟩:=C;exact#[f,fd,F.imp λvs H Q E h=>zW h,hb,hk,hm]
def CalMth(P:RQ)(w:RU)(K:Ex)(mg:E_->Option KB)(base:RW)(n:Nat)(x m:E_)(ps:List E_)(sp:Sp):Prop:=
 ∃C f fd,nsIn K Pi x=be (be (.ref C))/\Cls K C/\Meth K C m f/\FnOk P w K mg base (CX1 P w) n f fd ps sp/\Binds K fd ps []
variable{sp:Sp}
def Cal.mono{n':Nat}(h:Cal P w K mg base n x ps sp)(hn:n<=n'):Cal P w K mg base n' x ps sp:=by
 obtain⟨f,fd,F,h⟩:=h;exact#[f,fd,F.mono hn,h]
def Cal.imp{JY:Sp}(h:Cal P w K mg base n x ps sp)(i:∀vs H Q E,JY vs H Q E->sp vs H Q E):Cal P w K mg base n x ps JY:=by
 obtain⟨f,fd,F,h⟩:=h;exact#[f,fd,F.imp i,h]
def CalMth.imp{m:E_}{JY:Sp}(h:CalMth P w K mg base n x m ps sp)(i:∀vs H Q E,JY vs H Q E->sp vs H Q E):CalMth P w K mg base n x m ps JY:=by
 obtain⟨C,f,fd,h1,h2,h3,h4,h5⟩:=h;exact#[C,f,fd,h1,h2,h3,h4.imp i,h5]
end
def XOkM(X:Cx)[J:Jm]:Prop:=∀(σ:L2.St) (z:SD) (M:MS) (F H:Hp) (s:KM) (e C:KF) (od:Option KF) (x:E_) (fs:List (E_×D)),Inv X [] σ H s->Kept J.B J.F0 F H->RepZ X.K J.B F H z σ M->J.RM z M x fs->ErrD X.K F x fs C od->Exd X H s e C od->X.xe (.ref e) s
def EX(X:Cx)[J:Jm](z:SD)(σ:L2.St):XK:=λCv od H'=>∃x fs C M' F',Cv=.ref C/\Kept J.B J.F0 F' H'/\RepZ X.K J.B F' H' z σ M'/\J.RM z M' x fs/\ErrD X.K F' x fs C od
def XOkM.out{X:Cx}[J:Jm](hx:XOkM X)(hex:X.ex=[]){pins:List (KF×R_)}{σ:L2.St}{s s':KM}{ev:KB}(I:Inv X pins σ H s)
  (h:CX1 X.prog X.w X.stack H s (EX X z σ) ev s'):X.xe ev s':=by
 obtain⟨e,C,od,T,H',rfl,G',hb,un,hok,Nf,ne,nT,He,HT,x,fs,C',M',F',hC,kk,rr,hR,er⟩:=h;cases hC;have I':Inv X pins σ H' s':=I.call' G' un hok hb (λb z=>absurd z Ld);exact hx σ z M' F' H' s' e C od x fs (Inv.nopins I') kk rr hR er #[He,dP I hex ne,pn_free I ne,.inr #[T,Nf,dP I hex nT,HT,pn_free I nT]]
section
variable {X:Cx}[J:Jm]{a b c e o:RP}{ta tb te:TME}{pos p apos cpos:R6}{n m:Nat}{ps:List E_}{S:SpM}{x:E_}{es:List RP}{t:TMA}
def zX(S:SpM)(t:TMA):TME:=λz M R=>t z M λds M1=>S ds M1 R λx fs M'=>J.RM z M' x fs
variable{ds:List My.D}{vs:List V}
def kE{σ:L2.St}{z:SD}{M M1:MS}{F H F1 H1:Hp}{Q:VK}{R:D->MS->Prop}(k:Kept J.B J.F0 F H)(rs:RepZ X.K J.B F H z σ M)(g1:GrowM M M1 F H F1 H1)(m1:RepM X.K F1 H1 M1)(rx:Reps X.K F1 ds vs)
  (hS:S ds M1 R λx fs M'=>J.RM z M' x fs) (h2:∀d v M' F' H',GrowM M M' F H F' H'->R d M'->Rep X.K F' d v->RepM X.K F' H' M'->Q v H'):lSpM X.K S vs H1 Q (EX X z σ):=
 #[F1,ds,M1,g1.fh,rx,m1,R,_,hS,λd v M' F' H' g hd rd m'=>h2 d v M' F' H' (g1.trans g) hd rd m',λy fs C od M' F' H' g hR er m'=>#[y,fs,C,M',F',rfl,(k.growM rs.mb g1).growM (rs.growM k.bh g1 m1).mb g,(rs.growM k.bh g1 m1).growM (k.growM rs.mb g1).bh g m',hR,er]]
def bq(C:CalMM X.prog X.w X.K X.mg X.base n x ps S)(hx:XOkM X)(hr:Room m X.A)(ha:MA X (e::es) t)(hex:autoParam (X.ex=[]) zA0)(hg:autoParam (Gl X x) zA0)(hn:autoParam (n<=m) zA1)(f6:autoParam (zND x) zA1)
  (he:autoParam (zSE X e es) zA0) (c9:autoParam (zPL X pos es) zA0):
  ME X (.Call (.Name x p) (e::es) [] pos) (zX S t):=by
 obtain⟨f,fd,F,hb,hk,hm⟩:=C;refine#[λpins s σ H Q I h=>?_];obtain⟨Fr,z,M,k,rs,R,h1,h2⟩:=h;refine Sb (dF I hg hm ?_ f6);refine callWith_K (h₀:=X.base) I.ok.mod.kin hk (thn (ha.out pos pins s σ H (λvs H1=>lSpM X.K S vs H1 Q (EX X z σ)) I #[Fr,z,M,k,rs,_,h1,λds vs M1 F1 H1 g1 hx rx m1=>kE k rs g1 m1 rx hx h2]) λus s1 hh=>#[hh.elim λ_ h=>h.elim λ_ h=>h.1.kIn,?_]) he c9;obtain⟨vs,H1,I1,r,q⟩:=hh;exact gT F (hr.mono hn) hb (λe s' hq=>hx.out hex I1 hq) I1 r q
def sH(cs:List E_)(m:E_)(S:E_->SpM)(to:TME)(t:TMA):TME:=λz M R=>to z M λd M1=>∃x,x∈cs/\∃fs,eQ M1 d x fs/\fs.lookup m=s_/\t z M1 λds M2=>S x (d::ds) M2 R λx fs M'=>J.RM z M' x fs
variable{cs:List E_}{pl:Ts Bool}
def bn{nm:E_}{S:E_->SpM}(C:∀x,x∈cs->CalMth X.prog X.w X.K X.mg X.base n x nm ps (lSpM X.K (S x)))(hx:XOkM X)(hr:Room m X.A)(ho:ME X o te)(ha:MA X (e::es) t)(hex:autoParam (X.ex=[]) zA0)(hn:autoParam (n<=m) zA1)
  (j6:autoParam (zSE X e es) zA0) (c9:autoParam (zPL X pos es) zA0)
  (ht:R3 (.Call (.Attribute o nm apos) (e::es) [] pos) X.env=(do
   let ov <-R3 o X.env
   SQ apos.atName
   let (f,first) <-SF [ov] (Tb ov nm pl)
   callWith pos f first (Sz pos (RY (e::es) X.env)) (SZ pos (SE [] X.env))):=by rfl):
  ME X (.Call (.Attribute o nm apos) (e::es) [] pos) (sH cs nm S te t):=by
 refine#[λpins s σ H Q I h=>?_];obtain⟨Fr,z,M,k,rs,R,h1,h2⟩:=h;refine methodCall_KW (pl:=pl) (thn (ho.out pins s σ H (λv H1=>∃d M1 F1,GrowM M M1 Fr H F1 H1/\Rep X.K F1 d v/\RepM X.K F1 H1 M1/\∃x,x∈cs/\∃fs,eQ M1 d x fs/\fs.lookup nm=s_/\t z M1 λds M2=>S x (d::ds) M2 R λx fs M'=>J.RM z M' x fs) I #[Fr,z,M,k,rs,_,h1,λd v M1 F1 H1 g1 hd rd m1=>#[d,M1,F1,g1,rd,m1,hd]]) λu s1 hh=>?_) ht;obtain⟨v,H1,I1,rv,d,M1,F1,g1,rd,m1,x,Nh,fs,hi,hl,hq⟩:=hh;obtain⟨C',f,fd,hns,v4,LA,F,hb⟩:=C x Nh;obtain⟨a,C2,dx,ws,rfl,v_,hH,rf⟩:=kD g1.fh m1 rd hi;rw[hns]at v_;cases v_;obtain rfl:u=Value.ref a:=rv;refine qB I1 hH v4 LA (rf.none hl) ?_;refine callWith_K (first:=[.ref a]) (h₀:=X.base) I.ok.mod.kin LA.kp (thn (ha.out pos pins s1 σ H1 (λvs H2=>lSpM X.K (S x) (.ref a::vs) H2 Q (EX X z σ)) I1 #[F1,z,M1,k.growM rs.mb g1,rs.growM k.bh g1 m1,_,hq,λds vs M2 F2 H2 g2 hx rx m2=>kE k rs (g1.trans g2) m2 (reps_cons.mpr #[_,_,rfl,rd.mono g2.ff,rx]) hx h2]) λus s2 hh=>#[hh.elim λ_ h=>h.elim λ_ h=>h.1.kIn,?_]) j6 c9;obtain⟨vs,H2,I2,r,q2⟩:=hh;exact gT (us:=.ref a::us) (vs:=.ref a::vs) F (hr.mono hn) hb (λe s' hq=>hx.out hex I2 hq) I2 (.cons rfl r) q2
def dQ{nm:E_}{S:E_->SpM}(C:∀x,x∈cs->CalMth X.prog X.w X.K X.mg X.base n x nm ps (lSpM X.K (S x)))(hx:XOkM X)(hr:Room m X.A)(ho:ME X o te)(hex:autoParam (X.ex=[]) zA0)(hn:autoParam (n<=m) zA1)
  (ht:R3 (.Call (.Attribute o nm apos) [] [] pos) X.env=(do
   let ov <-R3 o X.env
   SQ apos.atName
   let (f,first) <-SF [ov] (Tb ov nm pl)
   callWith pos f first (Sz pos (RY [] X.env)) (SZ pos (SE [] X.env))):=by rfl):
  ME X (.Call (.Attribute o nm apos) [] [] pos) (sH cs nm S te mNil):=by
 refine#[λpins s σ H Q I h=>?_];obtain⟨Fr,z,M,k,rs,R,h1,h2⟩:=h;refine methodCall_KW (pl:=pl) (thn (ho.out pins s σ H (λv H1=>∃d M1 F1,GrowM M M1 Fr H F1 H1/\Rep X.K F1 d v/\RepM X.K F1 H1 M1/\∃x,x∈cs/\∃fs,eQ M1 d x fs/\fs.lookup nm=s_/\S x [d] M1 R λx fs M'=>J.RM z M' x fs) I #[Fr,z,M,k,rs,_,h1,λd v M1 F1 H1 g1 hd rd m1=>#[d,M1,F1,g1,rd,m1,hd]]) λu s1 hh=>?_) ht;obtain⟨v,H1,I1,rv,d,M1,F1,g1,rd,m1,x,Nh,fs,hi,hl,hq⟩:=hh;obtain⟨C',f,fd,hns,v4,LA,F,hb⟩:=C x Nh;obtain⟨a,C2,dx,ws,rfl,v_,hH,rf⟩:=kD g1.fh m1 rd hi;rw[hns]at v_;cases v_;obtain rfl:u=Value.ref a:=rv;refine qB I1 hH v4 LA (rf.none hl) ?_;refine callWith_K0 (first:=[.ref a]) I1.kIn LA.kp (gT (E:=EX X z σ) (us:=[.ref a]) (vs:=[.ref a]) F (hr.mono hn) hb (λe s' hq=>hx.out hex I1 hq) I1 (.cons rfl .nil) ?_);exact kE k rs g1 m1 (eI rd) hq h2
def make_of{C:KF}{S:SiD}{x:E_}{σ:L2.St}{z:SD}{M M1:MS}{F H F1 H1:Hp}{a dx:KF}{Q:VK}{E:XK}{T:List (E_×D)->Prop}(g1:GrowM M M1 F H F1 H1)(m1:RepM X.K F1 H1 M1)(rx:Reps X.K F1 ds vs)(hS:S ds T)
  (ha:H1 a=s_) (v7:H1 dx=s_) (p7:dx≠a) (q:∀fs ws dx F' H',Grow F1 H1 F' H'->T fs->H' a=be (.ins C dx ws)->F' a=s_->RepF X.K F' fs ws->Q (.ref a) H'):
  lSi X.K C S (.ref a::(vs++[])) (upd (upd H1 dx (.own a)) a (.ins C dx [])) (λv H2=>v=.non/\Q (.ref a) H2) E:=
 #[a,dx,vs,H1,F1,ds,by rw[GB],rfl,ha,v7,p7,g1.fh,rx,_,hS,λfs ws JJ F' H' g hR k7 q8 rf=>#[rfl,q fs ws JJ F' H' g hR k7 q8 rf]]
def zY(x:E_)(S:SiD)(t:TMA):TME:=λz M R=>t z M λds M1=>S ds λfs=>R (.obj x fs) M1
def hZ{S:SiD}(M:CalM X.prog X.w X.K X.mg X.base n x ps S)(hr:Room m X.A)(ha:MA X (e::es) t)(hg:autoParam (Gl X x) zA0)(hn:autoParam (n+1<=m) zA1)(f6:autoParam (zND x) zA1)
  (he:autoParam (zSE X e es) zA0) (c9:autoParam (zPL X pos es) zA0):
  ME X (.Call (.Name x p) (e::es) [] pos) (zY x S t):=by
 obtain⟨C,f,fd,hns,l5,mk,F,hb⟩:=M;refine#[(jO mk F (hr.mono hn) hg l5 hb .nil gG ha.out f6 he c9).anti λs H Q q=>?_];obtain⟨F,z,M,k,rs,R,h1,h2⟩:=q;refine#[F,z,M,k,rs,_,h1,λds vs M1 F1 H1 g1 hx rx m1=>?_];intro a dx ha v7 p7;refine make_of (σ:=s) (z:=z) (x:=x) g1 m1 rx hx ha v7 p7 λfs ws dx F' H' g hR k7 q8 rf=>?_;have s1:Same F' (upd F' a (.ins C dx ws)):=aV q8 _;have g2:Grow F1 H1 (upd F' a (.ins C dx ws)) H':=⟨g.ff.trans s1,λb o q=>by
  by_cases hb:b=a
  .subst hb;rw[aL]at q;cases q;exact k7
  .rw[aD hb]at q;exact g.fh b o q,g.hh,λb q1 q2=>by
  by_cases hb:b=a
  .subst hb;exact absurd ha q2
  .rw[aD hb];exact g.out b q1 q2⟩
 exact h2 (.obj x fs) (.ref a) M1 (upd F' a (.ins C dx ws)) H' (g1.trans g2.toM) hR (rep_obj.mpr #[a,C,dx,ws,rfl,hns,aL,RepF.mono s1 fs ws rf]) (m1.grow g2)
def zZ(x:E_)(S:SiD)(t:TMA):TME:=λz M R=>t z M λds M1=>S ds λfs=>∀a,a∉aE M1->R (.ptr a) ((a,.ins x fs)::M1)
def Aa{S:SiD}(M:CalM X.prog X.w X.K X.mg X.base n x ps S)(hr:Room m X.A)(ha:MA X (e::es) t)(hg:autoParam (Gl X x) zA0)(hn:autoParam (n+1<=m) zA1)(f6:autoParam (zND x) zA1)
  (he:autoParam (zSE X e es) zA0) (c9:autoParam (zPL X pos es) zA0):
  ME X (.Call (.Name x p) (e::es) [] pos) (zZ x S t):=by
 obtain⟨C,f,fd,hns,l5,mk,F,hb⟩:=M;refine#[(jO mk F (hr.mono hn) hg l5 hb .nil gG ha.out f6 he c9).anti λs H Q q=>?_];obtain⟨F,z,M,k,rs,R,h1,h2⟩:=q;refine#[F,z,M,k,rs,_,h1,λds vs M1 F1 H1 g1 hx rx m1=>?_];intro a dx ha v7 p7;refine make_of (σ:=s) (z:=z) (x:=x) g1 m1 rx hx ha v7 p7 λfs ws dx F' H' g hR k7 q8 rf=>?_;have na:a∉aE M1:=λz=>m1.here z ha;have m2:=m1.grow g;refine h2 (.ptr a) (.ref a) _ F' H' (g1.trans #[g.ff,g.fh,λb o _ q=>g.hh b o q,λb _ q1 q2=>g.out b q1 q2,λb q=>?_]) (hR a na) (rep_ptr.mpr rfl) #[GH.mpr #[na,m2.nd],λb o q=>?_,λb q=>?_]
 .rcases FQ.mp q with q|q
  .exact .inr (by rw[q];exact ha)
  .exact .inl q
 .rcases FQ.mp q with q|q
  .cases q;exact#[C,dx,ws,hns,k7,rf]
  .exact m2.ok b o q
 .rcases FQ.mp q with q|q
  .rw[q];exact q8
  .exact m2.fr b q
end
section
variable {X:Cx}[J:Jm]{a b c e:RP}{ta tb tc te:TME}{pos:R6}{st:P3}{rest:List P3}{t u:TMS}
def Ab:TMS:=λE z M=>E.nx z M
def mSeq(t u:TMS):TMS:=λE z M=>t {E with nx:=u E} z M
def cq:MSs X [] Ab:=⟨pss_nil.anti λE s H q=>by
 obtain⟨F0,F,z,M,k,rs,ED,h,e⟩:=q;exact e.nx z s M F H k h rs⟩
def aF(h1:MSt X st t)(h2:MSs X rest u):MSs X (st::rest) (mSeq t u):=⟨(jD h1.out h2.out).anti λE s H q=>by
 obtain⟨F0,F,z,M,k,rs,ED,h,e⟩:=q;exact#[F0,F,z,M,k,rs,{ED with nx:=u ED},h,#[λz' s' M' F' H' k' hz r'=>#[F0,F',z',M',k',r',ED,hz,e],e.rt,e.bk,e.ct]]⟩
def aJ(h1:MSt X st t):MSs X [st] t:=#[qd h1.out]
def mRet(te:TME):TMS:=λE z M=>te z M E.rt
def aS(he:ME X e te):MSt X (.Return (be e) pos) (mRet te):=⟨(qe he.out).anti λE s H q=>by
 obtain⟨F0,F,z,M,k,rs,ED,h,e⟩:=q;exact#[F,z,M,k.kf,rs,_,h,λd v M' F' H' g hd rd m'=>e.rt d v M' F' H' (k.growM rs.mb g) hd rd m' (rs.growM k.bh g m').mb]⟩
def Ac(te:TME):TMS:=λE z M=>te z M λ_ M1=>E.nx z M1
def cJ(he:ME X e te)(hs:autoParam (R9 e s_ pos.line X.env=pure false) zA0):MSt X (.Expr e pos) (Ac te):=⟨(jE he.out hs).anti λE s H q=>by
 obtain⟨F0,F,z,M,k,rs,ED,h,e⟩:=q;exact#[F,z,M,k.kf,rs,_,h,λd v M' F' H' g hd rd m'=>e.nx z s M' F' H' (k.growM rs.mb g) hd (rs.growM k.bh g m')]⟩
def mIfS(c:TMT)(t u:TMS):TMS:=λE z M=>c z M λb M1=>if b=true then t E z M1 else u E z M1
variable{l r:List P3}
def cz{c:RP}{tc:TMT}(hc:MT X c tc)(ha:MSs X l t)(hb:MSs X r u):MSt X (.If c l r pos) (mIfS tc t u):=⟨(qf hc.out ha.out hb.out).anti λE s H q=>by
 obtain⟨F0,F,z,M,k,rs,ED,h,e⟩:=q;refine#[F,z,M,k.kf,rs,_,h,λb M1 F1 H1 g hk m1=>?_];cases b with
 |true=>exact#[F0,F1,z,M1,k.growM rs.mb g,rs.growM k.bh g m1,ED,hk,e]
 |false=>exact#[F0,F1,z,M1,k.growM rs.mb g,rs.growM k.bh g m1,ED,hk,e]⟩
def mIfJ(c:TMT)(t u:TMS):TMS:=λE z M=>∃J:SD->MS->Prop,(c z M λb M1=>if b=true then t {E with nx:=J} z M1 else u {E with nx:=J} z M1)/\∀z' M',J z' M'->E.nx z' M'
def sI{c:RP}{tc:TMT}(hc:MT X c tc)(ha:MSs X l t)(hb:MSs X r u):MSt X (.If c l r pos) (mIfJ tc t u):=⟨(cz hc ha hb).out.anti λE s H q=>by
 obtain⟨F0,F,z,M,k,rs,ED,⟨J,h,j⟩,e⟩:=q;exact#[F0,F,z,M,k,rs,{ED with nx:=J},h,#[λz' s' M' F' H' k' hz r'=>e.nx z' s' M' F' H' k' (j z' M' hz) r',e.rt,e.bk,e.ct]]⟩
def mSet(i:Nat)(te:TME):TMS:=λE z M=>∃P:D->MS->Prop,te z M P/\∀d M',P d M'->E.nx (z.set i (be d)) M'
def br(i:Nat){x:E_}{c_:R6}(hN:X.N.Nodup)(he:ME X e te)(hi:autoParam (X.N[i]?=be x) zA0)(hx:autoParam (Loc X.env.scope x) zA4)(hs:autoParam (R9 e (be (.Name x c_)) pos.line X.env=pure false) zA0)
  (hf:autoParam (zFN X x) zA3):MSt X (.Assign [.Name x c_] e pos) (mSet i te):=⟨(gw hN hi hx he.out hs hf).anti λE s H q=>by
 obtain⟨F0,F,z,M,k,rs,ED,⟨P,h,j⟩,e⟩:=q;exact#[F,z,M,k.kf,rs,P,h,λd v M' F' H' g hd rd m'=>e.nx _ _ M' F' H' (k.growM rs.mb g) (j d M' hd) ((rs.growM k.bh g m').set rd)]⟩
def Ad(x f:E_)(to te:TME):TMS:=λE z M=>te z M λd M1=>to z M1 λo M2=>match o with|.ptr a=>∃fs,mget M2 a=be (.ins x fs)/\fs.length<1000/\E.nx z (mput M2 a (.ins x (putD f d fs)))|_=>False
def ia{x f:E_}{o:RP}{to:TME}{c_:R6}(hA:ClsA X.K x f)(ho:ME X o to)(he:ME X e te)(hs:autoParam (R9 e (be (.Attribute o f c_)) pos.line X.env=pure false) zA0):
  MSt X (.Assign [.Attribute o f c_] e pos) (Ad x f to te):=⟨(qD ho.out he.out hs).anti λE s H q=>by
 obtain⟨C,hn,hc,hf⟩:=hA;obtain⟨F0,F,z,M,k,rs,ED,h,ee⟩:=q;refine#[F,z,M,k.kf,rs,_,h,λd v M1 F1 H1 g1 hx rd m1=>?_];have k1:=k.growM rs.mb g1;have Kt:=rs.growM k.bh g1 m1;refine#[F1,z,M1,k1.kf,Kt,_,hx,λo' v' M2 F2 H2 g2 hy ro m2=>?_];have k2:=k1.growM Kt.mb g2;have KI:=Kt.growM k1.bh g2 m2;split at hy
 .rename_i a;obtain⟨fs,hm,hl,Qh⟩:=hy;obtain⟨C',dx,ws,m9,hH,rf⟩:=m2.ok _ _ (cf hm);rw[hn]at m9;cases m9;have fa:=m2.fr a (cI (cf hm));refine#[a,C,dx,ws,rep_ptr.mp ro,hH,hc,hf,by rw[rf.length];exact hl,?_];have m3:RepM X.K F2 (upd H2 a (.ins C dx (putF f v ws))) (mput M2 a (.ins x (putD f d fs))):=m2.put hm #[C,dx,_,hn,aL,RepF.put (rd.mono g2.ff) rf];have g3:GrowM M2 (mput M2 a (.ins x (putD f d fs))) F2 H2 F2 (upd H2 a (.ins C dx (putF f v ws))):=GrowM.put k2.fh fa hm;exact ee.nx z s _ F2 _ (k2.growM KI.mb g3) Qh (KI.growM k2.bh g3 m3)
 .exact hy.elim⟩
def Ae(c:TMT)(tb:TMS):TMS:=λE z M=>∃W:Nat->SD->MS->Prop,(∃m,W m z M)/\∀m z M,W m z M->
 c z M λb M1=>if b=true then tb {E with nx:=λz' M'=>∃m',m'<m/\W m' z' M',ct:=λz' M'=>∃m',m'<m/\W m' z' M',bk:=E.nx} z M1 else E.nx z M1
def Af{c:RP}{body:List P3}{tc:TMT}{tb:TMS}(hp:Sd (RS X.prog X.w) X.A X.env X.xe)(hc:MT X c tc)(hb:MSs X body tb):MSt X (.While c body [] pos) (Ae tc tb):=⟨(qg hp hc.out hb.out).anti λE s H q=>by
 obtain⟨F0,F,z,M,k,rs,ED,⟨W,⟨m0,w0⟩,b_⟩,e⟩:=q;refine#[λm s' H'=>∃F' z' M',Kept J.B F0 F' H'/\RepZ X.K J.B F' H' z' s' M'/\W m z' M',#[m0,F,z,M,k,rs,w0],?_];rintro m s1 H1⟨F1,z1,M1,k1,r1,w1⟩;refine#[F1,z1,M1,k1.kf,r1,_,b_ m z1 M1 w1,λb M2 F2 H2 g2 hk m2=>?_];cases b with
 |true=>
  refine#[λs3 H3=>∃F3 z3 M3,Kept J.B F0 F3 H3/\RepZ X.K J.B F3 H3 z3 s3 M3/\∃m',m'<m/\W m' z3 M3,λs3 H3 ⟨F3,z3,M3,k3,r3,m',l,w3⟩=>#[m',l,F3,z3,M3,k3,r3,w3],?_];exact#[F0,F2,z1,M2,k1.growM r1.mb g2,r1.growM k1.bh g2 m2,_,hk,#[λz3 s3 M3 F3 H3 k3 h3 r3=>#[F3,z3,M3,k3,r3,h3],e.rt,e.nx,λz3 s3 M3 F3 H3 k3 h3 r3=>#[F3,z3,M3,k3,r3,h3]]]
 |false=>exact e.nx z1 s1 M2 F2 H2 (k1.growM r1.mb g2) hk (r1.growM k1.bh g2 m2)⟩
end
section
variable {X:Cx}[J:Jm]{a b c e o:RP}{ta tb tc te to:TME}{pos:R6}{st:P3}{rest:List P3}{t u:TMS}
abbrev TMI:=SD->MS->(List D->MS->Prop)->Prop
def mItR(t:TME):TMI:=λz M R=>t z M λx M1=>match x with|.int n=>(0<=n/\n<2^62)/\R ((FN n.toNat).map λk=>D.int ((k:Nat):Int)) M1|_=>False
def mFor(i:Nat)(ti:TMI)(tb:TMS):TMS:=λE z M=>ti z M λds M1=>∃W:Nat->SD->MS->Prop,W 0 z M1/\(∀k x z M,ds[k]?=be x->W k z M->tb {E with nx:=W (k+1),ct:=W (k+1),bk:=E.nx} (z.set i (be x)) M)/\∀z M,W ds.length z M->E.nx z M
def Ag(i:Nat){x:E_}{p p1 p2:R6}{body:List P3}{tb:TMS}(hp:Sd (RS X.prog X.w) X.A X.env X.xe)(hc:X.calm=true)(hN:X.N.Nodup)(hm:X.mg "range"=s_)(he:ME X e te)(hb:MSs X body tb)(hg:autoParam (Gl X "range") zA0)(hi:autoParam (X.N[i]?=be x) zA0)(hx:autoParam (Loc X.env.scope x) zA4)
  (hf:autoParam (zFN X x) zA3) (hs:autoParam (∀y,zFS X (.Call (.Name "range" p1) [e] [] p2) y) zA2) (j7:autoParam (zSE X e []) zA0) (d_:autoParam (RY [e] X.env=[(false,R3 e X.env)]) zA0):
  MSt X (.For (.Name x p) (.Call (.Name "range" p1) [e] [] p2) body [] pos) (mFor i (mItR te) tb):=⟨(cV hp hc (gx hg hm (bz he.out pa_nil j7) d_) (fD hN hi hx hf) hb.out hs).anti λE s H q=>by
 obtain⟨F0,F,z,M,kp,rs,ED,h,e⟩:=q;refine#[F,z,M,kp.kf,rs,_,h,λd v M1 F1 H1 g1 hd rd m1=>?_];split at hd
 .rename_i n;obtain⟨⟨b1,b2⟩,W,w0,b_,out⟩:=hd;have hl:((FN n.toNat).map λk=>D.int ((k:Nat):Int)).length=n.toNat:=by simp
  refine#[n,by rw[rep_int.mp rd],Kd,b2,jH (lo:=0) (n:=n.toNat) (λk s' H'=>∃F' z' M',Kept J.B F0 F' H'/\RepZ X.K J.B F' H' z' s' M'/\W k z' M') #[F1,z,M1,kp.growM rs.mb g1,rs.growM kp.bh g1 m1,w0] ?_ ?_]
  .rintro k s' H' hk⟨F',z',M',k',r',w'⟩;have e1:(0:Int)+(k:Int)=(k:Int):=by lia
   exact#[F0,F',_,M',k',r'.set (d:=.int (k:Int)) (rep_int.mpr (by rw[e1])),_,b_ k (.int (k:Int)) z' M' (by simp[hk]) w',#[λz3 s3 M3 F3 H3 k3 h3 r3=>#[F3,z3,M3,k3,r3,h3],e.rt,e.nx,λz3 s3 M3 F3 H3 k3 h3 r3=>#[F3,z3,M3,k3,r3,h3]]]
  .rintro s' H'⟨F',z',M',k',r',w'⟩;exact e.nx z' s' M' F' H' k' (out z' M' (by rw[hl];exact w')) r'
 .exact hd.elim⟩
def Ah(te:TME):TME:=λz M R=>te z M λd M1=>match d with|.ptr a=>∃ds,mget M1 a=be (.lst ds)/\R (.int ds.length) M1|_=>False
def Ai{p:R6}(hm:X.mg "len"=s_)(ha:ME X e te)(hg:autoParam (Gl X "len") zA0)(he:autoParam (zSE X e []) zA0):ME X (.Call (.Name "len" p) [e] [] pos) (Ah te):=⟨(gB jL hg hm PySem.boot_len (bz ha.out pa_nil he) Kj Kj he).anti λs H Q h=>by
 obtain⟨F,z,M,k,rs,R,h1,h2⟩:=h;refine#[F,z,M,k,rs,_,h1,λd v M1 F1 H1 g1 hx rx m1=>?_];split at hx
 .rename_i a;obtain⟨ds,hm,hR⟩:=hx;obtain⟨vs,hH,rr⟩:=m1.ok _ _ (cf hm);exact#[.ref a,vs.length,by rw[rep_ptr.mp rx],.inl #[vs,SqL.of hH,rfl],h2 _ _ M1 F1 H1 g1 hR (rep_int.mpr (by rw[rr.length])) m1]
 .exact hx.elim⟩
def mIxP(ta tb:TME):TME:=λz M R=>ta z M λx M1=>tb z M1 λy M2=>match x,y with|.ptr a,.int i=>∃ds,mget M2 a=be (.lst ds)/\∃d,atI ds i=be d/\R d M2|_,_=>False
def Aj(ha:ME X a ta)(hb:ME X b tb)(hs:autoParam (eA b) zA6):ME X (.Subscript a b pos) (mIxP ta tb):=⟨(pe_ix ix_list ha.out hb.out hs).anti λs H Q h=>by
 obtain⟨F,z,M,k,rs,R,h1,h2⟩:=h;refine#[F,z,M,k,rs,_,h1,λx u M1 F1 H1 g1 hx rx m1=>?_];refine#[F1,z,M1,k.growM rs.mb g1,rs.growM k.bh g1 m1,_,hx,λy v M2 F2 H2 g2 hy ry m2=>?_];split at hy
 .rename_i p i;obtain⟨ds,hm,d,hd,hR⟩:=hy;obtain⟨vs,hH,rr⟩:=m2.ok _ _ (cf hm);obtain⟨w,e2,g7⟩:=rr.at hd;exact#[p,vs,_,w,rep_ptr.mp rx,rep_int.mp ry,SqL.of hH,e2,h2 d w M2 F2 H2 (g1.trans g2) hR g7 m2]
 .exact hy.elim⟩
def Ak(to te:TME):TME:=λz M R=>to z M λo M1=>match o with|.ptr a=>(∃ds,mget M1 a=be (.lst ds))/\te z M1 λd M2=>∃ds,mget M2 a=be (.lst ds)/\ds.length<=100000/\R .non (mput M2 a (.lst (ds++[d])))|_=>False
def Al{apos cpos:R6}(ho:ME X o to)(he:ME X e te)(n8:autoParam (zSE X e []) zA0)
  (b8:autoParam (R1 o "append" X.env (R3 o X.env)=R3 o X.env) zA0)
  (d9:autoParam (zHF X cpos [e]) zA0)
  (c5:autoParam ((apos.endLine==cpos.line)=true) zA0):
  ME X (.Call (.Attribute o "append" apos) [e] [] cpos) (Ak to te):=⟨(eB PySem.F.plainAttrs_list PySem.F.slot_list_append PySem.F.type_list_append jR ho.out (bz he.out pa_nil n8) b8 d9 c5 n8).anti λs H Q h=>by
 obtain⟨F,z,M,k,rs,R,h1,h2⟩:=h;refine#[F,z,M,k,rs,_,h1,λx u M1 F1 H1 g1 hx rx m1=>?_];split at hx
 .rename_i a;obtain⟨⟨Ro,Ni⟩,hx⟩:=hx;obtain⟨Qi,Qj,Rp⟩:=m1.ok _ _ (cf Ni);rw[rep_ptr.mp rx];refine#[.inl #[rfl,Qi,SqL.of Qj],?_];refine#[F1,z,M1,k.growM rs.mb g1,rs.growM k.bh g1 m1,_,hx,λd v M2 F2 H2 g2 hd rd m2=>?_];obtain⟨ds,hm,hl,hR⟩:=hd;obtain⟨vs,hH,rr⟩:=m2.ok _ _ (cf hm);have hz:vs.length<sizeLine:=by
   rw[rr.length];have h2:(100000:Nat)<sizeLine:=Kj
   lia
  refine#[a,vs,v,rfl,rfl,hH,hz,?_];exact h2 _ _ _ F2 _ (g1.trans (g2.trans (GrowM.put g2.fh (m2.fr a (cI (cf hm))) hm))) hR (rep_non.mpr rfl) (m2.put hm #[_,aL,rr.append (eI rd)])
 .exact hx.elim⟩
def frzD:MO->D|.ins x fs=>.obj x fs|.lst ds=>.lst ds|.dti a8=>.dti a8
def mFrz(i:Nat)(t:TMS):TMS:=λE z M=>match z[i]? with|some (be (.ptr a))=>∃o,mget M a=be o/\t E (z.set i (be (frzD o))) (mdel M a)|_=>False
def sJ(i:Nat){Lq:List P3}(h:MSs X Lq t):MSs X Lq (mFrz i t):=⟨PSs.anti h.out λE s H q=>by
 obtain⟨F0,F,z,M,k,rs,ED,h,e⟩:=q;unfold mFrz at h;split at h
 .rename_i a ez;obtain⟨o,hm,h⟩:=h;have mem:=cf hm;have fa:=rs.rm.fr a (cI mem);have ba:=rs.mb a (cI mem);obtain⟨v,hv,rv⟩:=rs.rs.val i _ ez rfl;have Qk:=rep_ptr.mp rv;subst Qk;have hok:=rs.rm.ok a o mem;obtain⟨ho,k7,Nj⟩:∃ho,H a=be ho/\∀F',Same F F'->F' a=be ho->Rep X.K F' (frzD o) (.ref a):=by
   cases o with
   |ins x fs=>obtain⟨C,dx,ws,n,h1,h2⟩:=hok;exact#[_,h1,λF' s' hF=>rep_obj.mpr #[a,C,dx,ws,rfl,n,hF,RepF.mono s' fs ws h2]]
   |lst ds=>obtain⟨vs,h1,h2⟩:=hok;exact#[_,h1,λF' s' hF=>rep_lst.mpr #[a,vs,rfl,hF,h2.mono s']]
   |dti a8=>exact#[_,hok,λF' s' hF=>rep_dti.mpr #[a,rfl,hF]]
  have s1:Same F (upd F a ho):=aV fa _;have hs:s.set i (be (.ref a))=s:=by
   apply Hl;intro n;by_cases hn:i=n
   .subst hn;rw[Gx (FZ.mp hv).1,hv]
   .rw[Ge hn]
  have k1:Kept J.B F0 (upd F a ho) H:=⟨k.bh,λb u q=>by
   by_cases hb:b=a
   .subst hb;rw[aL]at q;cases q;exact k7
   .rw[aD hb]at q;exact k.fh b u q,k.f0.trans s1,λb h1 h2=>by
   by_cases hb:b=a
   .subst hb;exact absurd ba h2
   .rw[aD hb];exact k.out b h1 h2,k.eb,k.jf,k.jo⟩
  have r0:RepS X.K J.B (upd F a ho) H z s:=#[rs.rs.len,λi d e n=>let ⟨v,q1,q2⟩:=rs.rs.val i d e n;#[v,q1,q2.mono s1],λi ds e=>absurd e (rs.no i ds),rs.rs.apart];have Ql:RepM X.K (upd F a ho) H (mdel M a):=⟨rs.rm.nd.sublist del_sub,λb q hb=>by
   obtain⟨ne,hb⟩:=kB rs.rm.nd hb;exact(rs.rm.ok b q hb).mono s1 λ_ z=>z,λb hb=>by
   obtain⟨⟨b',q⟩,l_,rfl⟩:=Gn.mp hb;obtain⟨ne,OX⟩:=kB rs.rm.nd l_;rw[aD ne];exact rs.rm.fr _ (cI OX)⟩
  have z0:RepZ X.K J.B (upd F a ho) H z s (mdel M a):=#[r0,rs.no,Ql,λb hb=>rs.mb b (del_sub.subset hb)];have z1:=z0.set (i:=i) (Nj _ s1 aL);rw[hs]at z1;exact#[F0,_,_,_,k1,z1,ED,h,e]
 .exact h.elim⟩
end
def sK{N:List E_}{ds:List D}(rs:Reps K F ds vs):∀(i:Nat) d,(startD N ds)[i]?≠be (be (.own d)):=by
 intro i d e;unfold startD at e;by_cases hi:i<ds.length
 .rw[Gz (by simpa using hi),FT]at e;cases q:ds[i]? with
  |none=>rw[q]at e;cases e
  |some x=>
   rw[q]at e;cases e;obtain⟨v,_,q2⟩:=rs.get q;exact rep_own q2
 .rw[GI (by simpa using hi),HY]at e;split at e
  .cases e
  .cases e
def growM_nil(g:GrowM [] M' F H F' H'):Grow F H F' H':=#[g.ff,g.fh,λb o h=>g.hh b o (λz=>nomatch z) h,λb h1 h2=>g.out b (λz=>nomatch z) h1 h2]
section
variable {P:RQ}{w:RU}{K:Ex}{mg:E_->Option KB}{base:RW}
variable{x:E_}{ps:List E_}{S:SpM}
def CalMM.toX{n:Nat}{S0:SpX}(C:CalMM P w K mg base n x ps S)(h:∀ds R RX,S0 ds R RX->S ds [] (λd _=>R d) λx fs _=>RX x fs):CalX P w K mg base n x ps S0:=by
 obtain⟨f,fd,F,hb,hk,hm⟩:=C;refine#[f,fd,F.imp λvs H Q E q=>?_,hb,hk,hm];obtain⟨F,ds,fh,rs,R,RX,hS,q1,q2⟩:=q;exact#[F,ds,[],fh,rs,RepM.nil,_,_,h ds R RX hS,λd v M' F' H' g hd rd _=>q1 d v F' H' (growM_nil g) hd rd,λy fs C od M' F' H' g hR er _=>q2 y fs C od F' H' (growM_nil g) hR er]
open Classical in
def Fun.okM{x qual:E_}{st:P3}{f:KF}{fd:R4}{N ps:List E_}{k:Nat}{S:SpM}{dV:KB}(T:FunG K dV x qual st f fd)(F:FnScope N ps (ao st))(len:∀ds M R RX,S ds M R RX->ds.length=ps.length)
  (a_:∀(cdv:KB) (A:RV) (outer:List SG) (s:KM) (H:Hp) (E:XK) (J:Jm),Room k (A.deeper (R' qual (ao st) s.heap.objs.size f cdv))->XOkM (cxOf (CX1 P w) P w K mg base N qual (ao st) f cdv A outer s H E)->
   ∃t,MSs (cxOf (CX1 P w) P w K mg base N qual (ao st) f cdv A outer s H E) (aQ st) t/\∀ds M R RX,(∀z,J.RM z=λM' x fs=>RX x fs M')->S ds M R RX->t {nx:=λ_ M'=>R .non M',rt:=R} (startD N ds) M):FnOk P w K mg base (CX1 P w) (k+1) f fd ps (lSpM K S):=by
 refine Fun.okC T F (λvs H Q E h=>?_) (λcdv A outer s H vs Q E hr h=>?_)
 .obtain⟨F,ds,M,fh,rs,rm,R,RX,h,_⟩:=h;rw[rs.length];exact len ds M R RX h
 .obtain⟨F,ds,M,fh,rs,rm,R,RX,h,q,qx⟩:=h
  let B:Hp:=λb=>if b∈aE M then s_ else H b
  have OY:∀{b:KF},b∈aE M->B b=none:=λ{b} h=>if_pos h;have Mi:∀{b:KF},b∉aE M->B b=H b:=λ{b} h=>if_neg h
  letI:Jm:={B:=B,F0:=F,RX:=λ_ _ _=>False,RM:=λ_ M' x fs=>RX x fs M'}
  have gr:∀{M':MS} {F' H':Hp},Kept B F F' H'->(∀a,a∈aE M'->B a=s_)->GrowM M M' F H F' H':=λ{M' F' H'} k mb=>⟨k.f0,k.fh,λb o nb e=>k.bh b o (by rw[Mi nb];exact e),λb nb h1 h2=>k.out b h1 (by rw[Mi nb];exact h2),λb hb=>by
   by_cases nb:b∈aE M
   .exact .inl nb
   .right;rw[<-Mi nb];exact mb b hb⟩
  have hx:XOkM (cxOf (CX1 P w) P w K mg base N qual (ao st) f cdv A outer s H E):=by
   intro σ z M' F' H' s' e C od y fs I kk rr hR er ⟨He,ne,_,hx⟩;have hE:E (.ref C) od H':=qx y fs C od M' F' H' (gr kk rr.mb) hR er rr.rm;rcases hx with⟨sl,vs,h1,h2⟩|⟨T,h1,h2,h3,_⟩
   .exact rj I h1 h2 He ne hE
   .exact si I h1 ne h2 He h3 hE
  obtain⟨t,ht,hq⟩:=a_ cdv A outer s H E inferInstance hr hx;have k0:Kept B F F H:=⟨λb o e=>by
   by_cases nb:b∈aE M
   .rw[OY nb]at e;cases e
   .rw[Mi nb]at e;exact e,fh,Same.refl F,λ_ h _=>h,rfl,Same.refl F,λ_ h _=>h⟩
  have r0:RepZ K B F H (startD N ds) (L2.start N vs) M:=#[fK rs,sK rs,rm,λa h=>OY h];exact#[_,ht.out,F,F,startD N ds,M,k0,r0,_,hq ds M R RX (λ_=>rfl) h,#[λz' s' M' F' H' k hn r=>q _ _ M' F' H' (gr k r.mb) hn (rep_non.mpr rfl) r.rm,λd v M' F' H' k hd rd OZ mb=>q d v M' F' H' (gr k mb) hd rd OZ,λ_ _ _ _ _ _ h _=>h.elim,λ_ _ _ _ _ _ h _=>h.elim]]
variable{N:List E_}
def Tx.okM{st:P3}{k:Nat}(T:Tx K mg x st ps)(F:FnScope N ps (ao st))(len:∀ds M R RX,S ds M R RX->ds.length=ps.length)
  (a_:∀(f:KF) (cdv:KB) (A:RV) (outer:List SG) (s:KM) (H:Hp) (E:XK) (J:Jm),Room k (A.deeper (R' x (ao st) s.heap.objs.size f cdv))->XOkM (cxOf (CX1 P w) P w K mg base N x (ao st) f cdv A outer s H E)->
   ∃t,MSs (cxOf (CX1 P w) P w K mg base N x (ao st) f cdv A outer s H E) (aQ st) t/\∀ds M R RX,(∀z,J.RM z=λM' x fs=>RX x fs M')->S ds M R RX->t {nx:=λ_ M'=>R .non M',rt:=R} (startD N ds) M):CalMM P w K mg base (k+1) x ps S:=by
 obtain⟨f,fd,T,hb,hm⟩:=T;exact#[f,fd,Fun.okM T F len λcdv A outer s H E J hr hx=>a_ f cdv A outer s H E J hr hx,hb,T.kp,hm]
def Txm(K:Ex)(x m:E_)(qual:E_)(st:P3)(ps:List E_):Prop:=
 ∃C f fd,nsIn K Pi x=be (be (.ref C))/\Cls K C/\Meth K C m f/\Fun K m qual st f fd/\Binds K fd ps []
def Txm.okM{m qual:E_}{st:P3}{k:Nat}(T:Txm K x m qual st ps)(F:FnScope N ps (ao st))(len:∀ds M R RX,S ds M R RX->ds.length=ps.length)
  (a_:∀(f:KF) (cdv:KB) (A:RV) (outer:List SG) (s:KM) (H:Hp) (E:XK) (J:Jm),Room k (A.deeper (R' qual (ao st) s.heap.objs.size f cdv))->XOkM (cxOf (CX1 P w) P w K mg base N qual (ao st) f cdv A outer s H E)->
   ∃t,MSs (cxOf (CX1 P w) P w K mg base N qual (ao st) f cdv A outer s H E) (aQ st) t/\∀ds M R RX,(∀z,J.RM z=λM' x fs=>RX x fs M')->S ds M R RX->t {nx:=λ_ M'=>R .non M',rt:=R} (startD N ds) M):CalMth P w K mg base (k+1) x m ps (lSpM K S):=by
 obtain⟨C,f,fd,h1,h2,h3,T,hb⟩:=T;exact#[C,f,fd,h1,h2,h3,Fun.okM T F len λcdv A outer s H E J hr hx=>a_ f cdv A outer s H E J hr hx,hb]
end
end My
namespace L2
section
variable {X:Cx}{pins:List (KF×R_)}{σ:St}{H:Hp}{s:KM}{h':RW}
def Inv.turned2{t':Nat}{e it:KF}(I:Inv X pins σ H s)(k:∀b o,b≠e->b≠it->s.heap.get? b=be o->h'.get? b=be o)(he:FpOk X pins H e)(hi:FpOk X pins H it):Inv X pins σ H {s with heap:=h',toks:=t'}:=by
 obtain⟨e0,e1,e2,e3,e4,e5⟩:=he;obtain⟨i0,i1,i2,i3,i4,i5⟩:=hi;have Ka:∀b u,H b=be u->b≠e/\b≠it:=λb u q=>#[(λz=>by rw[z,e0]at q;cases q),(λz=>by rw[z,i0]at q;cases q)];have nc:∀{b:KF},b∉[e,it]->b≠e/\b≠it:=λ{b} h=>#[λz=>h (by simp[z]),λz=>h (by simp[z])];refine I.step (g':=s.gens) (d':=s.drawn) (ch:=[e,it]) (λb hb=>?_) (λb o _ _ hc q _=>k b o (nc hc).1 (nc hc).2 q) (λb o _ _ hc q _=>#[o.slots,k b o (nc hc).1 (nc hc).2 q]) (λ_ _ _ _ n=>n)
  (λb o hc q=>#[o,k b o (nc hc).1 (nc hc).2 q]) (λ_ _ q=>q) (λ_ _ _ q=>q) (λb ps q=>#[[].toArray,by rw[q];simp]) (λm hm=>?_) (λb u q=>?_) I.bare
 .rcases FQ.mp hb with z|z
  .rw[z];exact#[e3,e1,e4,e5]
  .rw[FO.mp z];exact#[i3,i1,i4,i5]
 .obtain⟨o,es,ep,ho,r⟩:=hm;exact#[o,es,ep,k _ o (Ne.symm e1) (Ne.symm i1) ho,r]
 .refine(I.hok b u q).stay (λc v hc q'=>k c v ?_ ?_ q') (λ_ q=>q) λ_ _ q=>q
  .rcases hc with z|z
   .rw[z];exact(Ka b u q).1
   .exact(Ka c _ z).1
  .rcases hc with z|z
   .rw[z];exact(Ka b u q).2
   .exact(Ka c _ z).2
end
def Itel(K:Ex)(a:KF):It:=
 #[λi H=>∃xs x,SqL K H a xs/\xs[i]?=be x,λi H x H'=>∃T v,H T=s_/\x=.ref T/\H'=upd H T (.tup [.int i,v])/\∀xs,SqL K H a xs->xs[i]?=be v,λi H=>∃xs,SqL K H a xs/\xs.length<=i]
def Ites(x:E_):It:=#[λi _=>i<x.length,λi H v H'=>∃T c,H T=s_/\v=.ref T/\H'=upd H T (.tup [.int i,.str #[[c].toArray]])/\x.cps[i]?=be c,λi _=>i=x.length]
variable{P:RQ}{w:RU}
def Am{H:Hp}{h:RW}{T:KF}{i:Int}{t:Tok}{v:V}{u:KB}(r:RelV v u)(q:h.get? T=be {cls:=.type "tuple",data:=.seq [.int i t,u].toArray}):ObjOk P w H h T (.tup [.int i,v]):=
 #[by show 2<=sizeLine;decide,[.int i t,u],.cons #[t,rfl] (.cons r .nil),#[_,q,rfl,_,rfl]]
def sL{X:Cx}{pins:List (KF×R_)}{σ:St}{H:Hp}{s:KM}{h':RW}{t':Nat}{e it:KF}{i:Int}{t:Tok}{v:V}{u:KB}(I:Inv X pins σ H s)(he:FpOk X pins H e)(hi:FpOk X pins H it)(le:e<s.heap.objs.size)(li:it<s.heap.objs.size)(r:RelV v u)
  (hT:h'.get? s.heap.objs.size=be {cls:=.type "tuple",data:=.seq [.int i t,u].toArray}) (hk:∀b o,b≠e->b≠it->s.heap.get? b=be o->h'.get? b=be o):Inv X pins σ (upd H s.heap.objs.size (.tup [.int i,v])) {s with heap:=h',toks:=t'}:=by
 have I1:Inv X pins σ (upd H s.heap.objs.size (.tup [.int i,v])) {s with heap:=s.heap.push {cls:=.type "tuple",data:=.seq [.int i t,u].toArray},toks:=t'}:=
  I.laid (λb o q=>Heap.get?_push_of_some _ q) (FM _) (Am r (Heap.get?_push_size _ rfl))
 have fp:∀{b:KF},FpOk X pins H b->b<s.heap.objs.size->FpOk X pins (upd H s.heap.objs.size (.tup [.int i,v])) b:=λ{b} h l=>#[by rw[aD (FW l)];exact h.1,h.2];refine I1.turned2 (h':=h') (t':=t') (λb o h1 h2 q=>?_) (fp he le) (fp hi li);rcases Heap.get?_push_cases (show(s.heap.push {cls:=.type "tuple",data:=.seq [.int i t,u].toArray}).get? b=be o from q)with⟨rfl,rfl⟩|q2
 .exact hT
 .exact hk b o h1 h2 q2
variable{q9:List RP}
def An{K:Ex}{x1:Nat}{tp:R6}(a e it:KF)(KJ:e≠it):Turn P w K (.Tuple q9 x1 tp) (Itel K a) [e,it] e (λi h=>(∃d6,IsEnum h e it i d6)/\h.IsListIter it a i) where
 mem:=Ld
 obj:=λi h st b hb=>by
  obtain⟨⟨d6,he⟩,hit⟩:=st;rcases FQ.mp hb with z|z
  .rw[z];exact#[_,he,λv z=>by cases z]
  .rw[FO.mp z];obtain⟨o,ho,c,d⟩:=hit;exact#[o,ho,λv z=>by rw[d]at z;cases z]
 keep:=λi h h' st k=>#[let ⟨d6,he⟩:=st.1;#[d6,k e Ld _ he],st.2.at λo q=>k it Ld o q]
 item:=by
  intro X hP hw hK hc i pins s σ H E I hf st hg;subst hP hw hK;obtain⟨xs,x,hq,hx⟩:=hg;obtain⟨its,rv,p,hz⟩:=I.list hq;obtain⟨u,hu,ru⟩:=rv.get hx;obtain⟨⟨d6,he⟩,hit⟩:=st;have fe:=hf e Ld;have fi:=hf it Ld;have le:e<s.heap.objs.size:=Heap.lt_size he;have li:it<s.heap.objs.size:=by obtain⟨o,ho,_⟩:=hit;exact Heap.lt_size ho
  refine wpAny_pyNext_enum_item he hit p.isList (x:=u) (by simpa using hu) KJ λh' y8 Ku hT gt hk=>?_;refine#[_,rfl,S8 y8 λh2 Nk l8=>?_];have n_:Heap.SameBut e h' h2:=l8;have nT:s.heap.objs.size≠e:=GQ le;have I1:Inv X pins σ (upd H s.heap.objs.size (.tup [.int i,x])) {s with heap:=h2,toks:=s.toks+1}:=sL I fe fi le li ru ((n_.2 _ nT).trans hT) λb o h1 h3 q=>(n_.2 b h1).trans (hk b o h1 h3 q);refine#[.ref s.heap.objs.size,_,I1,rfl,#[_,x,I.hok.fresh (FM _),rfl,rfl,λys hy=>by rw[I.list_inj hy hq];exact hx],#[#[u,by simpa using Nk],Ku.at λo q=>(n_.2 it (Ne.symm KJ)).trans q],λb hb=>?_];rcases FQ.mp hb with z|z
  .rw[z,aD (FW le)];exact fe.1
  .rw[FO.mp z,aD (FW li)];exact fi.1
 done:=by
  intro X hP hw hK hc i pins s σ H E I hf st hg;subst hP hw hK;obtain⟨xs,hq,hx⟩:=hg;obtain⟨its,rv,p,hz⟩:=I.list hq;obtain⟨⟨d6,he⟩,hit⟩:=st;have hl:=rv.length;obtain⟨f0,f1,f2,f3,f4,f5⟩:=hf it Ld;exact wpAny_pyNext_enum_end (I.ok.hd hc) he hit p.isList Ou λh' eb=>#[rfl,I.turned (t':=s.toks) (λb o hb q=>eb b o hb q) f0 f1 f3 f4 f5]
 self:=λ_ _ _ _ _ st h=>let ⟨⟨d6,he⟩,_⟩:=st;SA he h
def Ao{K:Ex}{x1:Nat}{tp:R6}(x:E_)(t:Tok)(e it:KF)(KJ:e≠it):Turn P w K (.Tuple q9 x1 tp) (Ites x) [e,it] e (λi h=>(∃d6,IsEnum h e it i d6)/\h.IsStrIter it "str_ascii_iterator" x t i) where
 mem:=Ld
 obj:=λi h st b hb=>by
  obtain⟨⟨d6,he⟩,hit⟩:=st;rcases FQ.mp hb with z|z
  .rw[z];exact#[_,he,λv z=>by cases z]
  .rw[FO.mp z];obtain⟨o,ho,c,d⟩:=hit;exact#[o,ho,λv z=>by rw[d]at z;cases z]
 keep:=λi h h' st k=>#[let ⟨d6,he⟩:=st.1;#[d6,k e Ld _ he],let ⟨o,ho,r⟩:=st.2;#[o,k it Ld o ho,r]]
 item:=by
  intro X hP hw hK hc i pins s σ H E I hf st hg;subst hP hw hK;have hi:i<x.cps.size:=hg;obtain⟨⟨d6,he⟩,hit⟩:=st;have fe:=hf e Ld;have fi:=hf it Ld;have le:e<s.heap.objs.size:=Heap.lt_size he;have li:it<s.heap.objs.size:=by obtain⟨o,ho,_⟩:=hit;exact Heap.lt_size ho
  refine wpAny_pyNext_enum_itemD (Draws.strAscii (A:=X.A.in1) (by exact I.ok.hd hc) it x t) he hit hi KJ (by simp[KJ]) λu h' tk hP y8 Ku hT gt hk=>?_;obtain⟨c,tu,JX,rfl⟩:=hP;refine#[_,rfl,S8 y8 λh2 Nk l8=>?_];have n_:Heap.SameBut e h' h2:=l8;have nT:s.heap.objs.size≠e:=GQ le;have I1:Inv X pins σ (upd H s.heap.objs.size (.tup [.int i,.str #[[c].toArray]])) {s with heap:=h2,toks:=tk+1}:=sL I fe fi le li #[tu,rfl] ((n_.2 _ nT).trans hT) λb o h1 h3 q=>(n_.2 b h1).trans (hk b o h1 h3 q);refine#[.ref s.heap.objs.size,_,I1,rfl,#[_,c,I.hok.fresh (FM _),rfl,rfl,JX],#[#[_,by simpa using Nk],let ⟨o,ho,r⟩:=Ku;#[o,(n_.2 it (Ne.symm KJ)).trans ho,r]],λb hb=>?_];rcases FQ.mp hb with z|z
  .rw[z,aD (FW le)];exact fe.1
  .rw[FO.mp z,aD (FW li)];exact fi.1
 done:=by
  intro X hP hw hK hc i pins s σ H E I hf st hg;subst hP hw hK;have hi:i=x.cps.size:=hg;subst hi;obtain⟨⟨d6,he⟩,hit⟩:=st;obtain⟨f0,f1,f2,f3,f4,f5⟩:=hf it Ld;exact wpAny_pyNext_enum_endD (Draws.strAscii (A:=X.A.in1) (by exact I.ok.hd hc) it x t) he hit λh' eb=>#[rfl,I.turned (t':=s.toks) (λb o hb q=>eb b o hb q) f0 f1 f3 f4 f5]
 self:=λ_ _ _ _ _ st h=>let ⟨⟨d6,he⟩,_⟩:=st;SA he h
def iEnL(K:Ex)(ta:TA):TI:=λσ H R=>ta σ H λvs H1=>∃a,vs=[.ref a]/\(∃xs,SqL K H1 a xs)/\R (Itel K a) H1
def iEnS(ta:TA):TI:=λσ H R=>ta σ H λvs H1=>∃x,vs=[.str x]/\x.cps.all (·<128)=true/\R (Ites x) H1
section
variable {X:Cx}{q9:List RP}{x1:Nat}{tp p pos:R6}{l:RP}{ta:TA}
def sM(hg:Gl X "enumerate")(hm:X.mg "enumerate"=s_)(ha:PA X [l] ta)(hs:autoParam (RY [l] X.env=[(false,R3 l X.env)]) zA0):PI X (.Tuple q9 x1 tp) (.Call (.Name "enumerate" p) [l] [] pos) (iEnL X.K ta):=by
 intro pins s σ H R I h;refine Call_ (dG I hg hm PyProof.Rows.boot_enumerate (PyProof.Rows.callWith_type1 (thn (ha pos pins s σ H _ I h) λus s1 ⟨vs,H1,I1,r1,q1⟩=>?_) hs rfl));obtain⟨a,rfl,⟨xs,hq⟩,q⟩:=q1;obtain⟨u,rfl,ru⟩:=bS r1;cases ru;obtain⟨its,rv,pl,hz⟩:=I1.list hq;refine call_enumerate_list pl.isList λh' he hit gt hk=>?_;have I2:Inv X pins σ H1 {s1 with heap:=h'}:=I1.kept (t':=s1.toks) hk;refine SA he ?_;have ne:s1.heap.objs.size+1≠s1.heap.objs.size:=IP _;refine#[s1.heap.objs.size+1,[s1.heap.objs.size+1,s1.heap.objs.size],_,_,H1,rfl,I2,An a _ _ ne,#[#[_,he],hit],λb hb=>?_,q];rcases FQ.mp hb with z|z
 .rw[z];exact I1.fpOk (G1 _) (I1.hok.fresh (G1 _))
 .rw[FO.mp z];exact I1.fpOk (FM _) (I1.hok.fresh (FM _))
def sN(hg:Gl X "enumerate")(hm:X.mg "enumerate"=s_)(ha:PA X [l] ta)(hs:autoParam (RY [l] X.env=[(false,R3 l X.env)]) zA0):PI X (.Tuple q9 x1 tp) (.Call (.Name "enumerate" p) [l] [] pos) (iEnS ta):=by
 intro pins s σ H R I h;refine Call_ (dG I hg hm PyProof.Rows.boot_enumerate (PyProof.Rows.callWith_type1 (thn (ha pos pins s σ H _ I h) λus s1 ⟨vs,H1,I1,r1,q1⟩=>?_) hs rfl));obtain⟨x,rfl,Nl,q⟩:=q1;obtain⟨u,rfl,t,rfl⟩:=bS r1;refine call_enumerate_str λh' he hit gt hk=>?_;have I2:Inv X pins σ H1 {s1 with heap:=h'}:=I1.kept (t':=s1.toks) hk;refine SA he ?_;have ne:s1.heap.objs.size+1≠s1.heap.objs.size:=IP _;have Qm:strIterType x="str_ascii_iterator":=by unfold strIterType;rw[Nl];rfl
 rw[Qm]at hit;refine#[s1.heap.objs.size+1,[s1.heap.objs.size+1,s1.heap.objs.size],_,_,H1,rfl,I2,Ao x t _ _ ne,#[#[_,he],hit],λb hb=>?_,q];rcases FQ.mp hb with z|z
 .rw[z];exact I1.fpOk (G1 _) (I1.hok.fresh (G1 _))
 .rw[FO.mp z];exact I1.fpOk (FM _) (I1.hok.fresh (FM _))
end
end L2
namespace My
open Exc
section
variable {X:Cx}[J:Jm]{a b c e o:RP}{ta tb tc te to:TME}{pos:R6}{st:P3}{rest:List P3}{t u:TMS}
def sO{K:Ex}{F:Hp}:∀(is:List Nat) (ds:List D) (vs:List V) (z:SD),Reps K F ds vs->(∀(i:Nat) d,z[i]?≠be (be (.own d)))->∀(i:Nat) d,(aY is ds z)[i]?≠be (be (.own d))
 |[],_,_,z,_,h=>h
 |_::_,[],_,z,_,h=>h
 |i::is,d::ds,vs,z,r,h=>by
  obtain⟨v,vr,rfl,r1,r2⟩:=reps_cons.mp r;refine sO is ds vr _ r2 λj q e=>?_;by_cases hj:i=j
  .subst hj;rw[GS]at e;simp at e;have:=r1.noown;rw[e.2]at this;cases this
  .rw[Ge hj]at e;exact h j q e
def mItE(t:TME):TMI:=λz M R=>t z M λx M1=>match x with|.lst ds=>R ds M1|_=>False
def Ap(t:TME):TMI:=λz M R=>t z M λx M1=>match x with|.str x=>x.cps.all (·<128)=true/\R (cn x) M1|_=>False
def sP(is:List Nat)(ti:TMI)(tb:TMS):TMS:=λE z M=>ti z M λds M1=>∃W:Nat->SD->MS->Prop,W 0 z M1/\(∀(k:Nat) x z M,ds[k]?=be x->W k z M->tb {E with nx:=W (k+1),ct:=W (k+1),bk:=E.nx} (aY is [.int k,x] z) M)/\∀z M,W ds.length z M->E.nx z M
variable{is:List Nat}
def sQ{K:Ex}{F0 F1 H1:Hp}{z:SD}{s:L2.St}{M1:MS}{E:Ends}{ED:EndsM}{It':It}{g:TG}{tb:TMS}{tbv:TS}{ds:List D}(hK:K=X.K)(k1:Kept J.B F0 F1 H1)(Kt:RepZ K J.B F1 H1 z s M1)(e:EndsOkM K F0 ED E)(b7:is.length=2)
  (go:∀k F' H',Same F1 F'->Same F' H'->k<ds.length->It'.go k H') (stop:∀F' H',Same F1 F'->Same F' H'->It'.stop ds.length H')
  (yld:∀k F' H' x H'',Same F1 F'->Same F' H'->k<ds.length->It'.yld k H' x H''->∃T d v,H' T=s_/\x=.ref T/\H''=upd H' T (.tup [.int k,v])/\ds[k]?=be d/\Rep K F' d v)
  (hg:∀(dd:List D) (vs:List V) (T:KF) (z:SD) (s:L2.St) (F H:Hp) (Q:L2.St->Hp->Prop),dd.length=2->H T=be (.tup vs)->Reps K F dd vs->RepS K J.B F H z s->(∀s',RepS K J.B F H (aY is dd z) s'->Q s' H)->g (.ref T) s H Q)
  (Nm:∀E s H,mS K tb E s H->tbv E s H)
  (hd:∃W:Nat->SD->MS->Prop,W 0 z M1/\(∀(k:Nat) x z M,ds[k]?=be x->W k z M->tb {ED with nx:=W (k+1),ct:=W (k+1),bk:=ED.nx} (aY is [.int k,x] z) M)/\∀z M,W ds.length z M->ED.nx z M):
  ∃W:Nat->Nat->L2.St->Hp->Prop,(∃m,W 0 m s H1)/\∀i m σ H,W i m σ H->
   (It'.stop i H/\E.nx σ H)\/(It'.go i H/\∃N:L2.St->Hp->Prop,(∀σ' H',N σ' H'->∃m',m'<m/\W (i+1) m' σ' H')/\∀x H',It'.yld i H x H'->g x σ H' λσ2 H2=>tbv {E with nx:=N,ct:=N,bk:=E.nx} σ2 H2):=by
 obtain⟨W,w0,b_,out⟩:=hd;refine#[λk m s' H'=>m=ds.length-k/\k<=ds.length/\∃F' z' M',Kept J.B F0 F' H'/\Same F1 F'/\RepZ K J.B F' H' z' s' M'/\W k z' M',#[ds.length,Ld,Go _,F1,z,M1,k1,Same.refl F1,Kt,w0],?_];rintro k m s' H'⟨rfl,hk,F',z',M',k',g',r',w'⟩;by_cases f_:k<ds.length
 .refine .inr #[go k F' H' g' k'.fh f_,λs3 H3=>∃F3 z3 M3,Kept J.B F0 F3 H3/\Same F1 F3/\RepZ K J.B F3 H3 z3 s3 M3/\W (k+1) z3 M3,λs3 H3 h3=>#[ds.length-(k+1),Kd,rfl,f_,h3],λx H'' hy=>?_];obtain⟨T,d,v,hT,rfl,rfl,hd,rd⟩:=yld k F' H' x H'' g' k'.fh f_ hy;have gn:=Grow.new k'.fh hT (.tup [.int k,v]);have k2:=k'.grow gn;have r2:=r'.growM k'.bh gn.toM (r'.rm.grow gn);have rp:Reps K (upd F' T (.tup [.int k,v])) [.int k,d] [.int k,v]:=reps_cons.mpr #[_,_,rfl,rep_int.mpr rfl,eI (rd.mono gn.ff)];refine hg [.int k,d] _ T z' s' _ _ _ rfl aL rp r2.rs λs2 KI=>Nm _ _ _ ?_;have gF:Same F1 (upd F' T (.tup [.int k,v])):=g'.trans gn.ff;refine#[upd F' T (.tup [.int k,v]),upd F' T (.tup [.int k,v]),_,M',#[k2.bh,k2.fh,Same.refl _,λb h1 _=>h1,k2.eb,k2.jf.trans k2.f0,λb h1 h2=>k2.out b (k2.jo b h1 h2) h2],#[KI,sO is _ _ z' rp r2.no,r2.rm,r2.mb],_,b_ k d z' M' hd w',?_];have up:∀{F3 H3:Hp},Kept J.B (upd F' T (.tup [.int k,v])) F3 H3->Kept J.B F0 F3 H3:=λk3=>#[k3.bh,k3.fh,k2.f0.trans k3.f0,λb h1 h2=>k3.out b (k2.out b h1 h2) h2,k2.eb,k2.jf,k2.jo];exact#[λz3 s3 M3 F3 H3 k3 h3 r3=>#[F3,z3,M3,up k3,gF.trans k3.f0,r3,h3],λd v M3 F3 H3 k3=>e.rt d v M3 F3 H3 (up k3),λz3 s3 M3 F3 H3 k3=>e.nx z3 s3 M3 F3 H3 (up k3),λz3 s3 M3 F3 H3 k3 h3 r3=>#[F3,z3,M3,up k3,gF.trans k3.f0,r3,h3]]
 .have ek:k=ds.length:=by lia
  subst ek;exact .inl #[stop F' H' g' k'.fh,e.nx z' s' M' F' H' k' (out z' M' w') r']
variable{es:List RP}{body:List P3}
def Aq{x1:Nat}{tp p1 p2:R6}{tb:TMS}(hp:Sd (RS X.prog X.w) X.A X.env X.xe)(hc:X.calm=true)(hm:X.mg "enumerate"=s_)(he:ME X e te)(hG:DGs X es is)(hb:MSs X body tb)(b7:autoParam (is.length=2) zA0)(hg:autoParam (Gl X "enumerate") zA0)
  (hn:autoParam ((RZ es X.env).length=2) zA0) (j6:autoParam ((RZ es X.env).findIdx? (·.1)=none) zA0)
  (hs:autoParam (∀y,zFS X (.Call (.Name "enumerate" p1) [e] [] p2) y) zA2) (j7:autoParam (zSE X e []) zA0) (d_:autoParam (RY [e] X.env=[(false,R3 e X.env)]) zA0):
  MSt X (.For (.Tuple es x1 tp) (.Call (.Name "enumerate" p1) [e] [] p2) body [] pos) (sP is (mItE te) tb):=by
 obtain⟨ug,Kv,kk⟩:=hG;refine#[(cV hp hc (sM hg hm (bz he.out pa_nil j7) d_) (fE hc Kv hn j6) hb.out hs).anti λE s H q=>?_];obtain⟨F0,F,z,M,kp,rs,ED,h,e⟩:=q;refine#[F,z,M,kp.kf,rs,_,h,λd v M1 F1 H1 g1 hd rd m1=>?_];split at hd
 .rename_i ds;obtain⟨p,vs,rfl,hq,rr⟩:=rep_lst.mp rd;refine#[p,rfl,#[vs,SqL.of (g1.fh _ _ hq)],sQ (It':=Itel X.K p) rfl (kp.growM rs.mb g1) (rs.growM kp.bh g1 m1) e b7 (λk F' H' s1 s2 hk=>?_) (λF' H' s1 s2=>?_) (λk F' H' x H'' s1 s2 hk hy=>?_) (λdd l6 T z s F H Q hl hT rp z_ hQ=>?_) (λ_ _ _ h=>h) hd]
  .have n9:k<vs.length:=by rw[rr.length];exact hk
   exact#[vs,vs[k],SqL.of (s2 _ _ (s1 _ _ hq)),by simp[n9]]
  .exact#[vs,SqL.of (s2 _ _ (s1 _ _ hq)),by rw[rr.length];exact FM _]
  .obtain⟨T,v,hT,e1,e2,hv⟩:=hy;obtain⟨d,hd,rd⟩:=rr.get' (hv vs (SqL.of (s2 _ _ (s1 _ _ hq))));exact#[T,d,v,hT,e1,e2,hd,rd.mono s1]
  .exact#[T,l6,rfl,SqT.of hT,by rw[rp.length];exact hl,kk dd l6 z s J.B F H Q (by rw[hl,b7]) rp z_ hQ]
 .exact hd.elim
def Ar{x1:Nat}{tp p1 p2:R6}{tb:TMS}(hp:Sd (RS X.prog X.w) X.A X.env X.xe)(hc:X.calm=true)(hm:X.mg "enumerate"=s_)(he:ME X e te)(hG:DGs X es is)(hb:MSs X body tb)(b7:autoParam (is.length=2) zA0)(hg:autoParam (Gl X "enumerate") zA0)
  (hn:autoParam ((RZ es X.env).length=2) zA0) (j6:autoParam ((RZ es X.env).findIdx? (·.1)=none) zA0)
  (hs:autoParam (∀y,zFS X (.Call (.Name "enumerate" p1) [e] [] p2) y) zA2) (j7:autoParam (zSE X e []) zA0) (d_:autoParam (RY [e] X.env=[(false,R3 e X.env)]) zA0):
  MSt X (.For (.Tuple es x1 tp) (.Call (.Name "enumerate" p1) [e] [] p2) body [] pos) (sP is (Ap te) tb):=by
 obtain⟨ug,Kv,kk⟩:=hG;refine#[(cV hp hc (sN hg hm (bz he.out pa_nil j7) d_) (fE hc Kv hn j6) hb.out hs).anti λE s H q=>?_];obtain⟨F0,F,z,M,kp,rs,ED,h,e⟩:=q;refine#[F,z,M,kp.kf,rs,_,h,λd v M1 F1 H1 g1 hd rd m1=>?_];split at hd
 .rename_i x;obtain⟨ha,hd⟩:=hd;have hl:=gX x;refine#[x,by rw[rep_str.mp rd],ha,sQ (It':=Ites x) rfl (kp.growM rs.mb g1) (rs.growM kp.bh g1 m1) e b7 (λk F' H' s1 s2 hk=>?_) (λF' H' s1 s2=>?_) (λk F' H' x H'' s1 s2 hk hy=>?_) (λdd l6 T z s F H Q hl hT rp z_ hQ=>?_) (λ_ _ _ h=>h) hd]
  .rw[hl]at hk;exact hk
  .exact hl
  .obtain⟨T,c,hT,e1,e2,hc⟩:=hy;exact#[T,.str #[[c].toArray],.str #[[c].toArray],hT,e1,e2,kz hc,rep_str.mpr rfl]
  .exact#[T,l6,rfl,SqT.of hT,by rw[rp.length];exact hl,kk dd l6 z s J.B F H Q (by rw[hl,b7]) rp z_ hQ]
 .exact hd.elim
end
end My
namespace L2
section
variable {prog:RQ}{w:RU}{K:Type}[DecidableEq K]{j8:HeapKind prog w K}{A:RV}{E:KB->KM->Prop}{s:KM}{d a:KF}{k:K}{xs:List (K×KF×KB)}
def As{v:KB}{Q:KB->KM->Prop}(hu:j8.room A)(n4:j8.is s.heap k a)(hm:s.heap.DictOfH j8 d xs)
  (h1:∀p,S6 xs k=be p->Q p.2 {s with toks:=s.toks+j8.draws k})
  (h2:S6 xs k=s_->∀h',h'.DictOfH j8 d (xs++[(k,a,v)])->Heap.SameBut d s.heap h'->Q v {s with heap:=h',toks:=s.toks+j8.draws k})
  (gt:xs.length<=sizeLine):RR (RS prog w) A (S' d (.ref a) v) Q E s:=by
 obtain⟨o,es,ep,ho,hc,hd,he,O0,hn⟩:=hm;unfold S'
 try with_reducible refine So ?_
 refine Os (j8.pyHash hu n4 ?_);refine Os (wpAny_dictFind_heap (s:={s with toks:=s.toks+j8.draws k}) hu n4 ho hd he O0 hn ?_ ?_)
 .intro Lg;have Nn:k∉xs.map (·.1):=not_mem_keys_of_get Lg;refine Os (Tt (Os (wpAny_updateDictKeys (hz:=by have e:=size_of_entries he;lia) (s:={s with toks:=s.toks+j8.draws k}) ho hd (RT (h2 (atKey_none_of_get Lg) _ ⟨_,_,ep+1,Heap.get?_update_self _ ho (Obj.isFreed_of_dict (Obj.data_mapDictKeys hd _)),
   hc.mapDictKeys _,Obj.data_mapDictKeys hd _,?_,?_,?_⟩ (Heap.SameBut.update ..))))))
  .simp[he,entryOfKey]
  .intro x hx;rcases Gk.mp hx with hx|hx
   .exact j8.keeps (O0 x hx) ho hd (Heap.SameBut.update ..)
   .simp only[FO]at hx;subst hx;exact j8.keeps n4 ho hd (Heap.SameBut.update ..)
  .rw[Gr,Hn];refine#[hn,Ld,?_];intro x hx y hy;simp only[FY,GJ,FO]at hy;subst hy;exact λe=>Nn (e ▸ hx)
 .intro j p hj;refine Os (wpAny_dictEntries (s:={s with toks:=s.toks+j8.draws k}) ho hd ?_);rw[entry_at he j,hj];exact Os (Tt (RT (h1 p (atKey_of_get hn hj))))
def Au(j8:HeapKind prog w K)(d a:KF)(hd:(d==Sj)=false)(v:KB):
  MeetsIn prog w (Builtin.«dict.setdefault» #[[.ref d,.ref a,v],[]]) (λA R s=>j8.room A.in1/\∃k xs,j8.is s.heap k a/\s.heap.DictOfH j8 d xs/\xs.length<=sizeLine/\
   (∀p,S6 xs k=be p->R (.ok (.ret p.2)) {s with toks:=s.toks+j8.draws k})/\
   (S6 xs k=s_->∀h',h'.DictOfH j8 d (xs++[(k,a,v)])->Heap.SameBut d s.heap h'->R (.ok (.ret v)) {s with heap:=h',toks:=s.toks+j8.draws k})):=
 .of_wp λA R s hh=>by
  obtain⟨hu,k,xs,n4,hm,hz,h1,h2⟩:=hh;unfold Builtin.«dict.setdefault»;refine Os ?_;unfold Builtin.Dict.keyAndDefault;refine Os (wpAny_notOrdered_dict hm.typeIs ?_);show RR _ _ (pure (d,Value.ref a,be v)) _ _ s;refine RT ?_;show RR _ _ (if(d==Sj)=true then _ else(S' d (.ref a) v>>=_)) _ _ s;rw[if_neg (by rw[hd];exact F6)];exact Os (As hu n4 hm (λp hp=>RT #[p.2,rfl,h1 p hp]) (λhn h' Qn J0=>RT #[v,rfl,h2 hn h' Qn J0]) hz)
end
end L2
namespace My
open Exc
def lookD:List ((Int×Int)×Int)->Int->Int->Option Int
 |[],_,_=>s_
 |((a,b),h)::r,x,y=>if a=x/\b=y then be h else lookD r x y
def kF(x y:Int):∀a8:List ((Int×Int)×Int),valV (dtiV a8) [.inl x,.inl y]=(lookD a8 x y).map V.int
 |[]=>rfl
 |((a,b),h)::r=>by
  show valV (([.inl a,.inl b],V.int h)::dtiV r) _=_;unfold lookD;by_cases e:a=x/\b=y
  .rw[if_pos e,jS (by rw[e.1,e.2])];rfl
  .rw[if_neg e,jT (λz=>e (by
    have z':([Sum.inl a,Sum.inl b]:List Key)=[.inl x,.inl y]:=z;injection z' with z1 z2;injection z2 with z2 _;exact#[Sum.inl.inj z1,Sum.inl.inj z2])),kF x y r]
def sdD(a8:List ((Int×Int)×Int))(x y v:Int):List ((Int×Int)×Int):=if(lookD a8 x y).isSome then a8 else a8++[((x,y),v)]
def Av:V->List V->Hp->VK->Prop:=λx vs H Q=>∃a b i j d a8,x=.ref a/\vs=[.ref b,.int d]/\H a=be (.dT (dtiV a8))/\H b=be (.tup [.int i,.int j])/\Q (.int ((lookD a8 i j).getD d)) H
def Aw{X:Cx}(hu:X.A.units+1<SY):MtR X "dict.get" Av:=by
 intro pins s σ H x vs v us Q I rx rv h;obtain⟨a,b,i,j,d,a8,rfl,rfl,ha,hb,q⟩:=h;obtain⟨u,u',rfl,ru,rd⟩:=fG rv;cases(show v=Value.ref a from rx);refine xT hu I (DGet.t (k:=[.inl i,.inl j]) ha hb) ru rd λw' s' I' g7=>#[.int ((lookD a8 i j).getD d),H,I',?_,q];rw[kF]at g7;cases e:lookD a8 i j with
 |none=>rw[e]at g7;exact g7
 |some z=>rw[e]at g7;exact g7
def rSdT:V->List V->Hp->VK->Prop:=λx vs H Q=>∃a b i j d a8,x=.ref a/\vs=[.ref b,.int d]/\H a=be (.dT (dtiV a8))/\H b=be (.tup [.int i,.int j])/\a8.length<100000/\∀w,Q (.int w) (upd H a (.dT (dtiV (sdD a8 i j d))))
def Ax{H:Hp}{a:KF}{o:HO}(h:H a=be o):upd H a o=H:=by
 funext b;by_cases e:b=a
 .subst e;rw[aL,h]
 .rw[aD e]
def Ay{X:Cx}(hu:X.A.units+1<SY):MtR X "dict.setdefault" rSdT:=by
 intro pins s σ H x vs v us Q I rx rv h;obtain⟨a,b,i,j,d,a8,rfl,rfl,ha,hb,hl,q⟩:=h;obtain⟨u,u',rfl,ru,t,rfl⟩:=fG rv;cases(show v=Value.ref a from rx);cases(show u=Value.ref b from ru);obtain⟨z,hd,xs,rel,dd⟩:=xP I.hok ha;have b7:xs.length=a8.length:=by rw[<-Paired.length rel];simp[dtiV]
 have big:(100000:Nat)<sizeLine:=Kj
 have l_:H b=be (.tup (([.inl i,.inl j]:List Key).map kV)):=hb;have j9:=rel.val [.inl i,.inl j];rw[kF]at j9;refine To PySem.F.slot_dict_setdefault dd.typeIs PySem.F.entry_dict_setdefault (PySem.F.args_dict_setdefault_3 _ _ _) (Au (SI (bR X.prog X.w)) a b hd (.int d t)) #[TB hu,[.inl i,.inl j],xs,key_of I.hok l_,dd,Kd,λp hp=>?_,λhn h' Mg hs=>?_]
 .rw[hp]at j9;cases e:lookD a8 i j with
  |none=>rw[e]at j9;exact j9.elim
  |some w=>
   rw[e]at j9;have:=q w;unfold sdD at this;rw[e]at this;have e2:(if(be w:Option Int).isSome then a8 else a8++[((i,j),d)])=a8:=rfl;rw[e2,Ax ha]at this;exact#[.int w,H,I.tok _,j9,this]
 .rw[hn]at j9;cases e:lookD a8 i j with
  |some w=>rw[e]at j9;exact j9.elim
  |none=>
   have e2:sdD a8 i j d=a8++[((i,j),d)]:=by unfold sdD;rw[e];rfl
   have e3:dtiV (sdD a8 i j d)=dtiV a8++[([.inl i,.inl j],.int d)]:=by rw[e2];simp[dtiV]
   obtain⟨o,es,ep,ho,hx,h3,h4,_,h5⟩:=Mg;have new:ObjOk X.prog X.w (upd H a (.dT (dtiV (sdD a8 i j d)))) h' a (.dT (dtiV (sdD a8 i j d))):=by
    refine#[by rw[e3,F8];simp[dtiV];lia,hd,_,?_,o,es,ep,ho,hx,h3,h4,h5];rw[e3];refine KT.keeps (H:=H) (Paired.snoc (a:=(([.inl i,.inl j]:List Key),V.int d)) (b:=(([.inl i,.inl j]:List Key),b,Value.int d t)) rel #[rfl,l_,#[t,rfl]]) λc ys ec=>?_;rw[aD (vH ec ha (λz=>nomatch z))];exact ec
   exact#[.int d,_,xQ I (by rw[ha];exact True.intro) hs #[o,ho] new,#[t,rfl],q d]
section
variable {X:Cx}[J:Jm]{a b c e o f:RP}{ta tb tc te to:TME}{pos apos cpos:R6}{t:TMA}
def mD0:TME:=λ_ M R=>R (.dti []) M
def Az:ME X (.Dict [] [] pos) mD0:=⟨pe_dnewT.anti λs H Q q=>by
 obtain⟨F,z,M,k,rs,R,h1,h2⟩:=q;intro p hp;have gn:=Grow.new k.fh hp (.dT []);exact h2 _ _ M _ _ gn.toM h1 (rep_dti.mpr #[p,rfl,aL]) (rs.rm.grow gn)⟩
def mDN:TME:=λ_ M R=>∀p,p∉aE M->R (.ptr p) ((p,.dti [])::M)
def AA:ME X (.Dict [] [] pos) mDN:=⟨pe_dnewT.anti λs H Q q=>by
 obtain⟨F,z,M,k,rs,R,h1,h2⟩:=q;intro p hp;exact h2 _ _ _ F _ (GrowM.new k.fh hp) (h1 p λz=>rs.rm.here z hp) (rep_ptr.mpr rfl) (rs.rm.new k.fh hp aL)⟩
def AB(to:TME)(t:TMA):TME:=λz M R=>to z M λd M1=>match d with|.dti a8=>(t z M1 λds M2=>match ds with|[.tup [.int i,.int j],.int x]=>R (.int ((lookD a8 i j).getD x)) M2|_=>False)|_=>False
def AC(hu:X.A.units+1<SY)(ho:ME X o to)(ha:MA X [e,f] t)(b8:autoParam (R1 o "get" X.env (R3 o X.env)=R3 o X.env) zA0)
  (d9:autoParam (zHF X cpos [e,f]) zA0)
  (c5:autoParam ((apos.endLine==cpos.line)=true) zA0) (n8:autoParam (zSE X e [f]) zA0) (c9:autoParam (zPL X cpos [f]) zA0):
  ME X (.Call (.Attribute o "get" apos) [e,f] [] cpos) (AB to t):=⟨(eB PySem.F.plainAttrs_dict PySem.F.slot_dict_get PySem.F.type_dict_get (Aw hu) ho.out ha.out b8 d9 c5 n8 c9).anti λs H Q h=>by
 obtain⟨F,z,M,k,rs,R,h1,h2⟩:=h;refine#[F,z,M,k,rs,_,h1,λx u M1 F1 H1 g1 hx rx m1=>?_];split at hx
 .rename_i a8;obtain⟨p,rfl,hp⟩:=rep_dti.mp rx;refine#[.inr (.inr (.inl #[rfl,.inr #[_,g1.fh _ _ hp]])),?_];refine#[F1,z,M1,k.growM rs.mb g1,rs.growM k.bh g1 m1,_,hx,λds vs M2 F2 H2 g2 hd rd m2=>?_];split at hd
  .rename_i i j x;obtain⟨v1,r1,rfl,q1,q2⟩:=reps_cons.mp rd;obtain⟨v2,r2,rfl,q3,q4⟩:=reps_cons.mp q2;rw[reps_nil.mp q4,rep_int.mp q3];obtain⟨b,us,rfl,hb,ru⟩:=rep_tupS.mp q1;have No:us=[.int i,.int j]:=(Reps.ints (ns:=[i,j])).mp ru;subst No;exact#[p,b,i,j,x,a8,rfl,rfl,g2.fh _ _ (g2.ff _ _ hp),g2.fh _ _ hb,h2 _ _ M2 F2 H2 (g1.trans g2) hd (rep_int.mpr rfl) m2]
  .exact hd.elim
 .exact hx.elim⟩
def mDsd(to:TME)(t:TMA):TME:=λz M R=>to z M λd M1=>match d with|.ptr a=>(∃a8,mget M1 a=be (.dti a8))/\(t z M1 λds M2=>match ds with|[.tup [.int i,.int j],.int x]=>∃a8,mget M2 a=be (.dti a8)/\a8.length<100000/\∀w,R (.int w) (mput M2 a (.dti (sdD a8 i j x)))|_=>False)|_=>False
def AD(hu:X.A.units+1<SY)(ho:ME X o to)(ha:MA X [e,f] t)(b8:autoParam (R1 o "setdefault" X.env (R3 o X.env)=R3 o X.env) zA0)
  (d9:autoParam (zHF X cpos [e,f]) zA0)
  (c5:autoParam ((apos.endLine==cpos.line)=true) zA0) (n8:autoParam (zSE X e [f]) zA0) (c9:autoParam (zPL X cpos [f]) zA0):
  ME X (.Call (.Attribute o "setdefault" apos) [e,f] [] cpos) (mDsd to t):=⟨(eB PySem.F.plainAttrs_dict PySem.F.slot_dict_setdefault PySem.F.type_dict_setdefault (Ay hu) ho.out ha.out b8 d9 c5 n8 c9).anti λs H Q h=>by
 obtain⟨F,z,M,k,rs,R,h1,h2⟩:=h;refine#[F,z,M,k,rs,_,h1,λx u M1 F1 H1 g1 hx rx m1=>?_];split at hx
 .rename_i a;obtain⟨⟨Rq,Ni⟩,hx⟩:=hx;rw[rep_ptr.mp rx];refine#[.inr (.inr (.inl #[rfl,.inr #[_,m1.ok _ _ (cf Ni)]])),?_];refine#[F1,z,M1,k.growM rs.mb g1,rs.growM k.bh g1 m1,_,hx,λds vs M2 F2 H2 g2 hd rd m2=>?_];split at hd
  .rename_i i j x;obtain⟨a8,hm,hl,hR⟩:=hd;obtain⟨v1,r1,rfl,q1,q2⟩:=reps_cons.mp rd;obtain⟨v2,r2,rfl,q3,q4⟩:=reps_cons.mp q2;rw[reps_nil.mp q4,rep_int.mp q3];obtain⟨b,us,rfl,hb,ru⟩:=rep_tupS.mp q1;have No:us=[.int i,.int j]:=(Reps.ints (ns:=[i,j])).mp ru;subst No;refine#[a,b,i,j,x,a8,rfl,rfl,m2.ok _ _ (cf hm),g2.fh _ _ hb,hl,λw=>?_];exact h2 _ _ _ F2 _ (g1.trans (g2.trans (GrowM.put g2.fh (m2.fr a (cI (cf hm))) hm))) (hR w) (rep_int.mpr rfl) (m2.put hm aL)
  .exact hd.elim
 .exact hx.elim⟩
end
section
variable {P:RQ}{w:RU}{K:Ex}{mg:E_->Option KB}{base:RW}
open Classical in
def Cls.okIM{x qual:E_}{st:P3}{f C:KF}{fd:R4}{N:List E_}{p0:E_}{ps:List E_}{k:Nat}{S:SiD}(T:Fun K "__init__" qual st f fd)(hb:Binds K fd (p0::ps) [])(F:FnScope N (p0::ps) (ao st))(len:∀ds R,S ds R->ds.length=ps.length)
  (hns:nsIn K Pi x=be (be (.ref C))) (l5:mg x=be (.ref C)) (mk:Mk K C f)
  (a_:∀(cdv:KB) (A:RV) (outer:List SG) (s:KM) (H:Hp) (E:XK) (J:Jm),Room k (A.deeper (R' qual (ao st) s.heap.objs.size f cdv))->XOkM (cxOf (CX1 P w) P w K mg base N qual (ao st) f cdv A outer s H E).nox->
   ∃t,MSs (cxOf (CX1 P w) P w K mg base N qual (ao st) f cdv A outer s H E).nox (aQ st) t/\∀a ds R,(∀z M x fs,¬J.RM z M x fs)->S ds R->t {nx:=λ_ M'=>∃fs,M'=[(a,.ins x fs)]/\R fs,rt:=λ_ _=>False} (startD N (.ptr a::ds)) [(a,.ins x [])]):CalM P w K mg base (k+1) x (p0::ps) S:=by
 refine#[C,f,fd,hns,l5,mk,Fun.okC T F (λvs H Q E h=>?_) (λcdv A outer s H vs Q E hr h=>?_),hb]
 .obtain⟨a,dx,us,H1,F,ds,rfl,_,_,_,_,_,rs,R,h,_⟩:=h;rw[FV,FV,rs.length,len ds R h]
 .obtain⟨a,dx,us,H1,F1,ds,rfl,rfl,ha,v7,p7,fh,rs,R,h,q⟩:=h
  let H:Hp:=upd (upd H1 dx (.own a)) a (.ins C dx [])
  let B:Hp:=λb=>if b=a then s_ else H b
  have O1:B a=none:=if_pos rfl;have hB:∀{b:KF},b≠a->B b=H b:=λ{b} h=>if_neg h;have JK:∀{b:KF} {o:HO},H1 b=be o->b≠a/\H b=be o:=λ{b o} e=>by
   have n1:b≠a:=cU e ha;exact#[n1,by show upd _ _ _ b=_;rw[aD n1,aD (cU e v7)];exact e]
  letI:Jm:={B:=B,F0:=F1,RX:=λ_ _ _=>False,RM:=λ_ _ _ _=>False}
  have hx:XOkM (cxOf (CX1 P w) P w K mg base N qual (ao st) f cdv A outer s H E).nox:=λσ z M' F' H' s' e C od y fs I kk rr hR er _=>hR.elim;obtain⟨t,ht,hq⟩:=a_ cdv A outer s H E inferInstance hr hx;have Fa:F1 a=none:=fh.free ha;have k0:Kept B F1 F1 H:=⟨λb o e=>by
   by_cases n:b=a
   .rw[n,O1]at e;cases e
   .rw[hB n]at e;exact e,λb o e=>(JK (fh b o e)).2,Same.refl F1,λ_ h _=>h,rfl,Same.refl F1,λ_ h _=>h⟩
  have z_:Reps K F1 (.ptr a::ds) (.ref a::us):=reps_cons.mpr #[_,_,rfl,rep_ptr.mpr rfl,rs];have Qo:RepM K F1 H [(a,.ins x [])]:=⟨by simp[aE],λb o hb=>by
   have e:=FO.mp hb;cases e;exact#[C,dx,[],hns,aL,repf_nil.mpr rfl],λb hb=>by
   have e:b=a:=by simpa[aE]using hb
   rw[e];exact Fa⟩
  have r0:RepZ K B F1 H (startD N (.ptr a::ds)) (L2.start N (.ref a::us)) [(a,.ins x [])]:=⟨fK z_,sK z_,Qo,λb hb=>by
   have e:b=a:=by simpa[aE]using hb
   rw[e];exact O1⟩
  refine#[_,ht.out.nox,F1,F1,_,_,k0,r0,_,hq a ds R (λ_ _ _ _ z=>z) h,#[λz' s' M' F' H' kk hn r=>?_,λd v M' F' H' kk hd rd OZ mb=>hd.elim,λ_ _ _ _ _ _ h _=>h.elim,λ_ _ _ _ _ _ h _=>h.elim]];obtain⟨fs,rfl,hR⟩:=hn;obtain⟨C',JJ,ws,m9,k7,rf⟩:=r.rm.ok a _ (FO.mpr rfl);have Kf:nsIn K Pi x=be (be (.ref C')):=m9;rw[hns]at Kf;cases Kf;exact q fs ws JJ F' H' ⟨kk.f0,kk.fh,λb o e=>kk.bh b o (by show B b=be o;rw[hB (JK e).1];exact(JK e).2),λb h1 h2=>kk.out b h1 (by
   show B b≠s_;cases e:H1 b with
   |none=>exact absurd e h2
   |some o=>rw[hB (JK e).1,(JK e).2];exact λz=>nomatch z)⟩ hR k7 (r.rm.fr a (by simp[aE])) rf
end
section
variable {P:RQ}{w:RU}{K:Ex}{mg:E_->Option KB}{base:RW}{n:Nat}{x m:E_}{ps:List E_}
variable{S:SpM}
def CalMth.one(h:CalMth P w K mg base n x m ps (lSpM K S)):∀y,y∈[x]->CalMth P w K mg base n y m ps (lSpM K ((λ_=>S) y)):=λy hy=>by
 rw[FO.mp hy];exact h
def sR{f:KF}{fd:R4}{sp:Sp}(h:∀vs H Q E,¬sp vs H Q E):FnOk P w K mg base (CX1 P w) n f fd ps sp:=#[λvs H Q E q=>(h _ _ _ _ q).elim,λA outer s H args us vs Q E _ _ _ _ q=>(h _ _ _ _ q).elim]
def sS(h:∀ds M R RX,¬S ds M R RX):∀vs H Q E,¬lSpM K S vs H Q E:=by
 rintro vs H Q E⟨F,ds,M,_,_,_,R,RX,q,_⟩;exact h ds M R RX q
def CalMth.never{qual:E_}{st:P3}(T:Txm K x m qual st ps)(h:∀ds M R RX,¬S ds M R RX):CalMth P w K mg base n x m ps (lSpM K S):=by
 obtain⟨C,f,fd,h1,h2,h3,T,hb⟩:=T;exact#[C,f,fd,h1,h2,h3,sR (sS h),hb]
def CalMM.never{st:P3}(T:Tx K mg x st ps)(h:∀ds M R RX,¬S ds M R RX):CalMM P w K mg base n x ps S:=by
 obtain⟨f,fd,T,hb,hm⟩:=T;exact#[f,fd,sR (sS h),hb,T.kp,hm]
end
def kG(S:SpM):SpM:=λds M R RX=>∃M1 M2,M=M1++M2/\S ds M2 (λd M'=>R d (M1++M')) λx fs M'=>RX x fs (M1++M')
def keys_app{M1 M2:MS}{a:KF}:a∈aE (M1++M2)↔a∈aE M1\/a∈aE M2:=by unfold aE;rw[Gr,Gk]
def sT{K:Ex}{S:SpM}{vs:List V}{H:Hp}{Q:VK}{E:XK}(h:lSpM K (kG S) vs H Q E):lSpM K S vs H Q E:=by
 obtain⟨F,ds,M,fh,rs,rm,R,RX,⟨M1,M2,rfl,hS⟩,q,qx⟩:=h;have nd:(aE M1++aE M2).Nodup:=by have:=rm.nd;unfold aE at this ⊢;rw[Gr]at this;exact this
 have Np:∀{a:KF},a∈aE M1->a∉aE M2:=λ{a} h1 h2=>(Hn.mp nd).2.2 a h1 a h2 rfl;have Qp:RepM K F H M2:=#[(Hn.mp nd).2.1,λa o h=>rm.ok a o (Gh _ h),λa h=>rm.fr a (keys_app.mpr (.inr h))];have up:∀{M':MS} {F' H':Hp},GrowM M2 M' F H F' H'->RepM K F' H' M'->GrowM (M1++M2) (M1++M') F H F' H'/\RepM K F' H' (M1++M'):=λ{M' F' H'} g r=>by
  have O2:∀{a:KF},a∈aE M1->H a≠none:=λ{a} h=>rm.here (keys_app.mpr (.inl h));have Nq:∀{a:KF},a∈aE M1->a∉aE M':=λ{a} h1 h2=>by
   rcases g.ks a h2 with z|z
   .exact Np h1 z
   .exact O2 h1 z
  refine#[#[g.ff,g.fh,λb o nb e=>g.hh b o (λz=>nb (keys_app.mpr (.inr z))) e,λb nb h1 h2=>g.out b (λz=>nb (keys_app.mpr (.inr z))) h1 h2,λb hb=>?_],#[?_,λa o h=>?_,λa h=>?_]]
  .rcases keys_app.mp hb with z|z
   .exact .inl (keys_app.mpr (.inl z))
   .exact(g.ks b z).imp (λz=>keys_app.mpr (.inr z)) id
  .unfold aE;rw[Gr];exact Hn.mpr #[(Hn.mp nd).1,r.nd,λa h1 b h2 e=>Nq h1 (e ▸ h2)]
  .rcases Gk.mp h with z|z
   .have ka:a∈aE M1:=cI z;exact(rm.ok a o (G0 _ z)).mono g.ff λo e=>g.hh a o (Np ka) e
   .exact r.ok a o z
  .rcases keys_app.mp h with z|z
   .exact g.out a (Np z) (rm.fr a (keys_app.mpr (.inl z))) (O2 z)
   .exact r.fr a z
 exact#[F,ds,M2,fh,rs,Qp,_,_,hS,λd v M' F' H' g hd rd m'=>q d v _ F' H' (up g m').1 hd rd (up g m').2,λx fs C od M' F' H' g hR er m'=>qx x fs C od _ F' H' (up g m').1 hR er (up g m').2]
section
variable {P:RQ}{w:RU}{K:Ex}{mg:E_->Option KB}{base:RW}{n:Nat}{x m:E_}{ps:List E_}{S:SpM}
def CalMM.frame(C:CalMM P w K mg base n x ps S):CalMM P w K mg base n x ps (kG S):=C.imp λ_ _ _ _ h=>sT h
def CalMth.frame(C:CalMth P w K mg base n x m ps (lSpM K S)):CalMth P w K mg base n x m ps (lSpM K (kG S)):=C.imp λ_ _ _ _ h=>sT h
end
def nilX(S:SpX):SpM:=λds M R RX=>M=[]/\∃(R0:D->Prop) (KL:XD),S ds R0 KL/\(∀d M',R0 d->R d M')/\∀x fs M',KL x fs->RX x fs M'
def CalMM.nilX{P:RQ}{w:RU}{K:Ex}{mg:E_->Option KB}{base:RW}{n:Nat}{x:E_}{ps:List E_}{S:SpX}(C:CalMM P w K mg base n x ps (nilX S)):CalX P w K mg base n x ps S:=C.toX λ_ R RX h=>#[rfl,R,RX,h,λ_ _ h=>h,λ_ _ _ h=>h]
end My
namespace My
section
variable {K:Ex}{h:RW}{mg:E_->Option KB}{x y m q f:E_}{st:P3}{ps:List E_}
abbrev NsC(K:Ex)(x:E_)(C:KF):Prop:=nsIn K Pi x=be (be (.ref C))
variable{C:KF}
def NsC.uniq{D:KF}(a:NsC K x C)(b:NsC K x D):C=D:=by
 have e:=a.symm.trans b;cases e;rfl
abbrev BindA(x q:E_)(st:P3)(ps:List E_):Prop:=∀(kV doc pm:KB) (an:Option KF) (cdv ct:KB) (us:List KB),us.length=ps.length->Sv (fnOf x q (bM st) (aQ st) (ao st) .none kV doc pm an cdv ct) #[us,[]]=pure (ps.zip us)
def FnIn(K:Ex)(x:E_)(st:P3):Prop:=∃f fd,NsC K x f/\Fun K x x st f fd
variable{oc kV dc pm cd ct:KB}{od an:Option KF}{sl:Array (Option KB)}
def fnIn_mk{f:KF}(a:nsIn K Pi x=be (be (.ref f)))(l:K.lookup f=be #[oc,od,.func (fnOf x x (bM st) (aQ st) (ao st) .none kV dc pm an cd ct),sl])(c:codeIn K cd x=true)(k:keepIn K (.ref f)=true):FnIn K x st:=#[f,_,a,gC l c k]
def FnIn.tx(T:FnIn K x st)(X:K.In h)(G:h.Ns Pi mg)(b:BindA x x st ps):Tx K mg x st ps:=by
 obtain⟨f,fd,a,F⟩:=T;exact#[f,fd,F,F.binds b,mg_of X G a]
def FnIn.law{p:E_}(T:FnIn K x st)(X:K.In h)(G:h.Ns Pi mg){fa:KF}(Nr:mg x=be (.ref fa))(b:∀(kV doc pm:KB) (an:Option KF) (cdv ct v:KB),Sv (fnOf x x (bM st) (aQ st) (ao st) .none kV doc pm an cdv ct) #[[v],[]]=pure [(p,v)]):∃fd,(∀(s:KM) (v:KB),S2 s fd #[[v],[]] [(p,v)])/\Fun K x x st fa fd:=by
 obtain⟨f,fd,a,F⟩:=T;have e:=Nr.symm.trans (mg_of X G a);cases e;refine#[fd,λs v=>?_,F];obtain⟨oc,od,kV,doc,pm,an,cdv,ct,osl,rfl,lk,i6⟩:=F.ex;exact .of_eq (b _ _ _ _ _ _ v)
variable{us:List KB}
def bw{x:E_}{xs:List E_}(h:us.length=(x::xs).length):∃u t,us=u::t/\t.length=xs.length:=by
 cases us with
 |nil=>cases h
 |cons u t=>exact#[u,t,rfl,Nat.succ.inj h]
def len_0(h:us.length=([]:List E_).length):us=[]:=IQ h
variable{x0:E_}
def AE(b:∀(kV doc pm:KB) (an:Option KF) (cdv ct u0:KB),Sv (fnOf x q (bM st) (aQ st) (ao st) .none kV doc pm an cdv ct) #[[u0],[]]=pure [(x0,u0)]):BindA x q st [x0]:=λkV doc pm an cdv ct us hl=>by
 obtain⟨u0,t0,rfl,h0⟩:=bw hl;cases len_0 h0;exact b kV doc pm an cdv ct u0
variable{x1:E_}
def bind2(b:∀(kV doc pm:KB) (an:Option KF) (cdv ct u0 u1:KB),Sv (fnOf x q (bM st) (aQ st) (ao st) .none kV doc pm an cdv ct) #[[u0,u1],[]]=pure [(x0,u0),(x1,u1)]):BindA x q st [x0,x1]:=λkV doc pm an cdv ct us hl=>by
 obtain⟨u0,t0,rfl,h0⟩:=bw hl;obtain⟨u1,t1,rfl,h1⟩:=bw h0;cases len_0 h1;exact b kV doc pm an cdv ct u0 u1
variable{x2:E_}
def bind3(b:∀(kV doc pm:KB) (an:Option KF) (cdv ct u0 u1 u2:KB),Sv (fnOf x q (bM st) (aQ st) (ao st) .none kV doc pm an cdv ct) #[[u0,u1,u2],[]]=pure [(x0,u0),(x1,u1),(x2,u2)]):BindA x q st [x0,x1,x2]:=λkV doc pm an cdv ct us hl=>by
 obtain⟨u0,t0,rfl,h0⟩:=bw hl;obtain⟨u1,t1,rfl,h1⟩:=bw h0;obtain⟨u2,t2,rfl,h2⟩:=bw h1;cases len_0 h2;exact b kV doc pm an cdv ct u0 u1 u2
variable{x3:E_}
def bind4(b:∀(kV doc pm:KB) (an:Option KF) (cdv ct u0 u1 u2 u3:KB),Sv (fnOf x q (bM st) (aQ st) (ao st) .none kV doc pm an cdv ct) #[[u0,u1,u2,u3],[]]=pure [(x0,u0),(x1,u1),(x2,u2),(x3,u3)]):BindA x q st [x0,x1,x2,x3]:=λkV doc pm an cdv ct us hl=>by
 obtain⟨u0,t0,rfl,h0⟩:=bw hl;obtain⟨u1,t1,rfl,h1⟩:=bw h0;obtain⟨u2,t2,rfl,h2⟩:=bw h1;obtain⟨u3,t3,rfl,h3⟩:=bw h2;cases len_0 h3;exact b kV doc pm an cdv ct u0 u1 u2 u3
def bind5{x4:E_}(b:∀(kV doc pm:KB) (an:Option KF) (cdv ct u0 u1 u2 u3 u4:KB),Sv (fnOf x q (bM st) (aQ st) (ao st) .none kV doc pm an cdv ct) #[[u0,u1,u2,u3,u4],[]]=pure [(x0,u0),(x1,u1),(x2,u2),(x3,u3),(x4,u4)]):BindA x q st [x0,x1,x2,x3,x4]:=λkV doc pm an cdv ct us hl=>by
 obtain⟨u0,t0,rfl,h0⟩:=bw hl;obtain⟨u1,t1,rfl,h1⟩:=bw h0;obtain⟨u2,t2,rfl,h2⟩:=bw h1;obtain⟨u3,t3,rfl,h3⟩:=bw h2;obtain⟨u4,t4,rfl,h4⟩:=bw h3;cases len_0 h4;exact b kV doc pm an cdv ct u0 u1 u2 u3 u4
def bind6{x4 x5:E_}(b:∀(kV doc pm:KB) (an:Option KF) (cdv ct u0 u1 u2 u3 u4 u5:KB),Sv (fnOf x q (bM st) (aQ st) (ao st) .none kV doc pm an cdv ct) #[[u0,u1,u2,u3,u4,u5],[]]=pure [(x0,u0),(x1,u1),(x2,u2),(x3,u3),(x4,u4),(x5,u5)]):BindA x q st [x0,x1,x2,x3,x4,x5]:=λkV doc pm an cdv ct us hl=>by
 obtain⟨u0,t0,rfl,h0⟩:=bw hl;obtain⟨u1,t1,rfl,h1⟩:=bw h0;obtain⟨u2,t2,rfl,h2⟩:=bw h1;obtain⟨u3,t3,rfl,h3⟩:=bw h2;obtain⟨u4,t4,rfl,h4⟩:=bw h3;obtain⟨u5,t5,rfl,h5⟩:=bw h4;cases len_0 h5;exact b kV doc pm an cdv ct u0 u1 u2 u3 u4 u5
structure ClF(K:Ex)(x:Str)(C:KF):Prop where
 ns:NsC K x C
 cl:Cls K C
 ha:findIn K (.ref C) "__class__"=be (be (.builtin "object.__class__"))
 hn:specialIn K (.builtin "object.__class__") "__get__"=be (be (.builtin "getset_descriptor.__get__"))
 ht:takesIn K (.builtin "object.__class__")=be true
 hm:mroIn K C (.type "object")=be true
def ClIn(K:Ex)(x:E_):Prop:=∃C,ClF K x C
def clIn_mk(a:nsIn K Pi x=be (be (.ref C)))(pg:plainGet K C Str.empty=true)(hd:hasDictIn K C=true)(po:plainOver K C=true)(sa:findIn K (.ref C) "__setattr__"=be (be (.builtin "object.__setattr__")))
  (ha:findIn K (.ref C) "__class__"=be (be (.builtin "object.__class__"))) (hn:specialIn K (.builtin "object.__class__") "__get__"=be (be (.builtin "getset_descriptor.__get__"))) (ht:takesIn K (.builtin "object.__class__")=be true) (hm:mroIn K C (.type "object")=be true):ClIn K x:=#[C,a,#[pg,hd,po,sa],ha,hn,ht,hm]
def ClIn.i(c:ClIn K x)(X:K.In h)(G:h.Ns Pi mg):∃C,ClsI K mg x C:=by
 obtain⟨C,k⟩:=c;exact#[C,k.ns,mg_of X G k.ns,k.cl,k.ha,k.hn,k.ht,k.hm,zz]
def NoIn(K:Ex)(x f:E_):Prop:=∃C,NsC K x C/\findIn K (.ref C) f=be s_
def noIn_mk(a:nsIn K Pi x=be (be (.ref C)))(b:findIn K (.ref C) f=be s_):NoIn K x f:=#[C,a,b]
def ClIn.a(c:ClIn K x)(n:NoIn K x f):ClsA K x f:=by
 obtain⟨C,k⟩:=c;obtain⟨D,a,b⟩:=n;cases NsC.uniq k.ns a;exact#[C,a,k.cl,b]
def NoIn.all(n:NoIn K x f):∀C,nsIn K Pi x=be (be (.ref C))->findIn K (.ref C) f=be none:=λC hC=>by
 obtain⟨D,a,b⟩:=n;cases NsC.uniq hC a;exact b
def MtIn(K:Ex)(x m q:E_)(st:P3):Prop:=∃C f fd,NsC K x C/\Meth K C m f/\Fun K m q st f fd
def mtIn_mk{f:KF}(a:nsIn K Pi x=be (be (.ref C)))(b:findIn K (.ref C) m=be (be (.ref f)))(i:isFn K (.ref f)=true)(l:K.lookup f=be #[oc,od,.func (fnOf m q (bM st) (aQ st) (ao st) .none kV dc pm an cd ct),sl])(c:codeIn K cd q=true)(k:keepIn K (.ref f)=true):MtIn K x m q st:=#[C,f,_,a,#[b,i,k],gC l c k]
def MtIn.txm(T:MtIn K x m q st)(c:ClIn K x)(b:BindA m q st ps):Txm K x m q st ps:=by
 obtain⟨C,k⟩:=c;obtain⟨D,f,fd,a,mt,F⟩:=T;cases NsC.uniq k.ns a;exact#[C,f,fd,a,k.cl,mt,F,F.binds b]
def InIn(K:Ex)(x q:E_)(st:P3):Prop:=∃C f fd,NsC K x C/\Mk K C f/\Fun K "__init__" q st f fd
def inIn_mk{f:KF}(a:nsIn K Pi x=be (be (.ref C)))(mk:makesIn K C=true)(b:findIn K (.ref C) "__init__"=be (be (.ref f)))(i:isFn K (.ref f)=true)(kp:keepIn K (.ref C)=true)(l:K.lookup f=be #[oc,od,.func (fnOf "__init__" q (bM st) (aQ st) (ao st) .none kV dc pm an cd ct),sl])(c:codeIn K cd q=true)(k:keepIn K (.ref f)=true):InIn K x q st:=#[C,f,_,a,#[mk,b,i,kp],gC l c k]
def Txi(K:Ex)(mg:E_->Option KB)(x q:E_)(st:P3)(ps:List E_):Prop:=∃C f fd,NsC K x C/\mg x=be (.ref C)/\Mk K C f/\Fun K "__init__" q st f fd/\Binds K fd ps []
def InIn.txi(T:InIn K x q st)(X:K.In h)(G:h.Ns Pi mg)(b:BindA "__init__" q st ps):Txi K mg x q st ps:=by
 obtain⟨C,f,fd,a,mk,F⟩:=T;exact#[C,f,fd,a,mg_of X G a,mk,F,F.binds b]
def CiIn(K:Ex)(x:E_)(i:Int):Prop:=∃t,nsIn K Pi x=be (be (.int i t))
def CsIn(K:Ex)(x y:E_):Prop:=∃t,nsIn K Pi x=be (be (.str y t))
def ciIn_mk{i:Int}{t:Tok}(a:nsIn K Pi x=be (be (.int i t))):CiIn K x i:=#[t,a]
def csIn_mk{t:Tok}(a:nsIn K Pi x=be (be (.str y t))):CsIn K x y:=#[t,a]
def CiIn.g{i:Int}(c:CiIn K x i)(X:K.In h)(G:h.Ns Pi mg):∃t,mg x=be (.int i t):=let ⟨t,a⟩:=c;#[t,mg_of X G a]
def CsIn.g(c:CsIn K x y)(X:K.In h)(G:h.Ns Pi mg):∃t,mg x=be (.str y t):=let ⟨t,a⟩:=c;#[t,mg_of X G a]
def NnIn(K:Ex)(x:E_):Prop:=nsIn K Pi x=be s_
def nnIn_mk(a:nsIn K Pi x=be s_):NnIn K x:=a
structure ErF(K:Ex)(x:Str)(bm:List KB)(C N:KF):Prop where
 ns:NsC K x C
 kp:keepIn K (.ref C)=true
 ob:∃nm q bs sn sub ab col dd k0 k1 k2 k3 k5,K.lookup C=be (Sk nm q C N bs bm true sn sub ab col dd k0 k1 k2 k3 k5 "ValueError.__new__")
structure ErN(K:Ex)(N:KF):Prop where
 ok:nsOkIn K N=true
 no:nsIn K N "__init__"=be s_
def EbIn(K:Ex):Prop:=∃C N,ErF K "MotifError" Exc.veLine C N/\ErN K N
def EdIn(K:Ex)(x:E_)(C N:KF):Prop:=∃B,NsC K "MotifError" B/\ErF K x (.ref B::Exc.veLine) C N
def E0In(K:Ex)(x:E_):Prop:=∃C N,EdIn K x C N/\ErN K N
def E1In(K:Ex)(x q:E_)(st:P3):Prop:=∃C N f fd,EdIn K x C N/\findIn K (.ref C) "__init__"=be (be (.ref f))/\isFn K (.ref f)=true/\Fun K "__init__" q st f fd
def EaIn(K:Ex)(x:E_):Prop:=∃C,NsC K x C/\findIn K (.ref C) "__setattr__"=be (be (.builtin "object.__setattr__"))
def EgIn(K:Ex)(x:E_):Prop:=∃C,NsC K x C/\findIn K (.ref C) "__getattribute__"=be (be (.builtin "BaseException.__getattribute__"))/\findIn K (.ref C) "__getattr__"=be s_
def EiIn(K:Ex)(x:E_):Prop:=∃M,NsC K x M/\readsIn K M (.type "type")=true/\findCls K (.ref M) (.type "type") "__init__"=be (.val (.builtin "ValueError.__init__"))/\specialIn K (.ref M) "__getattribute__"=be (be (.builtin "type.__getattribute__"))
def EmIn(K:Ex)(x y:E_):Prop:=∃C D,NsC K x C/\NsC K y D/\mroIn K C (.ref D)=be (subE x y)
section
variable {B C D N:KF}{nm qn:E_}{bs:List KB}{sn:List E_}{sub:List KB}{ab:Bool}{col:Option Bool}{dd:Option KF}{k0 k1 k2 k3 k5:Option KB}{nc:KB}{nd:Option KF}{ne:Array DictEntry}{np:Nat}{nl:Array (Option KB)}
def ebIn_mk(a:nsIn K Pi "MotifError"=be (be (.ref C)))(kp:keepIn K (.ref C)=true)(o:K.lookup C=be (Sk nm qn C N bs Exc.veLine true sn sub ab col dd k0 k1 k2 k3 k5 "ValueError.__new__"))(nk:K.lookup N=be #[nc,nd,.dict ne np,nl])(al:ne.toList.all (λe=>match e.key with|.str _ _=>true|_=>false)=true)(ni:nsIn K N "__init__"=be s_):EbIn K:=#[C,N,#[a,kp,_,_,_,_,_,_,_,_,_,_,_,_,_,o],sr nk al,ni]
def e0In_mk(b:nsIn K Pi "MotifError"=be (be (.ref B)))(a:nsIn K Pi x=be (be (.ref C)))(kp:keepIn K (.ref C)=true)(o:K.lookup C=be (Sk nm qn C N bs (.ref B::Exc.veLine) true sn sub ab col dd k0 k1 k2 k3 k5 "ValueError.__new__"))(nk:K.lookup N=be #[nc,nd,.dict ne np,nl])(al:ne.toList.all (λe=>match e.key with|.str _ _=>true|_=>false)=true)(ni:nsIn K N "__init__"=be s_):E0In K x:=#[C,N,#[B,b,a,kp,_,_,_,_,_,_,_,_,_,_,_,_,_,o],sr nk al,ni]
def e1In_mk{f:KF}{oc:KB}{od an:Option KF}{sl:Array (Option KB)}{kV dc pm cd ct:KB}(b:nsIn K Pi "MotifError"=be (be (.ref B)))(a:nsIn K Pi x=be (be (.ref C)))(kp:keepIn K (.ref C)=true)(o:K.lookup C=be (Sk nm qn C N bs (.ref B::Exc.veLine) true sn sub ab col dd k0 k1 k2 k3 k5 "ValueError.__new__"))
  (j:findIn K (.ref C) "__init__"=be (be (.ref f))) (i:isFn K (.ref f)=true) (l:K.lookup f=be #[oc,od,.func (fnOf "__init__" q (bM st) (aQ st) (ao st) .none kV dc pm an cd ct),sl]) (c:codeIn K cd q=true) (k:keepIn K (.ref f)=true):E1In K x q st:=#[C,N,f,_,#[B,b,a,kp,_,_,_,_,_,_,_,_,_,_,_,_,_,o],j,i,gC l c k]
def emIn_mkT(e:subE x y=true)(a:nsIn K Pi x=be (be (.ref C)))(c:nsIn K Pi y=be (be (.ref D)))(d:mroIn K C (.ref D)=be true):EmIn K x y:=#[C,D,a,c,e ▸ d]
def emIn_mkF(e:subE x y=false)(a:nsIn K Pi x=be (be (.ref C)))(c:nsIn K Pi y=be (be (.ref D)))(d:mroIn K C (.ref D)=be false):EmIn K x y:=#[C,D,a,c,e ▸ d]
end
def EbIn.k(e:EbIn K)(X:K.In h)(G:h.Ns Pi mg):∃C N bm,ErrK K mg "MotifError" C N bm/\ErrN K N:=by
 obtain⟨C,N,k,n⟩:=e;exact#[C,N,_,#[k.ns,mg_of X G k.ns,k.kp,k.ob,sq],n.ok,n.no]
def EdIn.k{N:KF}(e:EdIn K x C N)(b:EbIn K)(X:K.In h)(G:h.Ns Pi mg):∃bm,ErrK K mg x C N bm:=by
 obtain⟨B,hB,k⟩:=e;obtain⟨B',N',kb,n⟩:=b;cases NsC.uniq kb.ns hB;obtain⟨_,_,_,_,_,_,_,_,_,_,_,_,_,o⟩:=kb.ob;exact#[_,k.ns,mg_of X G k.ns,k.kp,k.ob,zy o rfl n.ok n.no]
def E0In.k(e:E0In K x)(b:EbIn K)(X:K.In h)(G:h.Ns Pi mg):∃C N bm,ErrK K mg x C N bm/\ErrN K N:=by
 obtain⟨C,N,k,n⟩:=e;obtain⟨bm,z⟩:=k.k b X G;exact#[C,N,bm,z,n.ok,n.no]
def ErrK.a'{N:KF}{bm:List KB}(k:ErrK K mg x C N bm)(a:EaIn K x):∃C cd,ErrA K x C cd:=by
 obtain⟨D,hD,sa⟩:=a;cases NsC.uniq k.ns hD;exact#[C,k.a sa]
def E1In.a(e:E1In K x q st)(b:EbIn K)(a:EaIn K x)(X:K.In h)(G:h.Ns Pi mg):∃C cd,ErrA K x C cd:=by
 obtain⟨C,N,f,fd,k,_⟩:=e;obtain⟨bm,z⟩:=k.k b X G;exact z.a' a
def E1In.c(e:E1In K x q st)(b:EbIn K)(X:K.In h)(G:h.Ns Pi mg):∃C N bm,ErrK K mg x C N bm:=by
 obtain⟨C,N,f,fd,k,_⟩:=e;obtain⟨bm,z⟩:=k.k b X G;exact#[C,N,bm,z]
def EiIn.b(e:EiIn K x)(X:K.In h)(G:h.Ns Pi mg):∃M,BaseK K mg x M:=by
 obtain⟨M,a,b,c,d⟩:=e;exact#[M,mg_of X G a,b,c,d]
def EgIn.g(e:EgIn K x)(a:∃C cd,ErrA K x C cd)(n:NoIn K x f):ErrG K f x:=by
 obtain⟨C,h1,h2,h3⟩:=e;obtain⟨D,cd,ea⟩:=a;cases NsC.uniq ea.ns h1;exact#[C,cd,ea,h2,h3,n.all C h1]
def AllP(p:E_->Prop):List E_->Prop
 |[]=>True
 |a::l=>p a/\AllP p l
def AllP.mem{p:E_->Prop}:∀{l:List E_},AllP p l->∀x∈l,p x
 |_::_,h,_,.head _=>h.1
 |_::_,h,_,.tail _ m=>AllP.mem h.2 _ m
def AF{es:List E_}(c:AllP (λx=>∃C N bm,ErrK K mg x C N bm) es)(s:AllP (λx=>AllP (λy=>EmIn K x y) es) es):ErrsK K mg es:=by
 refine#[c.mem,λx hx y hy C C' h1 h2=>?_];obtain⟨A,B,a,b,m⟩:=(s.mem x hx).mem y hy;cases NsC.uniq a h1;cases NsC.uniq b h2;exact m
end
structure Bx where
 P:RQ
 w:RU
 K:Ex
 mg:E_->Option KB
 base:RW
abbrev Bx.T(V:Bx)(x:E_)(st:P3)(ps:List E_):Prop:=Tx V.K V.mg x st ps
abbrev Bx.Tm(V:Bx)(x m q:E_)(st:P3)(ps:List E_):Prop:=Txm V.K x m q st ps
abbrev Bx.Ti(V:Bx)(x q:E_)(st:P3)(ps:List E_):Prop:=Txi V.K V.mg x q st ps
abbrev Bx.Ek(V:Bx)(es:List E_):Prop:=ErrsK V.K V.mg es
abbrev Bx.m(V:Bx)(x:E_):Prop:=V.mg x=s_
abbrev Bx.gi(V:Bx)(x:E_)(i:Int):Prop:=∃t,V.mg x=be (.int i t)
abbrev Bx.gs(V:Bx)(x y:E_):Prop:=∃t,V.mg x=be (.str y t)
abbrev Bx.a(V:Bx)(x f:E_):Prop:=ClsA V.K x f
abbrev Bx.i(V:Bx)(x:E_):Prop:=∃C,ClsI V.K V.mg x C
abbrev Bx.D(V:Bx)(n:Nat)(x:E_)(ps:List E_)(S:SpD):Prop:=CalD V.P V.w V.K V.mg V.base n x ps S
abbrev Bx.X(V:Bx)(n:Nat)(x:E_)(ps:List E_)(S:SpX):Prop:=CalX V.P V.w V.K V.mg V.base n x ps S
abbrev Bx.MM(V:Bx)(n:Nat)(x:E_)(ps:List E_)(S:SpM):Prop:=CalMM V.P V.w V.K V.mg V.base n x ps S
abbrev Bx.M(V:Bx)(n:Nat)(x:E_)(ps:List E_)(S:SiD):Prop:=CalM V.P V.w V.K V.mg V.base n x ps S
abbrev Bx.E(V:Bx)(n:Nat)(x:E_)(ps:List E_)(S:SiD):Prop:=CalE V.P V.w V.K V.mg V.base n x ps S
abbrev Bx.Q(V:Bx)(n:Nat)(x m:E_)(ps:List E_)(S:SpM):Prop:=CalMth V.P V.w V.K V.mg V.base n x m ps (lSpM V.K S)
abbrev Bx.n(V:Bx)(x:E_):Prop:=∃C N bm,ErrK V.K V.mg x C N bm/\ErrN V.K N
abbrev Bx.b(V:Bx)(x:E_):Prop:=∃M,BaseK V.K V.mg x M
abbrev Bx.ea(V:Bx)(x:E_):Prop:=∃C cd,ErrA V.K x C cd
abbrev Bx.x(V:Bx)(f:E_)(ys:List E_):Prop:=∀y∈ys,ErrG V.K f y
section
variable {P:RQ}{w:RU}{K:Ex}{mg:E_->Option KB}{base:RW}
variable{N ps:List E_}
def Txi.okI{x qual:E_}{st:P3}{p0:E_}{k:Nat}{S:SiD}(T:Txi K mg x qual st (p0::ps))(F:FnScope (p0::N) (p0::ps) (ao st))(len:∀ds R,S ds R->ds.length=ps.length)
  (a_:∀(f:KF) (cdv:KB) (A:RV) (outer:List SG) (s:KM) (H:Hp) (E:XK) (J:Jx),Room k (A.deeper (R' qual (ao st) s.heap.objs.size f cdv))->
   ∃t,WDI (cxOf (Exc.CX1 P w) P w K mg base (p0::N) qual (ao st) f cdv A outer s H E).nox x (aQ st) t/\∀ds R,S ds R->t (s_::startD N ds) [] R):CalM P w K mg base (k+1) x (p0::ps) S:=by
 obtain⟨C,f,fd,a,b,c,d,e⟩:=T;exact Cls.okIW d e F len a b c (a_ f)
def Txi.okIM{x qual:E_}{st:P3}{p0:E_}{k:Nat}{S:SiD}(T:Txi K mg x qual st (p0::ps))(F:FnScope N (p0::ps) (ao st))(len:∀ds R,S ds R->ds.length=ps.length)
  (a_:∀(f:KF) (cdv:KB) (A:RV) (outer:List SG) (s:KM) (H:Hp) (E:XK) (J:Jm),Room k (A.deeper (R' qual (ao st) s.heap.objs.size f cdv))->XOkM (cxOf (Exc.CX1 P w) P w K mg base N qual (ao st) f cdv A outer s H E).nox->
   ∃t,MSs (cxOf (Exc.CX1 P w) P w K mg base N qual (ao st) f cdv A outer s H E).nox (aQ st) t/\∀a ds R,(∀z M x fs,¬J.RM z M x fs)->S ds R->t {nx:=λ_ M'=>∃fs,M'=[(a,.ins x fs)]/\R fs,rt:=λ_ _=>False} (startD N (.ptr a::ds)) [(a,.ins x [])]):CalM P w K mg base (k+1) x (p0::ps) S:=by
 obtain⟨C,f,fd,a,b,c,d,e⟩:=T;exact Cls.okIM d e F len a b c (a_ f)
end
section
variable {X:Cx}[J:Jx]{a b c e o e8 iter:RP}{es:List RP}{ta tb tc te to ti tj:TD}{tt:TDT}{t:TDA}{pos px:R6}{x:E_}{scope:Sl}
variable{K:Ex}
def itR2:ItOk K (qk (gA (lE K ti) (gA (lE K tj) tNil))) (kq ti tj):=λ{s H B F z P Q} kf rs h1 h2=>by
 refine#[B,F,z,kf,rs,_,h1,λd1 v1 F1 H1 g1 h1 r1=>?_];refine#[B,F1,z,kf.grow g1,rs.grow g1,_,h1,λd2 v2 F2 H2 g2 hd r2=>?_];split at hd
 .rename_i lo f8;obtain⟨bd,hd⟩:=hd;have hl:((FN (f8-lo).toNat).map λk=>D.int (lo+((k:Nat):Int))).length=(f8-lo).toNat:=by simp
  refine#[lo,f8,by rw[rep_int.mp r1,rep_int.mp r2],bd,h2 _ _ F2 H2 (g1.trans g2) hd #[λk F' H' G hk=>by rw[hl]at hk;exact hk,λk F' H' x H'' G hk hy=>?_,λF' H' G=>by show(f8-lo).toNat<=_;rw[hl];exact FM _]];rw[hl]at hk;obtain⟨e,rfl⟩:=hy;exact#[e,.int (lo+(k:Int)),by simp[hk],rep_int.mpr rfl]
 .exact hd.elim
def sU(hc:X.calm=true)(S:CompScope X scope x)(hi:WDE X iter ti)(hq:∀cl s₀ H₀ fp,WDT (bB X scope cl x s₀ H₀ fp) c tt)(he:∀cl s₀ H₀ fp,WDE (bB X scope cl x s₀ H₀ fp) e8 te)(hs:autoParam (∀y,zFS X iter y) zA2):
  WDE X (.ListComp e8 [#[.Name x px,iter,[c],0]] scope pos) (rV (dItL ti) tt te):=#[(gP hc S (fF hi.out) (λa b c d=>rW (hq a b c d).out) (λa b c d=>(he a b c d).out) hs).anti λs H Q q=>fR (λ_ _ _=>cmpF.g) itL q]
variable{p1 p2:R6}
def AG(hc:X.calm=true)(S:CompScope X scope x)(hm:X.mg "range"=s_)(ha:WDE X a ti)(hb:WDE X b tj)(hq:∀cl s₀ H₀ fp,WDT (bB X scope cl x s₀ H₀ fp) c tt)(he:∀cl s₀ H₀ fp,WDE (bB X scope cl x s₀ H₀ fp) e8 te)(hg:autoParam (Gl X "range") zA0)
  (hs:autoParam (∀y,zFS X (.Call (.Name "range" p1) [a,b] [] p2) y) zA2) (j7:autoParam (zSE X a [b]) zA0) (Kq:autoParam (zSE X b []) zA0) (d_:autoParam (RY [a,b] X.env=[(false,R3 a X.env),(false,R3 b X.env)]) zA0) (Kr:autoParam (RY [b] X.env=[(false,R3 b X.env)]) zA0):
  WDE X (.ListComp e8 [#[.Name x px,.Call (.Name "range" p1) [a,b] [] p2,[c],0]] scope pos) (rV (kq ti tj) tt te):=#[(gP hc S (ql hg hm (bz ha.out (bz hb.out pa_nil Kq) j7) d_ Kr) (λa b c d=>rW (hq a b c d).out) (λa b c d=>(he a b c d).out) hs).anti λs H Q q=>fR (λ_ _ _=>cmpF.g) itR2 q]
def kH(ix:Nat)(JI:TDI)(te:TD):TSD:=λE z=>JI z (cmpP te z λd=>match d with|.lst ys=>E.nx (z.set ix (be (.own ys)))|_=>False)
variable{H:Hp}
def sV{E:Ends}{s:L2.St}{ix:Nat}{wi:TI}{JI:TDI}(hI:ItOk K wi JI)(q:lS K (kH ix JI te) E s H):tAsg (fP wi (lT K dT1) (lE K te)) (fC ix) E s H:=by
 obtain⟨B,F0,F,z,k,rs,ED,h,e⟩:=q;refine hI k.kf rs h λitems J F1 H1 g1 hg it=>rX (Q:=λv H=>E.nx (s.set ix (be v)) H) k.kf g1 rs (λD ys us F' H' hH hF GG hu ry hR=>?_) it (cmpP.g hg);have r2:=(rs.grow GG).setOwn (i:=ix) (a:=D) (k.bh.free hH) hF ry λj dj _ q1 q2=>by
  obtain⟨a,vs,p1,p2,_⟩:=rs.own j dj q1;rw[p1]at q2;cases q2;rw[hH]at p2;cases p2
 rw[zq hu]at r2;exact e.nx _ _ F' H' (k.grow GG) hR r2
def AH(ix:Nat){y:E_}{py f7:R6}(hc:X.calm=true)(S:CompScope X scope x)(hN:X.N.Nodup)(hi:WDE X iter ti)(he:∀cl s₀ H₀ fp,WDE (bB X scope cl x s₀ H₀ fp) e8 te)(JH:autoParam (X.N[ix]?=be y) zA0)(hy:autoParam (Loc X.env.scope y) zA4)
  (hf:autoParam (zFN X y) zA3) (p_:autoParam (R9 (.ListComp e8 [#[.Name x px,iter,[],0]] scope pos) (be (.Name y py)) f7.line X.env=pure true) zA0) (hs:autoParam (∀y,zFS X iter y) zA2):
  WDS X (.Assign [.Name y py] (.ListComp e8 [#[.Name x px,iter,[],0]] scope pos) f7) (kH ix (dItS ti) te):=#[(gQ hc S (zH hi.out) (λ_ _ _ _=>eK) (λa b c d=>(he a b c d).out) hN JH hy hf p_ hs).anti λE s H q=>sV itS q]
def intsAre_of:∀{ns:List Int} {us:List KB},Vals (ns.map V.int) us->S1 us ns:=by
 intro ns;induction ns with
 |nil=>intro us h;cases h;exact .nil
 |cons n ns e=>
  intro us h;cases h with
  |cons r t=>
   obtain⟨_,rfl⟩:=r;exact .cons _ _ (e t)
def AI(hc:X.calm=true):bJ X (.builtin "min") (λxs H Q=>∃(p:KF) (ns:List Int),xs=[.ref p]/\SqL X.K H p (ns.map V.int)/\0<ns.length/\∀m,m∈ns->(∀a∈ns,m<=a)->Q (.int m) H):=by
 intro pins s σ H xs us Q I r h;obtain⟨p,ns,rfl,hq,p7,q⟩:=h;obtain⟨u,rfl,rx⟩:=bS r;cases rx;obtain⟨its,r',pl,hz⟩:=I.list hq;have hi:=intsAre_of r';have hl:=pl.isList;obtain⟨xs,e⟩:=hi.allInts.items;have hns:ns=xs.toList.map (·.1):=by rw[<-hi.numsOf,<-nums_intItems,<-e]
 have gt:0<xs.size:=by
  have h3:=p7;rw[hns,FP,GP]at h3;exact h3
 rw[e]at hl;refine min_intList (I.ok.hd hc) hl gt λv h' tk hv hk=>?_;obtain⟨t,rfl⟩:=intItems_at hv;obtain⟨h1,h2⟩:=argBest_lt (numAt xs) (xs.size-1);refine#[.int _,H,I.kept hk,#[t,rfl],q _ ?_ λa ha=>?_]
 .rw[hns,numAt_eq];exact getD_mem (by rw[FP,GP];lia)
 .rw[hns]at ha;obtain⟨j,hj,rfl⟩:=mem_getD ha;rw[FP,GP]at hj;rw[<-numAt_eq];exact h2 j Kd
def rdMinL:RDn:=λds R=>match ds with|[.lst xs]=>∃ns:List Int,xs=ns.map D.int/\0<ns.length/\∀m,m∈ns->(∀a∈ns,m<=a)->R (.int m)|_=>False
def AJ:cm K (λxs H Q=>∃(p:KF) (ns:List Int),xs=[.ref p]/\SqL K H p (ns.map V.int)/\0<ns.length/\∀m,m∈ns->(∀a∈ns,m<=a)->Q (.int m) H) rdMinL:=by
 intro ds vs F H R Q fh h rx q;unfold rdMinL at h;split at h
 .obtain⟨ns,rfl,hl,h⟩:=h;obtain⟨v,r,rfl,h1,h2⟩:=reps_cons.mp rx;rw[reps_nil.mp h2];obtain⟨a,us,rfl,hq,rs⟩:=rep_lst.mp h1;rw[Reps.ints.mp rs]at hq;exact#[a,ns,rfl,fh.seq (SqL.of hq),hl,λm h1 h2=>q _ _ F H (Grow.refl fh) (h m h1 h2) (rep_int.mpr rfl)]
 .exact h.elim
variable{p:R6}
def sW(hc:X.calm=true)(hm:X.mg "min"=s_)(ha:WDA X [e] t)(hg:autoParam (Gl X "min") zA0)(he:autoParam (zSE X e []) zA0)(c9:autoParam (zPL X pos []) zA0):WDE X (.Call (.Name "min" p) [e] [] pos) (dCB rdMinL t):=#[fL (AI hc) AJ hm PyProof.Rows.boot_min ha.out hg Kj Kj he c9]
def rdTuple:RDn:=λds R=>match ds with|[.lst xs]=>R (.tup xs)|[.tup xs]=>R (.tup xs)|_=>False
def AK:cm K (λxs H Q=>∃p ys,xs=[.ref p]/\((SqL K H p ys/\∀l,H l=s_->Q (.ref l) (upd H l (.tup ys)))\/(SqT K H p ys/\Q (.ref p) H))) rdTuple:=by
 intro ds vs F H R Q fh h rx q;unfold rdTuple at h;split at h
 .obtain⟨v,r,rfl,h1,h2⟩:=reps_cons.mp rx;rw[reps_nil.mp h2];obtain⟨a,us,rfl,hq,rs⟩:=rep_lst.mp h1;exact#[a,us,rfl,.inl #[fh.seq (SqL.of hq),λl hl=>q _ _ _ _ (Grow.new fh hl _) h (rep_tupS.mpr #[l,us,rfl,aL,rs.mono (aV (fh.free hl) _)])]]
 .obtain⟨v,r,rfl,h1,h2⟩:=reps_cons.mp rx;rw[reps_nil.mp h2];obtain⟨a,us,rfl,hq,rs⟩:=rep_tup_mp h1;exact#[a,us,rfl,.inr #[fh.tup hq,q _ _ F H (Grow.refl fh) h h1]]
 .exact h.elim
def AL(hm:X.mg "tuple"=s_)(ha:WDA X [e] t)(hg:autoParam (Gl X "tuple") zA0)(he:autoParam (zSE X e []) zA0):WDE X (.Call (.Name "tuple" p) [e] [] pos) (dCB rdTuple t):=#[gL xD AK hm PyProof.Rows.boot_tuple ha.out hg Kj Kj he]
def rSCount:RTx:=λy ds R=>match ds with|[.str p]=>R (.int (Builtin.Str.occurrences y p 0 y.length (y.length+1)).length)|_=>False
def AM:MtS X "str.count" rSCount:=by
 refine#[λx vs H Q=>∃y p,x=.str y/\vs=[.str p]/\Q (.int (Builtin.Str.occurrences y p 0 y.length (y.length+1)).length) H,?_,?_]
 .intro pins s σ H x vs v us Q I rx rv h;obtain⟨y,p,rfl,rfl,q⟩:=h;obtain⟨t,rfl⟩:=rx;obtain⟨u,rfl,t',rfl⟩:=bS rv;exact SC.count #[.int _,H,I.tok _,#[_,rfl],q]
 .intro y ds vs F H R Q r h q;unfold rSCount at h;split at h
  .obtain⟨v,vr,rfl,h1,h2⟩:=reps_cons.mp r;rw[reps_nil.mp h2,rep_str.mp h1];exact#[_,_,rfl,rfl,q _ _ (λ_=>rep_int.mpr rfl) h]
  .exact h.elim
def sX{apos cpos:R6}(ho:WDE X o to)(ha:WDA X [e] t)(b8:autoParam (R1 o "count" X.env (R3 o X.env)=R3 o X.env) zA0)
  (d9:autoParam (zHF X cpos [e]) zA0)
  (c5:autoParam ((apos.endLine==cpos.line)=true) zA0) (hs:autoParam (zSE X e []) zA0):WDE X (.Call (.Attribute o "count" apos) [e] [] cpos) (dTx rSCount to t):=#[kA PySem.F.slot_str_count PySem.F.type_str_count AM ho.out ha.out b8 d9 c5 hs]
def sY(is:List Nat)(ti:TDI)(tb:TSD):TSD:=λE z=>ti z λds=>∃W:Nat->SD->Prop,W 0 z/\(∀(k:Nat) x z,ds[k]?=be x->W k z->tb {E with nx:=W (k+1),ct:=W (k+1),bk:=E.nx} (aY is [.int k,x] z))/\∀z,W ds.length z->E.nx z
variable{is:List Nat}
def sZ{B F0 F1 H1:Hp}{z:SD}{s:L2.St}{E:Ends}{ED:EndsD}{It':It}{g:TG}{tb:TSD}{tbv:TS}{ds:List D}(k1:Kept B F0 F1 H1)(Kt:RepS K B F1 H1 z s)(e:EndsOk K B F0 ED E)
  (go:∀k F' H',Same F1 F'->Same F' H'->k<ds.length->It'.go k H') (stop:∀F' H',Same F1 F'->Same F' H'->It'.stop ds.length H')
  (yld:∀k F' H' x H'',Same F1 F'->Same F' H'->k<ds.length->It'.yld k H' x H''->∃T d v,H' T=s_/\x=.ref T/\H''=upd H' T (.tup [.int k,v])/\ds[k]?=be d/\Rep K F' d v)
  (hg:∀(dd:List D) (vs:List V) (T:KF) (z:SD) (s:L2.St) (F H:Hp) (Q:L2.St->Hp->Prop),dd.length=2->H T=be (.tup vs)->Reps K F dd vs->RepS K B F H z s->(∀s',RepS K B F H (aY is dd z) s'->Q s' H)->g (.ref T) s H Q)
  (Nm:∀E s H,lS K tb E s H->tbv E s H)
  (hd:∃W:Nat->SD->Prop,W 0 z/\(∀(k:Nat) x z,ds[k]?=be x->W k z->tb {ED with nx:=W (k+1),ct:=W (k+1),bk:=ED.nx} (aY is [.int k,x] z))/\∀z,W ds.length z->ED.nx z):
  ∃W:Nat->Nat->L2.St->Hp->Prop,(∃m,W 0 m s H1)/\∀i m σ H,W i m σ H->
   (It'.stop i H/\E.nx σ H)\/(It'.go i H/\∃N:L2.St->Hp->Prop,(∀σ' H',N σ' H'->∃m',m'<m/\W (i+1) m' σ' H')/\∀x H',It'.yld i H x H'->g x σ H' λσ2 H2=>tbv {E with nx:=N,ct:=N,bk:=E.nx} σ2 H2):=by
 obtain⟨W,w0,b_,out⟩:=hd;refine#[λk m s' H'=>m=ds.length-k/\k<=ds.length/\∃F' z',Kept B F0 F' H'/\Same F1 F'/\RepS K B F' H' z' s'/\W k z',#[ds.length,Ld,Go _,F1,z,k1,Same.refl F1,Kt,w0],?_];rintro k m s' H'⟨rfl,hk,F',z',k',g',r',w'⟩;by_cases f_:k<ds.length
 .refine .inr #[go k F' H' g' k'.fh f_,λs3 H3=>∃F3 z3,Kept B F0 F3 H3/\Same F1 F3/\RepS K B F3 H3 z3 s3/\W (k+1) z3,λs3 H3 h3=>#[ds.length-(k+1),Kd,rfl,f_,h3],λx H'' hy=>?_];obtain⟨T,d,v,hT,rfl,rfl,hd,rd⟩:=yld k F' H' x H'' g' k'.fh f_ hy;have gn:=Grow.new k'.fh hT (.tup [.int k,v]);have k2:=k'.grow gn;have rp:Reps K (upd F' T (.tup [.int k,v])) [.int k,d] [.int k,v]:=reps_cons.mpr #[_,_,rfl,rep_int.mpr rfl,eI (rd.mono gn.ff)];refine hg [.int k,d] _ T z' s' _ _ _ rfl aL rp (r'.grow gn) λs2 KI=>Nm _ _ _ ?_;have gF:Same F1 (upd F' T (.tup [.int k,v])):=g'.trans gn.ff;refine#[B,upd F' T (.tup [.int k,v]),upd F' T (.tup [.int k,v]),_,#[k2.bh,k2.fh,Same.refl _,λb h1 _=>h1,k2.eb,k2.jf.trans k2.f0,λb h1 h2=>k2.out b (k2.jo b h1 h2) h2],KI,_,b_ k d z' hd w',?_];have up:∀{F3 H3:Hp},Kept B (upd F' T (.tup [.int k,v])) F3 H3->Kept B F0 F3 H3:=λk3=>#[k3.bh,k3.fh,k2.f0.trans k3.f0,λb h1 h2=>k3.out b (k2.out b h1 h2) h2,k2.eb,k2.jf,k2.jo];exact#[λz3 s3 F3 H3 k3 h3 r3=>#[F3,z3,up k3,gF.trans k3.f0,r3,h3],λd v F3 H3 k3=>e.rt d v F3 H3 (up k3),λz3 s3 F3 H3 k3=>e.nx z3 s3 F3 H3 (up k3),λz3 s3 F3 H3 k3 h3 r3=>#[F3,z3,up k3,gF.trans k3.f0,r3,h3]]
 .have ek:k=ds.length:=by lia
  subst ek;exact .inl #[stop F' H' g' k'.fh,e.nx z' s' F' H' k' (out z' w') r']
variable{body:List P3}
def AN{es:List RP}{x1:Nat}{tp:R6}{tb:TSD}(hp:Sd (RS X.prog X.w) X.A X.env X.xe)(hc:X.calm=true)(hm:X.mg "enumerate"=s_)(he:WDE X e te)(hG:DGs X es is)(hb:WDSs X body tb)(b7:autoParam (is.length=2) zA0)(hg:autoParam (Gl X "enumerate") zA0)
  (hn:autoParam ((RZ es X.env).length=2) zA0) (j6:autoParam ((RZ es X.env).findIdx? (·.1)=none) zA0)
  (hs:autoParam (∀y,zFS X (.Call (.Name "enumerate" p1) [e] [] p2) y) zA2) (j7:autoParam (zSE X e []) zA0) (d_:autoParam (RY [e] X.env=[(false,R3 e X.env)]) zA0):
  WDS X (.For (.Tuple es x1 tp) (.Call (.Name "enumerate" p1) [e] [] p2) body [] pos) (sY is (dItL te) tb):=by
 obtain⟨ug,Kv,kk⟩:=hG;refine#[(cV hp hc (sM hg hm (bz he.out pa_nil j7) d_) (fE hc Kv hn j6) hb.out hs).anti λE s H q=>?_];obtain⟨B,F0,F,z,kp,rs,ED,h,e⟩:=q;refine#[B,F,z,kp.kf,rs,_,h,λd v F1 H1 g1 hd rd=>?_];have key:∀(ds:List D) (p:KF) (vs:List V),SqL X.K F1 p vs->Reps X.K F1 ds vs->(∃W:Nat->SD->Prop,W 0 z/\(∀(k:Nat) x z,ds[k]?=be x->W k z->tb {ED with nx:=W (k+1),ct:=W (k+1),bk:=ED.nx} (aY is [.int k,x] z))/\∀z,W ds.length z->ED.nx z)->_:=λds p vs hq rr hd=>
  sZ (It':=Itel X.K p) (g:=gTup X.K 2 ug) (tbv:=lS X.K tb) (E:=E) (kp.grow g1) (rs.grow g1) e (λk F' H' s1 s2 hk=>#[vs,vs[k]'(by rw[rr.length];exact hk),s2.seq (s1.seq hq),by simp[rr.length,hk]]) (λF' H' s1 s2=>#[vs,s2.seq (s1.seq hq),by rw[rr.length];exact FM _]) (λk F' H' x H'' s1 s2 hk hy=>by
   obtain⟨T,v,hT,e1,e2,hv⟩:=hy;obtain⟨d,hd,rd⟩:=rr.get' (hv vs (s2.seq (s1.seq hq)));exact#[T,d,v,hT,e1,e2,hd,rd.mono s1]) (λdd l6 T z s F H Q hl hT rp z_ hQ=>#[T,l6,rfl,SqT.of hT,by rw[rp.length];exact hl,kk dd l6 z s B F H Q (by rw[hl,b7]) rp z_ hQ]) (λ_ _ _ h=>h) hd
 split at hd
 .obtain⟨p,vs,rfl,hq,rr⟩:=rep_lst.mp rd;exact#[p,rfl,#[vs,g1.fh.seq (SqL.of hq)],key _ p vs (SqL.of hq) rr hd]
 .obtain⟨p,vs,rfl,hq,rr⟩:=rep_rol.mp rd;exact#[p,rfl,#[vs,g1.fh.seq hq],key _ p vs hq rr hd]
 .exact hd.elim
def AO{es:List RP}{x1:Nat}{tp:R6}{tb:TSD}(hp:Sd (RS X.prog X.w) X.A X.env X.xe)(hc:X.calm=true)(hm:X.mg "enumerate"=s_)(he:WDE X e te)(hG:DGs X es is)(hb:WDSs X body tb)(b7:autoParam (is.length=2) zA0)(hg:autoParam (Gl X "enumerate") zA0)
  (hn:autoParam ((RZ es X.env).length=2) zA0) (j6:autoParam ((RZ es X.env).findIdx? (·.1)=none) zA0)
  (hs:autoParam (∀y,zFS X (.Call (.Name "enumerate" p1) [e] [] p2) y) zA2) (j7:autoParam (zSE X e []) zA0) (d_:autoParam (RY [e] X.env=[(false,R3 e X.env)]) zA0):
  WDS X (.For (.Tuple es x1 tp) (.Call (.Name "enumerate" p1) [e] [] p2) body [] pos) (sY is (dItS te) tb):=by
 obtain⟨ug,Kv,kk⟩:=hG;refine#[(cV hp hc (sN hg hm (bz he.out pa_nil j7) d_) (fE hc Kv hn j6) hb.out hs).anti λE s H q=>?_];obtain⟨B,F0,F,z,kp,rs,ED,h,e⟩:=q;refine#[B,F,z,kp.kf,rs,_,h,λd v F1 H1 g1 hd rd=>?_];split at hd
 .rename_i x;obtain⟨ha,hd⟩:=hd;have hl:=gX x;refine#[x,by rw[rep_str.mp rd],ha,sZ (It':=Ites x) (kp.grow g1) (rs.grow g1) e (λk F' H' s1 s2 hk=>?_) (λF' H' s1 s2=>?_) (λk F' H' x H'' s1 s2 hk hy=>?_) (λdd l6 T z s F H Q hl hT rp z_ hQ=>?_) (λ_ _ _ h=>h) hd]
  .rw[hl]at hk;exact hk
  .exact hl
  .obtain⟨T,c,hT,e1,e2,hc⟩:=hy;exact#[T,.str #[[c].toArray],.str #[[c].toArray],hT,e1,e2,kz hc,rep_str.mpr rfl]
  .exact#[T,l6,rfl,SqT.of hT,by rw[rp.length];exact hl,kk dd l6 z s B F H Q (by rw[hl,b7]) rp z_ hQ]
 .exact hd.elim
def AQ(r r':RD2)(ta tb tc:TD):TD:=λz R=>ta z λx=>tb z λy=>r x y λd=>∃k,d=.bl k/\(k=true->tc z λw=>r' y w R)/\(k=false->R (.bl false))
def AR{op Ke:Te}{r r':R2}{rd Mj:RD2}(ho:OpR X (R5 op) r)(u7:OpR X (R5 Ke) r')(L:aW X.K r rd)(L':aW X.K r' Mj)(ha:WDE X a ta)(hb:WDE X b tb)(hc:WDE X c tc)(hm:autoParam (lastMarks [op,Ke] [b,c]=false) zA7):WDT X (.Compare a [op,Ke] [b,c] pos) (dTst (AQ rd Mj ta tb tc)):=by
 refine#[(wG ho u7 ha.out hb.out hc.out hm).anti λs H Q q=>?_];obtain⟨B,F,z,kf,rs,R,h1,h2⟩:=q;refine#[B,F,z,kf,rs,_,h1,λx u F1 H1 g1 hx rx=>?_];refine#[B,F1,z,kf.grow g1,rs.grow g1,_,hx,λy v F2 H2 g2 hy ry=>?_];refine L x y u v F2 H2 _ _ g2.fh hy (rx.mono g2.ff) ry λd w F3 H3 g3 hd rd=>?_;obtain⟨k,rfl,hT,hF⟩:=hd;cases k with
 |true=>
  refine#[true,rep_bl.mp rd,ite_tt ?_];refine#[B,F3,z,((kf.grow g1).grow g2).grow g3,((rs.grow g1).grow g2).grow g3,_,hT rfl,λw' v' F4 H4 g4 hw g7=>?_];refine L' y w' v v' F4 H4 _ _ g4.fh hw ((ry.mono g3.ff).mono g4.ff) g7 λd' w2 F5 H5 g5 d7 Mj=>?_;split at d7
  .exact#[_,rep_bl.mp Mj,h2 _ F5 H5 (g1.trans (g2.trans (g3.trans (g4.trans g5)))) d7]
  .exact d7.elim
 |false=>exact#[false,rep_bl.mp rd,ite_ff #[false,rfl,h2 _ F3 H3 (g1.trans (g2.trans g3)) (hF rfl)]]
def rdIsB(f:Bool->Bool):RD2:=λx y R=>match x,y with|.bl i,.bl j=>R (.bl (f (decide (i=j))))|_,_=>False
def AS:OpR X (R5 .Is) (λx y H Q=>∃i j,x=.bl i/\y=.bl j/\Q (.bl (decide (i=j))) H):=by
 intro pins s σ H x y v u Q I rx ry h;obtain⟨i,j,rfl,rfl,q⟩:=h;cases rx;cases ry;exact wpAny_is_plain rfl (aR I q (by cases i<;>cases j<;>rfl))
def lifts_isB:aW K (λx y H Q=>∃i j,x=.bl i/\y=.bl j/\Q (.bl (decide (i=j))) H) (rdIsB id):=by
 intro x y u v F H R Q fh h rx ry q;unfold rdIsB at h;split at h
 .exact#[_,_,rep_bl.mp rx,rep_bl.mp ry,q _ _ F H (Grow.refl fh) h (rep_bl.mpr rfl)]
 .exact h.elim
def AT[Jx](ha:WDE X a ta)(hb:WDE X b tb):WDE X (.Compare a [.Is] [b] pos) (dOp (rdIsB id) ta tb):=#[have ha:=ha.out;have hb:=hb.out;gI AS lifts_isB ha hb (nomark _)]
def kI:∀{xs:List V},xs.all bA=true->eqVs xs xs=true
 |[],_=>rfl
 |x::xs,h=>by
  rw[GD,Gg]at h;rw[eqVs,kI h.2,HB];cases x<;>first|rfl|(simp[eqV];done)|exact absurd (show false=true from h.1) F6
def AU{pins:List (KF×R_)}{s:KM}{σ:L2.St}{A:RV}(I:Inv X pins σ H s)(hu:A.units<SY){a b:KF}{xs ys:List V}(h:(SqT X.K H a xs/\SqT X.K H b ys)\/(SqL X.K H a xs/\SqL X.K H b ys))(fx:xs.all bA=true)(fy:ys.all bA=true):SeqAt.EqAt A s (.ref a) (.ref b) (eqVs xs ys):=by
 rcases h with⟨h,h'⟩|⟨h,h'⟩
 .by_cases e:a=b
  .subst e;rw[I.tuple_inj h h',kI fy];exact SeqAt.EqAt.same _
  .obtain⟨its,r1,p1,_⟩:=I.tuple h;obtain⟨d8,r2,p2,_⟩:=I.tuple h';refine SeqAt.EqAt.of_refs e ?_;have:=SeqAt.RcAt.tuples (A:=A) (e:=λj=>eqV (xs.getD j .non) (ys.getD j .non)) p1 p2 hu (λj h1 h2=>by
    rw[FR]at h1 h2;simp only[HC];exact eqAt_V (Vals.getD r1 h1) (Vals.getD r2 h2) (flat_getD fx) (flat_getD fy))
   rw[FR,FR,<-L2.Vals.length r1,<-L2.Vals.length r2]at this;rwa [<-gK]
 .by_cases e:a=b
  .subst e;rw[I.list_inj h h',kI fy];exact SeqAt.EqAt.same _
  .obtain⟨its,r1,p1,_⟩:=I.list h;obtain⟨d8,r2,p2,_⟩:=I.list h';refine SeqAt.EqAt.of_refs e ?_;have l1:=L2.Vals.length r1;have l2:=L2.Vals.length r2;by_cases hl:its.length=d8.length
   .have:=SeqAt.RcAt.lists (A:=A) (e:=λj=>eqV (xs.getD j .non) (ys.getD j .non)) p1.isList p2.isList (by rw[FR,FR,hl]) hu (λj h1 h2=>by
     rw[FR]at h1 h2;simp only[HC];exact eqAt_V (Vals.getD r1 h1) (Vals.getD r2 h2) (flat_getD fx) (flat_getD fy))
    rw[FR,<-l1]at this;have e2:=gK xs ys;rw[show min xs.length ys.length=xs.length by lia,show(xs.length==ys.length)=true by rw[l1,l2,hl];exact beq_self_eq_true _,HB]at e2;rwa [<-e2]
   .have:=SeqAt.RcAt.lists_lengths (A:=A) p1.isList p2.isList (by rw[FR,FR];simpa using hl) hu;have e2:=gK xs ys;rw[show(xs.length==ys.length)=false by rw[l1,l2];simpa using hl,IC]at e2;rwa [<-e2]
def EqE(K:Ex)(H:Hp)(x y:V)(b:Bool):Prop:=(bA x=true/\bA y=true/\b=eqV x y)\/∃a a' xs ys,x=.ref a/\y=.ref a'/\((SqT K H a xs/\SqT K H a' ys)\/(SqL K H a xs/\SqL K H a' ys))/\xs.all bA=true/\ys.all bA=true/\b=eqVs xs ys
def rEqN(K:Ex):R2:=λx y H Q=>∃(a b:KF) (xs ys:List V) (es:List Bool),x=.ref a/\y=.ref b/\((SqT K H a xs/\SqT K H b ys)\/(SqL K H a xs/\SqL K H b ys))/\xs.length=ys.length/\es.length=xs.length/\(∀j,j<xs.length->EqE K H (xs.getD j .non) (ys.getD j .non) (es.getD j true))/\Q (.bl (es.all id)) H
def tf{es:List Bool}{n:Nat}(h:es.length=n):(FN n).all (λj=>es.getD j true)=es.all id:=by
 subst h;induction es with
 |nil=>rfl
 |cons e es ih=>
  rw[FV,IJ,GD,H9,GD,<-ih];rfl
def AV(hu:X.A.units+1<SY):OpR X (R5 .Eq) (rEqN X.K):=by
 intro pins s σ H x y v u Q I rx ry h;obtain⟨a,b,xs,ys,es,rfl,rfl,hs,hl,he,hE,q⟩:=h;cases rx;cases ry;have el:∀{its d8:List KB},Vals xs its->Vals ys d8->∀j (h1:j<its.length) (h2:j<d8.length),SeqAt.EqAt X.A.in1 s its[j] d8[j] (es.getD j true):=λ{its d8} r1 r2 j h1 h2=>by
  have g1:=Vals.getD r1 h1;have g2:=Vals.getD r2 h2;rcases hE j (by rw[L2.Vals.length r1];exact h1)with⟨f1,f2,e⟩|⟨a,a',Rr,Rs,e1,e2,hq,f1,f2,e⟩
  .rw[e];exact eqAt_V g1 g2 f1 f2
  .rw[e1]at g1;rw[e2]at g2;have g1:its[j]=.ref a:=g1;have g2:d8[j]=.ref a':=g2;rw[e,g1,g2];exact AU I hu hq f1 f2
 rcases hs with⟨ha,hb⟩|⟨ha,hb⟩
 .obtain⟨its,r1,p1,_⟩:=I.tuple ha;obtain⟨d8,r2,p2,_⟩:=I.tuple hb;refine SeqAt.eq_tupleAt (e:=λj=>es.getD j true) p1 p2 Kd (λj h1 h2=>?_) #[.bl (es.all id),H,I,?_,q]
  .rw[FR]at h1 h2;simp only[HC];exact el r1 r2 j h1 h2
  .rw[FR,FR,<-L2.Vals.length r1,<-L2.Vals.length r2,<-hl,Nat.min_self,tf he,beq_self_eq_true,HB];rfl
 .obtain⟨its,r1,p1,_⟩:=I.list ha;obtain⟨d8,r2,p2,_⟩:=I.list hb;have l1:=L2.Vals.length r1;have l2:=L2.Vals.length r2;refine SeqAt.eq_listAt (e:=λj=>es.getD j true) p1.isList p2.isList (by rw[FR,FR];lia) Kd (λj h1 h2=>?_) #[.bl (es.all id),H,I,?_,q]
  .rw[FR]at h1 h2;simp only[HC];exact el r1 r2 j h1 h2
  .rw[FR,<-l1,tf he];rfl
def sh2(x y:D):Bool:=(bv x&&bv y)||match x,y with|.tup a,.tup b=>a.all bv&&b.all bv|.lst a,.lst b=>a.all bv&&b.all bv|_,_=>false
def eq2(x y:D):Bool:=match x,y with|.tup a,.tup b=>eqFs a b|.lst a,.lst b=>eqFs a b|x,y=>eqF x y
def EqE.of{F:Hp}(fh:Same F H){x y:D}{u v:V}(rx:Rep K F x u)(ry:Rep K F y v)(h:sh2 x y=true):EqE K H u v (eq2 x y):=by
 unfold sh2 at h;rw[Bool.or_eq_true,Gg]at h;rcases h with⟨f1,f2⟩|h
 .refine .inl #[eF rx f1,eF ry f2,?_];rw[ke rx ry f1 f2];unfold eq2;split
  .cases f1
  .cases f1
  .rfl
 .split at h
  .rw[Gg]at h;obtain⟨a,us,rfl,hq,rr⟩:=rep_tup_mp rx;obtain⟨b,vs,rfl,k_,l9⟩:=rep_tup_mp ry;exact .inr #[a,b,us,vs,rfl,rfl,.inl #[fh.tup hq,fh.tup k_],dg rr h.1,dg l9 h.2,(kg rr l9 h.1 h.2).symm]
  .rw[Gg]at h;obtain⟨a,us,rfl,hq,rr⟩:=rep_lst.mp rx;obtain⟨b,vs,rfl,k_,l9⟩:=rep_lst.mp ry;exact .inr #[a,b,us,vs,rfl,rfl,.inr #[SqL.of (fh _ _ hq),SqL.of (fh _ _ k_)],dg rr h.1,dg l9 h.2,(kg rr l9 h.1 h.2).symm]
  .cases h
def sh2s:List D->List D->Bool
 |[],[]=>true
 |x::xs,y::ys=>sh2 x y&&sh2s xs ys
 |_,_=>false
def eq2s(xs ys:List D):List Bool:=List.zipWith eq2 xs ys
def EqE.all{F:Hp}(fh:Same F H):∀{xs ys:List D} {us vs:List V},Reps K F xs us->Reps K F ys vs->sh2s xs ys=true->us.length=vs.length/\(eq2s xs ys).length=us.length/\∀j,j<us.length->EqE K H (us.getD j .non) (vs.getD j .non) ((eq2s xs ys).getD j true):=by
 intro xs;induction xs with
 |nil=>
  intro ys us vs r1 r2 h;cases ys with
  |nil=>
   rw[reps_nil.mp r1,reps_nil.mp r2];exact#[rfl,rfl,λj h=>absurd h (GU j)]
  |cons y ys=>exact absurd h F6
 |cons x xs ih=>
  intro ys us vs r1 r2 h;cases ys with
  |nil=>exact absurd h F6
  |cons y ys=>
   obtain⟨u,ur,rfl,a1,a2⟩:=reps_cons.mp r1;obtain⟨v,vr,rfl,b1,b2⟩:=reps_cons.mp r2;rw[sh2s,Gg]at h;obtain⟨q1,q2,q3⟩:=ih a2 b2 h.2;refine#[by rw[FV,FV,q1],by show(eq2s xs ys).length+1=_;rw[q2,FV],λj hj=>?_];cases j with
   |zero=>exact EqE.of fh a1 b1 h.1
   |succ j=>exact q3 j (IR hj)
def rdEqN:RD2:=λx y R=>match x,y with
 |.tup xs,.tup ys=>sh2s xs ys=true/\R (.bl ((eq2s xs ys).all id))
 |.lst xs,.lst ys=>sh2s xs ys=true/\R (.bl ((eq2s xs ys).all id))
 |_,_=>False
def AW:aW K (rEqN K) rdEqN:=by
 intro x y u v F H R Q fh h rx ry q;unfold rdEqN at h;split at h
 .obtain⟨a,us,rfl,hq,rr⟩:=rep_tup_mp rx;obtain⟨b,vs,rfl,k_,l9⟩:=rep_tup_mp ry;obtain⟨q1,q2,q3⟩:=EqE.all fh rr l9 h.1;exact#[a,b,us,vs,_,rfl,rfl,.inl #[fh.tup hq,fh.tup k_],q1,q2,q3,q _ _ F H (Grow.refl fh) h.2 (rep_bl.mpr rfl)]
 .obtain⟨a,us,rfl,hq,rr⟩:=rep_lst.mp rx;obtain⟨b,vs,rfl,k_,l9⟩:=rep_lst.mp ry;obtain⟨q1,q2,q3⟩:=EqE.all fh rr l9 h.1;exact#[a,b,us,vs,_,rfl,rfl,.inr #[SqL.of (fh _ _ hq),SqL.of (fh _ _ k_)],q1,q2,q3,q _ _ F H (Grow.refl fh) h.2 (rep_bl.mpr rfl)]
 .exact h.elim
def tm[Jx](hu:X.A.units+1<SY)(ha:WDE X a ta)(hb:WDE X b tb):WDE X (.Compare a [.Eq] [b] pos) (dOp rdEqN ta tb):=#[have ha:=ha.out;have hb:=hb.out;gI (AV hu) AW ha hb (nomark _)]
def AX(i:Nat)(t:TDA):TSD:=λE z=>t z λds=>match ds with
 |[.lst xs]=>E.nx (z.set i (be (.own xs)))
 |[.tup xs]=>E.nx (z.set i (be (.own xs)))
 |_=>False
def AY[Jx](i:Nat){x:E_}{c_:R6}{t:TDA}(hm:X.mg "list"=s_)(hN:X.N.Nodup)(ha:WDA X [e] t)(hi:autoParam (X.N[i]?=be x) zA0)(hx:autoParam (Loc X.env.scope x) zA4)(hg:autoParam (Gl X "list") zA0)(he:autoParam (zSE X e []) zA0)(hs:autoParam (R9 (.Call (.Name "list" p) [e] [] p2) (be (.Name x c_)) pos.line X.env=pure false) zA0)
  (hf:autoParam (zFN X x) zA3):WDS X (.Assign [.Name x c_] (.Call (.Name "list" p) [e] [] p2) pos) (AX i t):=⟨have ha:=ha.out;(gw hN hi hx (jP qU hg hm PyProof.Rows.boot_list ha Kj Kj he) hs hf).anti λE s H q=>by
 obtain⟨B,F0,F,z,k,rs,ED,h,e⟩:=q;refine#[B,F,z,k.kf,rs,_,h,λds vs F1 H1 g hd rd=>?_];have k1:=k.grow g;have r1:=rs.grow g;have fI:∀{xs:List D} {us:List V},Reps X.K F1 xs us->ED.nx (z.set i (be (.own xs)))->∀l,H1 l=s_->E.nx (s.set i (be (.ref l))) (upd H1 l (.lst us)):=λ{xs us} rr hn p hp=>by
  have hB:B p=none:=k1.bh.free hp;have hF:F1 p=none:=k1.fh.free hp;refine e.nx _ _ F1 _ #[k1.bh.trans (aV hp _),k1.fh.trans (aV hp _),k1.f0,k1.out,k1.eb,k1.jf,k1.jo] hn (r1.setOwn hB hF rr λj dj hj e1 e2=>?_);obtain⟨a,us,q1,q2,_⟩:=r1.own j dj e1;rw[e2]at q1;cases q1;rw[hp]at q2;cases q2
 split at hd
 .obtain⟨v,r,rfl,h1,h2⟩:=reps_cons.mp rd;rw[reps_nil.mp h2];obtain⟨a,us,rfl,hq,rr⟩:=rep_lst.mp h1;exact#[a,us,rfl,.inl (g.fh.seq (SqL.of hq)),fI rr hd]
 .obtain⟨v,r,rfl,h1,h2⟩:=reps_cons.mp rd;rw[reps_nil.mp h2];obtain⟨a,us,rfl,hq,rr⟩:=rep_tup_mp h1;exact#[a,us,rfl,.inr (g.fh.tup hq),fI rr hd]
 .exact hd.elim⟩
end
mutual
def noL:D->Bool
 |.non=>true|.bl _=>true|.int _=>true|.str _=>true|.ptr _=>true|.dti _=>true
 |.tup ds=>noLs ds
 |.obj _ fs=>noLF fs
 |_=>false
def noLs:List D->Bool
 |[]=>true
 |d::ds=>noL d&&noLs ds
def noLF:List (E_×D)->Bool
 |[]=>true
 |(_,d)::ds=>noL d&&noLF ds
end
def nlF(F:Hp):Hp:=λb=>match F b with|some (.lst _)=>s_|o=>o
def kJ{F:Hp}{b:KF}{o:HO}(e:F b=be o)(h:∀vs,o≠.lst vs):nlF F b=be o:=by
 unfold nlF;rw[e];cases o with
 |lst vs=>exact absurd rfl (h vs)
 |_=>rfl
mutual
def Rep.nl{K:Ex}{F:Hp}:∀(d:D) (v:V),noL d=true->Rep K F d v->Rep K (nlF F) d v
 |.non,v,_,h=>by unfold Rep at h ⊢;exact h
 |.bl b,v,_,h=>by unfold Rep at h ⊢;exact h
 |.int b,v,_,h=>by unfold Rep at h ⊢;exact h
 |.str b,v,_,h=>by unfold Rep at h ⊢;exact h
 |.ptr b,v,_,h=>by unfold Rep at h ⊢;exact h
 |.dti a8,v,_,h=>by
  unfold Rep at h ⊢;obtain⟨a,e,q⟩:=h;exact#[a,e,kJ q λ_ z=>nomatch z]
 |.tup ds,v,n,h=>by
  unfold Rep at h ⊢;obtain⟨a,vs,e,q,r⟩:=h;exact#[a,vs,e,kJ q (λ_ z=>nomatch z),Reps.nl ds vs (by unfold noL at n;exact n) r]
 |.obj x fs,v,n,h=>by
  unfold Rep at h ⊢;obtain⟨a,C,dx,vs,e,n1,q,r⟩:=h;exact#[a,C,dx,vs,e,n1,kJ q (λ_ z=>nomatch z),RepF.nl fs vs (by unfold noL at n;exact n) r]
 |.lst _,_,n,_=>by unfold noL at n;cases n
 |.rol _,_,n,_=>by unfold noL at n;cases n
 |.exc _ _,_,n,_=>by unfold noL at n;cases n
 |.own _,_,n,_=>by unfold noL at n;cases n
def RepF.nl{K:Ex}{F:Hp}:∀(ds:List (E_×D)) (vs:List (E_×V)),noLF ds=true->RepF K F ds vs->RepF K (nlF F) ds vs
 |[],vs,_,h=>by unfold RepF at h ⊢;exact h
 |(f,d)::ds,vs,n,h=>by
  unfold noLF at n;rw[Gg]at n;unfold RepF at h ⊢;obtain⟨v,r,e,q1,q2⟩:=h;exact#[v,r,e,Rep.nl d v n.1 q1,RepF.nl ds r n.2 q2]
def Reps.nl{K:Ex}{F:Hp}:∀(ds:List D) (vs:List V),noLs ds=true->Reps K F ds vs->Reps K (nlF F) ds vs
 |[],vs,_,h=>by unfold Reps at h ⊢;exact h
 |d::ds,vs,n,h=>by
  unfold noLs at n;rw[Gg]at n;unfold Reps at h ⊢;obtain⟨v,r,e,q1,q2⟩:=h;exact#[v,r,e,Rep.nl d v n.1 q1,Reps.nl ds r n.2 q2]
end
end My
end
section
namespace My
open PySem PySem.Spec PyProof.Rows L2
variable{w:Int}
def b64B(h:0<w)(h':w<=33554432):-(2^64)<w/\w<2^64:=Kd
variable{s:Int}
def s64B(h:0<=s)(h':s<w)(O3:w<=33554432):-(2^64)<s/\s<2^64:=Kd
def d30B(h:0<w)(h':w<=33554432):0<w/\w<1073741824:=Kd
variable{x y:Int}
def ab24(h:x.natAbs<=12)(h':y.natAbs<=12):(x+y).natAbs<=24:=Kd
def sq0(a:Int):0<=a*a:=(IS 0 a).elim (λq=>Ie q q) (λq=>Int.mul_nonneg_of_nonpos_of_nonpos q q)
def u64(h:w=1\/w=-1\/w=0):-(2^64)<w/\w<2^64:=Kd
def n64{k:Nat}(h:w.natAbs<=k)(hk:autoParam (k<=1073741823) zA1):-(2^64)<w/\w<2^64:=Kd
variable{a b:Int}
def i64(h:a<=w)(h':w<=b)(ha:autoParam ( -1000000000001<=a) zA1)(hb:autoParam (b<=1000000000001) zA1):-(2^64)<w/\w<2^64:=Kd
def fdm(a b:Int)(hb:b≠0):(a-a.fdiv b*b).natAbs<b.natAbs/\(a.fdiv b).natAbs<=a.natAbs+1:=by
 have e:=Int.fmod_def a b;have e2:a-a.fdiv b*b=a.fmod b:=by rw[e,Gb]
 rw[e2];have r:(a.fmod b).natAbs<b.natAbs:=by
  rcases(Kd:0<b\/b<0)with h|h
  .have h1:=IT a h;have h2:=IU a h;lia
  .have h1:=IT (-a) (show 0< -b by lia);have h2:=IU (-a) (show 0< -b by lia);rw[Int.neg_fmod_neg]at h1 h2;lia
 refine#[r,?_];have e3:(b*a.fdiv b).natAbs=b.natAbs*(a.fdiv b).natAbs:=GV _ _;have e4:=Int.mul_fdiv_self a b;rcases G6 (a.natAbs+1) (a.fdiv b).natAbs with c|c
 .have h1:b.natAbs*(a.natAbs+2)<=b.natAbs*(a.fdiv b).natAbs:=Nat.mul_le_mul_left _ c;have h2:b.natAbs*(a.natAbs+2)=b.natAbs*a.natAbs+2*b.natAbs:=by rw[Nat.mul_add,Nat.mul_comm _ 2]
  have h3:1*a.natAbs<=b.natAbs*a.natAbs:=IV _ Kd;lia
 .exact c
def Uni(a b c d p0 p1 q0 q1:Int):Prop:=∃m n k l:Int,(m*l-n*k=1\/m*l-n*k=-1)/\p0=m*a+n*c/\p1=m*b+n*d/\q0=k*a+l*c/\q1=k*b+l*d
def Uni.refl(a b c d:Int):Uni a b c d a b c d:=#[1,0,0,1,.inl Kj,Kd,Kd,Kd,Kd]
variable{c d p0 p1 q0 q1:Int}
def Uni.step(t:Int)(h:Uni a b c d p0 p1 q0 q1):Uni a b c d q0 q1 (p0-t*q0) (p1-t*q1):=by
 obtain⟨m,n,k,l,hd,rfl,rfl,rfl,rfl⟩:=h;refine#[k,l,m-t*k,n-t*l,?_,rfl,rfl,Lm,Lm];rcases hd with h|h
 .right;grind
 .left;grind
def Uni.neg(h:Uni a b c d p0 p1 q0 q1):Uni a b c d (-p0) (-p1) q0 q1:=by
 obtain⟨m,n,k,l,hd,rfl,rfl,rfl,rfl⟩:=h;refine#[-m,-n,k,l,?_,Lm,Lm,rfl,rfl];rcases hd with h|h
 .right;grind
 .left;grind
def Uni.inv(h:Uni a b c d p0 p1 q0 q1):Uni p0 p1 q0 q1 a b c d:=by
 obtain⟨m,n,k,l,hd,rfl,rfl,rfl,rfl⟩:=h;rcases hd with h|h
 .exact#[l,-n,-k,m,.inl Lm,Lm,Lm,Lm,Lm]
 .exact#[-l,n,k,-m,.inr Lm,Lm,Lm,Lm,Lm]
def Uni.det(h:Uni a b c d p0 p1 q0 q1):p0*q1-p1*q0=a*d-b*c\/p0*q1-p1*q0=-(a*d-b*c):=by
 obtain⟨m,n,k,l,hd,rfl,rfl,rfl,rfl⟩:=h;rcases hd with h|h
 .left;grind
 .right;grind
def Lev(a b c d p0 p1 q0:Int):Prop:=0<=p1/\Uni a b c d p0 p1 q0 0
def FamOf(a b c d w h s:Int):Prop:=0<w/\0<h/\0<=s/\s<w/\Uni a b c d w 0 s h
def AZ(x:Int):(if x<0 then -x else x)=x\/(if x<0 then -x else x)=-x:=by
 split<;>simp
def A1(h:x≠0):0<(if x<0 then -x else x):=by split<;>lia
def fU(hn:¬a*d=b*c)(h:Lev a b c d p0 p1 q0):FamOf a b c d (if q0<0 then -q0 else q0) p1 (p0%(if q0<0 then -q0 else q0)):=by
 obtain⟨hp,hu⟩:=h;have dt:=hu.det;have Qq:q0≠0:=by
  rintro rfl;simp at dt;lia
 have Rt:p1≠0:=by
  rintro rfl;simp at dt;lia
 have hw:=A1 Qq;have hs:=AZ q0;generalize (if q0<0 then -q0 else q0)=w at hw hs;refine#[hw,Kd,Gp _ Kd,Gq _ hw,?_];have em:=Gw p0 w;generalize p0%w=s at em;generalize p0/w=t at em;obtain⟨m,n,k,l,hd,e1,e2,e3,e4⟩:=hu;rcases hs with e|e
 .refine#[k,l,m-t*k,n-t*l,?_,Lm,Lm,Lm,Lm];rcases hd with h|h
  .right;grind
  .left;grind
 .refine#[-k,-l,m+t*k,n+t*l,?_,Lm,Lm,Lm,Lm];rcases hd with h|h
  .left;grind
  .right;grind
variable{h i j:Int}
def in_fam(hh:0<h)(ex:x=i*w+j*s)(ey:y=j*h):y%h=0/\(x-y/h*s)%w=0:=by
 subst ex ey;rw[Gu _ Kd];refine#[HD _ _,?_];have e:i*w+j*s-j*s=i*w:=Kd
 rw[e];exact HD _ _
def FamOf.first(f:FamOf a b c d w h s):b%h=0/\(a-b/h*s)%w=0:=by
 obtain⟨hw,hh,_,_,hu⟩:=f;obtain⟨m,n,k,l,_,e1,e2,e3,e4⟩:=hu.inv;exact in_fam (i:=m) (j:=n) hh e1 Kd
def FamOf.second(f:FamOf a b c d w h s):d%h=0/\(c-d/h*s)%w=0:=by
 obtain⟨hw,hh,_,_,hu⟩:=f;obtain⟨m,n,k,l,_,e1,e2,e3,e4⟩:=hu.inv;exact in_fam (i:=k) (j:=l) hh e3 Kd
variable{u v:Int}
def tw(eu:u=i*a+j*c)(ev:v=i*b+j*d):(u*d-v*c).fmod (a*d-b*c)=0/\(a*v-b*u).fmod (a*d-b*c)=0:=by
 subst eu ev;refine#[Ig #[i,Lm],Ig #[j,Lm]]
def FamOf.cells(f:FamOf a b c d w h s):w*h=a*d-b*c\/w*h=-(a*d-b*c):=by
 have:=f.2.2.2.2.det;simpa using this
def bW{A B:Nat}(h1:a.natAbs<=A)(h2:d.natAbs<=B):(a*d).natAbs<=A*B:=by
 rw[GV];exact HE h1 h2
variable{g:Int}
def A2{gap:Int}{N:Nat}(hg:0<g)(c0:0<=c)(cg:c<=g)(h:gap.natAbs<=N):(c*gap/g).natAbs<=N:=by
 have h1:(c*gap).natAbs<=g.natAbs*N:=by rw[GV];exact HE KK h
 have e:((g.natAbs*N:Nat):Int)=N*g:=by rw[Ih,Int.natAbs_of_nonneg KK,Gb]
 have l1:=Int.le_ediv_of_mul_le (a:=-(N:Int)) (b:=c*gap) hg (by rw[GL];omega);have l2:=Int.ediv_le_of_le_mul (a:=c*gap) (b:=(N:Int)) hg KK;omega
def cr(hw:0<w)(hh:0<h):w<=w*h/\h<=w*h:=by
 have h1:=HF (show 1<=h by lia) (show 0<=w by lia);have h2:=Ga (show 1<=w by lia) (show 0<=h by lia);lia
def FamOf.bd(f:FamOf a b c d w h s){N:Nat}(hN:(a*d-b*c).natAbs<=N):w<=N/\h<=N/\s<N:=by
 obtain⟨h1,h2⟩:=cr f.1 f.2.1;have h3:=f.cells;have h4:=f.2.2.2.1;lia
def Meas(x y g u:Int):Prop:=0<=g/\(∃i,x=i*g)/\(∃j,y=j*g)/\∃n,g=u*x+n*y
variable{q:Int}
def tz(h:0<=g/\∃m n k l:Int,(m*l-n*k=1\/m*l-n*k=-1)/\u=m*1+n*0/\g=m*x+n*y/\q=k*1+l*0/\0=k*x+l*y):Meas x y g u:=by
 obtain⟨h0,m,n,k,l,hd,e1,e2,e3,e4⟩:=h;refine#[h0,?_,?_,n,Lm]
 .rcases hd with h|h
  .exact#[l,Lm]
  .exact#[-l,Lm]
 .rcases hd with h|h
  .exact#[-k,Lm]
  .exact#[k,Lm]
def Meas.pos(h:Meas x y g u)(hx:0<x):0<g:=by
 obtain⟨h0,⟨i,hi⟩,_⟩:=h;rcases(Kd:g=0\/0<g)with e|e
 .subst e;simp at hi;lia
 .exact e
def Meas.le(h:Meas x y g u)(hx:0<x):g<=x:=by
 have hg:=h.pos hx;obtain⟨h0,⟨i,hi⟩,_⟩:=h;have Ru:0<i:=by
  rcases(Kd:i<=0\/0<i)with e|e
  .have:=GW e h0;lia
  .exact e
 have:=Ga (show 1<=i by lia) h0;lia
structure MetR(w1 h1 s1 w2 h2 s2 w h s A:Int):Prop where
 w0:0<w
 h0:0<h
 s0:0<=s
 sw:s<w
 in1:∃i,w=i*w1
 in2:∃i,w=i*w2
 up1:∃i j,s=i*w1+j*s1/\h=j*h1
 up2:∃i j,s=i*w2+j*s2/\h=j*h2
 A0:0<A
 cells:w*h*A=w1*h1*w2*h2
 d11:A∣w1*h1
 d12:A∣w1*h2
 d21:A∣w2*h1
 d22:A∣w2*h2
 ds:A∣s1*h2-h1*s2
 all:∀x y:Int,(∃i j,x=i*w1+j*s1/\y=j*h1)->(∃i j,x=i*w2+j*s2/\y=j*h2)->∃i j,x=i*w+j*s/\y=j*h
 comb:∀G:Int,G∣w1*h1->G∣w1*h2->G∣w2*h1->G∣w2*h2->G∣s1*h2-h1*s2->G∣A
def dR(h:0<x*y)(hy:0<y):0<x:=by
 rcases(Kd:x<=0\/0<x)with e|e
 .have:=GW e (show 0<=y by lia);lia
 .exact e
def kK(ha:0<a)(h:a*b=a*c):b=c:=Ii Kd h
def r1(k j c:Int):k*(j*c)=j*(c*k):=Lm
def r2(j u c n d:Int):j*(u*c+n*d)=u*(j*c)+n*d*j:=Lm
def r3(u j d n j1:Int):u*(j*d)+n*d*j1=d*(u*j+n*j1):=Lm
def r4(j u c n d:Int):j*(u*c+n*d)=u*c*j+n*(j*d):=Lm
def r5(u c j n j1:Int):u*c*j+n*(j1*c)=c*(u*j+n*j1):=Lm
def r6(g e i1 a i2 b d T s1 c s2:Int)(q:i1*(a*(e*g))+d*T*s1=i2*(b*(e*g))+c*T*s2):g*(e*(i1*a-i2*b))=T*(c*s2-d*s1):=Lm
def r7(g T f:Int):g*(T*f)=T*(f*g):=Lm
def r8(T v e q f:Int):T*(v*e+q*f)=v*T*e+q*(T*f):=Lm
def r9(v T e q m:Int):v*T*e+q*(e*m)=e*(v*T+q*m):=Lm
def r10(e r f:Int):e*r*f=e*(r*f):=Lm
def r11(i u a n b:Int):i*(u*a+n*b)=u*(i*a)+n*b*i:=Lm
def r12(u r f i2 b n i1:Int):u*(r*f+i2*b)+n*b*i1=u*(r*f)+b*(u*i2+n*i1):=Lm
def r13(u r f b M a e g d s1 t:Int):(u*(r*f)+b*M)*(a*(e*g))+d*(e*r)*s1=(M+r*t)*(a*b*(e*g))+r*(e*(d*s1)+f*u*(a*(e*g))-a*b*(e*g)*t):=Lm
def r14(d e r c k:Int):d*(e*r)*(c*k)=r*(c*d*k*e):=Lm
variable{k e f gg u' s1 s2:Int}
def A3{n n' t i1 j1 i2 j2:Int}(hk:0<k)(JM:0<gg)(he:0<e)
  (q_:u*a+n*b=1) (ox:u'*c+n'*d=1) (gap:c*s2-d*s1=f*gg) (r_:v*e+q*f=1)
  (hs:s=e*(d*s1)+f*u*(a*(e*gg))-a*b*(e*gg)*t) (x1:x=i1*(a*(e*gg))+j1*s1) (y1:y=j1*(c*k)) (x2:x=i2*(b*(e*gg))+j2*s2) (y2:y=j2*(d*k)):
  ∃i j,x=i*(a*b*(e*gg))+j*s/\y=j*(c*d*k*e):=by
 have h1:j1*c=j2*d:=kK hk (by rw[r1 k j1 c,r1 k j2 d,<-y1,<-y2]);have Ml:j1=d*(u'*j2+n'*j1):=by
  have p:=r2 j1 u' c n' d;rw[ox,h1,r3]at p;lia
 have O4:j2=c*(u'*j2+n'*j1):=by
  have p:=r4 j2 u' c n' d;rw[ox,<-h1,r5]at p;lia
 generalize u'*j2+n'*j1=T at Ml O4;have q1:i1*(a*(e*gg))+d*T*s1=i2*(b*(e*gg))+c*T*s2:=by rw[<-Ml,<-O4,<-x1,<-x2]
 have h2:e*(i1*a-i2*b)=T*f:=kK JM (by rw[r6 gg e i1 a i2 b d T s1 c s2 q1,r7,gap]);have eT:T=e*(v*T+q*(i1*a-i2*b)):=by
  have p:=r8 T v e q f;rw[r_,<-h2,r9]at p;lia
 generalize hr:v*T+q*(i1*a-i2*b)=r at eT;have h3:i1*a-i2*b=r*f:=kK he (by rw[h2,eT,r10]);have h4:i1=u*(r*f)+b*(u*i2+n*i1):=by
  have p:=r11 i1 u a n b;have q3:i1*a=r*f+i2*b:=Kd
  rw[q_,q3,r12]at p;lia
 generalize u*i2+n*i1=M at h4;refine#[M+r*t,r,?_,?_]
 .rw[hs,x1,Ml,eT,<-r13,<-h4]
 .rw[y1,Ml,eT,r14]
def A5{n n' t:Int}(ha:0<a)(hb:0<b)(hc:0<c)(hd:0<d)(he:0<e)(hk:0<k)(JM:0<gg)
  (q_:u*a+n*b=1) (ox:u'*c+n'*d=1) (gap:c*s2-d*s1=f*gg) (r_:v*e+q*f=1)
  (hs:s=e*(d*s1)+f*u*(a*(e*gg))-a*b*(e*gg)*t) (m1:0<=s) (m2:s<a*b*(e*gg)):
  MetR (a*(e*gg)) (c*k) s1 (b*(e*gg)) (d*k) s2 (a*b*(e*gg)) (c*d*k*e) s (k*gg):=by
 have hg:0<e*gg:=F7 he JM;have hW:0<a*b*(e*gg):=F7 (F7 ha hb) hg;have Nt:d*s1=c*s2-f*gg:=Kd
 have ua:u*a=1-n*b:=Kd
 refine#[hW,F7 (F7 (F7 hc hd) hk) he,m1,m2,#[b,?_],#[a,?_],#[f*u-t*b,d*e,?_,?_],#[-(f*n)-t*a,c*e,?_,?_],F7 hk JM,?_,#[a*e*c,?_],#[a*e*d,?_],#[b*e*c,?_],#[b*e*d,?_],#[-f,?_],?_,?_]
 .grind
 .grind
 .grind
 .grind
 .rw[hs,Nt];have x2:f*u*(a*(e*gg))=f*(u*a)*(e*gg):=by grind
  rw[x2,ua];grind
 .grind
 .grind
 .grind
 .grind
 .grind
 .grind
 .have:s1*(d*k)-c*k*s2=-(k*(c*s2-d*s1)):=by grind
  rw[this,gap];grind
 .rintro x y⟨i1,j1,x1,z1⟩ ⟨i2,j2,x2,z2⟩;exact A3 hk JM he q_ ox gap r_ hs x1 z1 x2 z2
 .rintro G⟨y1,z1⟩ ⟨y2,z2⟩ ⟨y3,z3⟩ ⟨y4,z4⟩ ⟨y5,z5⟩;refine#[v*(u'*u*y1+n'*u*y2+u'*n*y3+n'*n*y4)-q*y5,?_];have k1:k*(e*gg)=G*(u'*u*y1+n'*u*y2+u'*n*y3+n'*n*y4):=by
   have p1:k*(e*gg)=(u'*c+n'*d)*(u*a+n*b)*(k*(e*gg)):=by rw[q_,ox];grind
   have p2:(u'*c+n'*d)*(u*a+n*b)*(k*(e*gg))=u'*u*(a*(e*gg)*(c*k))+n'*u*(a*(e*gg)*(d*k))+u'*n*(b*(e*gg)*(c*k))+n'*n*(b*(e*gg)*(d*k)):=Lm
   rw[p1,p2,z1,z2,z3,z4];grind
  have k2:k*(f*gg)=-(G*y5):=by
   rw[<-z5,<-gap];grind
  have k3:k*gg=(v*e+q*f)*(k*gg):=by rw[r_];grind
  have k4:(v*e+q*f)*(k*gg)=v*(k*(e*gg))+q*(k*(f*gg)):=Lm
  rw[k3,k4,k1,k2];grind
variable{w1 h1 w2 h2:Int}
def kL{t6:Int}(Mm:0<w1)(LB:0<w2)(O5:0<h1)(z9:0<h2)
  (M1:Meas w1 w2 g u) (M2:Meas h1 h2 k u')
  (M3:Meas g (h1*h2/k/h2*s2-h1*h2/k/h1*s1) gg t6):
  MetR w1 h1 s1 w2 h2 s2 (w1*w2/g) (h1*h2/k*(g/gg)) ((g/gg*(h1*h2/k/h1*s1)+g/gg*(h1*h2/k/h2*s2-h1*h2/k/h1*s1)/g*u*w1)%(w1*w2/g)) (k*gg):=by
 have hg:=M1.pos Mm;have hk:=M2.pos O5;have JM:=M3.pos hg;obtain⟨_,⟨a,ea⟩,⟨b,eb⟩,n,en⟩:=M1;obtain⟨_,⟨c,ec⟩,⟨d,ed⟩,n',Qr⟩:=M2;have ha:0<a:=dR (ea ▸ Mm) hg;have hb:0<b:=dR (eb ▸ LB) hg;have hc:0<c:=dR (ec ▸ O5) hk;have hd:0<d:=dR (ed ▸ z9) hk;have q_:u*a+n*b=1:=by
  have p:(u*a+n*b)*g=1*g:=by
   have:(u*a+n*b)*g=u*(a*g)+n*(b*g):=by grind
   rw[this,<-ea,<-eb];lia
  exact G8 Kd p
 have ox:u'*c+n'*d=1:=by
  have p:(u'*c+n'*d)*k=1*k:=by
   have:(u'*c+n'*d)*k=u'*(c*k)+n'*(d*k):=by grind
   rw[this,<-ec,<-ed];lia
  exact G8 Kd p
 have eW:w1*w2/g=a*b*g:=by
  have:w1*w2=(a*b*g)*g:=by rw[ea,eb];grind
  rw[this];exact Gu _ Kd
 have eR:h1*h2/k=c*d*k:=by
  have:h1*h2=(c*d*k)*k:=by rw[ec,ed];grind
  rw[this];exact Gu _ Kd
 have Qt:h1*h2/k/h1=d:=by
  rw[eR];have:c*d*k=d*h1:=by rw[ec];grind
  rw[this];exact Gu _ Kd
 have Qu:h1*h2/k/h2=c:=by
  rw[eR];have:c*d*k=c*h2:=by rw[ed];grind
  rw[this];exact Gu _ Kd
 rw[Qt,Qu]at M3 ⊢;obtain⟨_,⟨e,ee⟩,⟨f,ef⟩,q,eq⟩:=M3;have he:0<e:=dR (ee ▸ hg) JM;have r_:t6*e+q*f=1:=by
  have p:(t6*e+q*f)*gg=1*gg:=by
   have:(t6*e+q*f)*gg=t6*(e*gg)+q*(f*gg):=by grind
   rw[this,<-ee,<-ef];lia
  exact G8 Kd p
 have eC:g/gg=e:=by rw[ee];exact Gu _ Kd
 have eS:e*(c*s2-d*s1)/g=f:=by
  have:e*(c*s2-d*s1)=f*g:=by rw[ef,ee];grind
  rw[this];exact Gu _ Kd
 rw[eC,eS,eW,eR];have hW:0<a*b*g:=F7 (F7 ha hb) hg;have em:=Gw (e*(d*s1)+f*u*w1) (a*b*g);have m1:=Gp (e*(d*s1)+f*u*w1) (show a*b*g≠0 by lia);have m2:=Gq (e*(d*s1)+f*u*w1) hW;generalize (e*(d*s1)+f*u*w1)%(a*b*g)=s at em m1 m2 ⊢;generalize (e*(d*s1)+f*u*w1)/(a*b*g)=t at em;subst ea eb ec ed;subst ee;exact A5 ha hb hc hd he hk JM q_ ox ef r_ em m1 m2
def kM(hx:0<x)(hy:0<y)(M:Meas x y g u):0<x*y/g/\x*y/g<=x*y/\x*y/g/x*1<=y/\0<=x*y/g/x/\x*y/g/y<=x/\0<=x*y/g/y:=by
 have hg:=M.pos hx;obtain⟨_,⟨a,ea⟩,⟨b,eb⟩,_⟩:=M;have ha:0<a:=dR (ea ▸ hx) hg;have hb:0<b:=dR (eb ▸ hy) hg;have e1:x*y/g=a*b*g:=by
  have:x*y=(a*b*g)*g:=by rw[ea,eb];grind
  rw[this];exact Gu _ Kd
 have e2:a*b*g/x=b:=by
  have:a*b*g=b*x:=by rw[ea];grind
  rw[this];exact Gu _ Kd
 have e3:a*b*g/y=a:=by
  have:a*b*g=a*y:=by rw[eb];grind
  rw[this];exact Gu _ Kd
 have p1:0<a*b*g:=F7 (F7 ha hb) hg;have q1:=(cr (w:=b) (h:=g) hb hg).1;have q2:=(cr (w:=a) (h:=g) ha hg).1;have q3:x*y=a*b*g*g:=by rw[ea,eb];grind
 have q4:=(cr (w:=a*b*g) (h:=g) p1 hg).1;rw[e1,e2,e3];lia
def cell(ns:List Int)(k:Int):Int:=ns.getD k.toNat 0
variable{ns:List Int}
def kN(h0:0<=k)(h1:k<(ns.length:Int)):atI (ns.map D.int) k=be (.int (cell ns k)):=by
 obtain⟨j,rfl⟩:∃j:Nat,k=(j:Int):=#[k.toNat,Kd];have hk:j<ns.length:=Kd
 refine bF ?_;rw[FT,F9 hk];simp[cell,GA,F9 hk]
def A6(h1:(ns.length:Int)<=k):cell ns k=0:=by
 have hk:ns.length<=k.toNat:=Kd
 simp[cell,GA,GE hk]
def FL(k:Int):∃m,atI [D.int 12,D.int 720] (k%2)=be (.int m)/\(m=12\/m=720):=by
 rcases(Kd:k%2=0\/k%2=1)with e|e
 .rw[e];exact#[12,rfl,.inl rfl]
 .rw[e];exact#[720,rfl,.inr rfl]
def bX(h:0<b):0<=a%b:=Gp a Kd
def bY(h:0<b):a%b<b:=Gq a h
def A7:SpD:=λds R=>∃(ns:List Int) (k:Int),ds=[.rol (ns.map D.int),.int k]/\0<=k/\R (.int (cell ns k))
def A8:SpD:=λds R=>∃i:Int,ds=[.int i]/\R (.bl true)
def A9:SpD:=λds R=>∃w h s x y:Int,ds=[.tup [.int w,.int h,.int s],.int x,.int y]/\0<w/\0<h/\h<1073741824/\0<=s/\s<1073741824/\
 R (.bl (decide (y%h=0/\(x-y/h*s)%w=0)))
def Ba:SpD:=λds R=>∃a b c d u v:Int,ds=[.tup [.int a,.int b],.tup [.int c,.int d],.int u,.int v]/\a.natAbs<1073741824/\b.natAbs<1073741824/\c.natAbs<1073741824/\d.natAbs<1073741824/\
 ¬a*d=b*c/\R (.bl (decide ((u*d-v*c).fmod (a*d-b*c)=0/\(a*v-b*u).fmod (a*d-b*c)=0)))
def Bb:SpD:=λds R=>∃x y:Int,ds=[.int x,.int y]/\∀g:Int,0<=g->g∣x->g∣y->(∀e,e∣x->e∣y->e∣g)->R (.int g)
def tD:e∣(if x<0 then -x else x)↔e∣x:=by
 split
 .exact Int.dvd_neg
 .exact Iff.rfl
def tE(hb:e∣b):e∣a%b↔e∣a:=by
 have e1:=Gw a b;rw[e1];constructor
 .intro h;have:=Ij h (IW (c:=a/b) hb);simpa using this
 .intro h;exact Int.dvd_sub h (IW hb)
def Bc:SpD:=λds R=>∃w h s x y:Int,ds=[.tup [.int w,.int h,.int s],.int x,.int y]/\0<w/\0<h/\h<1073741824/\0<=s/\s<1073741824/\
 R (.tup [.int ((x-y/h*s)%w),.int (y%h)])
def Bd:SpD:=λds R=>∃a b c d:Int,ds=[.tup [.int a,.int b],.tup [.int c,.int d]]/\b.natAbs<4611686018427387904/\d.natAbs<4611686018427387904/\
 ∀p0 p1 q0,Lev a b c d p0 p1 q0->R (.tup [.tup [.int p0,.int p1],.tup [.int q0,.int 0]])
def Be:SpD:=λds R=>∃a b c d:Int,ds=[.tup [.int a,.int b],.tup [.int c,.int d]]/\a.natAbs<4611686018427387904/\b.natAbs<4611686018427387904/\c.natAbs<4611686018427387904/\d.natAbs<4611686018427387904/\
 (a*d=b*c->R .non)/\(¬a*d=b*c->∀w h s,FamOf a b c d w h s->R (.tup [.int w,.int h,.int s]))
def Bf:SpD:=λds R=>∃w h s:Int,ds=[.tup [.int w,.int h,.int s]]/\0<w/\R (.tup [.int w,.int h,.int (-s%w)])
def Bg:SpD:=λds R=>∃w h s:Int,ds=[.tup [.int w,.int h,.int s]]/\0<w/\0<h/\w<4611686018427387904/\h<4611686018427387904/\0<=s/\s<4611686018427387904/\
 ∀w' h' s',FamOf 0 w (-h) s w' h' s'->R (.tup [.int w',.int h',.int s'])
def Bh:SpD:=λds R=>∃x y:Int,ds=[.int x,.int y]/\x.natAbs<4611686018427387904/\y.natAbs<4611686018427387904/\∀g u,Meas x y g u->R (.tup [.int g,.int u])
def Bi:SpD:=λds R=>∃w1 h1 s1 w2 h2 s2:Int,ds=[.tup [.int w1,.int h1,.int s1],.tup [.int w2,.int h2,.int s2]]/\0<w1/\w1<=33554432/\0<h1/\h1<=33554432/\0<=s1/\s1<w1/\0<w2/\w2<=33554432/\0<h2/\h2<=33554432/\0<=s2/\s2<w2/\
 ∀w h s A,MetR w1 h1 s1 w2 h2 s2 w h s A->R (.tup [.int w,.int h,.int s])
def Drawn(xs:List Int):Prop:=∀x∈xs,0<=x/\x<5040
variable{xs:List Int}
def Drawn.at(h:Drawn xs)(k:Int):0<=cell xs k/\cell xs k<5040:=by
 by_cases hk:k.toNat<xs.length
 .have:cell xs k=xs[k.toNat]:=by simp[cell,GA,F9 hk]
  rw[this];exact h _ (Gm hk)
 .have:cell xs k=0:=by simp[cell,GA,GE (Hk hk)]
  lia
def cN(h0:0<=k)(h:k.toNat<xs.length):atI (xs.map D.int) k=be (.int (cell xs k)):=kN h0 Kd
def tF:xs.map D.int++[D.int v]=(xs++[v]).map D.int:=Ld
def tG(h:Drawn xs)(h1:0<=v)(h2:v<5040):Drawn (xs++[v]):=by
 intro x hx;rcases Gk.mp hx with q|q
 .exact h x q
 .rw[FO.mp q];exact#[h1,h2]
def Bj:SpD:=λds R=>∃(ns:List Int) (k:Int) (n:Nat),ds=[.rol (ns.map D.int),.int k,.int n]/\0<=k/\n<=100/\∀xs:List Int,xs.length=n->Drawn xs->R (.lst (xs.map D.int))
def Bk:SpD:=λds R=>∃xs:List Int,ds=[.lst (xs.map D.int)]/\8<=xs.length/\Drawn xs/\
 ∀a b c d:Int,(-12<=a/\a<=12)->(-12<=b/\b<=12)->(-12<=c/\c<=12)->(-12<=d/\d<=12)->¬a*d=b*c->R (.lst [.tup [.int a,.int b],.tup [.int c,.int d]])
abbrev cs(x:E_):List Nat:=x.cps.toList
def bi(x:E_):(cs x).length=x.length:=by simp[Str.length]
def tH:cs ""=[]:=rfl
def bI(x y:E_):cs (x++y)=cs x++cs y:=by
 show((x++y:E_)).cps.toList=_;rw[show(x++y:E_).cps=x.cps++y.cps from rfl,Array.toList_append]
def aH(x y:E_):(x++y).length=x.length+y.length:=by rw[<-bi,bI,F8,bi,bi]
def bj(c:Nat):Prop:=c=46\/(49<=c/\c<=54)
def ib:∀(L:List E_),cS (L.map D.str)=be L
 |[]=>rfl
 |x::L=>by simp[cS,ib L]
def eU(x:E_):Prop:=0<x.length/\x.length<=7/\∀c∈cs x,bj c
def Bl{x:E_}(h:eU x)(v:Int):∃c,(x.length<=1000000/\atI (cs x) (v%(x.length:Int))=be c)/\bj c:=by
 have h1:=bX (a:=v) (show 0<(x.length:Int)by have:=h.1;lia);have h2:=bY (a:=v) (show 0<(x.length:Int)by have:=h.1;lia);obtain⟨j,ej⟩:∃j:Nat,v%(x.length:Int)=(j:Int):=#[(v%(x.length:Int)).toNat,Kd];have hj:j<(cs x).length:=by rw[bi];lia
 refine#[(cs x)[j],#[by have:=h.2.1;lia,?_],h.2.2 _ (Gm hj)];rw[ej];exact bF (F9 hj)
def Bm:eU "1.23456":=#[Kl,Kl,by unfold bj;decide+kernel]
def Bn:eU "12":=#[Kl,Kl,by unfold bj;decide+kernel]
def Bo:eU "1.":=#[Kl,Kl,by unfold bj;decide+kernel]
def Bp:eU "...2":=#[Kl,Kl,by unfold bj;decide+kernel]
def Bq(k:Int):∃x,atI [D.str "1.23456",D.str "12",D.str "1.",D.str "...2"] (k%4)=be (.str x)/\eU x:=by
 rcases(Kd:k%4=0\/k%4=1\/k%4=2\/k%4=3)with e|e|e|e<;>rw[e]
 .exact#[_,rfl,Bm]
 .exact#[_,rfl,Bn]
 .exact#[_,rfl,Bo]
 .exact#[_,rfl,Bp]
def Br(k:Int):∃m,atI [D.int 1,D.int 70] (k%2)=be (.int m)/\(m=1\/m=70):=by
 rcases(Kd:k%2=0\/k%2=1)with e|e<;>rw[e]
 .exact#[1,rfl,.inl rfl]
 .exact#[70,rfl,.inr rfl]
structure Rows(L:List Str):Prop where
 many:1<=L.length/\L.length<=8
 wide:∃w,(1<=w/\w<=8)/\∀l∈L,l.length=w/\∀c∈cs l,bj c
variable{L:List E_}
def Rows.of{w t:Nat}(h1:1<=t)(h2:t<=8)(hl:L.length=t)(w1:1<=w)(w2:w<=8)(h:∀l∈L,l.length=w/\∀c∈cs l,bj c):Rows L:=#[Kd,w,#[w1,w2],h]
def Bs{x:E_}{c:Nat}{i:Nat}(h1:x.length=i)(h2:∀c∈cs x,bj c)(hc:bj c):(x++#[[c].toArray]:E_).length=i+1/\∀c'∈cs (x++#[[c].toArray]),bj c':=by
 refine#[by rw[aH,h1];rfl,λc' q=>?_];rw[bI]at q;rcases Gk.mp q with q|q
 .exact h2 _ q
 .have:c'=c:=by simpa[cs]using q
  rw[this];exact hc
def Bt{x:E_}:L.map D.str++[D.str x]=(L++[x]).map D.str:=Ld
def dv(L:List E_)(a b c d:Int):Str:=("["++Txt.join "/" L)++((((((((";":E_)++(toString a:String))++",")++(toString b:String))++";")++(toString c:String))++",")++(toString d:String))++"]"
def bP(h:-12<=a/\a<=12):((toString a:String):E_).length<=3:=by
 have key:∀k:Fin 25,((toString (((k.val:Nat):Int)-12):String):E_).length<=3:=Kl
 have:=key #[(a+12).toNat,Kd];have e:(((a+12).toNat:Nat):Int)-12=a:=Kd
 rw[e]at this;exact this
def B12(a:Int):Prop:=-12<=a/\a<=12
def B12.lt(h:B12 a):a.natAbs<1073741824:=by unfold B12 at h;lia
def kO{w:Nat}(h:∀l∈L,l.length=w):(L.map (·.length)).sum=L.length*w:=by
 induction L with
 |nil=>simp
 |cons x L ih=>
  rw[FY,List.sum_cons,ih (λl hl=>h l (FS _ hl)),h x FU,FV,Ho,Ik]
def tI(h:Rows L):(L.map (·.length)).sum+L.length*("/":E_).length<=72:=by
 obtain⟨h1,w,hw,h2⟩:=h;rw[kO (λl hl=>(h2 l hl).1)];have e:("/":E_).length=1:=rfl;rw[e];have:=HE h1.2 hw.2;lia
def Bu:SpD:=λds R=>∃xs:List Int,ds=[.lst (xs.map D.int)]/\40<=xs.length/\Drawn xs/\∀L:List E_,Rows L->R (.lst (L.map D.str))
def Bv:SpD:=λds R=>∃(L:List E_) (a b c d:Int),ds=[.lst (L.map D.str),.tup [.int a,.int b],.tup [.int c,.int d]]/\Rows L/\B12 a/\B12 b/\B12 c/\B12 d/\R (.str (dv L a b c d))
structure Leaf where
 rows:List E_
 a:Int
 b:Int
 c:Int
 d:Int
 w0:Int
 w1:Int
 w2:Int
 w3:Int
 w4:Int
 w5:Int
 hues:List Int
def Leaf.D(l:Leaf):My.D:=.tup [.lst (l.rows.map D.str),.tup [.int l.a,.int l.b],.tup [.int l.c,.int l.d],.tup [.int l.w0,.int l.w1,.int l.w2,.int l.w3,.int l.w4,.int l.w5],.lst (l.hues.map D.int)]
structure Leaf.Ok(l:Leaf):Prop where
 rows:Rows l.rows
 a:B12 l.a
 b:B12 l.b
 c:B12 l.c
 d:B12 l.d
 ne:¬l.a*l.d=l.b*l.c
 w0:l.w0.natAbs<=1
 w1:l.w1.natAbs<=1
 w2:l.w2.natAbs<=1
 w3:l.w3.natAbs<=1
 w4:l.w4.natAbs<=1000
 w5:l.w5.natAbs<=1000
 many:l.hues.length=7
 hue:∀h∈l.hues,0<=h/\h<=6
def onB(a b c d u v:Int):Bool:=decide ((u*d-v*c).fmod (a*d-b*c)=0/\(a*v-b*u).fmod (a*d-b*c)=0)
def scanRow(f:Int->Bool):Nat->List Nat->Option Nat
 |_,[]=>s_
 |i,c::r=>if c≠46/\f i=true then be c else scanRow f (i+1) r
def bZ(f:Int->Int->Bool):Nat->List E_->Option Nat
 |_,[]=>s_
 |j,l::r=>match scanRow (λi=>f i j) 0 (cs l)with|some c=>be c|none=>bZ f (j+1) r
def Leaf.hit(l:Leaf)(x y:Int):Option Nat:=bZ (λi j=>onB l.a l.b l.c l.d (l.w0*x+l.w1*y+l.w4-i) (l.w2*x+l.w3*y+l.w5-j)) 0 l.rows
def Leaf.shows(l:Leaf)(x y:Int):Int:=match l.hit x y with|some c=>cell l.hues ((c:Int)-48)|none=>0
def one_sign{c:Nat}:(#[[c].toArray]:E_)="."↔c=46:=by
 constructor
 .intro h;have:([c].toArray:Array Nat)=(".":E_).cps:=congrArg Str.cps h;have e:([c].toArray:Array Nat).toList=(".":E_).cps.toList:=by rw[this]
  have e2:(".":E_).cps.toList=[46]:=rfl;rw[e2]at e;simpa using e
 .rintro rfl;rfl
def digit_of{c:Nat}(h:49<=c/\c<=54):PySem.intText? (#[[c].toArray]:E_)=be ((c:Int)-48):=by
 rcases(Kd:c=49\/c=50\/c=51\/c=52\/c=53\/c=54)with e|e|e|e|e|e<;>subst e<;>decide+kernel
def at_str{j:Nat}{x:E_}(h:L[j]?=be x):atI (L.map D.str) (j:Int)=be (.str x):=bF (by rw[FT,h];rfl)
def bx{n:Int}{k:Nat}{x:D}(h:((FN n.toNat).map λk=>D.int ((k:Nat):Int))[k]?=be x):k<n.toNat/\x=.int (k:Int):=by
 have hk:k<n.toNat:=by simpa using(FZ.mp h).1
 refine#[hk,?_];simp[hk]at h;exact h.symm
def bC{n:Int}:((FN n.toNat).map λk=>D.int ((k:Nat):Int)).length=n.toNat:=Ld
def aZ:List Leaf->Int->Int->Int
 |[],_,_=>0
 |l::r,x,y=>if l.shows x y≠0 then l.shows x y else aZ r x y
variable{hs:List Int}
def Bw(h:∀h∈hs,0<=h/\h<=6)(k:Int):0<=cell hs k/\cell hs k<=6:=by
 by_cases hk:k.toNat<hs.length
 .have:cell hs k=hs[k.toNat]:=by simp[cell,GA,F9 hk]
  rw[this];exact h _ (Gm hk)
 .have:cell hs k=0:=by simp[cell,GA,GE (Hk hk)]
  lia
variable{l:Leaf}
def Leaf.shows_le(h:l.Ok)(x y:Int):0<=l.shows x y/\l.shows x y<=6:=by
 unfold Leaf.shows;split
 .exact Bw h.hue _
 .lia
def tJ:∀{ls:List Leaf} (x y:Int),(∀l∈ls,l.Ok)->0<=aZ ls x y/\aZ ls x y<=6
 |[],_,_,_=>by simp[aZ]
 |l::r,x,y,h=>by
  unfold aZ;split
  .exact Leaf.shows_le (h l FU) x y
  .exact tJ x y λl' q=>h l' (FS _ q)
def bD(L:List E_)(a b c d:Int):Leaf:=#[L,a,b,c,d,1,0,0,1,0,0,[0,1,2,3,4,5,6]]
def By:SpD:=λds R=>∃(ns:List Int) (k:Int),ds=[.rol (ns.map D.int),.int k]/\0<=k/\
 ∀(L:List E_) (a b c d:Int),Rows L->B12 a->B12 b->B12 c->B12 d->¬a*d=b*c->R (.lst [.str (dv L a b c d),.int 0,.lst [(bD L a b c d).D]])
def Bz:SpD:=λds R=>∃(l:Leaf) (x y:Int),ds=[l.D,.int x,.int y]/\l.Ok/\R (.int (l.shows x y))
def BA:SpD:=λds R=>∃(ls:List Leaf) (x y:Int),ds=[.lst (ls.map Leaf.D),.int x,.int y]/\(∀l∈ls,l.Ok)/\R (.int (aZ ls x y))
def BB:SpD:=λds R=>∃v:Int,ds=[.int v]/\∀c:Int,-1000000000000<=c->c<=1000000000000->R (.int c)
def BC(k:Int):∃c,atI [D.int (-(10^Hq 12)),D.int (1-10^Hq 12),D.int (10^Hq 12-1),D.int (10^Hq 12)] (k%4)=be (.int c)/\-1000000000000<=c/\c<=1000000000000:=by
 rcases(Kd:k%4=0\/k%4=1\/k%4=2\/k%4=3)with e|e|e|e<;>rw[e]
 .exact#[_,rfl,Kj,Kj]
 .exact#[_,rfl,Kj,Kj]
 .exact#[_,rfl,Kj,Kj]
 .exact#[_,rfl,Kj,Kj]
inductive Pat where
 |mot (L:List Str) (a b c d:Int)
 |over (p q:Pat)
 |sh (a b:Int) (p:Pat)
 |mir (p:Pat)
 |tur (p:Pat)
 |hue (f g:Int) (p:Pat)
def Pat.text:Pat->E_
 |.mot L a b c d=>dv L a b c d
 |.over p q=>(((("(":E_)++p.text)++"|")++q.text)++")"
 |.sh a b p=>((((("s":E_)++(toString a:String))++",")++(toString b:String))++":")++p.text
 |.mir p=>("m":E_)++p.text
 |.tur p=>("t":E_)++p.text
 |.hue f g p=>((("h":E_)++(toString f:String))++(toString g:String))++p.text
def Pat.depth:Pat->Nat
 |.mot ..=>0
 |.over p q=>1+max p.depth q.depth
 |.sh _ _ p=>p.depth+1
 |.mir p=>p.depth+1
 |.tur p=>p.depth+1
 |.hue _ _ p=>p.depth+1
def Leaf.by(l:Leaf)(b0 b1 b2 b3 b4 b5:Int):Leaf:=
 {l with w0:=l.w0*b0+l.w1*b2,w1:=l.w0*b1+l.w1*b3,w2:=l.w2*b0+l.w3*b2,w3:=l.w2*b1+l.w3*b3,w4:=l.w4+l.w0*b4+l.w1*b5,w5:=l.w5+l.w2*b4+l.w3*b5}
def bQ(f g h:Int):Int:=if h=f then g else h
def Leaf.dye(l:Leaf)(f g:Int):Leaf:={l with hues:=l.hues.map (bQ f g)}
def Pat.leaves:Pat->List Leaf
 |.mot L a b c d=>[bD L a b c d]
 |.over p q=>p.leaves++q.leaves
 |.sh a b p=>p.leaves.map (λl=>l.by 1 0 0 1 (-a) (-b))
 |.mir p=>p.leaves.map (λl=>l.by (-1) 0 0 1 0 0)
 |.tur p=>p.leaves.map (λl=>l.by 0 1 (-1) 0 0 0)
 |.hue f g p=>p.leaves.map (λl=>(l.by 1 0 0 1 0 0).dye f g)
def Pat.show:Pat->Int->Int->Int
 |.mot L a b c d,x,y=>(bD L a b c d).shows x y
 |.over p q,x,y=>if p.show x y≠0 then p.show x y else q.show x y
 |.sh a b p,x,y=>p.show (x-a) (y-b)
 |.mir p,x,y=>p.show (-x) y
 |.tur p,x,y=>p.show y (-x)
 |.hue f g p,x,y=>bQ f g (p.show x y)
def Pat.Wf:Pat->Prop
 |.mot L a b c d=>Rows L/\B12 a/\B12 b/\B12 c/\B12 d/\¬a*d=b*c
 |.over p q=>p.Wf/\q.Wf
 |.sh a b p=>B12 a/\B12 b/\p.Wf
 |.mir p=>p.Wf
 |.tur p=>p.Wf
 |.hue f g p=>(1<=f/\f<=6)/\(1<=g/\g<=6)/\p.Wf
def Leaf.by_shows(l:Leaf)(b0 b1 b2 b3 b4 b5 x y:Int):(l.by b0 b1 b2 b3 b4 b5).shows x y=l.shows (b0*x+b1*y+b4) (b2*x+b3*y+b5):=by
 have e1:(l.w0*b0+l.w1*b2)*x+(l.w0*b1+l.w1*b3)*y+(l.w4+l.w0*b4+l.w1*b5)=l.w0*(b0*x+b1*y+b4)+l.w1*(b2*x+b3*y+b5)+l.w4:=Lm
 have e2:(l.w2*b0+l.w3*b2)*x+(l.w2*b1+l.w3*b3)*y+(l.w5+l.w2*b4+l.w3*b5)=l.w2*(b0*x+b1*y+b4)+l.w3*(b2*x+b3*y+b5)+l.w5:=Lm
 simp only[Leaf.shows,Leaf.hit,Leaf.by,e1,e2]
def fV(b0 b1 b2 b3 b4 b5 x y:Int):∀ls:List Leaf,aZ (ls.map (λl=>l.by b0 b1 b2 b3 b4 b5)) x y=aZ ls (b0*x+b1*y+b4) (b2*x+b3*y+b5)
 |[]=>rfl
 |l::r=>by
  rw[FY,aZ,aZ,Leaf.by_shows,fV b0 b1 b2 b3 b4 b5 x y r]
def scanRow_sign{f:Int->Bool}:∀{cs:List Nat} {i c:Nat},(∀c∈cs,bj c)->scanRow f i cs=be c->49<=c/\c<=54
 |[],_,_,_,h=>by cases h
 |a::r,i,c,hs,h=>by
  rw[scanRow]at h;split at h
  .rename_i q;cases h;have:=hs a FU;unfold bj at this;have:=q.1;lia
  .exact scanRow_sign (λc q=>hs c (FS _ q)) h
def kP{f:Int->Int->Bool}:∀{L:List E_} {j c:Nat},(∀l∈L,∀c∈cs l,bj c)->bZ f j L=be c->49<=c/\c<=54
 |[],_,_,_,h=>by cases h
 |a::r,j,c,hs,h=>by
  rw[bZ]at h;split at h
  .rename_i q;cases h;exact scanRow_sign (hs a FU) q
  .exact kP (λl q=>hs l (FS _ q)) h
def BD(h:k.toNat<hs.length):cell (hs.map (bQ f g)) k=bQ f g (cell hs k):=by
 simp[cell,GA,FT,F9 h]
def Leaf.dye_shows(ok:l.Ok)(hf:1<=f)(x y:Int):(l.dye f g).shows x y=bQ f g (l.shows x y):=by
 have e:(l.dye f g).hit x y=l.hit x y:=rfl;unfold Leaf.shows;rw[e];cases h:l.hit x y with
 |none=>simp[bQ];lia
 |some c=>
  have hc:49<=c/\c<=54:=kP (λl' q=>let ⟨_,_,_,h⟩:=ok.rows;(h l' q).2) h;exact BD (by rw[ok.many];lia)
def tK(hf:1<=f)(hg:1<=g):bQ f g h=0↔h=0:=by
 unfold bQ;split<;>lia
def tL{f g:Int}(hf:1<=f)(hg:1<=g)(x y:Int):∀ls:List Leaf,(∀l∈ls,l.Ok)->aZ (ls.map (λl=>l.dye f g)) x y=bQ f g (aZ ls x y)
 |[],_=>by simp[aZ,bQ];lia
 |l::r,h=>by
  rw[FY,aZ,aZ,Leaf.dye_shows (h l FU) hf,tL hf hg x y r λl q=>h l (FS _ q)];by_cases z:l.shows x y=0
  .rw[if_neg (λq=>q ((tK hf hg).mpr z)),if_neg (λq=>q z)]
  .rw[if_pos (λq=>z ((tK hf hg).mp q)),if_pos z]
def tM(x y:Int):∀(a b:List Leaf),aZ (a++b) x y=if aZ a x y≠0 then aZ a x y else aZ b x y
 |[],b=>by simp[aZ]
 |l::r,b=>by
  rw[List.cons_append,aZ,aZ];by_cases z:l.shows x y≠0
  .rw[if_pos z,if_pos z,if_pos z]
  .rw[if_neg z,if_neg z,tM x y r b]
structure Leaf.Near(l:Leaf)(n:Nat):Prop where
 u0:(l.w0.natAbs=1/\l.w1=0/\l.w2=0/\l.w3.natAbs=1)\/(l.w0=0/\l.w1.natAbs=1/\l.w2.natAbs=1/\l.w3=0)
 w4:l.w4.natAbs<=24*n
 w5:l.w5.natAbs<=24*n
variable{n:Nat}
def Leaf.Near.mono{m:Nat}(h:l.Near n)(k:n<=m):l.Near m:=#[h.u0,by have:=h.w4;lia,by have:=h.w5;lia]
def Leaf.Near.unit(h:l.Near n):(l.w0=1\/l.w0=-1\/l.w0=0)/\(l.w1=1\/l.w1=-1\/l.w1=0)/\(l.w2=1\/l.w2=-1\/l.w2=0)/\(l.w3=1\/l.w3=-1\/l.w3=0):=by
 have:=h.u0;lia
def tN(h:e.natAbs<=24*n)(hw:w=1\/w=-1\/w=0)(hv:v=1\/v=-1\/v=0)(ha:B12 a)(hb:B12 b):(e+w* -a+v* -b).natAbs<=24*(n+1):=by
 have m:∀{w a:Int},(w=1\/w=-1\/w=0)->B12 a->(w* -a).natAbs<=12:=λhw ha=>by
  unfold B12 at ha;rcases hw with rfl|rfl|rfl<;>lia
 have:=m hw ha;have:=m hv hb;generalize w* -a=x at*;generalize v* -b=y at*;clear m hw hv ha hb;lia
def BE(h:l.Near n)(ha:B12 a)(hb:B12 b):(l.by 1 0 0 1 (-a) (-b)).Near (n+1):=by
 obtain⟨h0,h1,h2,h3⟩:=h.unit;exact#[by simpa[Leaf.by]using h.u0,tN h.w4 h0 h1 ha hb,tN h.w5 h2 h3 ha hb]
def BF(h:l.Near n):(l.by (-1) 0 0 1 0 0).Near (n+1):=by
 have p:=h.w4;have q:=h.w5;exact#[by simpa[Leaf.by]using h.u0,by simp[Leaf.by];lia,by simp[Leaf.by];lia]
def BG(h:l.Near n):(l.by 0 1 (-1) 0 0 0).Near (n+1):=by
 have p:=h.w4;have q:=h.w5;refine#[?_,by simp[Leaf.by];lia,by simp[Leaf.by];lia];rcases h.u0 with⟨a,b,c,d⟩|⟨a,b,c,d⟩
 .exact .inr (by simp[Leaf.by,a,b,c,d])
 .exact .inl (by simp[Leaf.by,a,b,c,d])
def tO(h:l.Near n):((l.by 1 0 0 1 0 0).dye f g).Near (n+1):=by
 have p:=h.w4;have q:=h.w5;exact#[by simpa[Leaf.by,Leaf.dye]using h.u0,by simp[Leaf.by,Leaf.dye];lia,by simp[Leaf.by,Leaf.dye];lia]
structure Leaf.Good(l:Leaf):Prop where
 rows:Rows l.rows
 a:B12 l.a
 b:B12 l.b
 c:B12 l.c
 d:B12 l.d
 ne:¬l.a*l.d=l.b*l.c
 many:l.hues.length=7
 hue:∀h∈l.hues,0<=h/\h<=6
def Leaf.ok_of(g:l.Good)(h:l.Near n)(hn:n<=40):l.Ok:=by
 have:=h.u0;have:=h.w4;have:=h.w5;exact#[g.rows,g.a,g.b,g.c,g.d,g.ne,Kd,Kd,Kd,Kd,Kd,Kd,g.many,g.hue]
def Pat.leaf_good:∀{p:Pat},p.Wf->∀l∈p.leaves,l.Good/\l.Near p.depth
 |.mot L a b c d,h,l,q=>by
  have:l=bD L a b c d:=by simpa[Pat.leaves]using q
  subst this;obtain⟨h1,h2,h3,h4,h5,h6⟩:=h;exact#[#[h1,h2,h3,h4,h5,h6,rfl,by intro h q;simp[bD]at q;lia],#[by simp[bD],by simp[bD],by simp[bD]]]
 |.over p r,h,l,q=>by
  rcases Gk.mp q with q|q
  .obtain⟨g,n⟩:=Pat.leaf_good h.1 l q;exact#[g,n.mono (by simp only[Pat.depth];lia)]
  .obtain⟨g,n⟩:=Pat.leaf_good h.2 l q;exact#[g,n.mono (by simp only[Pat.depth];lia)]
 |.sh a b p,h,l,q=>by
  obtain⟨l',q',rfl⟩:=Gn.mp q;obtain⟨g,n⟩:=Pat.leaf_good h.2.2 l' q';exact#[#[g.rows,g.a,g.b,g.c,g.d,g.ne,g.many,g.hue],BE n h.1 h.2.1]
 |.mir p,h,l,q=>by
  obtain⟨l',q',rfl⟩:=Gn.mp q;obtain⟨g,n⟩:=Pat.leaf_good (p:=p) h l' q';exact#[#[g.rows,g.a,g.b,g.c,g.d,g.ne,g.many,g.hue],BF n]
 |.tur p,h,l,q=>by
  obtain⟨l',q',rfl⟩:=Gn.mp q;obtain⟨g,n⟩:=Pat.leaf_good (p:=p) h l' q';exact#[#[g.rows,g.a,g.b,g.c,g.d,g.ne,g.many,g.hue],BG n]
 |.hue f k p,h,l,q=>by
  obtain⟨l',q',rfl⟩:=Gn.mp q;obtain⟨g,n⟩:=Pat.leaf_good (p:=p) h.2.2 l' q';refine#[#[g.rows,g.a,g.b,g.c,g.d,g.ne,?_,λv hv=>?_],tO n]
  .show(l'.hues.map _).length=7;rw[FP];exact g.many
  .obtain⟨u,hu,rfl⟩:=Gn.mp hv;have:=g.hue u hu;have:=h.2.1;unfold bQ;split<;>lia
variable{p:Pat}
def Pat.leaf_ok(h:p.Wf)(hd:p.depth<=40):∀l∈p.leaves,l.Ok:=λl q=>Leaf.ok_of (Pat.leaf_good h l q).1 (Pat.leaf_good h l q).2 hd
def Pat.show_leaves:∀{p:Pat},p.Wf->p.depth<=40->∀x y,aZ p.leaves x y=p.show x y
 |.mot L a b c d,_,_,x,y=>by
  simp only[Pat.leaves,Pat.show,aZ];split
  .rfl
  .lia
 |.over p q,h,hd,x,y=>by
  simp only[Pat.depth]at hd;rw[Pat.leaves,tM,Pat.show_leaves h.1 Kd,Pat.show_leaves h.2 Kd,Pat.show]
 |.sh a b p,h,hd,x,y=>by
  simp only[Pat.depth]at hd;rw[Pat.leaves,fV,Pat.show_leaves h.2.2 Kd,Pat.show];congr 1<;>lia
 |.mir p,h,hd,x,y=>by
  simp only[Pat.depth]at hd;rw[Pat.leaves,fV,Pat.show_leaves (p:=p) h Kd,Pat.show];congr 1<;>lia
 |.tur p,h,hd,x,y=>by
  simp only[Pat.depth]at hd;rw[Pat.leaves,fV,Pat.show_leaves (p:=p) h Kd,Pat.show];congr 1<;>lia
 |.hue f g p,h,hd,x,y=>by
  simp only[Pat.depth]at hd;have e:p.leaves.map (λl=>(l.by 1 0 0 1 0 0).dye f g)=(p.leaves.map (λl=>l.by 1 0 0 1 0 0)).map (λl=>l.dye f g):=by rw[Hr];rfl
  rw[Pat.leaves,e,tL h.1.1 h.2.1.1,fV,Pat.show_leaves h.2.2 Kd,Pat.show]
  .congr 2<;>lia
  .intro l q;obtain⟨l',q',rfl⟩:=Gn.mp q;obtain⟨g',n⟩:=Pat.leaf_good h.2.2 l' q';have n':=tO (f:=f) (g:=g) n;have:(l'.by 1 0 0 1 0 0).Near (p.depth+1):=#[n'.u0,n'.w4,n'.w5];exact Leaf.ok_of #[g'.rows,g'.a,g'.b,g'.c,g'.d,g'.ne,g'.many,g'.hue] this Kd
def Pat.D(p:Pat):My.D:=.lst [.str p.text,.int p.depth,.lst (p.leaves.map Leaf.D)]
def Leaf.T(dy:Bool)(d6 new b0 b1 b2 b3 b4 b5:Int)(l:Leaf):Leaf:=if dy then(l.by b0 b1 b2 b3 b4 b5).dye d6 new else l.by b0 b1 b2 b3 b4 b5
def eV(h:1<=a/\a<=6):((toString a:String):E_).length<=3:=bP Kd
def Wraps(p:Pat)(H:Prop)(R:My.D->Prop):Prop:=(5<=p.depth->R p.D)/\(p.depth<5->R (Pat.mir p).D/\R (Pat.tur p).D/\(∀a b,B12 a->B12 b->R (Pat.sh a b p).D)/\(H->∀f g:Int,(1<=f/\f<=6)->(1<=g/\g<=6)->R (Pat.hue f g p).D))
variable{A:Int}{R:My.D->Prop}
def BH(h:Wraps p (j=3) R)(hd:p.depth<5){k B d6 new:Int}(hA:B12 A)(hB:B12 B)(ho:1<=d6/\d6<=6)(hn:1<=new/\new<=6)(hj:0<=j/\j<4):
  ∃(hs:E_) (b0 b1 b2 b3 b4 b5:Int),atI [D.str "m",D.str "t",D.str ((((("s":E_)++(toString A:String))++",")++(toString B:String))++":"),D.str ((("h":E_)++(toString d6:String))++(toString new:String))] j=be (.str hs)/\
   atI ([D.tup [.int (-1),.int 0,.int 0,.int 1,.int 0,.int 0],D.tup [.int 0,.int 1,.int (-1),.int 0,.int 0,.int 0]]++[D.tup [.int 1,.int 0,.int 0,.int 1,.int (-A),.int (-B)],D.tup [.int 1,.int 0,.int 0,.int 1,.int 0,.int 0]]) j=be (.tup [.int b0,.int b1,.int b2,.int b3,.int b4,.int b5])/\
   (b0.natAbs<=1/\b1.natAbs<=1/\b2.natAbs<=1/\b3.natAbs<=1/\b4.natAbs<=12/\b5.natAbs<=12)/\hs.length<=20/\
   R (.lst [.str (hs++p.text),.int (p.depth+1),.lst ((p.leaves.map (Leaf.T (decide (j=3)) d6 new b0 b1 b2 b3 b4 b5)).map Leaf.D)]):=by
 obtain⟨h1,h2,h3,h4⟩:=h.2 hd;have l1:("s":E_).length=1:=rfl;have l2:(",":E_).length=1:=rfl;have l3:(":":E_).length=1:=rfl;have l4:("h":E_).length=1:=rfl;have lA:=bP hA;have lB:=bP hB;have lo:=eV ho;have ln:=eV hn;have eD:∀n:Nat,D.int ((n+1:Nat):Int)=D.int ((n:Int)+1):=λn=>by congr 1
 unfold B12 at hA hB;rcases(Kd:j=0\/j=1\/j=2\/j=3)with rfl|rfl|rfl|rfl
 .exact#[_,_,_,_,_,_,_,rfl,rfl,Kd,Kj,h1]
 .exact#[_,_,_,_,_,_,_,rfl,rfl,Kd,Kj,h2]
 .refine#[_,_,_,_,_,_,_,rfl,rfl,Kd,?_,h3 A B hA hB]
  repeat rw[aH]
  lia
 .refine#[_,_,_,_,_,_,_,rfl,rfl,Kd,?_,h4 rfl d6 new ho hn]
  repeat rw[aH]
  lia
def BI(h d6 new:Int):atI [D.int h,D.int new] (if decide (h=d6)=true then(1:Int)else 0)=be (.int (bQ d6 new h)):=by
 unfold bQ;by_cases e:h=d6
 .rw[if_pos e,if_pos (by simpa using e)];rfl
 .rw[if_neg e,if_neg (by simpa using e)];rfl
def kQ{α:Type}{xs:List α}{k:Nat}{x:α}(h:xs[k]?=be x):xs.take (k+1)=xs.take k++[x]:=by
 have hk:k<xs.length:=(FZ.mp h).1;rw[IL,h];rfl
def Pat.leaves_len:∀(p:Pat),p.leaves.length<=2^p.depth
 |.mot ..=>FM _
 |.over p q=>by
  have h1:=p.leaves_len;have h2:=q.leaves_len;have m1:2^p.depth<=2^(max p.depth q.depth):=G9 Kj (IY _ _);have m2:2^q.depth<=2^(max p.depth q.depth):=G9 Kj (IZ _ _);rw[Pat.leaves,F8,Pat.depth,I0];lia
 |.sh a b p=>by rw[Pat.leaves,FP,Pat.depth,GM];have:=p.leaves_len;lia
 |.mir p=>by rw[Pat.leaves,FP,Pat.depth,GM];have:=p.leaves_len;lia
 |.tur p=>by rw[Pat.leaves,FP,Pat.depth,GM];have:=p.leaves_len;lia
 |.hue f g p=>by rw[Pat.leaves,FP,Pat.depth,GM];have:=p.leaves_len;lia
def Pat.leaves_32(h:p.depth<=5):p.leaves.length<=32:=FX p.leaves_len (G9 Kj h)
def BJ:SpD:=λds R=>∃(p:Pat) (draw:Int),ds=[p.D,.int draw]/\p.Wf/\p.depth<=5/\p.text.length<=100000/\Wraps p (draw%4=3) R
def tP(hn:¬a*d=b*c)(h:(u*d-v*c).fmod (a*d-b*c)=0/\(a*v-b*u).fmod (a*d-b*c)=0):∃i j,u=i*a+j*c/\v=i*b+j*d:=by
 have hz:a*d-b*c≠0:=KK
 obtain⟨i,ei⟩:(a*d-b*c)∣(u*d-v*c):=#[_,(Ja h.1).symm];obtain⟨j,ej⟩:(a*d-b*c)∣(a*v-b*u):=#[_,(Ja h.2).symm];refine#[i,j,?_,?_]
 .have:(a*d-b*c)*u=(a*d-b*c)*(i*a+j*c):=by
   have q1:(a*d-b*c)*u=a*(u*d-v*c)+c*(a*v-b*u):=Lm
   rw[q1,ei,ej];grind
  exact Ii hz this
 .have:(a*d-b*c)*v=(a*d-b*c)*(i*b+j*d):=by
   have q1:(a*d-b*c)*v=b*(u*d-v*c)+d*(a*v-b*u):=Lm
   rw[q1,ei,ej];grind
  exact Ii hz this
def Uni.trans{x0 x1 y0 y1:Int}(h:Uni a b c d p0 p1 q0 q1)(k:Uni p0 p1 q0 q1 x0 x1 y0 y1):Uni a b c d x0 x1 y0 y1:=by
 obtain⟨m,n,k1,l,hd,rfl,rfl,rfl,rfl⟩:=h;obtain⟨m',n',k',l',d7,rfl,rfl,rfl,rfl⟩:=k;have dt:(m'*m+n'*k1)*(k'*n+l'*l)-(m'*n+n'*l)*(k'*m+l'*k1)=(m'*l'-n'*k')*(m*l-n*k1):=Lm
 refine#[m'*m+n'*k1,m'*n+n'*l,k'*m+l'*k1,k'*n+l'*l,?_,Lm,Lm,Lm,Lm];rw[dt];rcases hd with e|e<;>rcases d7 with e'|e'<;>rw[e,e']<;>decide
def eX:∀(n:Nat) (a b c d:Int),d.natAbs<=n->∃p0 p1 q0,Lev a b c d p0 p1 q0
 |n,a,b,c,d,hn=>by
  by_cases hd:d=0
  .subst hd;by_cases hb:0<=b
   .exact#[a,b,c,hb,Uni.refl a b c 0]
   .exact#[-a,-b,c,Kd,(Uni.refl a b c 0).neg]
  .match n,hn with
   |0,hn=>exact absurd (Kd:d=0) hd
   |n+1,hn=>
    have lt:=(fdm b d hd).1;obtain⟨p0,p1,q0,h0,hu⟩:=eX n c d (a-b.fdiv d*c) (b-b.fdiv d*d) Kd;exact#[p0,p1,q0,h0,((Uni.refl a b c d).step (b.fdiv d)).trans hu]
def BK(hn:¬a*d=b*c)(g0:0<=g)(g1:g∣b)(g2:g∣d)(g3:∀e,e∣b->e∣d->e∣g):
  ∃w s,FamOf a b c d w g s:=by
 obtain⟨p0,p1,q0,hL⟩:=eX d.natAbs a b c d (FM _);have hF:=fU hn hL;have hp:=hF.2.1;obtain⟨m,n,k,l,_,e1,e2,e3,e4⟩:=hL.2;obtain⟨m',n',k',l',_,f1,f2,f3,f4⟩:=hL.2.inv;have d1:p1∣g:=g3 p1 #[m',by rw[f2];grind] #[k',by rw[f4];grind];have d2:g∣p1:=by
  rw[e2];exact Ij (HG g1) (HG g2)
 have:p1=g:=Jb Kd g0 d1 d2;subst this;exact#[_,_,hF]
def FamOf.uniq_lean(f:FamOf a b c d w h s)(e1:x=i*a+j*c)(e2:h=i*b+j*d)(h0:0<=x)(h1:x<=s):x=s:=by
 obtain⟨hw,hh,hs,p_,hu⟩:=f;obtain⟨m,n,k,l,_,f1,f2,f3,f4⟩:=hu.inv;have ex:x=(i*m+j*k)*w+(i*n+j*l)*s:=by rw[e1,f1,f3];grind
 have eh:h=(i*n+j*l)*h:=by
  have:i*b+j*d=(i*n+j*l)*h:=by rw[f2,f4];grind
  rw[<-this];exact e2
 have one:i*n+j*l=1:=by
  have:(i*n+j*l)*h=1*h:=by lia
  exact G8 Kd this
 rw[one]at ex;generalize i*m+j*k=t at ex;have:t*w=x-s:=Kd
 rcases(Kd:t<=-1\/t=0\/1<=t)with z|z|z
 .have:=Ga z (show 0<=w by lia);lia
 .subst z;lia
 .have:=Ga z (show 0<=w by lia);lia
def notT{c:Prop}[Decidable c](h:(!decide c)=true):¬c:=by
 intro q;rw[decide_eq_true q]at h;cases h
def notF{c:Prop}[Decidable c](h:¬(!decide c)=true):c:=by
 rcases Classical.em c with q|q
 .exact q
 .rw[decide_eq_false q]at h;exact absurd rfl h
def Leaf.o0(l:Leaf):Int:=l.w0*l.a+l.w2*l.b
def Leaf.o1(l:Leaf):Int:=l.w1*l.a+l.w3*l.b
def Leaf.t0(l:Leaf):Int:=l.w0*l.c+l.w2*l.d
def Leaf.t1(l:Leaf):Int:=l.w1*l.c+l.w3*l.d
def dz(h:w=1\/w=-1\/w=0)(ha:B12 a):(w*a).natAbs<=12:=by
 unfold B12 at ha;rcases h with e|e|e<;>rw[e]<;>lia
def mul12(ha:B12 a)(hb:B12 b):(a*b).natAbs<=144:=by
 unfold B12 at ha hb;rw[GV];exact FX (HE (show a.natAbs<=12 by lia) (show b.natAbs<=12 by lia)) Kj
def Leaf.sizes(g:l.Good)(h:l.Near n):l.o0.natAbs<=24/\l.o1.natAbs<=24/\l.t0.natAbs<=24/\l.t1.natAbs<=24/\¬l.o0*l.t1=l.o1*l.t0/\(l.o0*l.t1-l.o1*l.t0).natAbs<=288:=by
 obtain⟨h0,h1,h2,h3⟩:=h.unit;have a0:=dz h0 g.a;have a1:=dz h1 g.a;have b2:=dz h2 g.b;have b3:=dz h3 g.b;have c0:=dz h0 g.c;have c1:=dz h1 g.c;have d2:=dz h2 g.d;have d3:=dz h3 g.d;have dt:l.o0*l.t1-l.o1*l.t0=(l.w0*l.w3-l.w1*l.w2)*(l.a*l.d-l.b*l.c):=by unfold Leaf.o0 Leaf.o1 Leaf.t0 Leaf.t1;grind
 have dw:(l.w0*l.w3-l.w1*l.w2).natAbs=1:=by
  rcases h.u0 with⟨p,q,r,t⟩|⟨p,q,r,t⟩
  .rw[q,HH,HI,GV,p,t]
  .rw[p,HH,Int.zero_sub,Int.natAbs_neg,GV,q,r]
 have da:(l.o0*l.t1-l.o1*l.t0).natAbs=(l.a*l.d-l.b*l.c).natAbs:=by rw[dt,GV,dw,Nat.one_mul]
 refine#[ab24 a0 b2,ab24 a1 b3,ab24 c0 d2,ab24 c1 d3,λz=>g.ne ?_,?_]
 .rw[z,Jc]at da;exact Int.sub_eq_zero.mp (II.mp da.symm)
 .rw[da];have m1:=mul12 g.a g.d;have m2:=mul12 g.b g.c;generalize l.a*l.d=x at*;generalize l.b*l.c=y at*;clear da dw dt d3 d2 c1 c0 b3 b2 a1 a0 h3 h2 h1 h0 h g;lia
def BL:SpD:=λds R=>∃(l:Leaf) (n:Nat),ds=[l.D]/\l.Good/\l.Near n/\∀w h s:Int,FamOf l.o0 l.o1 l.t0 l.t1 w h s->w*h<=288->R (.tup [.int w,.int h,.int s])
def BM(h1:y%h=0/\(x-y/h*s)%w=0):∃i j,x=i*w+j*s/\y=j*h:=by
 refine#[(x-y/h*s)/w,y/h,?_,?_]
 .have:=Ha (x-y/h*s) w;rw[h1.2]at this;rw[Gb w]at this;lia
 .have:=Ha y h;rw[h1.1,Gb h]at this;lia
def eY(x y:Int):∃g u,Meas x y g u:=by
 obtain⟨p0,p1,q0,hL⟩:=eX y.natAbs 1 x 0 y (FM _);exact#[p1,p0,tz #[hL.1,hL.2]]
def Meas.gcd{G:Int}(h:Meas x y g u)(g0:0<=G)(g1:G∣x)(g2:G∣y)(g3:∀e,e∣x->e∣y->e∣G):G=g:=by
 obtain⟨h0,⟨i,ei⟩,⟨j,ej⟩,n,en⟩:=h;refine Jb g0 h0 ?_ (g3 g #[i,by rw[ei,Gb]] #[j,by rw[ej,Gb]]);rw[en];exact Ij (HG g1) (HG g2)
structure Fm(w h s:Int):Prop where
 w0:0<w
 w1:w<=720
 h0:0<h
 h1:h<=720
 s0:0<=s
 sw:s<w
def BN(f:Fm w1 h1 s1)(k:Fm w2 h2 s2):∃g u w h s A,Meas w1 w2 g u/\w=w1*w2/g/\MetR w1 h1 s1 w2 h2 s2 w h s A:=by
 obtain⟨g,u,M1⟩:=eY w1 w2;obtain⟨k',u',M2⟩:=eY h1 h2;obtain⟨gg,t6,M3⟩:=eY g (h1*h2/k'/h2*s2-h1*h2/k'/h1*s1);exact#[g,u,_,_,_,_,M1,rfl,kL f.w0 k.w0 f.h0 k.h0 M1 M2 M3]
def MetR.high(M:MetR w1 h1 s1 w2 h2 s2 w h s A)(hh:0<h1)(hj:1<=j)(e1:∃i,x=i*w1+j*s1)(e2:∃i k,x=i*w2+k*s2/\j*h1=k*h2):h<=j*h1/\(j*h1=h->0<=x->x<w->x=s):=by
 obtain⟨i,e1⟩:=e1;obtain⟨i',k,e3,e4⟩:=e2;obtain⟨a,b,e5,e6⟩:=M.all x (j*h1) #[i,j,e1,rfl] #[i',k,e3,e4];have hp:0<j*h1:=F7 Kd hh;have hb:1<=b:=by
  rcases(Kd:b<=0\/1<=b)with z|z
  .have:=GW z (show 0<=h by have:=M.h0;lia);lia
  .exact z
 refine#[?_,λe x0 x1=>?_]
 .have:=Ga hb (show 0<=h by have:=M.h0;lia);lia
 .have ob:b=1:=by
   have:b*h=1*h:=by lia
   exact G8 (by have:=M.h0;lia) this
  rw[ob]at e5;have s0:=M.s0;have sw:=M.sw;have:a*w=x-s:=Kd
  rcases(Kd:a<=-1\/a=0\/1<=a)with z|z|z
  .have:=Ga z (show 0<=w by lia);lia
  .subst z;lia
  .have:=Ga z (show 0<=w by lia);lia
def BO:SpD:=λds R=>∃w1 h1 s1 w2 h2 s2:Int,ds=[.tup [.int w1,.int h1,.int s1],.tup [.int w2,.int h2,.int s2]]/\Fm w1 h1 s1/\Fm w2 h2 s2/\
 ∀w h s A,MetR w1 h1 s1 w2 h2 s2 w h s A->(w*h<=720->R (.tup [.int w,.int h,.int s]))/\(720<w*h->R .non)
def BP{S:Int}(hw:0<w1)(hx:x<w1)(x0:0<=x)(hS:0<=S)(e:S=i*w1+s)(e2:∃i',x=i'*w1+s):∃k,S=x+k*w1/\0<=k:=by
 obtain⟨i',e2⟩:=e2;refine#[i-i',Lm,?_];rcases(Kd:i-i'<=-1\/0<=i-i')with z|z
 .have:=Ga z (show 0<=w1 by lia);have:(i-i')*w1=S-x:=by grind
  lia
 .exact z
def InF(w h s x y:Int):Prop:=∃i j,x=i*w+j*s/\y=j*h
def Leaf.Lat(l:Leaf)(x y:Int):Prop:=∃i j,x=i*l.o0+j*l.t0/\y=i*l.o1+j*l.t1
def FamOf.lat(f:FamOf a b c d w h s)(x y:Int):InF w h s x y↔∃i j,x=i*a+j*c/\y=i*b+j*d:=by
 obtain⟨_,_,_,_,hu⟩:=f;obtain⟨m,n,k,l,_,e1,e2,e3,e4⟩:=id hu;obtain⟨m',n',k',l',_,f1,f2,f3,f4⟩:=hu.inv;constructor
 .rintro⟨i,j,rfl,rfl⟩;refine#[i*m+j*k,i*n+j*l,by rw[e1,e3];grind,?_];have z:i*0+j*h=(i*m+j*k)*b+(i*n+j*l)*d:=by rw[e2,e4];grind
  lia
 .rintro⟨i,j,rfl,rfl⟩;refine#[i*m'+j*k',i*n'+j*l',by rw[f1,f3];grind,by rw[f2,f4];grind]
def MetR.lat(M:MetR w1 h1 s1 w2 h2 s2 w h s A)(x y:Int):InF w h s x y↔InF w1 h1 s1 x y/\InF w2 h2 s2 x y:=by
 constructor
 .rintro⟨i,j,rfl,rfl⟩;obtain⟨a1,e1⟩:=M.in1;obtain⟨a2,e2⟩:=M.in2;obtain⟨b1,c1,e3,e4⟩:=M.up1;obtain⟨b2,c2,e5,e6⟩:=M.up2;refine#[#[i*a1+j*b1,j*c1,?_,?_],#[i*a2+j*b2,j*c2,?_,?_]]
  .rw[e1,e3];grind
  .rw[e4];grind
  .rw[e2,e5];grind
  .rw[e6];grind
 .rintro⟨h1,h2⟩;exact M.all x y h1 h2
variable{w' h' s':Int}
def InF.le(hw:0<w)(hh:0<h)(Nu:0<w')(Nv:0<h')(sub:∀x y,InF w' h' s' x y->InF w h s x y):w*h<=w'*h'/\w<=w'/\h<=h':=by
 obtain⟨i,j,e1,e2⟩:=sub w' 0 #[1,0,Kd,Kd];have j0:j=0:=by
  rcases HJ.mp e2.symm with z|z
  .exact z
  .lia
 subst j0;have i1:1<=i:=by
  rcases(Kd:i<=0\/1<=i)with z|z
  .have:=GW z (show 0<=w by lia);lia
  .exact z
 obtain⟨i',j',e3,e4⟩:=sub s' h' #[0,1,Kd,Kd];have j1:1<=j':=by
  rcases(Kd:j'<=0\/1<=j')with z|z
  .have:=GW z (show 0<=h by lia);lia
  .exact z
 have a1:=Ga i1 (show 0<=w by lia);have a2:=Ga j1 (show 0<=h by lia);have b1:w<=w':=Kd
 have b2:h<=h':=Kd
 exact#[Jd b1 b2 Kd Kd,b1,b2]
def InF.uniq(hw:0<w)(hh:0<h)(hs:0<=s)(p_:s<w)(Nu:0<w')(Nv:0<h')(J0:0<=s')(Qv:s'<w')(e:∀x y,InF w h s x y↔InF w' h' s' x y):w=w'/\h=h'/\s=s':=by
 obtain⟨_,a1,a2⟩:=InF.le hw hh Nu Nv (λx y q=>(e x y).mpr q);obtain⟨_,b1,b2⟩:=InF.le Nu Nv hw hh (λx y q=>(e x y).mp q);have ew:w=w':=Kd
 have eh:h=h':=Kd
 subst ew eh;refine#[rfl,rfl,?_];obtain⟨i,j,e1,e2⟩:=(e s h).mp #[0,1,Kd,Kd];have j1:j=1:=by
  have:j*h=1*h:=by lia
  exact G8 Kd this
 subst j1;have:i*w=s-s':=Kd
 rcases(Kd:i<=-1\/i=0\/1<=i)with z|z|z
 .have:=Ga z (show 0<=w by lia);lia
 .subst z;lia
 .have:=Ga z (show 0<=w by lia);lia
structure Fam0(w h s:Int):Prop where
 w0:0<w
 h0:0<h
 s0:0<=s
 sw:s<w
def tQ(f:Fam0 w1 h1 s1)(k:Fam0 w2 h2 s2):∃w h s,Fam0 w h s/\∀x y,InF w h s x y↔InF w1 h1 s1 x y/\InF w2 h2 s2 x y:=by
 obtain⟨g,u,M1⟩:=eY w1 w2;obtain⟨k',u',M2⟩:=eY h1 h2;obtain⟨gg,t6,M3⟩:=eY g (h1*h2/k'/h2*s2-h1*h2/k'/h1*s1);have M:=kL f.w0 k.w0 f.h0 k.h0 M1 M2 M3;exact#[_,_,_,#[M.w0,M.h0,M.s0,M.sw],M.lat]
def Leaf.fam_ex(g:l.Good)(h:l.Near n):∃w k s,Fam0 w k s/\∀x y,InF w k s x y↔l.Lat x y:=by
 obtain⟨_,_,_,_,ne,_⟩:=Leaf.sizes g h;obtain⟨p0,p1,q0,hL⟩:=eX l.t1.natAbs l.o0 l.o1 l.t0 l.t1 (FM _);have f:=fU ne hL;exact#[_,_,_,#[f.1,f.2.1,f.2.2.1,f.2.2.2.1],f.lat]
def ca(ls:List Leaf)(x y:Int):Prop:=∀l∈ls,l.Lat x y
def tR{n:Nat}:∀(ls:List Leaf) (w h s:Int),Fam0 w h s->(∀l∈ls,l.Good/\l.Near n)->∃w' h' s',Fam0 w' h' s'/\∀x y,InF w' h' s' x y↔InF w h s x y/\ca ls x y
 |[],w,h,s,f,_=>#[w,h,s,f,λx y=>#[λq=>#[q,λl z=>by cases z],λq=>q.1]]
 |l::r,w,h,s,f,g=>by
  obtain⟨w1,h1,s1,f1,e1⟩:=Leaf.fam_ex (g l FU).1 (g l FU).2;obtain⟨w2,h2,s2,f2,e2⟩:=tQ f f1;obtain⟨w3,h3,s3,f3,e3⟩:=tR r w2 h2 s2 f2 λl' q=>g l' (FS _ q);refine#[w3,h3,s3,f3,λx y=>?_];rw[e3,e2,e1];constructor
  .rintro⟨⟨a,b⟩,c⟩;exact#[a,λl' q=>(FQ.mp q).elim (λz=>z ▸ b) (c l')]
  .rintro⟨a,b⟩;exact#[#[a,b l FU],λl' q=>b l' (FS _ q)]
def cut1(d:D)(ds:List D):cutD (d::ds) (be 1) s_=ds:=by
 unfold cutD;have e1:HT.sIx (d::ds).length 0 (be 1)=1:=by simp[HT.sIx]
 have e2:HT.sIx (d::ds).length (d::ds).length s_=(d::ds).length:=by simp[HT.sIx]
 rw[e1,e2,List.drop_one,List.tail_cons,FV,Je,HK]
def tS:SpD:=λds R=>∃(ls:List Leaf) (n:Nat),ds=[.lst (ls.map Leaf.D)]/\ls≠[]/\(∀l∈ls,l.Good/\l.Near n)/\
 ∀w h s:Int,Fam0 w h s->(∀x y,InF w h s x y↔ca ls x y)->(w*h<=720->R (.tup [.int w,.int h,.int s]))/\(720<w*h->R .non)
def Pat.Lat:Pat->Int->Int->Prop
 |.mot _ a b c d,x,y=>∃i j,x=i*a+j*c/\y=i*b+j*d
 |.over p q,x,y=>p.Lat x y/\q.Lat x y
 |.sh _ _ p,x,y=>p.Lat x y
 |.mir p,x,y=>p.Lat (-x) y
 |.tur p,x,y=>p.Lat y (-x)
 |.hue _ _ p,x,y=>p.Lat x y
def Leaf.by_lat(l:Leaf)(b0 b1 b2 b3 b4 b5 x y:Int):(l.by b0 b1 b2 b3 b4 b5).Lat x y↔∃u v,l.Lat u v/\x=b0*u+b2*v/\y=b1*u+b3*v:=by
 have e0:(l.by b0 b1 b2 b3 b4 b5).o0=b0*l.o0+b2*l.o1:=by simp only[Leaf.o0,Leaf.o1,Leaf.by];grind
 have e1:(l.by b0 b1 b2 b3 b4 b5).o1=b1*l.o0+b3*l.o1:=by simp only[Leaf.o0,Leaf.o1,Leaf.by];grind
 have e2:(l.by b0 b1 b2 b3 b4 b5).t0=b0*l.t0+b2*l.t1:=by simp only[Leaf.t0,Leaf.t1,Leaf.by];grind
 have e3:(l.by b0 b1 b2 b3 b4 b5).t1=b1*l.t0+b3*l.t1:=by simp only[Leaf.t0,Leaf.t1,Leaf.by];grind
 unfold Leaf.Lat;rw[e0,e1,e2,e3];generalize l.o0=o0;generalize l.o1=o1;generalize l.t0=t0;generalize l.t1=t1;constructor
 .rintro⟨i,j,rfl,rfl⟩;exact#[_,_,#[i,j,rfl,rfl],Lm,Lm]
 .rintro⟨_,_,⟨i,j,rfl,rfl⟩,rfl,rfl⟩;exact#[i,j,Lm,Lm]
def Leaf.dye_lat(l:Leaf)(f g x y:Int):(l.dye f g).Lat x y↔l.Lat x y:=Iff.rfl
def BQ(a b:List Leaf)(x y:Int):ca (a++b) x y↔ca a x y/\ca b x y:=by
 constructor
 .intro h;exact#[λl q=>h l (G0 _ q),λl q=>h l (Gh _ q)]
 .rintro⟨h1,h2⟩ l q;rcases Gk.mp q with q|q
  .exact h1 l q
  .exact h2 l q
def latAll_map{f:Leaf->Leaf}(hf:∀l:Leaf,(f l).Lat x y↔l.Lat u v)(ls:List Leaf):ca (ls.map f) x y↔ca ls u v:=by
 constructor
 .intro h l q;exact(hf l).mp (h _ (Gn.mpr #[l,q,rfl]))
 .intro h l q;obtain⟨l',q',rfl⟩:=Gn.mp q;exact(hf l').mpr (h l' q')
def tT(l:Leaf)(e f x y:Int):(l.by 1 0 0 1 e f).Lat x y↔l.Lat x y:=by
 rw[Leaf.by_lat];constructor
 .rintro⟨u,v,h,e1,e2⟩;have e1:x=u:=by lia
  have e2:y=v:=Kd
  rw[e1,e2];exact h
 .intro h;exact#[x,y,h,Kd,Kd]
def Pat.lat_leaves:∀(p:Pat) (x y:Int),ca p.leaves x y↔p.Lat x y
 | .mot L a b c d,x,y=>by
  have e0:(bD L a b c d).o0=a:=by simp[Leaf.o0,bD]
  have e1:(bD L a b c d).o1=b:=by simp[Leaf.o1,bD]
  have e2:(bD L a b c d).t0=c:=by simp[Leaf.t0,bD]
  have e3:(bD L a b c d).t1=d:=by simp[Leaf.t1,bD]
  have e:(bD L a b c d).Lat x y↔(Pat.mot L a b c d).Lat x y:=by
   unfold Leaf.Lat;rw[e0,e1,e2,e3];exact Iff.rfl
  rw[<-e];constructor
  .intro h;exact h _ FU
  .intro h l q;rw[FO.mp q];exact h
 |.over p q,x,y=>by rw[Pat.leaves,BQ,Pat.lat_leaves p,Pat.lat_leaves q,Pat.Lat]
 |.sh a b p,x,y=>by rw[Pat.leaves,latAll_map (λl=>tT l _ _ x y),Pat.lat_leaves p,Pat.Lat]
 | .mir p,x,y=>by
  have e:∀l:Leaf,(l.by (-1) 0 0 1 0 0).Lat x y↔l.Lat (-x) y:=λl=>by
   rw[Leaf.by_lat];constructor
   .rintro⟨u,v,h,e1,e2⟩;have e1:-x=u:=by lia
    have e2:y=v:=Kd
    rw[e1,e2];exact h
   .intro h;exact#[-x,y,h,Kd,Kd]
  rw[Pat.leaves,latAll_map e,Pat.lat_leaves p,Pat.Lat]
 | .tur p,x,y=>by
  have e:∀l:Leaf,(l.by 0 1 (-1) 0 0 0).Lat x y↔l.Lat y (-x):=λl=>by
   rw[Leaf.by_lat];constructor
   .rintro⟨u,v,h,e1,e2⟩;have e1:-x=v:=by lia
    have e2:y=u:=Kd
    rw[e1,e2];exact h
   .intro h;exact#[y,-x,h,Kd,Kd]
  rw[Pat.leaves,latAll_map e,Pat.lat_leaves p,Pat.Lat]
 |.hue f g p,x,y=>by
  rw[Pat.leaves,latAll_map (λl=>(Leaf.dye_lat _ f g x y).trans (tT l _ _ x y)),Pat.lat_leaves p,Pat.Lat]
structure Pat.Fam(p:Pat)(w h s:Int):Prop where
 f:Fam0 w h s
 lat:∀x y,InF w h s x y↔p.Lat x y
def Pat.Fam.uniq(a:p.Fam w h s)(b:p.Fam w' h' s'):w=w'/\h=h'/\s=s':=
 InF.uniq a.f.w0 a.f.h0 a.f.s0 a.f.sw b.f.w0 b.f.h0 b.f.s0 b.f.sw λx y=>(a.lat x y).trans (b.lat x y).symm
def Pat.Fam.mot(k:FamOf a b c d w h s):(Pat.mot L a b c d).Fam w h s:=#[#[k.1,k.2.1,k.2.2.1,k.2.2.2.1],k.lat]
def Pat.Fam.sh(a b:Int)(k:p.Fam w h s):(Pat.sh a b p).Fam w h s:=#[k.f,k.lat]
def Pat.Fam.hue(a b:Int)(k:p.Fam w h s):(Pat.hue a b p).Fam w h s:=#[k.f,k.lat]
def Pat.Fam.mir(k:p.Fam w h s):(Pat.mir p).Fam w h (-s%w):=by
 refine#[#[k.f.w0,k.f.h0,bX k.f.w0,bY k.f.w0],λx y=>?_];show _↔p.Lat (-x) y;rw[<-k.lat];have e:=Gw (-s) w;generalize -s%w=r at e;generalize -s/w=t at e;constructor
 .rintro⟨i,j,rfl,rfl⟩;exact#[j*t-i,j,by rw[e];grind,rfl]
 .rintro⟨i,j,ex,rfl⟩;exact#[j*t-i,j,by rw[e];grind,rfl]
def Pat.Fam.tur(k:p.Fam w h s)(f:FamOf 0 w (-h) s w' h' s'):(Pat.tur p).Fam w' h' s':=by
 refine#[#[f.1,f.2.1,f.2.2.1,f.2.2.2.1],λx y=>?_];show _↔p.Lat y (-x);rw[<-k.lat,f.lat];constructor
 .rintro⟨i,j,rfl,rfl⟩;exact#[i,j,Lm,Lm]
 .rintro⟨i,j,ex,ey⟩;exact#[i,j,Lm,Lm]
def Pat.Fam.over{q:Pat}(k1:p.Fam w1 h1 s1)(k2:q.Fam w2 h2 s2)(M:MetR w1 h1 s1 w2 h2 s2 w h s A):(Pat.over p q).Fam w h s:=by
 refine#[#[M.w0,M.h0,M.s0,M.sw],λx y=>?_];rw[M.lat,k1.lat,k2.lat];exact Iff.rfl
def ic(hw:0<w)(hh:0<h):∃w' h' s',FamOf 0 w (-h) s w' h' s'/\w'*h'=w*h:=by
 have hp:0<w*h:=F7 hw hh;have hn:¬0*s=w* -h:=by rw[GN];lia
 obtain⟨p0,p1,q0,hL⟩:=eX s.natAbs 0 w (-h) s (FM _);have f:=fU hn hL;refine#[_,_,_,f,?_];have Ng:=F7 f.1 f.2.1;have c:=f.cells;rw[GN]at c;lia
def tU(hn:¬a*d=b*c):∃w h s,FamOf a b c d w h s/\(Pat.mot L a b c d).Fam w h s:=by
 obtain⟨p0,p1,q0,hL⟩:=eX d.natAbs a b c d (FM _);have f:=fU hn hL;exact#[_,_,_,f,.mot f]
def Pat.fam_ex:∀{p:Pat},p.Wf->∃w h s,p.Fam w h s
 |.mot L a b c d,h=>by
  obtain⟨w,k,s,_,f⟩:=tU (L:=L) h.2.2.2.2.2;exact#[w,k,s,f]
 |.over p q,h=>by
  obtain⟨w1,h1,s1,f1⟩:=Pat.fam_ex h.1;obtain⟨w2,h2,s2,f2⟩:=Pat.fam_ex h.2;obtain⟨w,k,s,f,e⟩:=tQ f1.f f2.f;refine#[w,k,s,f,λx y=>?_];rw[e,f1.lat,f2.lat];exact Iff.rfl
 |.sh a b p,h=>by
  obtain⟨w,k,s,f⟩:=Pat.fam_ex h.2.2;exact#[w,k,s,f.sh a b]
 |.mir p,h=>by
  obtain⟨w,k,s,f⟩:=Pat.fam_ex (p:=p) h;exact#[w,k,_,f.mir]
 |.tur p,h=>by
  obtain⟨w,k,s,f⟩:=Pat.fam_ex (p:=p) h;obtain⟨w',k',s',f',_⟩:=ic (s:=s) f.f.w0 f.f.h0;exact#[w',k',s',f.tur f']
 |.hue a b p,h=>by
  obtain⟨w,k,s,f⟩:=Pat.fam_ex h.2.2;exact#[w,k,s,f.hue a b]
def Pat.Fits(p:Pat):Prop:=∃w h s,p.Fam w h s/\w*h<=720
def Pat.fits_mot(ha:B12 a)(hb:B12 b)(hc:B12 c)(hd:B12 d)(hn:¬a*d=b*c):(Pat.mot L a b c d).Fits:=by
 obtain⟨w,h,s,k,f⟩:=tU (L:=L) hn;refine#[w,h,s,f,?_];have kc:=k.cells;unfold B12 at*;have m1:=bW (a:=a) (d:=d) (A:=12) (B:=12) Kd Kd;have m2:=bW (a:=b) (d:=c) (A:=12) (B:=12) Kd Kd;lia
def Pat.Fits.sh(a b:Int)(k:p.Fits):(Pat.sh a b p).Fits:=by
 obtain⟨w,h,s,f,q⟩:=k;exact#[w,h,s,f.sh a b,q]
def Pat.Fits.hue(a b:Int)(k:p.Fits):(Pat.hue a b p).Fits:=by
 obtain⟨w,h,s,f,q⟩:=k;exact#[w,h,s,f.hue a b,q]
def Pat.Fits.mir(k:p.Fits):(Pat.mir p).Fits:=by
 obtain⟨w,h,s,f,q⟩:=k;exact#[w,h,_,f.mir,q]
def Pat.Fits.tur(k:p.Fits):(Pat.tur p).Fits:=by
 obtain⟨w,h,s,f,q⟩:=k;obtain⟨w',k',s',f',e⟩:=ic (s:=s) f.f.w0 f.f.h0;exact#[w',k',s',f.tur f',Kd]
def BR(hL:Rows L)(ha:B12 a)(hb:B12 b)(hc:B12 c)(hd:B12 d):(dv L a b c d).length<=100:=by
 have la:=bP ha;have lb:=bP hb;have lc:=bP hc;have ld:=bP hd;have l1:(";":E_).length=1:=rfl;have l2:(",":E_).length=1:=rfl;have l3:("[":E_).length=1:=rfl;have l4:("]":E_).length=1:=rfl;have ls:=tI hL;have lj:=StrLaws.join_length_le "/" L;have lg:(Txt.join "/" L).length<=72:=by
  have e:Txt.join "/" L=Str.join "/" L:=StrLaws.glued_eq_join _ _;rw[e];exact FX lj ls
 unfold dv
 repeat rw[aH]
 lia
def Pat.text_len:∀{p:Pat},p.Wf->p.text.length+10<=110*2^p.depth
 |.mot L a b c d,h=>by
  have:=BR h.1 h.2.1 h.2.2.1 h.2.2.2.1 h.2.2.2.2.1;show(dv L a b c d).length+10<=110*2^0;lia
 |.over p q,h=>by
  have h1:=Pat.text_len h.1;have h2:=Pat.text_len h.2;have m1:2^p.depth<=2^(max p.depth q.depth):=G9 Kj (IY _ _);have m2:2^q.depth<=2^(max p.depth q.depth):=G9 Kj (IZ _ _);have l1:("(":E_).length=1:=rfl;have l2:("|":E_).length=1:=rfl;have l3:(")":E_).length=1:=rfl;rw[Pat.text,Pat.depth,I0]
  repeat rw[aH]
  lia
 |.sh a b p,h=>by
  have h1:=Pat.text_len h.2.2;have la:=bP h.1;have lb:=bP h.2.1;have l1:("s":E_).length=1:=rfl;have l2:(",":E_).length=1:=rfl;have l3:(":":E_).length=1:=rfl;have:0<2^p.depth:=HL Kj;rw[Pat.text,Pat.depth,GM]
  repeat rw[aH]
  lia
 |.mir p,h=>by
  have h1:=Pat.text_len (p:=p) h;have l1:("m":E_).length=1:=rfl;have:0<2^p.depth:=HL Kj;rw[Pat.text,Pat.depth,GM,aH];lia
 |.tur p,h=>by
  have h1:=Pat.text_len (p:=p) h;have l1:("t":E_).length=1:=rfl;have:0<2^p.depth:=HL Kj;rw[Pat.text,Pat.depth,GM,aH];lia
 |.hue f g p,h=>by
  have h1:=Pat.text_len h.2.2;have la:=eV h.1;have lb:=eV h.2.1;have l1:("h":E_).length=1:=rfl;have:0<2^p.depth:=HL Kj;rw[Pat.text,Pat.depth,GM]
  repeat rw[aH]
  lia
def Pat.leaves_pos:∀p:Pat,0<p.leaves.length
 |.mot ..=>Nat.zero_lt_one
 |.over p q=>by rw[Pat.leaves,F8];have:=p.leaves_pos;lia
 |.sh _ _ p=>by rw[Pat.leaves,FP];exact p.leaves_pos
 |.mir p=>by rw[Pat.leaves,FP];exact p.leaves_pos
 |.tur p=>by rw[Pat.leaves,FP];exact p.leaves_pos
 |.hue _ _ p=>by rw[Pat.leaves,FP];exact p.leaves_pos
def Pat.text_short(h:p.Wf)(hd:p.depth<=5):p.text.length<=3510:=by
 have h1:=Pat.text_len h;have h2:2^p.depth<=2^5:=G9 Kj hd;lia
structure Pat.Ok(p:Pat):Prop where
 wf:p.Wf
 deep:p.depth<=5
 fits:p.Fits
def Wraps.of{H:Prop}(h:p.Ok)(hR:∀q:Pat,q.Ok->R q.D):Wraps p H R:=by
 refine#[λ_=>hR p h,λhd=>#[hR _ #[h.wf,?_,h.fits.mir],hR _ #[h.wf,?_,h.fits.tur],λa b ha hb=>hR _ #[#[ha,hb,h.wf],?_,h.fits.sh a b],λ_ f g hf hg=>hR _ #[#[hf,hg,h.wf],?_,h.fits.hue f g]]]<;>(simp only[Pat.depth];lia)
def BS:SpD:=λds R=>∃p q:Pat,ds=[p.D,q.D]/\p.Wf/\q.Wf/\p.depth<=5/\q.depth<=5/\R p.D/\(p.depth<5->q.depth<5->(Pat.over p q).Fits->R (Pat.over p q).D)
def BT:SpD:=λds R=>∃(ns:List Int) (k:Int),ds=[.rol (ns.map D.int),.int k]/\0<=k/\∀p:Pat,p.Ok->R p.D
end My
end
section
open PySem PySem.Spec PyProof.Rows L2
namespace My
def BU:TMS:=λ_ _ _=>False
def ie{X:Cx}[Jm]{st:P3}:MSt X st BU:=⟨ps_never.anti λE s H q=>by
 obtain⟨F0,F,z,M,k,rs,ED,h,e⟩:=q;exact h.elim⟩
end My
end
section
namespace My
open PySem PySem.Spec PyProof.Rows L2
abbrev isSg(c:Nat):Bool:=c==46||(49<=c&&c<=54)
def numL(a:Int):List Nat:=cs (toString a:String)
variable{a:Int}{P:Int->Prop}
def tV(h:B12 a)(hP:∀k:Fin 25,P (((k.val:Nat):Int)-12)):P a:=by
 unfold B12 at h;have:=hP #[(a+12).toNat,Kd];have e:(((a+12).toNat:Nat):Int)-12=a:=Kd
 rw[e]at this;exact this
def isNumL(l:List Nat):Prop:=(∃c,(48<=c/\c<=57)/\l=[c])\/(∃c,(48<=c/\c<=50)/\l=[49,c])\/(∃c,(49<=c/\c<=57)/\l=[45,c])\/∃c,(48<=c/\c<=50)/\l=[45,49,c]
def numL_is(h:B12 a):isNumL (numL a):=by
 have key:∀k:Fin 25,(numL (((k.val:Nat):Int)-12))∈([[45,49,50],[45,49,49],[45,49,48],[45,57],[45,56],[45,55],[45,54],[45,53],[45,52],[45,51],[45,50],[45,49],[48],[49],[50],[51],[52],[53],[54],[55],[56],[57],[49,48],[49,49],[49,50]]:List (List Nat)):=Kl
 have h1:=tV (P:=λa=>numL a∈([[45,49,50],[45,49,49],[45,49,48],[45,57],[45,56],[45,55],[45,54],[45,53],[45,52],[45,51],[45,50],[45,49],[48],[49],[50],[51],[52],[53],[54],[55],[56],[57],[49,48],[49,49],[49,50]]:List (List Nat))) h key;revert h1;generalize numL a=l;intro h1;unfold isNumL;simp only[FQ,Hb,or_false]at h1;rcases h1 with e|e|e|e|e|e|e|e|e|e|e|e|e|e|e|e|e|e|e|e|e|e|e|e|e<;>subst e
 all_goals first
  |exact .inl ⟨_,Kj,rfl⟩
  |exact .inr (.inl ⟨_,Kj,rfl⟩)
  |exact .inr (.inr (.inl ⟨_,Kj,rfl⟩))
  |exact .inr (.inr (.inr ⟨_,Kj,rfl⟩))
def endS(c:Nat):Prop:=c=44\/c=59\/c=58\/c=93
def rowsL:List (List Nat)->List Nat
 |[]=>[]
 |[x]=>x
 |x::y::r=>x++47::rowsL (y::r)
variable{c:Nat}
def BV(h:bj c):isSg c=true:=by
 unfold bj at h;unfold isSg;rcases h with h|h
 .subst h;rfl
 .have:(decide (49<=c)&&decide (c<=54))=true:=by simp[h]
  rw[this,Hy]
def motL(L:List (List Nat))(a b c d:Int):List Nat:=91::(rowsL L++59::(numL a++44::(numL b++59::(numL c++44::(numL d++[93])))))
def Pat.tl:Pat->List Nat
 |.mot L a b c d=>motL (L.map cs) a b c d
 |.over p q=>40::(p.tl++124::(q.tl++[41]))
 |.sh a b p=>115::(numL a++44::(numL b++58::p.tl))
 |.mir p=>109::p.tl
 |.tur p=>116::p.tl
 |.hue f g p=>104::(numL f++(numL g++p.tl))
def tW:∀L:List E_,cs (Str.join "/" L)=rowsL (L.map cs)
 |[]=>rfl
 |[x]=>rfl
 |x::y::L=>by
  show cs (x++"/"++Str.join "/" (y::L))=cs x++47::rowsL ((y::L).map cs);rw[bI,bI,tW (y::L),GF];rfl
def cA:∀p:Pat,cs p.text=p.tl
 |.mot L a b c d=>by
  show cs (dv L a b c d)=motL (L.map cs) a b c d;unfold dv motL;have e:Txt.join "/" L=Str.join "/" L:=StrLaws.glued_eq_join _ _;rw[e]
  repeat rw[bI]
  rw[tW];simp only[GF];rfl
 |.over p q=>by
  rw[Pat.text,Pat.tl]
  repeat rw[bI]
  rw[cA p,cA q];simp only[GF];rfl
 |.sh a b p=>by
  rw[Pat.text,Pat.tl]
  repeat rw[bI]
  rw[cA p];simp only[GF];rfl
 |.mir p=>by
  rw[Pat.text,Pat.tl,bI,cA p];rfl
 |.tur p=>by
  rw[Pat.text,Pat.tl,bI,cA p];rfl
 |.hue f g p=>by
  rw[Pat.text,Pat.tl]
  repeat rw[bI]
  rw[cA p];simp only[GF];rfl
def hueL{f:Int}(h:1<=f/\f<=6):numL f=[(48+f).toNat]:=by
 have key:∀k:Fin 6,numL (((k.val:Nat):Int)+1)=[49+k.val]:=Kl
 have:=key #[(f-1).toNat,Kd];have e:(((f-1).toNat:Nat):Int)+1=f:=Kd
 rw[e]at this;rw[this];congr 1;show 49+(f-1).toNat=(48+f).toNat;lia
def rowsT(L:List (List Nat)):List Nat:=L.flatMap λy=>47::y
def tX:∀(x:List Nat) (L:List (List Nat)),rowsL (x::L)=x++rowsT L
 |x,[]=>by simp[rowsL,rowsT]
 |x,y::L=>by
  rw[rowsL,tX y L];simp[rowsT]
def eZ{x y:E_}(h:cs x=cs y):x=y:=by
 obtain⟨a⟩:=x;obtain⟨b⟩:=y;have:a=b:=Jf.mp h;rw[this]
variable{x:Int}
def numS(h:B12 x):numL x=[48]\/∃pre c y,(pre=[]\/pre=[45])/\(49<=c/\c<=57)/\numL x=pre++c::y/\(y=[]\/(c=49/\∃d,(48<=d/\d<=50)/\y=[d])):=by
 rcases numL_is h with⟨c,hc,e⟩|⟨c,hc,e⟩|⟨c,hc,e⟩|⟨c,hc,e⟩
 .by_cases z:c=48
  .exact .inl (by rw[e,z])
  .exact .inr #[[],c,[],.inl rfl,Kd,e,.inl rfl]
 .exact .inr #[[],49,[c],.inl rfl,Kj,e,.inr #[rfl,c,hc,rfl]]
 .exact .inr #[[45],c,[],.inr rfl,hc,e,.inl rfl]
 .exact .inr #[[45],49,[c],.inr rfl,Kj,e,.inr #[rfl,c,hc,rfl]]
variable{A B:Prop}
def ifT{c:Prop}[Decidable c](h:c)(a:A):if c then A else B:=by rw[if_pos h];exact a
def ifdT{p:Prop}[Decidable p](h:p)(a:A):if decide p=true then A else B:=by rw[if_pos (decide_eq_true h)];exact a
def ifdF{p:Prop}[Decidable p](h:¬p)(b:B):if decide p=true then A else B:=by rw[if_neg (by simpa using h)];exact b
def rdF(t:E_)(k:Nat):List (E_×D):=[("text",.str t),("place",.int k)]
def RdM(a:KF)(t:E_)(k:Nat):MS:=[(a,.ins "Reading" (rdF t k))]
variable{o:MO}
def dS{a:KF}:mget [(a,o)] a=be o:=by unfold mget;rw[if_pos rfl]
def ig{a:KF}{o':MO}:mput [(a,o)] a o'=[(a,o')]:=by unfold mput;rw[if_pos rfl]
variable{t:E_}
def bb{a:KF}{k:Nat}:mget (RdM a t k) a=be (.ins "Reading" (rdF t k)):=dS
def kR{k:Nat}:(rdF t k).lookup ("text":E_)=be (.str t):=rfl
def fg{k:Nat}:(rdF t k).lookup ("place":E_)=be (.int k):=by
 unfold rdF;rw[Gc,show(("place":E_)==("text":E_))=false by decide+kernel];rfl
def BW{k:Nat}:putD ("place":E_) (.int ((k:Int)+1)) (rdF t k)=rdF t (k+1):=by
 unfold rdF putD;rw[if_neg Kl];unfold putD;rw[if_pos rfl];rfl
def dA{k:Nat}:(rdF t k).lookup ("may_take":E_)=none:=by
 unfold rdF;rw[Gc,show(("may_take":E_)==("text":E_))=false by decide+kernel,Gc,show(("may_take":E_)==("place":E_))=false by decide+kernel];rfl
def cB{k:Nat}:(rdF t k).lookup ("take":E_)=none:=by
 unfold rdF;rw[Gc,show(("take":E_)==("text":E_))=false by decide+kernel,Gc,show(("take":E_)==("place":E_))=false by decide+kernel];rfl
structure At(t:Str)(k:Nat)(l:List Nat):Prop where
 eq:(cs t).drop k=l
 le:k<=t.length
 sz:t.length<=100000
def At.nil{k:Nat}(h:At t k []):k=t.length:=by
 have h1:=congrArg Hi h.eq;rw[G3,bi]at h1;have:=h.le;simp at h1;lia
variable{l:List Nat}
def At.lt{k:Nat}(h:At t k (c::l)):k<t.length:=by
 have h1:=congrArg Hi h.eq;rw[G3,bi]at h1;simp at h1;lia
def At.get{k:Nat}(h:At t k (c::l)):(cs t)[k]?=be c:=by
 have h1:=congrArg (·[0]?) h.eq;simpa using h1
def At.next{k:Nat}(h:At t k (c::l)):At t (k+1) l:=by
 refine#[?_,h.lt,h.sz];have h1:=congrArg (Hm 1) h.eq;rw[List.drop_drop]at h1;simpa using h1
def At.app{t:E_}:∀{x l:List Nat} {k:Nat},At t k (x++l)->At t (k+x.length) l
 |[],_,_,h=>h
 |c::x,l,k,h=>by
  have h1:At t (k+1+x.length) l:=At.app (At.next h);have e:k+1+x.length=k+(c::x).length:=by rw[FV];lia
  rw[e]at h1;exact h1
variable{al:E_}
def tY:(!(!(Builtin.Str.occurrences al #[[c].toArray] 0 al.length 1).isEmpty))=!decide (c∈cs al):=by
 rw[StrLaws.found_one]
def mayS(al:E_):List Nat->E_|c::_=>if c∈cs al then#[[c].toArray]else ""|[]=>""
def mayN(al:E_):List Nat->Nat|c::_=>if c∈cs al then 1 else 0|[]=>0
def fj(h:c∈cs al):mayS al (c::l)=#[[c].toArray]:=if_pos h
def fk(h:c∈cs al):mayN al (c::l)=1:=if_pos h
def dU(h:c∉cs al):mayS al (c::l)="":=if_neg h
def dW(h:c∉cs al):mayN al (c::l)=0:=if_neg h
def BX:SiD:=λds R=>∃t:E_,ds=[.str t]/\R (rdF t 0)
def BY:SpM:=λds M R RX=>∃(a:KF) (t:E_) (k:Nat) (l:List Nat) (al:E_),ds=[.ptr a,.str al]/\M=RdM a t k/\At t k l/\R (.str (mayS al l)) (RdM a t (k+mayN al l))
def BZ:SpM:=λds M R _=>∃(a:KF) (t:E_) (k c:Nat) (l:List Nat) (al:E_),ds=[.ptr a,.str al]/\M=RdM a t k/\At t k (c::l)/\c∈cs al/\R (.str #[[c].toArray]) (RdM a t (k+1))
def B0(h:B12 x):PySem.intText? #[(numL x).toArray]=be x:=
 tV (P:=λx=>PySem.intText? #[(numL x).toArray]=be x) h Kl
def fW(x y:List Nat):((#[x.toArray]:E_)++#[y.toArray]:E_)=#[(x++y).toArray]:=by
 apply eZ;rw[bI]
def digits19:c∈cs "123456789"↔49<=c/\c<=57:=by
 have e:cs "123456789"=[49,50,51,52,53,54,55,56,57]:=rfl;rw[e];simp;lia
def digits02:c∈cs "012"↔48<=c/\c<=50:=by
 have e:cs "012"=[48,49,50]:=rfl;rw[e];simp;lia
def B1(w:List Nat)(c:Nat):Txt.endswith #[(w++[c]).toArray] "1"=decide (c=49):=by
 unfold Txt.endswith;have e1:("1":E_).length=1:=rfl;have e2:(#[(w++[c]).toArray]:E_).length=w.length+1:=by simp[Str.length]
 rw[e1,e2];have e3:decide (0+1<=w.length+1)=true:=Ld
 rw[e3,Bool.true_and,Je];unfold Builtin.Str.subAt;have e4:(#[(w++[c]).toArray]:E_).cps.extract w.length (w.length+("1":E_).length)=[c].toArray:=by
  apply Jf.mp;simp[Array.toList_extract,e1]
 rw[e4];have e5:("1":E_).cps=[49].toArray:=rfl;rw[e5];by_cases h:c=49
 .subst h;rfl
 .simp[h]
def B2:SpM:=λds M R _=>∃(a:KF) (t:E_) (k:Nat) (x:Int) (e:Nat) (l:List Nat),ds=[.ptr a]/\M=RdM a t k/\B12 x/\endS e/\At t k (numL x++e::l)/\R (.int x) (RdM a t (k+(numL x).length))
def B3:SpM:=λds M R _=>∃(a:KF) (t:E_) (k:Nat) (x y:Int) (e:Nat) (l:List Nat),ds=[.ptr a]/\M=RdM a t k/\B12 x/\B12 y/\endS e/\At t k (numL x++44::(numL y++e::l))/\R (.tup [.int x,.int y]) (RdM a t (k+(numL x).length+1+(numL y).length))
def signs_is:c∈cs ".123456"↔isSg c=true:=by
 have e:cs ".123456"=[46,49,50,51,52,53,54]:=rfl;rw[e];simp;lia
def fo(x:List Nat):(#[x.toArray]:E_).length=x.length:=by simp[Str.length]
def tZ(h:isSg c=false):c∉cs ".123456":=λz=>by rw[signs_is.mp z]at h;cases h
def S_line_from:SpM:=λds M R _=>∃(a:KF) (t:E_) (k n m:Nat) (x l:List Nat),ds=[.ptr a,.int n,.int m]/\M=RdM a t k/\At t k (x++l)/\(∀c∈x,bj c)/\n<=x.length/\x.length<=m/\m<=8/\(x.length=m\/∃c l',l=c::l'/\isSg c=false)/\R (.str #[x.toArray]) (RdM a t (k+x.length))
def B4{p a:KF}{k:Nat}(h:p≠a):mget ((p,o)::RdM a t k) a=be (.ins "Reading" (rdF t k)):=by
 unfold mget;rw[if_neg h];exact dS
variable{M:MS}
def cT{p:KF}:mget ((p,o)::M) p=be o:=by unfold mget;rw[if_pos rfl]
def ub{p:KF}{o':MO}:mput ((p,o)::M) p o'=(p,o')::M:=by unfold mput;rw[if_pos rfl]
def kS{p:KF}:mdel ((p,o)::M) p=M:=by unfold mdel;rw[if_pos rfl]
structure RowsL(L:List (List Nat))(w:Nat):Prop where
 many:1<=L.length/\L.length<=8
 w1:1<=w
 w8:w<=8
 each:∀x∈L,x.length=w/\∀c∈x,bj c
def lstD(L:List (List Nat)):List D:=L.map λx=>D.str #[x.toArray]
def B5:SpM:=λds M R _=>∃(a:KF) (t:E_) (k:Nat) (L:List (List Nat)) (w:Nat) (l:List Nat),ds=[.ptr a]/\M=RdM a t k/\RowsL L w/\At t k (rowsL L++59::l)/\R (.lst (lstD L)) (RdM a t (k+(rowsL L).length))
def hmX(w h s:Int)(i j:Int):Int:=(i-j/h*s)%w
def hRow(w h s:Int)(j:Nat):Nat->List Nat->List ((Int×Int)×Int)->List ((Int×Int)×Int)
 |_,[],kv=>kv
 |i,c::r,kv=>hRow w h s j (i+1) r (if c=46 then kv else sdD kv (hmX w h s i j) ((j:Int)%h) ((c:Int)-48))
def hAll(w h s:Int):Nat->List (List Nat)->List ((Int×Int)×Int)->List ((Int×Int)×Int)
 |_,[],kv=>kv
 |j,x::r,kv=>hAll w h s (j+1) r (hRow w h s j 0 x kv)
def uc(kv:List ((Int×Int)×Int))(x y v:Int):(sdD kv x y v).length<=kv.length+1:=by
 unfold sdD;split
 .lia
 .rw[F8];simp
def B6(h:49<=c/\c<=54):∃i rest,Builtin.Str.occurrences ".123456" #[[c].toArray] 0 (".123456":E_).length 1=i::rest/\((i:Nat):Int)=(c:Int)-48:=by
 rcases(Kd:c=49\/c=50\/c=51\/c=52\/c=53\/c=54)with e|e|e|e|e|e<;>subst e
 .exact#[1,[],Kl,Kj]
 .exact#[2,[],Kl,Kj]
 .exact#[3,[],Kl,Kj]
 .exact#[4,[],Kl,Kj]
 .exact#[5,[],Kl,Kj]
 .exact#[6,[],Kl,Kj]
def B7{x:List Nat}(h:∀c∈x,bj c):(#[x.toArray]:E_).cps.all (·<128)=true:=by
 rw[<-IK,GK];intro c hc;have:=h c hc;unfold bj at this;simp;lia
variable{d:My.D}
def B8{L:List (List Nat)}{j:Nat}(h:(lstD L)[j]?=be d):∃x,L[j]?=be x/\d=.str #[x.toArray]:=by
 unfold lstD at h;rw[FT]at h;cases e:L[j]? with
 |none=>rw[e]at h;cases h
 |some x=>rw[e]at h;cases h;exact#[x,rfl,rfl]
variable{i:Nat}
def B9{x:List Nat}(h:(cn #[x.toArray])[i]?=be d):∃c,x[i]?=be c/\d=.str #[[c].toArray]:=by
 unfold cn at h;rw[FT]at h;cases e:x[i]? with
 |none=>simp[e]at h
 |some c=>simp[e]at h;exact#[c,rfl,h.symm]
def ud{α:Type}{l:List α}{x:α}(h:l[i]?=be x):l.drop i=x::l.drop (i+1):=by
 have hi:i<l.length:=(FZ.mp h).1;rw[GX hi];congr 1;rw[F9 hi]at h;exact Option.some.inj h
def Ca:SpM:=λds M R RX=>∃(L:List (List Nat)) (wd:Nat) (w h s:Int),ds=[.lst (lstD L),.tup [.int w,.int h,.int s]]/\RowsL L wd/\0<w/\0<h/\h<1073741824/\0<=s/\s<1073741824/\R (.dti (hAll w h s 0 L [])) M
def moF(k:Nat)(sh:D)(hu:List ((Int×Int)×Int)):List (E_×D):=[("place",.int k),("shifts",sh),("hues",.dti hu)]
def Cb:SiD:=λds R=>∃(k:Nat) (L:List (List Nat)) (wd:Nat) (a b c d:Int),ds=[.int k,.lst (lstD L),.tup [.int a,.int b],.tup [.int c,.int d]]/\RowsL L wd/\B12 a/\B12 b/\B12 c/\B12 d/\¬a*d=b*c/\
 ∀w h s,FamOf a b c d w h s->R (moF k (.tup [.int w,.int h,.int s]) (hAll w h s 0 L []))
variable{v:My.D}
def Cd:putD ("place":E_) v []=([("place",v)]:List (E_×D)):=rfl
variable{u:My.D}
def Ce:putD ("shifts":E_) v [("place",u)]=([("place",u),("shifts",v)]:List (E_×D)):=by
 unfold putD;rw[if_neg Kl];rfl
def Cf{t:D}:putD ("hues":E_) v [("place",t),("shifts",u)]=([("place",t),("shifts",u),("hues",v)]:List (E_×D)):=by
 unfold putD;rw[if_neg Kl];unfold putD;rw[if_neg Kl];rfl
def ue:([("place",u),("shifts",v)]:List (E_×D)).lookup ("shifts":E_)=be v:=by
 rw[Gc,show(("shifts":E_)==("place":E_))=false by decide+kernel];rfl
def Cg:SiD:=λds R=>∃(x y:E_) (fs gs:List (E_×D)),ds=[.obj x fs,.obj y gs]/\R [("above",.obj x fs),("below",.obj y gs)]
def Ch:SiD:=λds R=>∃(x:E_) (fs:List (E_×D)) (a b:Int),ds=[.obj x fs,.int a,.int b]/\R [("form",.obj x fs),("x",.int a),("y",.int b)]
def Ci:SiD:=λds R=>∃(x:E_) (fs:List (E_×D)),ds=[.obj x fs]/\R [("form",.obj x fs)]
def Cj:SiD:=λds R=>∃(x:E_) (fs:List (E_×D)),ds=[.obj x fs]/\R [("form",.obj x fs)]
def Ck:SiD:=λds R=>∃(x:E_) (fs:List (E_×D)) (a b:Int),ds=[.obj x fs,.int a,.int b]/\R [("form",.obj x fs),("old",.int a),("new",.int b)]
def FormOf:Pat->D->Prop
 |.mot L a b c d,v=>∃(k:Nat) (w h s:Int),v=.obj "Motif" (moF k (.tup [.int w,.int h,.int s]) (hAll w h s 0 (L.map cs) []))/\FamOf a b c d w h s
 |.over p q,v=>∃u u',v=.obj "Over" [("above",u),("below",u')]/\FormOf p u/\FormOf q u'
 |.sh a b p,v=>∃u,v=.obj "Shifted" [("form",u),("x",.int a),("y",.int b)]/\FormOf p u
 |.mir p,v=>∃u,v=.obj "Mirror" [("form",u)]/\FormOf p u
 |.tur p,v=>∃u,v=.obj "Turn" [("form",u)]/\FormOf p u
 |.hue f g p,v=>∃u,v=.obj "Rehue" [("form",u),("old",.int f),("new",.int g)]/\FormOf p u
def Pat.cls:Pat->E_
 |.mot ..=>"Motif"|.over ..=>"Over"|.sh ..=>"Shifted"|.mir ..=>"Mirror"|.tur ..=>"Turn"|.hue ..=>"Rehue"
variable{f g:E_}{r:List (E_×My.D)}
def cb(h:(f==g)=false)(hr:r.lookup f=s_):(((g,v)::r:List (E_×D))).lookup f=none:=by
 rw[Gc,h];exact hr
structure ObjM(p:Pat)(fs:List (Str×D)):Prop where
 nl:noLF fs=true
 fam:fs.lookup ("family":E_)=s_
 shw:fs.lookup ("shows":E_)=s_
variable{p:Pat}
def FormOf.objm:∀{v:D},FormOf p v->∃fs,v=.obj p.cls fs/\ObjM p fs:=by
 have n1 {g:E_} {u:D} {f:E_} (h:(f==g)=false):([(g,u)]:List (E_×D)).lookup f=none:=cb h rfl;have nn {fs:List (E_×D)} {x:E_} (h:noLF fs=true):noL (.obj x fs)=true:=by simp[noL,h]
 induction p with
 |mot L a b c d=>
  rintro _⟨k,w,h,s,rfl,_⟩;exact#[_,rfl,by simp[noL,noLF,noLs,moF],cb Kl (cb Kl (n1 Kl)),cb Kl (cb Kl (n1 Kl))]
 |over p q i j=>
  rintro _⟨u,u',rfl,h1,h2⟩;obtain⟨fs,rfl,o1⟩:=i h1;obtain⟨gs,rfl,o2⟩:=j h2;exact#[_,rfl,by simp[noLF,nn o1.nl,nn o2.nl],cb Kl (n1 Kl),cb Kl (n1 Kl)]
 |sh a b p i=>
  rintro _⟨u,rfl,h1⟩;obtain⟨fs,rfl,o1⟩:=i h1;exact#[_,rfl,by simp[noL,noLF,o1.nl],cb Kl (cb Kl (n1 Kl)),cb Kl (cb Kl (n1 Kl))]
 |mir p i=>
  rintro _⟨u,rfl,h1⟩;obtain⟨fs,rfl,o1⟩:=i h1;exact#[_,rfl,by simp[noLF,nn o1.nl],n1 Kl,n1 Kl]
 |tur p i=>
  rintro _⟨u,rfl,h1⟩;obtain⟨fs,rfl,o1⟩:=i h1;exact#[_,rfl,by simp[noLF,nn o1.nl],n1 Kl,n1 Kl]
 |hue f g p i=>
  rintro _⟨u,rfl,h1⟩;obtain⟨fs,rfl,o1⟩:=i h1;exact#[_,rfl,by simp[noL,noLF,o1.nl],cb Kl (cb Kl (n1 Kl)),cb Kl (cb Kl (n1 Kl))]
variable{L:List E_}
def Cl(h:Rows L):∃w,RowsL (L.map cs) w:=by
 obtain⟨h1,w,h2,h3⟩:=h;refine#[w,by rw[FP];exact h1,h2.1,h2.2,λx hx=>?_];obtain⟨l,hl,rfl⟩:=Gn.mp hx;rw[bi];exact h3 l hl
def uf{f:Int}(h:1<=f/\f<=6):(48+f).toNat∈cs "123456":=by
 have e:cs "123456"=[49,50,51,52,53,54]:=rfl;rw[e];simp;lia
def Cm:SpM:=λds M R _=>∃(g:KF) (t:E_) (k:Nat) (L:List E_) (a b c d:Int) (l:List Nat),ds=[.ptr g]/\M=RdM g t k/\At t k (motL (L.map cs) a b c d++l)/\(Pat.mot L a b c d).Wf/\∀v,FormOf (.mot L a b c d) v->R v (RdM g t (k+(motL (L.map cs) a b c d).length))
def dB(j:Nat):SpM:=λds M R _=>∃(a:KF) (t:E_) (k:Nat) (p:Pat) (l:List Nat) (d:Nat),ds=[.ptr a,.int d]/\M=RdM a t k/\At t k (p.tl++l)/\d+j=6/\1<=j/\p.Wf/\p.depth+d<=5/\∀v,FormOf p v->R v (RdM a t (k+p.tl.length))
variable{ds:List My.D}{RX:XDM}
def Cn{R:D->MS->Prop}:¬dB 0 ds M R RX:=by
 rintro⟨_,_,_,_,_,_,_,_,_,_,h,_⟩;exact absurd h Kj
def uh(j:Nat):SpM:=λds M R _=>∃(a:KF) (t:E_) (k:Nat) (p q:Pat) (l:List Nat) (d:Nat),ds=[.ptr a,.int d]/\M=RdM a t k/\At t k (p.tl++124::(q.tl++41::l))/\d+j=6/\1<=j/\p.Wf/\q.Wf/\p.depth+d<=5/\q.depth+d<=5/\∀u u',FormOf p u->FormOf q u'->R (.obj "Over" [("above",u),("below",u')]) (RdM a t (k+p.tl.length+1+q.tl.length+1))
def ui(j:Nat):SpM:=λds M R _=>∃(a:KF) (t:E_) (k:Nat) (x y:Int) (p:Pat) (l:List Nat) (d:Nat),ds=[.ptr a,.int d]/\M=RdM a t k/\At t k (numL x++44::(numL y++58::(p.tl++l)))/\d+j=6/\1<=j/\B12 x/\B12 y/\p.Wf/\p.depth+d<=5/\∀u,FormOf p u->R (.obj "Shifted" [("form",u),("x",.int x),("y",.int y)]) (RdM a t (k+(numL x).length+1+(numL y).length+1+p.tl.length))
def uj(j:Nat):SpM:=λds M R _=>∃(a:KF) (t:E_) (k:Nat) (f g:Int) (p:Pat) (l:List Nat) (d:Nat),ds=[.ptr a,.int d]/\M=RdM a t k/\At t k ((48+f).toNat::(48+g).toNat::(p.tl++l))/\d+j=6/\1<=j/\(1<=f/\f<=6)/\(1<=g/\g<=6)/\p.Wf/\p.depth+d<=5/\∀u,FormOf p u->R (.obj "Rehue" [("form",u),("old",.int f),("new",.int g)]) (RdM a t (k+2+p.tl.length))
def Pat.cls_mem(p:Pat):p.cls∈(["Motif","Over","Shifted","Mirror","Turn","Rehue"]:List E_):=by
 cases p<;>simp[Pat.cls]
variable{hu:List ((Int×Int)×Int)}
def mo_shifts{k:Nat}{sh:D}:(moF k sh hu).lookup ("shifts":E_)=be sh:=by
 unfold moF;rw[Gc,show(("shifts":E_)==("place":E_))=false by decide+kernel];rfl
def Co{k:Nat}{sh:D}:(moF k sh hu).lookup ("hues":E_)=be (.dti hu):=by
 unfold moF;rw[Gc,show(("hues":E_)==("place":E_))=false by decide+kernel,Gc,show(("hues":E_)==("shifts":E_))=false by decide+kernel];rfl
def fq(h:(g==f)=false):(((f,u)::(g,v)::r:List (E_×D))).lookup g=be v:=by
 rw[Gc,h,Gc,beq_self_eq_true]
def kT{e:E_}{t:D}(h1:(g==e)=false)(h2:(g==f)=false):(((e,t)::(f,u)::(g,v)::r:List (E_×D))).lookup g=be v:=by
 rw[Gc,h1];exact fq h2
variable{w s:Int}
def Pat.Fits.small(h:p.Fits){k:Int}(f:p.Fam w k s):0<w/\w<=720/\0<k/\k<=720/\0<=s/\s<w:=by
 obtain⟨w',k',s',f',hb⟩:=h;obtain⟨rfl,rfl,rfl⟩:=f.uniq f';obtain⟨h1,h2⟩:=cr f.f.w0 f.f.h0;exact#[f.f.w0,Kd,f.f.h0,Kd,f.f.s0,f.f.sw]
variable{q:Pat}
def Pat.Fits.over_parts(hp:p.Wf)(hq:q.Wf)(h:(Pat.over p q).Fits):p.Fits/\q.Fits:=by
 obtain⟨w,k,s,f,hb⟩:=h;obtain⟨w1,k1,s1,f1⟩:=Pat.fam_ex hp;obtain⟨w2,k2,s2,f2⟩:=Pat.fam_ex hq;have l1:=(InF.le f1.f.w0 f1.f.h0 f.f.w0 f.f.h0 (λx y z=>(f1.lat x y).mpr ((f.lat x y).mp z).1)).1;have l2:=(InF.le f2.f.w0 f2.f.h0 f.f.w0 f.f.h0 (λx y z=>(f2.lat x y).mpr ((f.lat x y).mp z).2)).1;exact#[#[w1,k1,s1,f1,Kd],#[w2,k2,s2,f2,Kd]]
variable{b:Int}
def Pat.Fits.of_sh(h:(Pat.sh a b p).Fits):p.Fits:=by
 obtain⟨w,k,s,f,hb⟩:=h;exact#[w,k,s,#[f.f,f.lat],hb]
def Pat.Fits.of_hue(h:(Pat.hue a b p).Fits):p.Fits:=by
 obtain⟨w,k,s,f,hb⟩:=h;exact#[w,k,s,#[f.f,f.lat],hb]
def Pat.Fits.of_mir(hp:p.Wf)(h:(Pat.mir p).Fits):p.Fits:=by
 obtain⟨w,k,s,f,hb⟩:=h;obtain⟨w1,k1,s1,f1⟩:=Pat.fam_ex hp;obtain⟨rfl,rfl,_⟩:=f.uniq f1.mir;exact#[_,_,_,f1,hb]
def Pat.Fits.of_tur(hp:p.Wf)(h:(Pat.tur p).Fits):p.Fits:=by
 obtain⟨w,k,s,f,hb⟩:=h;obtain⟨w1,k1,s1,f1⟩:=Pat.fam_ex hp;obtain⟨w',k',s',f',e⟩:=ic (s:=s1) f1.f.w0 f1.f.h0;obtain⟨rfl,rfl,_⟩:=f.uniq (f1.tur f');exact#[_,_,_,f1,Kd]
def cj(j:Nat)(x:E_):SpX:=λds R _=>∃(p:Pat) (v:D),ds=[v]/\FormOf p v/\p.Wf/\p.depth<j/\p.cls=x/\p.Fits/\∀w h s,p.Fam w h s->R (.tup [.int w,.int h,.int s])
def fu{x:E_}{R:D->MS->Prop}:¬ofX (cj 0 x) ds M R RX:=by
 rintro⟨_,_,_,_,_,h,_⟩;exact absurd h (GU _)
def lookD_app(x y v X Y:Int):∀kv:List ((Int×Int)×Int),lookD (kv++[((x,y),v)]) X Y=match lookD kv X Y with|some u=>be u|none=>if x=X/\y=Y then be v else s_
 |[]=>rfl
 |((a,b),h)::r=>by
  show lookD (((a,b),h)::(r++[((x,y),v)])) X Y=_;unfold lookD;by_cases e:a=X/\b=Y
  .rw[if_pos e,if_pos e]
  .rw[if_neg e,if_neg e];exact lookD_app x y v X Y r
def Cp(kv:List ((Int×Int)×Int))(x y v X Y:Int):lookD (sdD kv x y v) X Y=match lookD kv X Y with|some u=>be u|none=>if x=X/\y=Y then be v else none:=by
 unfold sdD;split
 .rename_i hs;cases e:lookD kv X Y with
  |some u=>rfl
  |none=>
   show s_=_;rw[if_neg];rintro⟨rfl,rfl⟩;rw[e]at hs;cases hs
 .exact lookD_app x y v X Y kv
def look_row(w h s:Int)(j:Nat)(X Y:Int):∀(x:List Nat) (i:Nat) (kv:List ((Int×Int)×Int)),lookD (hRow w h s j i x kv) X Y=match lookD kv X Y with|some u=>be u|none=>(scanRow (λi=>decide (hmX w h s i j=X/\(j:Int)%h=Y)) i x).map λc=>(c:Int)-48
 |[],i,kv=>by
  rw[hRow,scanRow];cases lookD kv X Y<;>rfl
 |c::r,i,kv=>by
  rw[hRow,look_row w h s j X Y r (i+1),scanRow];by_cases t8:c=46
  .rw[if_pos t8,if_neg (c:=c≠46/\_) (λz=>z.1 t8)]
  .rw[if_neg t8,Cp];cases lookD kv X Y with
   |some u=>rfl
   |none=>
    by_cases e:hmX w h s i j=X/\(j:Int)%h=Y
    .rw[if_pos (c:=c≠46/\_) #[t8,decide_eq_true e]];show(match (if hmX w h s i j=X/\(j:Int)%h=Y then be ((c:Int)-48)else s_)with|some u=>be u|none=>_)=_;rw[if_pos e];rfl
    .rw[if_neg (c:=c≠46/\_) (λz=>e (of_decide_eq_true z.2))];show(match (if hmX w h s i j=X/\(j:Int)%h=Y then be ((c:Int)-48)else s_)with|some u=>be u|none=>_)=_;rw[if_neg e]
def uk(w h s X Y:Int):∀(L:List E_) (j:Nat) (kv:List ((Int×Int)×Int)),lookD (hAll w h s j (L.map cs) kv) X Y=match lookD kv X Y with|some u=>be u|none=>(bZ (λi j=>decide (hmX w h s i j=X/\j%h=Y)) j L).map λc=>(c:Int)-48
 |[],j,kv=>by
  rw[GJ,hAll,bZ];cases lookD kv X Y<;>rfl
 |x::r,j,kv=>by
  rw[FY,hAll,uk w h s X Y r (j+1),look_row,bZ];cases lookD kv X Y with
  |some u=>rfl
  |none=>
   show(match (scanRow (λi=>decide (hmX w h s i j=X/\(j:Int)%h=Y)) 0 (cs x)).map (λc=>(c:Int)-48)with|some u=>be u|none=>_)=_;cases scanRow (λi=>decide (hmX w h s i j=X/\(j:Int)%h=Y)) 0 (cs x)<;>rfl
variable{h:Int}
def Cq{c d:Int}(F:FamOf a b c d w h s)(hn:¬a*d=b*c)(x y i j:Int):decide (hmX w h s i j=hmX w h s x y/\j%h=y%h)=onB a b c d (x-i) (y-j):=by
 have hw:=F.1;have hh:=F.2.1;have key:(hmX w h s i j=hmX w h s x y/\j%h=y%h)↔InF w h s (x-i) (y-j):=by
  unfold hmX;constructor
  .rintro⟨e1,e2⟩;have dy:=Ha y h;have dj:=Ha j h;have m1:=Ha (x-y/h*s) w;have m2:=Ha (i-j/h*s) w;refine#[(x-y/h*s)/w-(i-j/h*s)/w,y/h-j/h,?_,?_]
   .rw[HM,HM,Gb ((x-y/h*s)/w) w,Gb ((i-j/h*s)/w) w];lia
   .rw[HM,Gb (y/h) h,Gb (j/h) h];lia
  .rintro⟨m,q,ex,ey⟩;have Qw:y=j+q*h:=by lia
   have Oo:x=i+(m*w+q*s):=Kd
   subst Oo Qw;rw[Jg,Jh _ _ Kd];refine#[?_,rfl];have e:i+(m*w+q*s)-(j/h+q)*s=i-j/h*s+m*w:=by rw[Hc];lia
   rw[e,Jg]
 unfold onB;congr 1;apply propext;rw[key,F.lat];constructor
 .rintro⟨m,q,eu,ev⟩;exact tw eu ev
 .exact λz=>tP hn z
def Cr(h:49<=c/\c<=54):cell [0,1,2,3,4,5,6] ((c:Int)-48)=(c:Int)-48:=by
 rcases(Kd:c=49\/c=50\/c=51\/c=52\/c=53\/c=54)with e|e|e|e|e|e<;>subst e<;>rfl
def motif_shows{c d:Int}(hL:Rows L)(F:FamOf a b c d w h s)(hn:¬a*d=b*c)(x y:Int):(lookD (hAll w h s 0 (L.map cs) []) (hmX w h s x y) (y%h)).getD 0=(bD L a b c d).shows x y:=by
 rw[uk];show((bZ (λi j=>decide (hmX w h s i j=hmX w h s x y/\j%h=y%h)) 0 L).map λc=>(c:Int)-48).getD 0=_;have e:(λi j=>decide (hmX w h s i j=hmX w h s x y/\j%h=y%h))=λi j=>onB a b c d (1*x+0*y+0-i) (0*x+1*y+0-j):=by
  funext i j;rw[Cq F hn];congr 1<;>lia
 rw[e];show _=match bZ (λi j=>onB a b c d (1*x+0*y+0-i) (0*x+1*y+0-j)) 0 L with|some c=>cell [0,1,2,3,4,5,6] ((c:Int)-48)|none=>0
 cases q:bZ (λi j=>onB a b c d (1*x+0*y+0-i) (0*x+1*y+0-j)) 0 L with
 |none=>rfl
 |some c=>
  have hc:49<=c/\c<=54:=kP (λl' q=>let ⟨_,_,_,h⟩:=hL;(h l' q).2) q;exact(Cr hc).symm
def ck(j:Nat)(x:E_):SpX:=λds R _=>∃(p:Pat) (v:D) (X Y:Int),ds=[v,.int X,.int Y]/\FormOf p v/\p.Wf/\p.depth<j/\p.cls=x/\R (.int (p.show X Y))
def fv{x:E_}{R:D->MS->Prop}:¬ofX (ck 0 x) ds M R RX:=by
 rintro⟨_,_,_,_,_,_,_,h,_⟩;exact absurd h (GU _)
structure PatOf(p:Pat)(w h s:Int)(fs:List (Str×D)):Prop extends Pat.Fam p w h s where
 form:∃v,fs.lookup ("form":E_)=be v/\FormOf p v
 nl:noLF fs=true
def aO(p:Pat)(d:D):Prop:=∃w h s fs,d=.obj "Pattern" fs/\fs.lookup ("text":E_)=be (.str p.text)/\fs.lookup ("shifts":E_)=be (.tup [.int w,.int h,.int s])/\PatOf p w h s fs
def aI(x:Int):Prop:=-1000000000000<=x/\x<=1000000000000
def Pat.show_le(h:p.Wf)(hd:p.depth<=40)(x y:Int):0<=p.show x y/\p.show x y<=6:=by
 rw[<-Pat.show_leaves h hd];exact tJ x y (Pat.leaf_ok h hd)
def bo(h:Int):Nat:=if h=0 then 46 else(48+h).toNat
def aB(p:Pat)(x y:Int)(n:Nat):Str:=#[((FN n).map λ(k:Nat)=>bo (p.show (x+(k:Int)) y)).toArray]
def ii(p:Pat)(x y:Int)(n:Nat):(aB p x y n).length=n:=by simp[aB,Str.length]
def kU(h0:0<=h)(h6:h<=6):atI (cs ".123456") h=be (bo h):=by
 rcases(Kd:h=0\/h=1\/h=2\/h=3\/h=4\/h=5\/h=6)with e|e|e|e|e|e|e<;>subst e<;>decide+kernel
variable{j:Int}
def range2_int{i:Int}{k:Nat}{x:D}(h:((FN (j-i).toNat).map λk=>D.int (i+((k:Nat):Int)))[k]?=be x):k<(j-i).toNat/\x=.int (i+(k:Int)):=by
 have hk:k<(j-i).toNat:=by simpa using(FZ.mp h).1
 refine#[hk,?_];simp[hk]at h;exact h.symm
def ul:∀L:List E_,cs (Str.join "" L)=L.flatMap cs
 |[]=>rfl
 |[x]=>by simp[Str.join]
 |x::y::r=>by
  show cs (x++""++Str.join "" (y::r))=_;rw[bI,bI,ul (y::r),tH];simp
def uo(f:Nat->Nat)(n:Nat):Str.join "" ((FN n).map λi=>(#[[f i].toArray]:E_))=#[((FN n).map f).toArray]:=by
 apply eZ;rw[ul,List.flatMap_map];show(FN n).flatMap (λi=>[f i])=(FN n).map f;rw[List.map_eq_flatMap]
def Cs:SiD:=λds R=>∃(t:E_) (w h s:Int) (x:E_) (fs:List (E_×D)),ds=[.str t,.tup [.int w,.int h,.int s],.obj x fs]/\R [("text",.str t),("shifts",.tup [.int w,.int h,.int s]),("form",.obj x fs)]
def uq:SpX:=λds R _=>∃p:Pat,ds=[.str p.text]/\p.Ok/\∀d,aO p d->R d
variable{R:My.D->Prop}
def ut(ok:p.Ok)(h:∀d,aO p d->R d):gU uq [.str p.text] R:=#[p,rfl,ok,h]
def Ct:SpX:=λds R RX=>∃x y:Int,ds=[.int x,.int y]/\(aI x/\aI y->R .non)/\(¬(aI x/\aI y)->RX "TooFar" [])
def uu:SpX:=λds R RX=>∃(p:Pat) (d:D) (x y:Int),ds=[d,.int x,.int y]/\aO p d/\p.Ok/\(aI x/\aI y->R (.int (p.show x y)))/\(¬(aI x/\aI y)->RX "TooFar" [])
variable{y:Int}
def Cu(hd:aO p d)(ok:p.Ok)(hx:aI x)(hy:aI y)(h:R (.int (p.show x y))):gU uu [d,.int x,.int y] R:=
 #[p,d,x,y,rfl,hd,ok,λ_=>h,λz=>z #[hx,hy]]
def Cw:SpD:=λds R=>∃(p:Pat) (d:D) (x y:Int) (n:Nat),ds=[d,.int x,.int y,.int n]/\aO p d/\p.Ok/\n<=1000/\aI x/\aI (x+n-1)/\aI y/\R (.str (aB p x y n))
def rowD(p:Pat)(x y:Int)(n:Nat):List D:=(FN n).map λ(i:Nat)=>D.str #[[bo (p.show (x+(i:Int)) y)].toArray]
def uv(p:Pat)(x y:Int)(k:Nat):rowD p x y k++[D.str #[[bo (p.show (x+(k:Int)) y)].toArray]]=rowD p x y (k+1):=by
 unfold rowD;rw[GT,Gr];rfl
variable{n:Nat}
def uw(p:Pat)(x y:Int)(hn:n<=1000):∃ys,cS (rowD p x y n)=be ys/\(ys.map (·.length)).sum+ys.length*("":E_).length<=1000000/\Txt.join "" ys=aB p x y n:=by
 have e1:rowD p x y n=((FN n).map λ(i:Nat)=>(#[[bo (p.show (x+(i:Int)) y)].toArray]:E_)).map D.str:=by unfold rowD;rw[Hr];rfl
 rw[e1];refine#[_,ib _,?_,(StrLaws.glued_eq_join _ _).trans (uo (λi=>bo (p.show (x+(i:Int)) y)) n)];rw[kO (w:=1) (λl hl=>by obtain⟨i,_,rfl⟩:=Gn.mp hl;rfl),FP,GY,show("":E_).length=0 from rfl];lia
def Cy{n:Int}:x.fmod n=0↔n∣x:=#[Int.dvd_of_fmod_eq_zero,Ig]
def Cz(a b c d u v i j:Int):onB a b c d (u+(i*a+j*c)) (v+(i*b+j*d))=onB a b c d u v:=by
 unfold onB;have e1:(u+(i*a+j*c))*d-(v+(i*b+j*d))*c=(u*d-v*c)+(a*d-b*c)*i:=Lm
 have e2:a*(v+(i*b+j*d))-b*(u+(i*a+j*c))=(a*v-b*u)+(a*d-b*c)*j:=Lm
 rw[e1,e2];simp only[Cy];have h1:(a*d-b*c∣u*d-v*c+(a*d-b*c)*i)↔a*d-b*c∣u*d-v*c:=Ji (Jj _ _);have h2:(a*d-b*c∣a*v-b*u+(a*d-b*c)*j)↔a*d-b*c∣a*v-b*u:=Ji (Jj _ _);simp only[h1,h2]
def Pat.Keeps(p:Pat)(X Y:Int):Prop:=∀x y,p.show (x+X) (y+Y)=p.show x y
def Pat.lat_keeps:∀{p:Pat} {X Y:Int},p.Lat X Y->p.Keeps X Y
 | .mot L a b c d,_,_,⟨i,j,rfl,rfl⟩,x,y=>by
  have e:∀u v:Int,onB a b c d (1*(x+(i*a+j*c))+0*(y+(i*b+j*d))+0-u) (0*(x+(i*a+j*c))+1*(y+(i*b+j*d))+0-v)=onB a b c d (1*x+0*y+0-u) (0*x+1*y+0-v):=λu v=>by
   rw[<-Cz a b c d (1*x+0*y+0-u) (0*x+1*y+0-v) i j];congr 1<;>lia
  show Leaf.shows _ _ _=Leaf.shows _ _ _;unfold Leaf.shows Leaf.hit;simp only[bD,e]
 |.over p q,X,Y,h,x,y=>by
  simp only[Pat.show];rw[Pat.lat_keeps h.1 x y,Pat.lat_keeps h.2 x y]
 |.sh a b p,X,Y,h,x,y=>by
  have:=Pat.lat_keeps (p:=p) h (x-a) (y-b);simp only[Pat.show];rw[<-this];congr 1<;>lia
 |.mir p,X,Y,h,x,y=>by
  have:=Pat.lat_keeps (p:=p) h (-x) y;simp only[Pat.show];rw[<-this];congr 1;lia
 |.tur p,X,Y,h,x,y=>by
  have:=Pat.lat_keeps (p:=p) h y (-x);simp only[Pat.show];rw[<-this];congr 1;lia
 |.hue f g p,X,Y,h,x,y=>by
  simp only[Pat.show];rw[Pat.lat_keeps (p:=p) h x y]
namespace Pat.Keeps
variable {p:Pat}{X Y U V:Int}
def zero:p.Keeps 0 0:=λx y=>by rw[GZ,GZ]
def add(h:p.Keeps X Y)(k:p.Keeps U V):p.Keeps (X+U) (Y+V):=λx y=>by
 rw[<-Hs,<-Hs,k,h]
def neg(h:p.Keeps X Y):p.Keeps (-X) (-Y):=λx y=>by
 have:=h (x+-X) (y+-Y);rw[<-this];congr 1<;>lia
def sub(h:p.Keeps X Y)(k:p.Keeps U V):p.Keeps (X-U) (Y-V):=by
 have:=h.add k.neg;rwa [<-Jk,<-Jk]at this
def nat(h:p.Keeps X Y):∀n:Nat,p.Keeps ((n:Int)*X) ((n:Int)*Y)
 |0=>by simpa using zero
 |n+1=>by
  have:=(nat h n).add h;have e:∀z:Int,((n+1:Nat):Int)*z=(n:Int)*z+z:=λz=>by rw[Hd,Hc];simp
  rw[e,e];exact this
def mul(h:p.Keeps X Y)(n:Int):p.Keeps (n*X) (n*Y):=by
 rcases IS 0 n with q|q
 .have:=h.nat n.toNat;rwa [Gi q]at this
 .have:=(h.nat (-n).toNat).neg;rw[Gi Kd]at this;simpa[GL]using this
end Pat.Keeps
def InF.keeps(a:p.Keeps w 0)(b:p.Keeps s h)(q:InF w h s x y):p.Keeps x y:=by
 obtain⟨i,j,rfl,rfl⟩:=q;have:=(a.mul i).add (b.mul j);rwa [HN,Il]at this
def InF.one(w h s:Int):InF w h s w 0:=#[1,0,Kd,Kd]
def InF.two(w h s:Int):InF w h s s h:=#[0,1,Kd,Kd]
def Pat.Fam.keeps(f:p.Fam w h s)(q:InF w h s x y):p.Keeps x y:=Pat.lat_keeps ((f.lat x y).mp q)
structure Pat.Kfam(p:Pat)(w h s:Int):Prop where
 f:Fam0 w h s
 keeps:∀{x y},InF w h s x y->p.Keeps x y
def Pat.Fam.k(F:p.Fam w h s):p.Kfam w h s:=#[F.f,F.keeps]
structure Pat.Least(p:Pat)(w h s:Int):Prop where
 f:Fam0 w h s
 lat:∀x y,InF w h s x y↔p.Keeps x y
variable{w' h' s':Int}
def Pat.Least.uniq(a:p.Least w h s)(b:p.Least w' h' s'):w=w'/\h=h'/\s=s':=
 InF.uniq a.f.w0 a.f.h0 a.f.s0 a.f.sw b.f.w0 b.f.h0 b.f.s0 b.f.sw λx y=>(a.lat x y).trans (b.lat x y).symm
def CA{P:Nat->Prop}(h:∃n,P n):∃n,P n/\∀m,P m->n<=m:=by
 obtain⟨n,hn⟩:=h;induction n using Jl with
 |ind n ih=>
  by_cases q:∃m,m<n/\P m
  .obtain⟨m,hm,pm⟩:=q;exact ih m hm pm
  .exact#[n,hn,λm pm=>Hk λz=>q #[m,z,pm]]
def ux(hw:0<w)(h:P w):∃n:Int,0<n/\P n/\∀m,0<m->P m->n<=m:=by
 obtain⟨n,⟨a,b⟩,c⟩:=CA (P:=λn=>0<n/\P (n:Int)) #[w.toNat,Kd,by rw[Gi Kd];exact h];exact#[n,Kd,b,λm hm pm=>by have:=c m.toNat #[Kd,by rw[Gi Kd];exact pm];lia]
def uy{n:Int}(hn:0<n)(pn:P n)(l:∀m,0<m->P m->n<=m)(cl:∀x q,P x->P (x-q*n))(hx:P x):n∣x:=by
 have e:=Gw x n;have a:=Gp x (Kd:n≠0);have b:=Gq x hn;have c:=cl x (x/n) hx;have d:x-x/n*n=x%n:=by rw[e,Gb]
 rw[d]at c;by_cases z:x%n=0
 .exact Int.dvd_of_emod_eq_zero z
 .have:=l _ Kd c;lia
def Pat.least_ex(F:p.Kfam w h s):∃w' h' s',p.Least w' h' s'/\w'∣w/\h'∣h/\w'*h'<=w*h/\w'<=w/\h'<=h:=by
 obtain⟨m,m0,mk,ml⟩:=ux (P:=λx=>p.Keeps x 0) F.f.w0 (F.keeps (InF.one w h s));have md:∀{x},p.Keeps x 0->m∣x:=λ{x} q=>uy (P:=λx=>p.Keeps x 0) m0 mk ml (λx q hx=>by
  have:=hx.sub (mk.mul q);rwa [HN,HI]at this) q
 obtain⟨k,k0,⟨t,kk⟩,kl⟩:=ux (P:=λy=>∃x,p.Keeps x y) F.f.h0 #[s,F.keeps (InF.two w h s)];have kd:∀{x y},p.Keeps x y->k∣y:=λ{x y} q=>uy (P:=λy=>∃x,p.Keeps x y) k0 #[t,kk] kl (λy q ⟨x,hx⟩=>#[x-q*t,hx.sub (kk.mul q)]) #[x,q];have e:=Gw t m;have sk:p.Keeps (t%m) k:=by
  have:=kk.sub (mk.mul (t/m));rw[HN,HI]at this;rw[e,Gb];exact this
 have L:p.Least m k (t%m):=by
  refine#[#[m0,k0,Gp t Kd,Gq t m0],λx y=>#[λq=>q.keeps mk sk,λq=>?_]];obtain⟨j,rfl⟩:=kd q;have:=q.sub (sk.mul j);rw[Gb k j,Jc]at this;obtain⟨i,hi⟩:=md this;exact#[i,j,by rw[Gb i m,<-hi];lia,Gb _ _]
 obtain⟨a,b,c⟩:=InF.le m0 k0 F.f.w0 F.f.h0 (λx y q=>(L.lat x y).mpr (F.keeps q));exact#[m,k,_,L,md (F.keeps (InF.one w h s)),kd (F.keeps (InF.two w h s)),a,b,c]
def uz(hw:0<w)(hh:0<h)(x y:Int):InF w h s (x-hmX w h s x y) (y-y%h):=by
 have e1:=Gw y h;have e2:=Gw (x-y/h*s) w;refine#[(x-y/h*s)/w,y/h,?_,by rw[e1,Gb];lia];unfold hmX;rw[e2,Gb w];lia
def Pat.show_home(hw:0<w)(hh:0<h)(k:∀x y,InF w h s x y->p.Keeps x y)(x y:Int):p.show (hmX w h s x y) (y%h)=p.show x y:=by
 have:=k _ _ (uz (s:=s) hw hh x y) (hmX w h s x y) (y%h);rw[<-this];congr 1<;>lia
def CB(f:Nat->Nat){w:Nat}(h:c<w):((FN w).map f).drop c++((FN w).map f).take c=(FN w).map λk=>f ((c+k)%w):=by
 apply Hl;intro i;by_cases h1:i<w-c
 .rw[Gz (by simp;exact h1),List.getElem?_drop,FT,FT,Gv Kd,Gv Kd];simp[Jn (show c+i<w by lia)]
 .rw[GI Ou];simp only[G3,FP,GY];by_cases h2:i<w
  .rw[Iy Kd,FT,FT,Gv Kd,Gv Kd];have e:(c+i)%w=i-(w-c):=by
    rw[show c+i=(i-(w-c))+w by lia,Nat.add_mod_right,Jn Kd]
   simp[e]
  .rw[GE Ou,GE Ou]
def fX(l:List Nat):cs (#[l.toArray]:E_)=l:=Ld
def CC{c:Int}(ht:cs t=l)(c0:0<=c)(cl:c<l.length):Txt.slice t (be c) s_++Txt.slice t s_ (be c)=(#[(l.drop c.toNat++l.take c.toNat).toArray]:E_):=by
 have hl:t.length=l.length:=by rw[<-ht,bi]
 apply eZ;rw[bI,slice_cps,slice_cps,fX,fX,fX,show t.cps.toList=l from ht,hl];have e1:HT.sIx l.length 0 (be c)=c.toNat:=by show(if c<0 then _ else min c.toNat l.length)=_;rw[if_neg Kd];lia
 have e2:HT.sIx l.length l.length s_=l.length:=rfl;have e3:HT.sIx l.length 0 s_=0:=rfl;have e4:HT.sIx l.length l.length (be c)=c.toNat:=by show(if c<0 then _ else min c.toNat l.length)=_;rw[if_neg Kd];lia
 rw[e1,e2,e3,e4,Im,G7 Ld];rfl
def cK(p:Pat)(x y:Int)(n:Nat):cs (aB p x y n)=(FN n).map λ(k:Nat)=>bo (p.show (x+(k:Int)) y):=fX _
def va(hw:0<w)(hh:0<h)(k:∀x y,InF w h s x y->p.Keeps x y)(x y:Int):
  Txt.slice (aB p 0 (y%h) w.toNat) (be (hmX w h s x y)) s_++Txt.slice (aB p 0 (y%h) w.toNat) s_ (be (hmX w h s x y))=aB p x y w.toNat:=by
 have c0:0<=hmX w h s x y:=Gp _ Kd;have c1:hmX w h s x y<w:=Gq _ hw;rw[CC (cK p 0 (y%h) w.toNat) c0 Ou,CB _ Kd];unfold aB;congr 2;apply HA;intro i _;have e:=Pat.show_home hw hh k (x+(i:Int)) y;rw[<-e];congr 2;have q:hmX w h s (x+(i:Int)) y=(hmX w h s x y+i)%w:=by
  unfold hmX;rw[Int.emod_add_emod];congr 1;lia
 rw[q,Il,Jo,Hd,Gi c0,Gi Kd]
def bu(p:Pat)(w h:Int):D:=.lst ((FN h.toNat).map λ(y:Nat)=>D.str (aB p 0 (y:Int) w.toNat))
def CD:SpD:=λds R=>∃(p:Pat) (d:D),ds=[d]/\aO p d/\p.Ok/\∀w h s,p.Fam w h s->w*h<=720->w<=720->h<=720->R (bu p w h)
def CF:SpD:=λds R=>∃(p:Pat) (w h s x y:Int),ds=[.tup [.int w,.int h,.int s],bu p w h,.int x,.int y]/\p.Fam w h s/\w<=720/\h<=720/\R (.str (aB p x y w.toNat))
def kW(a0:0<=a)(a6:a<=6)(b0:0<=b)(b6:b<=6)(e:bo a=bo b):a=b:=by
 unfold bo at e;split at e<;>split at e<;>lia
def CG{u v:Int}(hp:p.Ok)(hq:q.Ok)(e:aB p x y n=aB q u v n){k:Nat}(hk:k<n):p.show (x+k) y=q.show (u+k) v:=by
 have e2:cs (aB p x y n)=cs (aB q u v n):=by rw[e]
 rw[cK,cK]at e2;have e3:=congrArg (λl=>l[k]?) e2;simp[hk]at e3;have a:=Pat.show_le hp.wf (by have:=hp.deep;lia) (x+k) y;have b:=Pat.show_le hq.wf (by have:=hq.deep;lia) (u+k) v;exact kW a.1 a.2 b.1 b.2 e3
def rowText_eq{u v:Int}(e:∀k:Nat,k<n->p.show (x+k) y=q.show (u+k) v):aB p x y n=aB q u v n:=by
 apply eZ;rw[cK,cK];exact HA λk hk=>by rw[e k (by simpa using hk)]
def ij(ok:p.Ok)(F:p.Kfam w h s)(x y:Int):(∀j:Nat,j<h.toNat->aB p x (y+j) w.toNat=aB p 0 j w.toNat)↔p.Keeps x y:=by
 have hw:=F.f.w0;have hh:=F.f.h0;constructor
 .intro e a b;have c0:0<=hmX w h s a b:=Gp _ Kd;have c1:hmX w h s a b<w:=Gq _ hw;have d0:0<=b%h:=Gp _ Kd;have d1:b%h<h:=Gq _ hh;have k:=F.keeps (uz (s:=s) hw hh a b);have q:=CG ok ok (e (b%h).toNat Kd) (k:=(hmX w h s a b).toNat) Kd;rw[Gi c0,Gi d0]at q;have q1:=k (x+hmX w h s a b) (y+b%h);have q2:=k (0+hmX w h s a b) (b%h);rw[show x+hmX w h s a b+(a-hmX w h s a b)=a+x by lia,show y+b%h+(b-b%h)=b+y by lia]at q1;rw[show 0+hmX w h s a b+(a-hmX w h s a b)=a by lia,show b%h+(b-b%h)=b by lia]at q2;rw[q1,q2,q]
 .intro k j _;exact rowText_eq λi _=>by
   have:=k (0+i) j;rw[<-this];congr 1<;>lia
def CH:SpD:=λds R=>∃n:Int,ds=[.int n]/\0<n/\n<=1000/\∀ns:List Int,ns.length<=1000->(∀m,m∈ns↔1<=m/\m<=n/\n%m=0)->R (.lst (ns.map D.int))
def CI:SpD:=λds R=>∃(p:Pat) (w h s x y:Int),ds=[.tup [.int w,.int h,.int s],bu p w h,.int x,.int y]/\p.Ok/\p.Fam w h s/\w<=720/\h<=720/\∀b,(b=true↔p.Keeps x y)->R (.bl b)
structure Pat.LeastW(p:Pat)(w m:Int):Prop where
 lo:1<=m
 hi:m<=w
 md:w%m=0
 k:p.Keeps m 0
 l:∀d,1<=d->d<=w->w%d=0->p.Keeps d 0->m<=d
def Pat.LeastW.eq{m:Int}(F:p.Fam w h s)(L:p.Least w' h' s')(a:p.LeastW w m):m=w':=by
 have w0:=L.f.w0;have k:p.Keeps w' 0:=(L.lat _ _).mp (InF.one _ _ _);obtain⟨i,j,e1,e2⟩:=(L.lat m 0).mpr a.k;have h0:=L.f.h0;have j0:j=0:=by
  rcases Hf j 0 with q|q|q
  .have:=HP q h0;lia
  .exact q
  .have:=F7 q h0;lia
 subst j0;rw[HH,GZ]at e1;have lo:=a.lo;have i0:0<i:=by
  rcases Hf i 0 with q|q|q
  .have:=HP q w0;lia
  .subst q;lia
  .exact q
 have h1:w'<=m:=by
  rw[e1];have:=Ga (show 1<=i by lia) (show 0<=w' by lia);lia
 obtain⟨i2,j2,f1,f2⟩:=(L.lat w 0).mpr (F.keeps (InF.one w h s));have Qx:j2=0:=by
  rcases Hf j2 0 with q|q|q
  .have:=HP q h0;lia
  .exact q
  .have:=F7 q h0;lia
 subst Qx;have h2:=a.l w' Kd (by have:=a.hi;lia) (by rw[f1,HH,GZ];exact HD _ _) k;lia
def CJ:SpD:=λds R=>∃(p:Pat) (w h s:Int),ds=[.tup [.int w,.int h,.int s],bu p w h]/\p.Ok/\p.Fam w h s/\w<=720/\h<=720/\∀m,p.LeastW w m->R (.int m)
def CK:SpD:=λds R=>∃(p:Pat) (w h s m y:Int),ds=[.tup [.int w,.int h,.int s],bu p w h,.int m,.int y]/\p.Ok/\p.Fam w h s/\w<=720/\h<=720/\0<=m/\m<=720/\(∀t,0<=t->t<m->p.Keeps t y->(∀u,0<=u->u<t->¬p.Keeps u y)->R (.int t))/\((∀t,0<=t->t<m->¬p.Keeps t y)->R .non)
def CL(h0:0<h)(e:h=j*h):j=1:=by
 have:(j-1)*h=0:=by rw[HM,<-e];lia
 rcases HJ.mp this with q|q<;>lia
def small_mul{i:Int}(w0:0<w)(a:-w<i*w)(b:i*w<w):i=0:=by
 rcases Hf i 0 with q|q|q
 .have:=Ga (show i<=-1 by lia) (show 0<=w by lia);lia
 .exact q
 .have:=Ga (show 1<=i by lia) (show 0<=w by lia);lia
def Pat.Least.slant{t:Int}(L:p.Least w h s)(a:0<=t)(b:t<w)(k:p.Keeps t h):t=s:=by
 obtain⟨i,j,e1,e2⟩:=(L.lat t h).mpr k;have j1:=CL L.f.h0 e2;subst j1;have s0:=L.f.s0;have sw:=L.f.sw;have:=small_mul (i:=i) L.f.w0 Kd Kd;subst this;lia
def Pat.Least.row(L:p.Least w h s)(k:p.Keeps x y):p.Keeps (x%w) y:=by
 have e:=Gw x w;have:=k.sub (((L.lat _ _).mp (InF.one w h s)).mul (x/w));rw[HN,HI]at this;rw[e,Gb];exact this
def Pat.Least.down(L:p.Least w h s)(k:p.Keeps x y)(y0:0<y):h<=y/\y%h=0:=by
 obtain⟨i,j,e1,e2⟩:=(L.lat x y).mpr k;have h0:=L.f.h0;have j0:0<j:=by
  rcases Hf j 0 with q|q|q
  .have:=HP q h0;lia
  .subst q;lia
  .exact q
 have:=Ga (show 1<=j by lia) (show 0<=h by lia);exact#[Kd,by rw[e2];exact HD _ _]
def CM:SpD:=λds R=>∃(p:Pat) (d:D),ds=[d]/\aO p d/\p.Ok/\∀w h s,p.Least w h s->w*h<=720->w<=720->h<=720->R (.tup [.int w,.int h,.int s])
def fY(p:Pat)(w h s:Int):D:=.tup [.int w,.int h,.int s,.tup ((FN h.toNat).map λ(y:Nat)=>D.str (aB p 0 (y:Int) w.toNat))]
def CN:SpD:=λds R=>∃(p:Pat) (d:D),ds=[d]/\aO p d/\p.Ok/\∀w h s,p.Least w h s->w*h<=720->w<=720->h<=720->R (fY p w h s)
def CO:SpD:=λds R=>∃xs:List Int,ds=[.tup (xs.map D.int),.tup (xs.map D.int)]/\xs.length<=1000/\R (.bl true)
def CP(ok:p.Ok)(h:∀w h s,p.Fam w h s->w*h<=720->w<=720->h<=720->R (.tup [.int w,.int h,.int s])):tS [.lst (p.leaves.map Leaf.D)] R:=by
 refine#[p.leaves,p.depth,rfl,λz=>by have:=Pat.leaves_pos p;rw[z]at this;simp at this,λl hl=>Pat.leaf_good ok.wf l hl,λw k s f lat=>?_];have F:p.Fam w k s:=#[f,λx y=>(lat x y).trans (Pat.lat_leaves p x y)];have sm:=ok.fits.small F;have wh:w*k<=720:=by
  obtain⟨w',h',s',f',hb⟩:=ok.fits;obtain⟨rfl,rfl,_⟩:=F.uniq f';exact hb
 exact#[λ_=>h w k s F wh sm.2.1 sm.2.2.2.1,λz=>Kd]
def FamD(p:Pat):D->Prop:=λx=>∃w h s:Int,x=.tup [.int w,.int h,.int s]/\p.Fam w h s/\w*h<=720/\w<=720/\h<=720
def vb(p:Pat):D->Prop:=λx=>∃w h s:Int,x=.tup [.int w,.int h,.int s]/\p.Least w h s/\w*h<=720/\w<=720/\h<=720
def Pat.Least.le(F:p.Fam w h s)(L:p.Least w' h' s'):w'*h'<=w*h:=(InF.le L.f.w0 L.f.h0 F.f.w0 F.f.h0 (λx y q=>(L.lat x y).mpr (F.keeps q))).1
def CQ(p:Pat)(x y:Int)(n:Nat):Txt.join "" ((FN n).map λ(i:Nat)=>(#[[bo (p.show (x+(i:Int)) y)].toArray]:E_))=aB p x y n:=(StrLaws.glued_eq_join _ _).trans (uo (λi=>bo (p.show (x+(i:Int)) y)) n)
def CS(f:Nat->Nat)(n:Nat):(((FN n).map λ(i:Nat)=>(#[[f i].toArray]:E_)).map (·.length)).sum=n:=by
 rw[kO (w:=1) (λl hl=>by obtain⟨i,_,rfl⟩:=Gn.mp hl;rfl),FP,GY,Nat.mul_one]
def vc(f:Nat->E_)(n:Nat):((FN n).map λ(i:Nat)=>D.str (f i))=((FN n).map f).map D.str:=by rw[Hr];rfl
def CT:SpD:=λds R=>∃(p:Pat) (w h s:Int),ds=[.lst (p.leaves.map Leaf.D),.tup [.int w,.int h,.int s]]/\p.Wf/\p.depth<=5/\0<w/\w<=720/\0<h/\h<=720/\R (bu p w h)
def CU:SpD:=λds R=>∃(p:Pat) (w h s x y:Int),ds=[bu p w h,.tup [.int w,.int h,.int s],.int x,.int y]/\p.Ok/\p.Kfam w h s/\w<=720/\h<=720/\∀b,(b=true↔p.Keeps x y)->R (.bl b)
def Pat.Least.first(L:p.Least w h s)(k:p.Keeps x y)(y0:0<=y)(yh:y<h)(x0:0<=x)(xw:x<w):x=0/\y=0:=by
 obtain⟨i,j,e1,e2⟩:=(L.lat x y).mpr k;have h0:=L.f.h0;have j0:=small_mul (i:=j) h0 Kd Kd;subst j0;have i0:=small_mul (i:=i) L.f.w0 Kd Kd;subst i0;lia
def CV:SpD:=λds R=>∃(p:Pat) (w h s:Int),ds=[bu p w h,.tup [.int w,.int h,.int s]]/\p.Ok/\p.Kfam w h s/\w<=720/\h<=720/\∀w' h' s',p.Least w' h' s'->w'*h'<=w*h->w'<=w->h'<=h->R (.tup [.int w',.int h',.int s'])
def sumN(g:Nat->Int):Nat->Int
 |0=>0
 |n+1=>sumN g n+g n
def dX{g f:Nat->Int}:∀{n:Nat},(∀k,k<n->g k=f k)->sumN g n=sumN f n
 |0,_=>rfl
 |n+1,h=>by rw[sumN,sumN,dX λk hk=>h k Kd,h n Kd]
def ik(g:Nat->Int)(n:Nat):∀m:Nat,sumN g (n+m)=sumN g n+sumN (λk=>g (n+k)) m
 |0=>by simp[sumN]
 |m+1=>by rw[<-Nat.add_assoc,sumN,sumN,ik g n m];lia
def vd(g f:Nat->Int):∀n:Nat,sumN (λk=>g k+f k) n=sumN g n+sumN f n
 |0=>rfl
 |n+1=>by simp only[sumN,vd g f n];lia
variable{N:Nat}
def CW{g:Nat->Int}(hN:0<N)(KN:∀k,g (k+N)=g k)(n:Nat):sumN (λj=>(((n:Int)-1-j)/N+1)*g j) (min n N)=sumN g n:=by
 induction n using Jl with
 |ind n ih=>
  by_cases h:n<=N
  .rw[Ht h];refine dX λk hk=>?_;rw[Jp Kd Kd];simp
  .have e1:n=N+(n-N):=by lia
   have i:=ih (n-N) Kd;have Nw:sumN (λk=>g (N+k)) (n-N)=sumN g (n-N):=dX λk _=>by rw[Ik];exact KN k
   rw[HQ Kd];have e2:sumN g n=sumN g N+sumN g (n-N):=by
    conv=>lhs;rw[e1]
    rw[ik,Nw]
   rw[e2,<-i];have e3:min (n-N) N+(N-min (n-N) N)=N:=Kd
   have split:∀f:Nat->Int,sumN f N=sumN f (min (n-N) N)+sumN (λk=>f (min (n-N) N+k)) (N-min (n-N) N):=λf=>by
    conv=>lhs;rw[<-e3]
    exact ik _ _ _
   rw[split,split g];have a:sumN (λj=>(((n:Int)-1-j)/N+1)*g j) (min (n-N) N)=sumN g (min (n-N) N)+sumN (λj=>((((n-N:Nat):Int)-1-j)/N+1)*g j) (min (n-N) N):=by
    rw[<-vd];refine dX λk hk=>?_;have q:((n:Int)-1-k)/N=(((n-N:Nat):Int)-1-k)/N+1:=by
     rw[show((n:Int)-1-k)=(((n-N:Nat):Int)-1-k)+1*N by lia,Jh _ _ Kd]
    rw[q,Hc];lia
   have b:sumN (λk=>(((n:Int)-1-((min (n-N) N+k:Nat):Int))/N+1)*g (min (n-N) N+k)) (N-min (n-N) N)=sumN (λk=>g (min (n-N) N+k)) (N-min (n-N) N):=by
    refine dX λk hk=>?_;rw[Jp Kd Kd];simp
   rw[a,b];lia
def cntN(f:Nat->Int)(v:Int)(n:Nat):Int:=sumN (λk=>if f k=v then 1 else 0) n
def ve(f:Nat->Int)(v:Int):∀n,0<=cntN f v n/\cntN f v n<=n
 |0=>by simp[cntN,sumN]
 |n+1=>by
  have:=ve f v n;unfold cntN at this ⊢;rw[sumN];split<;>lia
def CY{f:Nat->Int}{w:Nat}(hw:0<w)(KN:∀k,f (k+w)=f k)(v:Int)(m:Nat):((m/w:Nat):Int)*cntN f v w+cntN f v (m%w)=cntN f v m:=by
 have key:∀q r:Nat,cntN f v (w*q+r)=(q:Int)*cntN f v w+cntN f v r:=λq=>by
  have sh:∀q k,f (w*q+k)=f k:=λq=>by
   induction q with
   |zero=>intro k;rw[Nat.mul_zero,Io]
   |succ q ih=>intro k;rw[Jq,show w*q+w+k=w*q+k+w by lia,KN];exact ih k
  induction q with
  |zero=>intro r;simp
  |succ q ih=>
   intro r;rw[Jq,show w*q+w+r=w*q+(w+r)by lia,ih,Hd,Hc];have e:cntN f v (w+r)=cntN f v w+cntN f v r:=by
    unfold cntN;rw[ik];congr 1;refine dX λk _=>?_;rw[Ik w k,KN]
   rw[e];simp;lia
 have:=key (m/w) (m%w);rw[Nat.div_add_mod]at this;exact this.symm
def il(y:E_)(c:Nat):∀(m a:Nat) (st:Array Nat×Nat),a+m=y.length+1->st.2<=a->st.1.size<=a->(forIn (List.range' a m) st (StrLaws.occBody y #[[c].toArray] y.length (y.length+1))).run.fst.size=st.1.size+(((cs y).drop a).filter (·==c)).length
 |0,a,st,h,_,_=>by
  rw[Ip (by rw[bi];lia)];rfl
 |m+1,a,st,h,h1,h2=>by
  have l1:(#[[c].toArray]:E_).length=1:=rfl;have q:=StrLaws.subAt_eq y #[[c].toArray] a;rw[List.range'_succ,Ia];by_cases ha:a<y.length
  .have hd:(cs y).drop a=(cs y)[a]'(by rw[bi];exact ha)::(cs y).drop (a+1):=GX (by rw[bi];exact ha);rw[show y.cps.toList.drop a=_ from hd,l1]at q;rw[hd,List.filter_cons];by_cases e:(cs y)[a]'(by rw[bi];exact ha)=c
   .have eb:StrLaws.occBody y #[[c].toArray] y.length (y.length+1) a st=pure (.yield (st.1.push a,a+1)):=by
     unfold StrLaws.occBody;rw[if_pos #[#[#[Kd,h1],by rw[l1];lia],by rw[q];simp[e]],l1]
    rw[eb];have:=il y c m (a+1) (st.1.push a,a+1) Kd (FM _) Ou;simp only[e,beq_self_eq_true,if_true,FV];refine Eq.trans this ?_;simp only[Array.size_push];lia
   .have eb:StrLaws.occBody y #[[c].toArray] y.length (y.length+1) a st=pure (.yield (st.1,st.2)):=by
     unfold StrLaws.occBody;rw[if_neg];rintro⟨_,z⟩;rw[q]at z;simp at z;exact e z
    rw[eb];have:=il y c m (a+1) st Kd Kd Kd;rw[if_neg (by simpa using e)];exact this
  .have eb:StrLaws.occBody y #[[c].toArray] y.length (y.length+1) a st=pure (.yield (st.1,st.2)):=by
    unfold StrLaws.occBody;rw[if_neg];rintro⟨⟨_,z⟩,_⟩;rw[l1]at z;lia
   rw[eb];have:=il y c m (a+1) st Kd Kd Kd;rw[Ip (by rw[bi];lia)];rw[Ip (by rw[bi];lia)]at this;exact this
def CZ(y:E_)(c:Nat):(Builtin.Str.occurrences y #[[c].toArray] 0 y.length (y.length+1)).length=((cs y).filter (·==c)).length:=by
 rw[StrLaws.occ_eq,GP,il y c _ 0 _ Kd (FM _) (FM _)];simp
def vf(f:Nat->Int)(b:∀k,0<=f k/\f k<=6){v:Int}(v0:0<=v)(v6:v<=6):∀n:Nat,(((((FN n).map λk=>bo (f k)).filter (·==bo v)).length:Nat):Int)=cntN f v n
 |0=>rfl
 |n+1=>by
  rw[GT,Gr,List.filter_append,F8,Hd,vf f b v0 v6 n];show _=cntN f v n+_;congr 1;by_cases e:f n=v
  .simp[e]
  .have:¬bo (f n)=bo v:=λz=>e (kW (b n).1 (b n).2 v0 v6 z);simp[this,e]
def C0(ok:p.Ok)(x y:Int){v:Int}(v0:0<=v)(v6:v<=6)(n:Nat):(((cs (aB p x y n)).filter (·==bo v)).length:Int)=cntN (λk=>p.show (x+k) y) v n:=by
 rw[cK];exact vf _ (λk=>Pat.show_le ok.wf (by have:=ok.deep;lia) _ _) v0 v6 n
def C1(p:Pat)(x y:Int){r:Nat}(h:r<=n):Txt.slice (aB p x y n) s_ (be (r:Int))=aB p x y r:=by
 apply eZ;rw[slice_cps,fX,cK,show(aB p x y n).cps.toList=_ from cK p x y n,ii];have e1:HT.sIx n 0 s_=0:=rfl;have e2:HT.sIx n n (be (r:Int))=r:=by show(if(r:Int)<0 then((r:Int)+n).toNat else min (r:Int).toNat n)=r;rw[if_neg Kd];lia
 rw[e1,e2,Im,Jr,<-List.map_take,List.take_range,Ht h]
def occC(t:E_)(c:Nat):Int:=((Builtin.Str.occurrences t #[[c].toArray] 0 t.length (t.length+1)).length:Nat)
def vg(ok:p.Ok)(x y:Int){v:Int}(v0:0<=v)(v6:v<=6)(n:Nat):occC (aB p x y n) (bo v)=cntN (λk=>p.show (x+k) y) v n:=by
 unfold occC;rw[CZ,C0 ok x y v0 v6]
def cC(p:Pat)(v left top:Int)(m n:Nat):Int:=sumN (λj=>cntN (λk=>p.show (left+k) (top+j)) v m) n
def dY(p:Pat)(left top:Int)(m n:Nat):List Int:=(FN 7).map λ(v:Nat)=>cC p v left top m n
def C3:SpD:=λds R=>∃(p:Pat) (x y v m:Int) (w:Nat),ds=[.str (aB p x y w),.str #[[bo v].toArray],.int m]/\p.Ok/\0<=v/\v<=6/\0<w/\w<=720/\0<=m/\m<2^63/\p.Keeps w 0/\R (.int (cntN (λk=>p.show (x+k) y) v m.toNat))
def Pat.Fam.across(F:p.Fam w h s):p.Keeps w 0:=F.keeps (InF.one w h s)
def Pat.Fam.down(F:p.Fam w h s):p.Keeps 0 (w*h):=F.keeps #[-s,w,by rw[GL,Gb w s];lia,rfl]
def C4(hN:0<N)(k:p.Keeps 0 N)(v left top:Int)(m n:Nat):sumN (λj=>(((n:Int)-1-j)/N+1)*cntN (λk=>p.show (left+k) (top+j)) v m) (min n N)=cC p v left top m n:=by
 refine CW (g:=λj=>cntN (λk=>p.show (left+k) (top+j)) v m) hN (λj=>?_) n;unfold cntN;refine dX λi _=>?_;have e:p.show (left+i) (top+((j+N:Nat):Int))=p.show (left+i) (top+j):=by
  have:=k (left+i) (top+j);rw[GZ]at this;rw[<-this,Hd,Hs]
 simp only[e]
def C5{α:Type}(f g:Nat->α)(h:∀v,v<n->v≠i->g v=f v):((FN n).map f).set i (g i)=(FN n).map g:=by
 apply Hl;intro k;rw[GS];by_cases hk:i=k
 .subst hk;simp only[if_true,FP,GY];by_cases hi:i<n
  .simp[hi]
  .simp[hi]
 .rw[if_neg hk];by_cases hi:k<n
  .simp[hi,h k hi (Ne.symm hk)]
  .simp[hi]
def C6:cn ".123456"=(FN 7).map λ(v:Nat)=>D.str #[[bo (v:Int)].toArray]:=by
 unfold cn;rw[show(".123456":E_).cps.toList=[46,49,50,51,52,53,54]by decide+kernel];rfl
def cu(p:Pat)(left top:Int)(m n N k:Nat)(v:Int):Int:=sumN (λj=>(((n:Int)-1-j)/N+1)*cntN (λi=>p.show (left+i) (top+j)) v m) k
variable{top a9:Int}
def C7{W:Int}(hn:(a9-top+1).toNat=n)(wN:W=(N:Int)):((if top+W<a9+1 then top+W else a9+1)-top).toNat=min n N:=by split<;>lia
def C8{W:Int}(a:-1000000000000<=top/\top<=1000000000000)(c:-1000000000000<=a9/\a9<=1000000000000)(w0:0<W)(w1:W<=720):-(2^62)<=top/\top<2^62/\-(2^62)<=(if top+W<a9+1 then top+W else a9+1)/\(if top+W<a9+1 then top+W else a9+1)<2^62:=by split<;>lia
def C9{k:Nat}(hn:(a9-top+1).toNat=n)(hk:k<min n N):a9-(top+k)=(n:Int)-1-k:=Kd
def vh{l r:Int}{m:Nat}(a:-1000000000000<=l/\l<=1000000000000)(b:-1000000000000<=r/\r<=1000000000000)(h:(r-l+1).toNat=m):m<=2000000000001:=Kd
def Da(x:Int):(if 0>x then 0 else x)=(x.toNat:Int):=by split<;>lia
def Db:SpX:=λds R RX=>∃(p:Pat) (d:D) (left top right a9:Int),ds=[d,.int left,.int top,.int right,.int a9]/\aO p d/\p.Ok/\(aI left/\aI top/\aI right/\aI a9->R (.lst ((dY p left top (right-left+1).toNat (a9-top+1).toNat).map D.int)))/\(¬(aI left/\aI top/\aI right/\aI a9)->RX "TooFar" [])
def vi:SpX:=λds R RX=>∃(p:Pat) (d:D) (hue left top right a9:Int),ds=[d,.int hue,.int left,.int top,.int right,.int a9]/\aO p d/\p.Ok/\0<=hue/\hue<=6/\(aI left/\aI top/\aI right/\aI a9->R (.int (cC p hue left top (right-left+1).toNat (a9-top+1).toNat)))/\(¬(aI left/\aI top/\aI right/\aI a9)->RX "TooFar" [])
def Dc{v l t r:Int}(hd:aO p d)(ok:p.Ok)(v0:0<=v)(v6:v<=6)(n:aI l/\aI t/\aI r/\aI b)(h:R (.int (cC p v l t (r-l+1).toNat (b-t+1).toNat))):gU vi [d,.int v,.int l,.int t,.int r,.int b] R:=#[p,d,v,l,t,r,b,rfl,hd,ok,v0,v6,λ_=>h,λz=>z n]
def vj(X Y:Int):(Pat.mir p).Keeps X Y↔p.Keeps (-X) Y:=by
 constructor<;>intro h x y
 .have:=h (-x) y;simp only[Pat.show,HR,Js]at this;exact this
 .have:=h (-x) y;simp only[Pat.show,HR];exact this
def vk(X Y:Int):(Pat.tur p).Keeps X Y↔p.Keeps Y (-X):=by
 constructor<;>intro h x y
 .have:=h (-y) x;simp only[Pat.show,HR,Js]at this;exact this
 .have:=h y (-x);simp only[Pat.show,HR];exact this
def vm(a b X Y:Int):(Pat.sh a b p).Keeps X Y↔p.Keeps X Y:=by
 constructor<;>intro h x y
 .have:=h (x+a) (y+b);simp only[Pat.show]at this;rw[show x+a+X-a=x+X by lia,show y+b+Y-b=y+Y by lia,show x+a-a=x by lia,show y+b-b=y by lia]at this;exact this
 .have:=h (x-a) (y-b);simp only[Pat.show];rw[show x+X-a=x-a+X by lia,show y+Y-b=y-b+Y by lia];exact this
def Pat.Least.mir(k:p.Least w h s):(Pat.mir p).Least w h (-s%w):=by
 refine#[#[k.f.w0,k.f.h0,bX k.f.w0,bY k.f.w0],λx y=>?_];rw[vj,<-k.lat];have e:=Gw (-s) w;generalize -s%w=r at e;generalize -s/w=t at e;constructor
 .rintro⟨i,j,rfl,rfl⟩;exact#[j*t-i,j,by rw[e];grind,rfl]
 .rintro⟨i,j,ex,rfl⟩;exact#[j*t-i,j,by rw[e];grind,rfl]
def Pat.Least.tur(k:p.Least w h s)(f:FamOf 0 w (-h) s w' h' s'):(Pat.tur p).Least w' h' s':=by
 refine#[#[f.1,f.2.1,f.2.2.1,f.2.2.2.1],λx y=>?_];rw[vk,<-k.lat,f.lat];constructor
 .rintro⟨i,j,rfl,rfl⟩;exact#[i,j,Lm,Lm]
 .rintro⟨i,j,ex,ey⟩;exact#[i,j,Lm,Lm]
def Pat.Least.sh(a b:Int)(k:p.Least w h s):(Pat.sh a b p).Least w h s:=#[k.f,λx y=>by rw[vm,k.lat]]
structure Mv(p q:Pat)(b0 b1 b2 b3:Int):Prop where
 keeps:∀X Y,q.Keeps X Y↔p.Keeps (b0*X+b1*Y) (b2*X+b3*Y)
 leaf:∀l ls,p.leaves=l::ls->∃l' ls',q.leaves=l'::ls'/\l'.w0=l.w0*b0+l.w1*b2/\l'.w1=l.w0*b1+l.w1*b3/\l'.w2=l.w2*b0+l.w3*b2/\l'.w3=l.w2*b1+l.w3*b3
 area:∀w h s,p.Least w h s->∃w' h' s',q.Least w' h' s'/\w'*h'=w*h
variable{b0 b1 b2 b3:Int}
def Mv.mir(m:Mv p q b0 b1 b2 b3):Mv p (.mir q) (-b0) b1 (-b2) b3:=by
 refine#[λX Y=>?_,λl ls e=>?_,λw h s L=>?_]
 .rw[vj,m.keeps,GN,GN,GL,GL]
 .obtain⟨l',ls',e',h0,h1,h2,h3⟩:=m.leaf l ls e;refine#[_,_,by rw[Pat.leaves,e',FY],?_,?_,?_,?_]<;>simp only[Leaf.by,h0,h1,h2,h3]<;>grind
 .obtain⟨w',h',s',L',e⟩:=m.area w h s L;exact#[_,_,_,L'.mir,e]
def Mv.tur(m:Mv p q b0 b1 b2 b3):Mv p (.tur q) (-b1) b0 (-b3) b2:=by
 refine#[λX Y=>?_,λl ls e=>?_,λw h s L=>?_]
 .rw[vk,m.keeps,GN,GN,GL,GL,HS (b0*Y),HS (b2*Y)]
 .obtain⟨l',ls',e',h0,h1,h2,h3⟩:=m.leaf l ls e;refine#[_,_,by rw[Pat.leaves,e',FY],?_,?_,?_,?_]<;>simp only[Leaf.by,h0,h1,h2,h3]<;>grind
 .obtain⟨w',h',s',L',e⟩:=m.area w h s L;obtain⟨w2,h2,s2,f,e2⟩:=ic (s:=s') L'.f.w0 L'.f.h0;exact#[_,_,_,L'.tur f,Kd]
def Mv.sh(a b:Int)(m:Mv p q b0 b1 b2 b3):Mv p (.sh a b q) b0 b1 b2 b3:=by
 refine#[λX Y=>?_,λl ls e=>?_,λw h s L=>?_]
 .rw[vm,m.keeps]
 .obtain⟨l',ls',e',h0,h1,h2,h3⟩:=m.leaf l ls e;refine#[_,_,by rw[Pat.leaves,e',FY],?_,?_,?_,?_]<;>simp only[Leaf.by,h0,h1,h2,h3]<;>grind
 .obtain⟨w',h',s',L',e⟩:=m.area w h s L;exact#[_,_,_,L'.sh a b,e]
def Dd{k:Int}(a:0<=k)(b:k<h):atI ((FN h.toNat).map λ(y:Nat)=>D.str (aB p 0 (y:Int) w.toNat)) k=be (.str (aB p 0 k w.toNat)):=by
 have e:k=((k.toNat:Nat):Int):=Kd
 rw[e];exact bF (by rw[FT,Gv Kd];simp)
def vn{i:Int}(a:0<=i)(b:i<w):atI (cs (aB p 0 j w.toNat)) i=be (bo (p.show i j)):=by
 have e:i=((i.toNat:Nat):Int):=Kd
 rw[e];exact bF (by rw[cK,FT,Gv Kd];simp)
structure Side(a w:Int)(A t:Nat):Prop where
 n:aI a
 A4:A<=4000000000000
 t1:t<=1000
 e:aI (a+A*w+t-1)
def Side.of{A t:Nat}(n:aI a)(w0:0<w)(hA:(A:Int)<=(1000000000000-a+1)/w)(h:(t<=720/\(t:Int)<=1000000000000-a+1-A*w/\¬(a=-1000000000000/\A=0))\/(a=-1000000000000/\A=0/\1<=t/\t<=720)):Side a w A t:=by
 have h1:=Ga hA (show 0<=w by omega);have h2:=Int.ediv_mul_le (1000000000000-a+1) (show w≠0 by omega);have h3:(A:Int)<=A*w:=by
  have:=HF (show 1<=w by omega) (show 0<=(A:Int)by omega);omega
 unfold aI at n;rcases h with⟨t7,ht,ne⟩|⟨e1,rfl,t0,t7⟩
 .refine#[n,KK,KK,?_,KK];by_cases z:A=0
  .subst z;simp at ne ⊢;omega
  .omega
 .refine#[n,KK,KK,?_,?_]<;>simp<;>omega
end My
end
section
open PySem PySem.Spec PyProof.Rows L2
namespace My
section
variable {X:Cx}[J:Jx]{e8 iter:RP}{te ti:TD}{pos px:R6}{x:E_}{scope:Sl}
def De(ix:Nat){y:E_}{py f7:R6}(hc:X.calm=true)(S:CompScope X scope x)(hN:X.N.Nodup)(hi:WDE X iter ti)(he:∀cl s₀ H₀ fp,WDE (bB X scope cl x s₀ H₀ fp) e8 te)(JH:autoParam (X.N[ix]?=be y) zA0)(hy:autoParam (Loc X.env.scope y) zA4)
  (hf:autoParam (zFN X y) zA3) (p_:autoParam (R9 (.ListComp e8 [#[.Name x px,iter,[],0]] scope pos) (be (.Name y py)) f7.line X.env=pure true) zA0) (hs:autoParam (∀y,zFS X iter y) zA2):
  WDS X (.Assign [.Name y py] (.ListComp e8 [#[.Name x px,iter,[],0]] scope pos) f7) (kH ix (dItL ti) te):=#[(gQ hc S (fF hi.out) (λ_ _ _ _=>eK) (λa b c d=>(he a b c d).out) hN JH hy hf p_ hs).anti λE s H q=>sV itL q]
end
end My
end
section
namespace My
local macro_rules | `(tactic| k_memK) => `(tactic| exact⟨rfl, rfl, rfl, by decide +kernel, rfl, by decide +kernel, by decide +kernel⟩)
local macro_rules | `(tactic| k_places) => `(tactic| try simp only[Gd, Gf, My.aY])
open PySem PySem.Spec PyProof.Rows L2
def top(i:Nat):Stmt:=PySem.Challenge.pw_motiffield_k46_whole_house.main.body.getD i (.Pass #[0,0,0,0])
abbrev kX:P3:=top 63
abbrev kY:List Str:=["_law_script","_law_k"]
def Df:FnScope ["_law_script","_law_k"] kY (ao kX):=Lk
abbrev kZ:P3:=top 65
abbrev lf:List Str:=["_law_script","_law_k","_law_many"]
def sc__law_draws:FnScope ["_law_script","_law_k","_law_many","_law_left","_law_drawn","_law_turn","_law_seed"] lf (ao kZ):=Lk
abbrev lh:P3:=top 68
abbrev lm:List Str:=["_law_draws_here"]
def sc__law_lines:FnScope ["_law_draws_here","_law_wide","_law_tall","_law_signs","_law_lines_here","_law_j","_law_line","_law_i","_law_place","_law_value"] lm (ao lh):=Lk
abbrev lp:P3:=top 66
abbrev lr:List Str:=["_law_draws_here"]
def sc__law_shift_pair:FnScope ["_law_draws_here","_law_a","_law_b","_law_c","_law_d"] lr (ao lp):=Lk
abbrev lu:P3:=top 67
abbrev lv:List Str:=["_law_lines_here","_law_one","_law_two"]
def sc__law_motif_text:FnScope ["_law_lines_here","_law_one","_law_two","_law_tail"] lv (ao lu):=Lk
abbrev ly:P3:=top 69
abbrev lz:List Str:=["_law_script","_law_k"]
def sc__law_motif:FnScope ["_law_script","_law_k","_law_draws_here","_law_lines_here","_law_one","_law_two","_law_leaf"] lz (ao ly):=Lk
abbrev im:P3:=top 70
abbrev lC:List Str:=["_law_part","_law_draw"]
def sc__law_wrapped:FnScope ["_law_part","_law_draw","_law_across","_law_down","_law_old","_law_new","_law_shift","_law_head","_law_ways","_law_by","_law_leaves","_law_leaf","_law_a","_law_b","_law_c","_law_d","_law_e","_law_f","_law_way","_law_hues"] lC (ao im):=Lk
abbrev lD:P3:=top 74
abbrev lF:List Str:=["_law_a","_law_b"]
def sc__law_gcd:FnScope ["_law_a","_law_b"] lF (ao lD):=Lk
abbrev lG:P3:=top 71
abbrev lH:List Str:=["_law_one","_law_two","_law_u","_law_v"]
def sc__law_on:FnScope ["_law_one","_law_two","_law_u","_law_v","_law_size"] lH (ao lG):=Lk
abbrev lJ:P3:=top 76
abbrev lK:List Str:=["_law_leaf"]
def sc__law_leaf_family:FnScope ["_law_leaf","_law_a","_law_b","_law_c","_law_d","_law_e","_law_f","_law_one","_law_two","_law_high","_law_wide","_law_lean"] lK (ao lJ):=Lk
abbrev lL:P3:=top 75
abbrev lM:List Str:=["_law_three","_law_x","_law_y"]
def Dg:FnScope ["_law_three","_law_x","_law_y"] lM (ao lL):=Lk
abbrev lN:P3:=top 77
abbrev lP:List Str:=["_law_one","_law_two"]
def sc__law_both:FnScope ["_law_one","_law_two","_law_wide","_law_high","_law_x"] lP (ao lN):=Lk
abbrev lQ:P3:=top 78
abbrev lR:List Str:=["_law_leaves"]
def sc__law_family:FnScope ["_law_leaves","_law_both_here","_law_leaf"] lR (ao lQ):=Lk
abbrev lU:P3:=top 79
abbrev lV:List Str:=["_law_upper","_law_lower"]
def sc__law_over:FnScope ["_law_upper","_law_lower","_law_leaves"] lV (ao lU):=Lk
abbrev lW:P3:=top 80
abbrev lX:List Str:=["_law_script","_law_k"]
def sc__law_pattern:FnScope ["_law_script","_law_k","_law_plan","_law_part","_law_turn","_law_step","_law_other"] lX (ao lW):=Lk
abbrev lY:P3:=top 82
abbrev lZ:List Str:=["_law_part","_law_place","_law_sign"]
def sc__law_respelled:FnScope ["_law_part","_law_place","_law_sign","_law_first","_law_wide","_law_j","_law_i","_law_lines_here","_law_spot","_law_text"] lZ (ao lY):=Lk
abbrev ma:P3:=top 85
abbrev me:List Str:=["_law_lines_here","_law_three","_law_x","_law_y"]
def sc__law_keeps:FnScope ["_law_lines_here","_law_three","_law_x","_law_y","_law_j","_law_other","_law_begin"] me (ao ma):=Lk
abbrev mf:P3:=top 86
abbrev mi:List Str:=["_law_lines_here","_law_three"]
def sc__law_least:FnScope ["_law_lines_here","_law_three","_law_wide","_law_high","_law_lean"] mi (ao mf):=Lk
abbrev mj:P3:=top 72
abbrev mm:List Str:=["_law_leaf","_law_x","_law_y"]
def sc__law_leaf_shows:FnScope ["_law_leaf","_law_x","_law_y","_law_way","_law_u","_law_v","_law_j","_law_i"] mm (ao mj):=Lk
abbrev mn:P3:=top 73
abbrev mo:List Str:=["_law_leaves","_law_x","_law_y"]
def sc__law_shows:FnScope ["_law_leaves","_law_x","_law_y","_law_leaf","_law_hue"] mo (ao mn):=Lk
abbrev io:P3:=top 84
abbrev mq:List Str:=["_law_leaves","_law_three"]
def sc__law_table:FnScope ["_law_leaves","_law_three","_law_lines_here","_law_y"] mq (ao io):=Lk
abbrev mv:P3:=top 83
abbrev mx:List Str:=["_law_one","_law_two","_law_three"]
def sc__law_unlike:FnScope ["_law_one","_law_two","_law_three","_law_y","_law_x"] mx (ao mv):=Lk
abbrev mz:P3:=bt (top 51) 1
abbrev mB:List Str:=["self","allowed"]
def Dh:FnScope ["self","allowed"] mB (ao mz):=Lk
abbrev mC:P3:=bt (top 51) 2
abbrev mD:List Str:=["self","allowed"]
def sc_Reading_take:FnScope ["self","allowed","sign"] mD (ao mC):=Lk
abbrev mF:P3:=top 54
abbrev mG:List Str:=["reading","least","most"]
def sc_line_from:FnScope ["reading","least","most","line","column"] mG (ao mF):=Lk
abbrev mH:P3:=top 55
abbrev mI:List Str:=["reading"]
def sc_lines_from:FnScope ["reading","lines","width"] mI (ao mH):=Lk
abbrev mJ:P3:=top 52
abbrev mK:List Str:=["reading"]
def sc_number_from:FnScope ["reading","written"] mK (ao mJ):=Lk
abbrev mL:P3:=top 53
abbrev mM:List Str:=["reading"]
def sc_shift_from:FnScope ["reading","x"] mM (ao mL):=Lk
abbrev mN:P3:=top 7
abbrev mO:List Str:=["first","second"]
def sc_levelled:FnScope ["first","second","times","rest"] mO (ao mN):=Lk
abbrev mQ:P3:=top 9
abbrev mR:List Str:=["first","second"]
def sc_spread:FnScope ["first","second","pair","width"] mR (ao mQ):=Lk
abbrev mU:P3:=top 10
abbrev mV:List Str:=["family","x","y"]
def sc_home:FnScope ["family","x","y","width","height","slant"] mV (ao mU):=Lk
abbrev mW:P3:=top 16
abbrev mY:List Str:=["lines","family"]
def sc_hues_by_home:FnScope ["lines","family","hues","row","line","column","sign"] mY (ao mW):=Lk
abbrev mZ:P3:=bt (top 17) 0
abbrev ng:List Str:=["self","place","lines","first","second"]
def Di:FnScope ["self","place","lines","first","second"] ng (ao mZ):=Lk
abbrev nh:P3:=top 56
abbrev nj:List Str:=["reading"]
def sc_motif_from:FnScope ["reading","place","lines","first","second"] nj (ao nh):=Lk
abbrev nq:P3:=bt (top 20) 0
abbrev nt:List Str:=["self","form"]
def Dj:FnScope ["self","form"] nt (ao nq):=Lk
abbrev nu:P3:=bt (top 21) 0
abbrev nv:List Str:=["self","form"]
def Dk:FnScope ["self","form"] nv (ao nu):=Lk
abbrev nw:P3:=bt (top 18) 0
abbrev ny:List Str:=["self","above","below"]
def Dl:FnScope ["self","above","below"] ny (ao nw):=Lk
abbrev nz:P3:=bt (top 19) 0
abbrev nA:List Str:=["self","form","x","y"]
def Dm:FnScope ["self","form","x","y"] nA (ao nz):=Lk
abbrev nB:P3:=bt (top 22) 0
abbrev nC:List Str:=["self","form","old","new"]
def Dn:FnScope ["self","form","old","new"] nC (ao nB):=Lk
abbrev ip:P3:=top 57
abbrev fZ:List Str:=["reading","around"]
def sc_over_from:FnScope ["reading","around","above","below"] fZ (ao ip):=Lk
abbrev iq:P3:=top 58
abbrev gb:List Str:=["reading","around"]
def sc_shifted_from:FnScope ["reading","around","shift"] gb (ao iq):=Lk
abbrev ir:P3:=top 59
abbrev gc:List Str:=["reading","around"]
def sc_rehue_from:FnScope ["reading","around","old","new"] gc (ao ir):=Lk
abbrev iu:P3:=top 60
abbrev cO:List Str:=["reading","around"]
def sc_form_from:FnScope ["reading","around","sign"] cO (ao iu):=Lk
abbrev nD:P3:=bt (top 51) 0
abbrev nE:List Str:=["self","text"]
def Do:FnScope ["self","text"] nE (ao nD):=Lk
abbrev nF:P3:=bt (top 50) 0
abbrev nG:List Str:=["self","text","shifts","form"]
def Dp:FnScope ["self","text","shifts","form"] nG (ao nF):=Lk
abbrev nH:P3:=top 8
abbrev nI:List Str:=["one","two"]
def sc_measure:FnScope ["one","two","last"] nI (ao nH):=Lk
abbrev nJ:P3:=top 11
abbrev nK:List Str:=["one","two"]
def sc_met:FnScope ["one","two","common","width","rise","start","gap","climbs","steps"] nK (ao nJ):=Lk
abbrev nM:P3:=top 12
abbrev nN:List Str:=["family"]
def Dq:FnScope ["family"] nN (ao nM):=Lk
abbrev nO:P3:=top 13
abbrev nP:List Str:=["family"]
def Dr:FnScope ["family"] nP (ao nO):=Lk
abbrev iy:P3:=bt (top 17) 1
abbrev cL:List Str:=["self"]
def Ds:FnScope ["self"] cL (ao iy):=Lk
abbrev iz:P3:=bt (top 18) 1
abbrev iA:List Str:=["self"]
def sc_Over_family:FnScope ["self","first"] iA (ao iz):=Lk
abbrev iB:P3:=bt (top 19) 1
abbrev iC:List Str:=["self"]
def Dt:FnScope ["self"] iC (ao iB):=Lk
abbrev iD:P3:=bt (top 20) 1
abbrev iE:List Str:=["self"]
def Du:FnScope ["self"] iE (ao iD):=Lk
abbrev iF:P3:=bt (top 21) 1
abbrev iG:List Str:=["self"]
def Dv:FnScope ["self"] iG (ao iF):=Lk
abbrev iH:P3:=bt (top 22) 1
abbrev iI:List Str:=["self"]
def Dw:FnScope ["self"] iI (ao iH):=Lk
abbrev nQ:P3:=top 61
abbrev nR:List Str:=["text"]
def sc_read:FnScope ["text","reading","form","family"] nR (ao nQ):=Lk
abbrev nS:P3:=top 87
abbrev nU:List Str:=["_law_value"]
def Dx:FnScope ["_law_value"] nU (ao nS):=Lk
abbrev nV:P3:=top 27
abbrev nW:List Str:=["x","y"]
def Dy:FnScope ["x","y"] nW (ao nV):=Lk
abbrev iJ:P3:=bt (top 17) 2
abbrev cM:List Str:=["self","x","y"]
def Dz:FnScope ["self","x","y"] cM (ao iJ):=Lk
abbrev iK:P3:=bt (top 18) 2
abbrev iL:List Str:=["self","x","y"]
def sc_Over_shows:FnScope ["self","x","y","hue"] iL (ao iK):=Lk
abbrev iM:P3:=bt (top 19) 2
abbrev iN:List Str:=["self","x","y"]
def DB:FnScope ["self","x","y"] iN (ao iM):=Lk
abbrev iO:P3:=bt (top 20) 2
abbrev iP:List Str:=["self","x","y"]
def DC:FnScope ["self","x","y"] iP (ao iO):=Lk
abbrev iQ:P3:=bt (top 21) 2
abbrev iR:List Str:=["self","x","y"]
def DD:FnScope ["self","x","y"] iR (ao iQ):=Lk
abbrev iS:P3:=bt (top 22) 2
abbrev iT:List Str:=["self","x","y"]
def sc_Rehue_shows:FnScope ["self","x","y","hue"] iT (ao iS):=Lk
abbrev nX:P3:=top 28
abbrev nY:List Str:=["pattern","x","y"]
def DF:FnScope ["pattern","x","y"] nY (ao nX):=Lk
abbrev nZ:P3:=top 64
abbrev oa:List Str:=["_law_found"]
def DG:FnScope ["_law_found"] oa (ao nZ):=Lk
abbrev iU:P3:=top 29
abbrev og:List Str:=["pattern","x","y","many"]
def DJ:FnScope ["pattern","x","y","many"] og (ao iU):=Lk
abbrev iV:P3:=top 30
abbrev oh:List Str:=["pattern"]
def DK:FnScope ["pattern"] oh (ao iV):=Lk
abbrev oi:P3:=top 31
abbrev oj:List Str:=["family","rows","x","y"]
def sc_round_row:FnScope ["family","rows","x","y","cell","row"] oj (ao oi):=Lk
abbrev ol:P3:=top 45
abbrev om:List Str:=["row","sign","many"]
def DL:FnScope ["row","sign","many"] om (ao ol):=Lk
abbrev iW:P3:=top 46
abbrev oq:List Str:=["pattern","left","top","right","bottom"]
def sc_count_all:FnScope ["pattern","left","top","right","bottom","family","rows","many","again","counts","y","times","row","hue","sign"] oq (ao iW):=Lk
abbrev ot:P3:=top 47
abbrev ou:List Str:=["pattern","hue","left","top","right","bottom"]
def sc_count_hue:FnScope ["pattern","hue","left","top","right","bottom","counts"] ou (ao ot):=Lk
abbrev iX:P3:=top 90
abbrev ow:List Str:=["_law_made","_law_leaves","_law_kind","_law_x","_law_y","_law_value"]
def sc__law_spot_asked:FnScope ["_law_made","_law_leaves","_law_kind","_law_x","_law_y","_law_value","_law_found","_law_due","_law_hue","_law_j","_law_i"] ow (ao iX):=Lk
abbrev oy:P3:=top 81
abbrev oz:List Str:=["_law_found","_law_due"]
def sc__law_numbers:FnScope ["_law_found","_law_due","_law_k"] oz (ao oy):=Lk
abbrev iY:P3:=top 33
abbrev oA:List Str:=["number"]
def DM:FnScope ["number"] oA (ao iY):=Lk
abbrev oB:P3:=top 34
abbrev oC:List Str:=["family","rows","x","y"]
def sc_changes_nothing:FnScope ["family","rows","x","y","step","row"] oC (ao oB):=Lk
abbrev iZ:P3:=top 35
abbrev oE:List Str:=["family","rows"]
def DN:FnScope ["family","rows"] oE (ao iZ):=Lk
abbrev oF:P3:=top 36
abbrev oG:List Str:=["family","rows","width","height"]
def sc_slant_at:FnScope ["family","rows","width","height","slant"] oG (ao oF):=Lk
abbrev ja:P3:=top 37
abbrev oH:List Str:=["pattern"]
def sc_least_shifts:FnScope ["pattern","family","rows","width","height"] oH (ao ja):=Lk
abbrev oI:P3:=top 88
abbrev oJ:List Str:=["_law_found","_law_three","_law_lines_here"]
def sc__law_form_is:FnScope ["_law_found","_law_three","_law_lines_here","_law_y"] oJ (ao oI):=Lk
abbrev jb:P3:=top 38
abbrev oK:List Str:=["pattern"]
def sc_least_form:FnScope ["pattern","family","rows"] oK (ao jb):=Lk
abbrev oM:P3:=top 40
abbrev oN:List Str:=["one","two"]
def DO:FnScope ["one","two"] oN (ao oM):=Lk
abbrev oO:P3:=top 41
abbrev oP:List Str:=["one","two"]
def sc_common_field:FnScope ["one","two","family"] oP (ao oO):=Lk
abbrev oQ:P3:=top 42
abbrev oR:List Str:=["one","two","width","height"]
def sc_first_unlike:FnScope ["one","two","width","height","y","x"] oR (ao oQ):=Lk
abbrev oS:P3:=top 43
abbrev oU:List Str:=["one","two"]
def sc_first_parting:FnScope ["one","two","family"] oU (ao oS):=Lk
abbrev oV:P3:=top 89
abbrev oW:List Str:=["_law_one","_law_two","_law_due","_law_both_here"]
def sc__law_both_asked:FnScope ["_law_one","_law_two","_law_due","_law_both_here","_law_told","_law_found"] oW (ao oV):=Lk
abbrev dD:P3:=top 91
abbrev oX:List Str:=["_law_script"]
def sc_law:FnScope ["_law_script","_law_parts","_law_draw","_law_field","_law_least_here","_law_lines_here","_law_both_here","_law_due","_law_made","_law_draws_here","_law_turn","_law_k","_law_kind","_law_x","_law_y","_law_fine"] oX (ao dD):=Lk
variable{c i:Nat}
def atC{t:E_}:StrLaws.At t #[[c].toArray] t.length i↔(cs t)[i]?=be c:=by
 have e:Builtin.Str.subAt t #[[c].toArray] i=(((cs t).drop i).take 1==[c]):=StrLaws.subAt_eq t #[[c].toArray] i;have e2:((cs t).drop i).take 1=[c]↔(cs t)[i]?=be c:=by
  rw[List.take_one,List.head?_drop];cases(cs t)[i]?<;>simp
 unfold StrLaws.At;rw[e,beq_iff_eq,e2];refine#[λh=>h.2,λh=>#[?_,h]];have:=(FZ.mp h).1;rw[bi]at this;exact this
variable{A B:List Nat}
def DP{t:E_}(ht:cs t=A++c::B)(no:c∉A):∃i rest,Builtin.Str.occurrences t #[[c].toArray] 0 t.length 1=i::rest/\i=A.length:=by
 have a0:StrLaws.At t #[[c].toArray] t.length A.length:=atC.mpr (by rw[ht,GI (FM _),Jt];rfl);rcases StrLaws.occ_head t #[[c].toArray] 1 (FM _)with⟨_,h⟩|⟨i,r,e,h1,h2⟩
 .exact absurd a0 (h _)
 .refine#[i,r,e,?_];rcases Nat.lt_trichotomy i A.length with q|q|q
  .have:=atC.mp h1;rw[ht,Gz q]at this;exact absurd (Hx this) no
  .exact q
  .exact absurd a0 (h2 _ q)
def gf(x:List Nat){l:List (List Nat)}(h:l≠[]):rowsL (x::l)=x++47::rowsL l:=by
 cases l with
 |nil=>exact absurd rfl h
 |cons y r=>rfl
def DQ{w:Nat}(hi:i<w):∀(L:List (List Nat)) (j:Nat) (h:j<L.length),(∀x∈L,x.length=w)->rowsL (L.set j (L[j].set i c))=(rowsL L).set (j*(w+1)+i) c:=by
 intro L;induction L with
 |nil=>intro j h;exact absurd h (GU j)
 |cons x L ih=>
  intro j h hw;have xw:=hw x FU;by_cases e:L=[]
  .subst e;have:j=0:=by simp at h;lia
   subst this;simp[rowsL]
  .cases j with
   |zero=>
    show rowsL (x.set i c::L)=_;rw[gf _ e,gf _ e,Nat.zero_mul,Io,Ju _ _ Kd]
   |succ j=>
    have h':j<L.length:=IR h;show rowsL (x::L.set j (L[j].set i c))=_;rw[gf _ (λz=>e (by have:=congrArg Hi z;simpa using this)),gf _ e,ih j h' (λy hy=>hw y (FS _ hy))];rw[Jv _ _ (by rw[xw,Ho];lia),xw,show(j+1)*(w+1)+i-w=(j*(w+1)+i)+1 by rw[Ho];lia];rfl
def jc{a:Int}(h:B12 a):91∉numL a:=by
 have hs:=numL_is h;intro hy;unfold isNumL at hs;rcases hs with⟨c,h1,h2⟩|⟨c,h1,h2⟩|⟨c,h1,h2⟩|⟨c,h1,h2⟩<;>rw[h2]at hy<;>simp at hy<;>lia
structure Pat.Re(p:Pat)(A B:List Nat)(l:Leaf)(ls:List Leaf):Prop where
 leaves:p.leaves=l::ls
 no:91∉A
 tl:p.tl=A++91::(rowsL (l.rows.map cs)++B)
 rows:Rows l.rows
 re:∀L':List E_,Rows L'->∃q:Pat,q.leaves={l with rows:=L'}::ls/\q.tl=A++91::(rowsL (L'.map cs)++B)/\q.depth=p.depth/\(∀x y,q.Lat x y↔p.Lat x y)/\q.Wf
def Pat.re_ex:∀{p:Pat},p.Wf->∃A B l ls,p.Re A B l ls:=by
 intro p;induction p with
 |mot L a b c d=>
  intro h;exact#[[],_,_,[],rfl,Hb,rfl,h.1,λL' h'=>#[.mot L' a b c d,rfl,rfl,rfl,λx y=>Iff.rfl,h',h.2]]
 |over p q Qy Rv=>
  intro h;obtain⟨A,B,l,ls,r⟩:=Qy h.1;refine#[40::A,B++124::(q.tl++[41]),l,ls++q.leaves,by rw[Pat.leaves,r.leaves];rfl,λz=>?_,by rw[Pat.tl,r.tl];simp,r.rows,λL' h'=>?_]
  .rcases FQ.mp z with z|z
   .exact absurd z Kj
   .exact r.no z
  .obtain⟨p',e1,e2,e3,e4,e5⟩:=r.re L' h';exact#[.over p' q,by rw[Pat.leaves,e1];rfl,by rw[Pat.tl,e2];simp,by rw[Pat.depth,Pat.depth,e3],λx y=>by simp only[Pat.Lat,e4],e5,h.2]
 |sh a b p ih=>
  intro h;obtain⟨A,B,l,ls,r⟩:=ih h.2.2;refine#[115::(numL a++44::(numL b++58::A)),B,l.by 1 0 0 1 (-a) (-b),ls.map λl=>l.by 1 0 0 1 (-a) (-b),by rw[Pat.leaves,r.leaves];rfl,λz=>?_,by rw[Pat.tl,r.tl];simp[Leaf.by],r.rows,λL' h'=>?_]
  .have n1:=jc h.1;have n2:=jc h.2.1;have n3:=r.no;simp[n1,n2,n3]at z
  .obtain⟨p',e1,e2,e3,e4,e5⟩:=r.re L' h';exact#[.sh a b p',by rw[Pat.leaves,e1];rfl,by rw[Pat.tl,e2];simp,by rw[Pat.depth,Pat.depth,e3],λx y=>by simp only[Pat.Lat,e4],h.1,h.2.1,e5]
 |mir p ih=>
  intro h;obtain⟨A,B,l,ls,r⟩:=ih h;refine#[109::A,B,l.by (-1) 0 0 1 0 0,ls.map λl=>l.by (-1) 0 0 1 0 0,by rw[Pat.leaves,r.leaves];rfl,λz=>?_,by rw[Pat.tl,r.tl];rfl,r.rows,λL' h'=>?_]
  .rcases FQ.mp z with z|z
   .exact absurd z Kj
   .exact r.no z
  .obtain⟨p',e1,e2,e3,e4,e5⟩:=r.re L' h';exact#[.mir p',by rw[Pat.leaves,e1];rfl,by rw[Pat.tl,e2];rfl,by rw[Pat.depth,Pat.depth,e3],λx y=>by simp only[Pat.Lat,e4],e5]
 |tur p ih=>
  intro h;obtain⟨A,B,l,ls,r⟩:=ih h;refine#[116::A,B,l.by 0 1 (-1) 0 0 0,ls.map λl=>l.by 0 1 (-1) 0 0 0,by rw[Pat.leaves,r.leaves];rfl,λz=>?_,by rw[Pat.tl,r.tl];rfl,r.rows,λL' h'=>?_]
  .rcases FQ.mp z with z|z
   .exact absurd z Kj
   .exact r.no z
  .obtain⟨p',e1,e2,e3,e4,e5⟩:=r.re L' h';exact#[.tur p',by rw[Pat.leaves,e1];rfl,by rw[Pat.tl,e2];rfl,by rw[Pat.depth,Pat.depth,e3],λx y=>by simp only[Pat.Lat,e4],e5]
 |hue f g p ih=>
  intro h;obtain⟨A,B,l,ls,r⟩:=ih h.2.2;refine#[104::(numL f++(numL g++A)),B,(l.by 1 0 0 1 0 0).dye f g,ls.map λl=>(l.by 1 0 0 1 0 0).dye f g,by rw[Pat.leaves,r.leaves];rfl,λz=>?_,by rw[Pat.tl,r.tl];simp[Leaf.by,Leaf.dye],r.rows,λL' h'=>?_]
  .have h1:1<=f/\f<=6:=h.1;have h2:1<=g/\g<=6:=h.2.1;have n1:=jc (a:=f) #[Kd,Kd];have n2:=jc (a:=g) #[Kd,Kd];have n3:=r.no;simp[n1,n2,n3]at z
  .obtain⟨p',e1,e2,e3,e4,e5⟩:=r.re L' h';exact#[.hue f g p',by rw[Pat.leaves,e1];rfl,by rw[Pat.tl,e2];simp,by rw[Pat.depth,Pat.depth,e3],λx y=>by simp only[Pat.Lat,e4],h.1,h.2.1,e5]
def DR{w:Nat}:∀(L:List (List Nat)),L≠[]->(∀x∈L,x.length=w)->(rowsL L).length+1=L.length*(w+1):=by
 intro L;induction L with
 |nil=>intro h;exact absurd rfl h
 |cons x L ih=>
  intro _ hw;have xw:=hw x FU;by_cases e:L=[]
  .subst e;show x.length+1=1*(w+1);lia
  .have:=ih e λy hy=>hw y (FS _ hy);rw[gf _ e,F8,FV,FV,Ho];lia
variable{k:Nat}
def vo{y:E_}(h:k<y.length):cs ((Txt.slice y s_ (be (k:Int))++#[[c].toArray])++Txt.slice y (be ((k:Int)+1)) s_)=(cs y).set k c:=by
 have e1:HT.sIx y.length y.length (be (k:Int))=k:=by rw[HT.sIx_nat];lia
 have e2:HT.sIx y.length 0 (be ((k:Int)+1))=k+1:=by
  have:=HT.sIx_nat y.length 0 (k+1);rw[show((k:Int)+1)=(((k+1:Nat)):Int)by lia,this];lia
 rw[bI,bI,slice_cps,slice_cps,e1,e2,HT.sIx_none,HT.sIx_none,Jr,Im,List.set_eq_take_append_cons_drop,if_pos (by rw[bi];exact h)];show((cs y).take k++[c])++(Hm (k+1) (cs y)).take (y.length-(k+1))=_;rw[G7 (l:=Hm (k+1) (cs y)) (by rw[G3,bi];lia),GF];rfl
variable{p:Pat}
def Pat.Re.put{l:Leaf}{ls:List Leaf}(r:p.Re A B l ls)(ok:p.Ok){w j:Nat}(hw:∀s∈l.rows,s.length=w)(hj:j<l.rows.length)(hi:i<w)(hc:bj c){s':E_}(hs:cs s'=(cs l.rows[j]).set i c):∃q:Pat,q.Ok/\q.depth=p.depth/\q.leaves={l with rows:=l.rows.set j s'}::ls/\A.length+1+j*(w+1)+i<p.text.length/\∀t':E_,cs t'=(cs p.text).set (A.length+1+j*(w+1)+i) c->t'=q.text:=by
 obtain⟨m,w',w8,hr⟩:=r.rows;have lj:=hr l.rows[j] (Gm hj);have hL:Rows (l.rows.set j s'):=by
  refine#[by rw[GC];exact m,w',w8,λs J0=>?_];rcases Jw J0 with q|q
  .exact hr s q
  .subst q;refine#[by rw[<-bi,hs,GC,bi];exact lj.1,λd hd=>?_];rw[hs]at hd;rcases Jw hd with q|q
   .exact lj.2 d q
   .rw[q];exact hc
 obtain⟨q,e1,e2,e3,e4,e5⟩:=r.re _ hL;obtain⟨fw,fh,fs,F,fb⟩:=ok.fits;refine#[q,#[e5,by rw[e3];exact ok.deep,fw,fh,fs,#[F.f,λx y=>(F.lat x y).trans (e4 x y).symm],fb],e3,e1,?_];have lw:∀x∈l.rows.map cs,x.length=w:=λx hx=>by
  obtain⟨s,q1,q2⟩:=Gn.mp hx;rw[<-q2,bi];exact hw s q1
 have jm:j<(l.rows.map cs).length:=by rw[FP];exact hj
 have key:=DQ (c:=c) hi (l.rows.map cs) j jm lw;have e6:(l.rows.set j s').map cs=(l.rows.map cs).set j ((l.rows.map cs)[j].set i c):=by rw[Jy,hs,List.getElem_map]
 have ll:j*(w+1)+i<(rowsL (l.rows.map cs)).length:=by
  have h1:=DR (l.rows.map cs) (λz=>by rw[z]at jm;exact absurd jm (GU j)) lw;have h2:=IV (w+1) (show j+1<=(l.rows.map cs).length from jm);rw[Ho]at h2;lia
 refine#[?_,λt' ht=>?_]
 .rw[<-bi,cA,r.tl,F8,FV,F8];lia
 apply eZ;rw[ht,cA,cA,e2,e6,key,r.tl];rw[Jv _ _ Kd,show A.length+1+j*(w+1)+i-A.length=(j*(w+1)+i)+1 by lia,Gd,Ju _ _ ll]
def vp:∀l1 l2:List E_,eqFs (l1.map D.str) (l2.map D.str)=decide (l1=l2)
 |[],[]=>rfl
 |[],_::_=>rfl
 |_::_,[]=>rfl
 |x::l1,y::l2=>by
  rw[FY,FY,eqFs,vp l1 l2];show(x==y&&decide (l1=l2))=decide (x::l1=y::l2);rw[Hg];simp
def vq(l:List E_):(l.map D.str).all bv=true:=by
 rw[H9];exact GK.mpr λx _=>rfl
def cD(p:Pat)(w h:Int):List Str:=(FN h.toNat).map λ(y:Nat)=>aB p 0 (y:Int) w.toNat
def vt(p:Pat)(w h s:Int):fY p w h s=.tup [.int w,.int h,.int s,.tup ((cD p w h).map D.str)]:=by
 unfold fY cD;rw[vc]
variable{w h s:Int}{q:Pat}
def DU(g_:p.Ok)(d5:q.Ok){w' h' s':Int}(L:p.Least w h s)(L':q.Least w' h' s'):((eq2s [.int w,.int h,.int s,.tup ((cD p w h).map D.str)] [.int w',.int h',.int s',.tup ((cD q w' h').map D.str)]).all id=true)↔∀x y,p.show x y=q.show x y:=by
 have e:(eq2s [D.int w,.int h,.int s,.tup ((cD p w h).map D.str)] [.int w',.int h',.int s',.tup ((cD q w' h').map D.str)]).all id=((w==w')&&((h==h')&&((s==s')&&(eqFs ((cD p w h).map D.str) ((cD q w' h').map D.str)&&true)))):=rfl;rw[e,vp];simp only[Gg,beq_iff_eq,decide_eq_true_eq,HB];constructor
 .rintro⟨rfl,rfl,rfl,er⟩ x y;have w0:=L.f.w0;have h0:=L.f.h0;rw[<-Pat.show_home w0 h0 (λ_ _ k=>(L.lat _ _).mp k) x y,<-Pat.show_home w0 h0 (λ_ _ k=>(L'.lat _ _).mp k) x y];have a0:=bX (a:=x-y/h*s) w0;have a1:=bY (a:=x-y/h*s) w0;have b0:=bX (a:=y) h0;have b1:=bY (a:=y) h0;have Ny:hmX w h s x y<w:=a1;have Nz:0<=hmX w h s x y:=a0;generalize hmX w h s x y=i at Nz Ny;generalize y%h=j at b0 b1;have r1:(cD p w h)[j.toNat]?=(cD q w h)[j.toNat]?:=by rw[er]
  unfold cD at r1;rw[FT,FT,Gv KK,Ib,Ib,Option.some.injEq,Gi b0]at r1;have g1:=vn (p:=p) (w:=w) (i:=i) (j:=j) Nz Ny;have g2:=vn (p:=q) (w:=w) (i:=i) (j:=j) Nz Ny;rw[r1,g2]at g1;have p1:=Pat.show_le g_.wf (by have:=g_.deep;omega) i j;have p2:=Pat.show_le d5.wf (by have:=d5.deep;omega) i j;exact(kW p2.1 p2.2 p1.1 p1.2 (Option.some.inj g1)).symm
 .intro hs;have kk:∀X Y,q.Keeps X Y↔p.Keeps X Y:=λX Y=>by
   unfold Pat.Keeps;simp only[hs]
  obtain⟨rfl,rfl,rfl⟩:=L.uniq #[L'.f,λx y=>(L'.lat x y).trans (kk x y)];refine#[rfl,rfl,rfl,?_];unfold cD aB;simp only[hs]
def DV(x:Int):∃c,atI (cs ".123456") (x%7)=be c/\bj c:=by
 rcases(Kd:x%7=0\/x%7=1\/x%7=2\/x%7=3\/x%7=4\/x%7=5\/x%7=6)with e|e|e|e|e|e|e<;>rw[e]
 .exact#[46,Kl,.inl rfl]
 .exact#[49,Kl,.inr Kd]
 .exact#[50,Kl,.inr Kd]
 .exact#[51,Kl,.inr Kd]
 .exact#[52,Kl,.inr Kd]
 .exact#[53,Kl,.inr Kd]
 .exact#[54,Kl,.inr Kd]
structure ComF(p q:Pat)(w h s:Int):Prop where
 f:Fam0 w h s
 lat:∀x y,InF w h s x y↔p.Keeps x y/\q.Keeps x y
def ComF.uniq{w' h' s':Int}(a:ComF p q w h s)(b:ComF p q w' h' s'):w=w'/\h=h'/\s=s':=
 InF.uniq a.f.w0 a.f.h0 a.f.s0 a.f.sw b.f.w0 b.f.h0 b.f.s0 b.f.sw λx y=>(a.lat x y).trans (b.lat x y).symm
def ComF.of{w1 h1 s1 w2 h2 s2 A:Int}(a:p.Least w1 h1 s1)(b:q.Least w2 h2 s2)(M:MetR w1 h1 s1 w2 h2 s2 w h s A):ComF p q w h s:=
 #[#[M.w0,M.h0,M.s0,M.sw],λx y=>by rw[M.lat,a.lat,b.lat]]
def ComF.all(b:ComF p q w h s)(e:∀x y:Int,0<=x->x<w->0<=y->y<h->p.show x y=q.show x y)(x y:Int):p.show x y=q.show x y:=by
 have w0:=b.f.w0;have h0:=b.f.h0;rw[<-Pat.show_home w0 h0 (λx y k=>((b.lat x y).mp k).1) x y,<-Pat.show_home w0 h0 (λx y k=>((b.lat x y).mp k).2) x y];exact e _ _ (bX w0) (bY w0) (bX h0) (bY h0)
def MetR.le2{w1 h1 s1 w2 h2 s2 A:Int}(M:MetR w1 h1 s1 w2 h2 s2 w h s A)(f1:Fam0 w1 h1 s1)(f2:Fam0 w2 h2 s2)(b1:w1*h1<=720)(b2:w2*h2<=720):w*h<=518400:=by
 have c:=M.cells;have A0:=M.A0;have wp:=F7 M.w0 M.h0;have e1:=HF (show 1<=A by omega) (show 0<=w*h by omega);have p1:=F7 f1.w0 f1.h0;have p2:=F7 f2.w0 f2.h0;have e2:=Jd b1 b2 (Int.le_of_lt p2) KK;rw[<-Int.mul_assoc]at e2;omega
structure First(p q:Pat)(w h x y:Int):Prop where
 x0:0<=x
 xw:x<w
 y0:0<=y
 yh:y<h
 ne:p.show x y≠q.show x y
 bef:∀x' y':Int,0<=x'->x'<w->0<=y'->(y'<y\/(y'=y/\x'<x))->p.show x' y'=q.show x' y'
def First.symm{x y:Int}(a:First p q w h x y):First q p w h x y:=#[a.x0,a.xw,a.y0,a.yh,λz=>a.ne z.symm,λx' y' b c d e=>(a.bef x' y' b c d e).symm]
def First.uniq{x y x' y':Int}(a:First p q w h x y)(b:First p q w h x' y'):x=x'/\y=y':=by
 have n1:¬(y'<y\/(y'=y/\x'<x)):=λz=>b.ne (a.bef x' y' b.x0 b.xw b.y0 z);have n2:¬(y<y'\/(y=y'/\x<x')):=λz=>a.ne (b.bef x y a.x0 a.xw a.y0 z);lia
def ComF.symm(a:ComF p q w h s):ComF q p w h s:=#[a.f,λx y=>(a.lat x y).trans #[λz=>#[z.2,z.1],λz=>#[z.2,z.1]]]
inductive Due(p q:Pat):D->D->Prop where
 |big {w h s X Y:Int} (c:ComF p q w h s) (b:720<w*h) (n:p.show X Y≠q.show X Y):Due p q (.tup [.int 0,.int 0]) .non
 |same {w h s:Int} (c:ComF p q w h s) (b:w*h<=720) (e:∀x y:Int,p.show x y=q.show x y):Due p q .non (.tup [.int w,.int h,.int s])
 |part {w h s x y:Int} (c:ComF p q w h s) (b:w*h<=720) (f:First p q w h x y):Due p q (.tup [.int x,.int y]) (.tup [.int w,.int h,.int s])
def Due.symm{t x:D}(a:Due p q t x):Due q p t x:=by
 cases a with
 |big c b n=>exact .big c.symm b λz=>n z.symm
 |same c b e=>exact .same c.symm b λx y=>(e x y).symm
 |part c b f=>exact .part c.symm b f.symm
def Upto(Q:Nat->D->Prop)(ys:List D):Prop:=∀i d,ys[i]?=be d->Q i d
variable{Q:Nat->My.D->Prop}
def Upto.nil:Upto Q []:=λi d e=>nomatch e
variable{ys:List My.D}
def Upto.next{d:D}(h:Upto Q ys)(hl:ys.length=k)(hd:Q k d):Upto Q (ys++[d]):=λi e hi=>by
 rw[List.getElem?_append]at hi;split at hi
 .exact h i e hi
 .have:=(FZ.mp hi).1;rw[IB]at this;obtain rfl:i=k:=by lia
  rw[hl,Jt]at hi;cases hi;exact hd
def Upto.set{d:D}(h:Upto Q ys)(hd:Q k d):Upto Q (ys.set k d):=λi e hi=>by
 rw[GS]at hi;split at hi
 .subst k;split at hi
  .cases hi;exact hd
  .cases hi
 .exact h i e hi
def Upto.two(h:Upto Q ys)(hl:ys.length=2):∃f:Nat->D,ys=[f 0,f 1]/\∀k,k<2->Q k (f k):=by
 cases ys with
 |nil=>cases hl
 |cons a ys=>cases ys with
  |nil=>cases hl
  |cons b ys=>cases ys with
   |cons c ys=>cases hl
   |nil=>
    refine#[λk=>if k=0 then a else b,rfl,λk hk=>?_];rcases(Kd:k=0\/k=1)with rfl|rfl
    .exact h 0 a rfl
    .exact h 1 b rfl
def at2(f:Nat->D)(hk:k<2):atI [f 0,f 1] (k:Int)=be (f k):=by
 rcases(Kd:k=0\/k=1)with rfl|rfl<;>rfl
def two_at(f:Nat->D){x:D}(h:[f 0,f 1][k]?=be x):k<2/\x=f k:=by
 have hk:k<2:=(FZ.mp h).1;rcases(Kd:k=0\/k=1)with rfl|rfl<;>cases h<;>exact#[hk,rfl]
def Upto.at2(h:Upto Q ys)(hl:ys.length=2)(hk:k<2):∃d,atI ys (k:Int)=be d/\Q k d:=by
 obtain⟨f,rfl,hf⟩:=h.two hl;exact#[_,My.at2 f hk,hf k hk]
def LnD(p:Pat)(l n:D):Prop:=∃w h s:Int,l=.tup [.int w,.int h,.int s]/\n=bu p w h/\p.Least w h s/\w*h<=720/\w<=720/\h<=720
section
variable {V:Bx}
abbrev jd(V:Bx):Prop:=V.D 1 "_law_at" kY A7
def DX(T:V.T "_law_at" kX kY)(uB:V.m "len"):jd V:=by
 refine Tx.okDW T Df (λds R h=>?_) (λf cdv A outer s H E J hr=>⟨_,((aj (aT (dH (aa 1) (bH uB (ac (aa 0) ah))) (ar (ay (ai (aa 0) (aa 1)))) aM)
   (ar (ay ag)))),λds R h=>?_⟩)
 .obtain⟨ns,k,rfl,_⟩:=h;rfl
 .obtain⟨ns,k,rfl,hk,hR⟩:=h;refine ite2 (λc=>?_) (λc=>?_)
  .have c':=of_decide_eq_true c;rw[FP]at c';exact#[_,kN hk c',hR]
  .have c':=of_decide_eq_false (Gs.mpr c);rw[FP]at c';rw[A6 Kd]at hR;exact hR
abbrev gh(V:Bx):Prop:=V.D 2 "_law_draws" lf Bj
def DY(T:V.T "_law_draws" kZ lf)(uA:V.m "range")(uX:jd V):gh V:=by
 refine Tx.okDW T sc__law_draws (λds R h=>?_) (λf cdv A outer s H E J hr=>⟨_,((aj (aq 3 sc__law_draws.nd (aw uX hr (ac (aa 0) (ac (aa 1) ah))))
   (aj (fM 4 sc__law_draws.nd ah)
   (aj (aT (bp (az (aw uX hr (ac (aa 0) (ac (au (aa 1) ag) ah))) ag) ag) (aj (bK 5 PassesOwn.never rfl sc__law_draws.nd uA (aa 2) (aj (fN 4 (az (aa 3) ag))
     (ar (aq 3 sc__law_draws.nd (aN (aa 3) ag)))))
    (dh 4 (ar (ay (aa 4))))) aM)
   (aj (aq 6 sc__law_draws.nd (az (au (aa 3) ag) ag))
   (aj (bK 5 PassesOwn.never rfl sc__law_draws.nd uA (aa 2) (aj (aq 6 sc__law_draws.nd (az (au (au (aA (aa 6) ag) (aw uX hr (ac (aa 0) (ac (au (au (aa 1) ag) (az (aa 5) ag)) ah)))) (aa 5)) ag))
    (ar (fN 4 (az (az (aA (aa 6) ag) ag) ag)))))
   (dh 4 (ar (ay (aa 4)))))))))),λds R h=>?_⟩)
 .obtain⟨_,_,_,rfl,_⟩:=h;rfl
 .obtain⟨ns,k,n,rfl,hk,hn,hR⟩:=h;refine#[λd=>∃v:Int,d=.int v,#[ns,k,rfl,hk,_,rfl],?_];rintro _⟨left,rfl⟩;k_places;refine#[Ld,?_];refine#[ns,k+1,rfl,Kd,Kj,ite2 (λ_=>?_) (λ_=>?_)]
  .refine#[#[Kd,Kd],λi z=>∃(xs:List Int) (l:Int) (o p:Option D),z=[be (.rol (ns.map D.int)),be (.int k),be (.int n),be (.int l),be (.own (xs.map D.int)),o,p]/\xs.length=i/\Drawn xs,#[[],left,_,_,rfl,rfl,(λx hx=>by cases hx)],?_,?_]
   .rintro i x z hi⟨xs,l,o,p,rfl,hl,hd⟩;k_places;have f8:i<n:=by simpa using(FZ.mp hi).1
    refine#[Kj,Ou,?_];refine#[λd=>∃v:Int,d=.int v,#[#[Kj,Kj],_,rfl],?_];rintro _⟨l',rfl⟩;k_places;rw[tF];exact#[_,l',_,_,rfl,by simp[hl],tG hd (bX Kj) (bY Kj)]
   .rintro z⟨xs,l,o,p,rfl,hl,hd⟩;k_places;exact hR xs (by simpa using hl) hd
  .refine#[λd=>∃v:Int,d=.int v/\0<=v/\v<2147483647,#[Kj,_,rfl,bX Kj,bY Kj],?_];rintro _⟨NA,rfl,s1,s2⟩;k_places;refine#[#[Kd,Kd],λi z=>∃(xs:List Int) (sd:Int) (o:Option D),z=[be (.rol (ns.map D.int)),be (.int k),be (.int n),be (.int left),be (.own (xs.map D.int)),o,be (.int sd)]/\xs.length=i/\Drawn xs/\0<=sd/\sd<2147483647,#[[],NA,_,rfl,rfl,(λx hx=>by cases hx),s1,s2],?_,?_]
   .rintro i x z hi⟨xs,sd,o,rfl,hl,hd,s1,s2⟩;k_places;have f8:i<n:=by simpa using(FZ.mp hi).1
    have ex:x=.int (i:Int):=by simp[f8]at hi;exact hi.symm
    subst ex;refine#[λd=>∃v:Int,d=.int v/\0<=v/\v<2147483647,#[.inr #[Kj,Kj],Kj,ns,_,rfl,Kd,Kj,_,rfl,bX Kj,bY Kj],?_];rintro _⟨Qz,rfl,t1,t2⟩;k_places;refine#[.inr #[Kj,Kj],Kj,Kj,Ou,?_];rw[tF];exact#[_,Qz,_,rfl,by simp[hl],tG hd (bX Kj) (bY Kj),t1,t2]
   .rintro z⟨xs,sd,o,rfl,hl,hd,_⟩;k_places;exact hR xs (by simpa using hl) hd
abbrev oY(V:Bx):Prop:=V.D 1 "_law_lines" lm Bu
def DZ(T:V.T "_law_lines" lh lm)(uA:V.m "range")(uB:V.m "len"):oY V:=by
 refine Tx.okDW T sc__law_lines (λds R h=>?_) (λf cdv A outer s H E J hr=>⟨_,((aj (aq 1 sc__law_lines.nd (au ag (az (ai (aa 0) ag) ag)))
   (aj (aq 2 sc__law_lines.nd (au ag (az (ai (aa 0) ag) ag)))
   (aj (cx (bp (az (ai (aa 0) ag) ag) ag) (aj (aq 1 sc__law_lines.nd (au ag (az (ai (aa 0) ag) ag)))
    (ar (aq 2 sc__law_lines.nd (au ag (az (ai (aa 0) ag) ag))))) aM)
   (aj (aq 3 sc__law_lines.nd (ai (bE (ac aC (ac aC (ac aC (ac aC ah))))) (az (ai (aa 0) ag) ag)))
   (aj (fM 4 sc__law_lines.nd ah)
   (aj (bK 5 PassesOwn.never rfl sc__law_lines.nd uA (aa 2) (aj (aq 6 sc__law_lines.nd aC)
    (aj (bK 7 PassesOwn.never rfl sc__law_lines.nd uA (aa 1) (aj (aq 8 sc__law_lines.nd (au (aA (aa 5) (aa 1)) (aa 7)))
     (aj (aq 9 sc__law_lines.nd (az (aN (ai (aa 0) (au ag (aN (aa 8) ag))) (ai (bE (ac ag (ac ag ah))) (az (aa 8) ag))) ag))
     (ar (aq 6 sc__law_lines.nd (au (aa 6) (ai (aa 3) (az (aa 9) (bH uB (ac (aa 3) ah))))))))))
    (ar (fN 4 (aa 6))))))
   (dh 4 (ar (ay (aa 4))))))))))),λds R h=>?_⟩)
 .obtain⟨_,rfl,_⟩:=h;rfl
 .obtain⟨xs,rfl,hl,hd,hR⟩:=h;have w6:∀k:Nat,k<40->atI (xs.map D.int) (k:Int)=be (.int (cell xs k)):=λk hk=>cN Kd (by simpa using(Kd:k<xs.length));have a0:atI (xs.map D.int) 0=be (.int (cell xs 0)):=w6 0 Kj;have a1:atI (xs.map D.int) 1=be (.int (cell xs 1)):=w6 1 Kj;have a2:atI (xs.map D.int) 2=be (.int (cell xs 2)):=w6 2 Kj;have a3:atI (xs.map D.int) 3=be (.int (cell xs 3)):=w6 3 Kj;clear hl;refine#[λd=>∃v:Int,d=.int v/\1<=v/\v<=8,#[_,a0,Kj,_,rfl,Kd],?_];rintro _⟨w0,rfl,Rw⟩;k_places;refine#[λd=>∃v:Int,d=.int v/\1<=v/\v<=8,#[_,a1,Kj,_,rfl,Kd],?_];rintro _⟨t0,rfl,Rx⟩;k_places;refine#[λz=>∃w t:Nat,z=[be (.lst (xs.map D.int)),be (.int w),be (.int t),s_,s_,s_,s_,s_,s_,s_]/\(1<=w/\w<=8)/\(1<=t/\t<=8),#[_,a2,Kj,ite2 (λ_=>?_) (λ_=>?_)],?_]
  .refine#[λd=>∃v:Nat,d=.int v/\1<=v/\v<=8,#[_,a0,Kj,(1+cell xs 0%8).toNat,by rw[Gi Kd],Kd],?_];rintro _⟨w,rfl,hw⟩;k_places;refine#[λd=>∃v:Nat,d=.int v/\1<=v/\v<=8,#[_,a1,Kj,(1+cell xs 1%8).toNat,by rw[Gi Kd],Kd],?_];rintro _⟨t,rfl,ht⟩;k_places;exact#[w,t,rfl,hw,ht]
  .obtain⟨w,rfl⟩:∃w:Nat,w0=(w:Int):=#[w0.toNat,Kd];obtain⟨t,rfl⟩:∃t:Nat,t0=(t:Int):=#[t0.toNat,Kd];exact#[w,t,rfl,Kd,Kd]
  rintro _⟨w,t,rfl,hw,ht⟩;k_places;obtain⟨sg,es,hs⟩:=Bq (cell xs 3);refine#[λd=>d=.str sg,#[Ld,_,a3,Kj,_,es,rfl],?_];rintro _ rfl;k_places;refine#[Ld,?_];refine#[#[Kd,Kd],λk z=>∃(L:List E_) (o1 o2 o3 o4 o5:Option D),z=[be (.lst (xs.map D.int)),be (.int w),be (.int t),be (.str sg),be (.own (L.map D.str)),o1,o2,o3,o4,o5]/\L.length=k/\∀l∈L,l.length=w/\∀c∈cs l,bj c,#[[],_,_,_,_,_,rfl,rfl,(λx hx=>by cases hx)],?_,?_]
  .rintro j x z hj⟨L,o1,o2,o3,o4,o5,rfl,hL,t9⟩;k_places;have KO:j<t:=by simpa using(FZ.mp hj).1
   have ex:x=.int (j:Int):=by simp[KO]at hj;exact hj.symm
   subst ex;refine#[λd=>d=.str "",rfl,?_];rintro _ rfl;k_places;refine#[#[Kd,Kd],λi z=>∃(ln:E_) (o3 o4 o5:Option D),z=[be (.lst (xs.map D.int)),be (.int w),be (.int t),be (.str sg),be (.own (L.map D.str)),be (.int j),be (.str ln),o3,o4,o5]/\ln.length=i/\∀c∈cs ln,bj c,#[_,_,_,_,rfl,rfl,(λc hc=>by rw[tH]at hc;cases hc)],?_,?_]
   .rintro i y z hi⟨ln,o3,o4,o5,rfl,Mn,NB⟩;k_places;have f8:i<w:=by simpa using(FZ.mp hi).1
    have ey:y=.int (i:Int):=by simp[f8]at hi;exact hi.symm
    subst ey;have pb:=bW (a:=(j:Int)) (d:=(w:Int)) (A:=7) (B:=8) Kd Kd;have pn:0<=(j:Int)*(w:Int):=Ie Kd Kd;refine#[λd=>∃p:Nat,d=.int p/\p<=63,#[.inl #[Kd,Kd],((j:Int)*w+i).toNat,by rw[Gi Kd],Kd],?_];rintro _⟨p,rfl,hp⟩;k_places;obtain⟨m,em,hm⟩:=Br (p:Int);have ap:=w6 (8+p/2) Kd;have ec:((8+p/2:Nat):Int)=8+(p:Int)/2:=Kd
    rw[ec]at ap;refine#[λd=>∃v:Int,d=.int v,#[#[Kj,Kj],_,ap,Ld,Kj,_,em,#[Kd,Kd],Kj,_,rfl],?_];rintro _⟨v,rfl⟩;k_places;obtain⟨c,⟨h1,h2⟩,h3⟩:=Bl hs v;refine#[λd=>∃x:E_,d=.str x/\x.length=i+1/\∀c∈cs x,bj c,#[h1,by have:=hs.1;lia,c,#[h1,h2],?_,_,rfl,Bs Mn NB h3],?_]
    .rw[Mn];show i+1<=1000000;lia
    rintro _⟨x,rfl,g1,g2⟩;k_places;exact#[x,_,_,_,rfl,g1,g2]
   .rintro z⟨ln,o3,o4,o5,rfl,Mn,NB⟩;k_places;have NC:ln.length=w:=by simpa using Mn
    refine#[by simp[hL];lia,?_];rw[Bt];refine#[_,_,_,_,_,_,rfl,by simp[hL],λl hl=>?_];rcases Gk.mp hl with q|q
    .exact t9 l q
    .rw[FO.mp q];exact#[NC,NB]
  .rintro z⟨L,o1,o2,o3,o4,o5,rfl,hL,t9⟩;k_places;exact hR L (Rows.of ht.1 ht.2 (by simpa using hL) hw.1 hw.2 t9)
abbrev oZ(V:Bx):Prop:=V.D 1 "_law_shift_pair" lr Bk
def D0(T:V.T "_law_shift_pair" lp lr)(uD:V.m "int"):oZ V:=by
 refine Tx.okDW T sc__law_shift_pair (λds R h=>?_) (λf cdv A outer s H E J hr=>⟨_,((aj (aT (bp (az (aN (ai (aa 0) ag) ag) ag) ag) (ar (ay (bE (ac (aK (ac (au ag (az (ai (aa 0) ag) ag)) (ac ag ah))) (ac (aK (ac ag (ac (au ag (az (ai (aa 0) ag) ag)) ah))) ah))))) aM)
   (aj (aT (bp (az (aN (ai (aa 0) ag) ag) ag) ag) (ar (ay (bE (ac (aK (ac (au ag (az (ai (aa 0) ag) ag)) (ac ag ah))) (ac (aK (ac (aX (az (ai (aa 0) ag) ag) ag) (ac (au ag (az (ai (aa 0) ag) ag)) ah))) ah))))) aM)
   (aj (aq 1 sc__law_shift_pair.nd (aX (az (ai (aa 0) ag) ag) ag))
   (aj (aq 2 sc__law_shift_pair.nd (aX (az (ai (aa 0) ag) ag) ag))
   (aj (aq 3 sc__law_shift_pair.nd (aX (az (ai (aa 0) ag) ag) ag))
   (aj (aq 4 sc__law_shift_pair.nd (aX (az (ai (aa 0) ag) ag) ag))
   (aj (aq 1 sc__law_shift_pair.nd (au (aa 1) (fO uD (ac (cR (cv (aa 1) ag) (cQ (cv (aa 2) ag))) ah))))
   (aj (aT (bp (aA (aa 1) (aa 4)) (aA (aa 2) (aa 3))) (ar (ay (bE (ac (aK (ac (aa 1) (ac (aa 2) ah))) (ac (aK (ac (cw (aa 2)) (ac (aa 1) ah))) ah))))) aM)
   (ar (ay (bE (ac (aK (ac (aa 1) (ac (aa 2) ah))) (ac (aK (ac (aa 3) (ac (aa 4) ah))) ah)))))))))))))),λds R h=>?_⟩)
 .obtain⟨_,rfl,_⟩:=h;rfl
 .obtain⟨xs,rfl,hl,hd,hR⟩:=h;have a3:=cN (xs:=xs) (k:=3) Kj (show 3<xs.length by lia);have a4:=cN (xs:=xs) (k:=4) Kj (show 4<xs.length by lia);have a5:=cN (xs:=xs) (k:=5) Kj (show 5<xs.length by lia);have a6:=cN (xs:=xs) (k:=6) Kj (show 6<xs.length by lia);have a7:=cN (xs:=xs) (k:=7) Kj (show 7<xs.length by lia);generalize cell xs 3=x3 at*;generalize cell xs 4=x4 at*;generalize cell xs 5=x5 at*;generalize cell xs 6=x6 at*;generalize cell xs 7=x7 at*;clear hl hd;refine#[_,a3,#[Kj,Kj],Kj,ite2 (λ_=>?_) (λ_=>?_)]
  .refine#[_,a4,Kj,Ld,_,a5,Kj,Ld,Ld,hR _ _ _ _ Kd Kd Kd Kd ?_];have p:0<(1+x4%6)*(1+x5%6):=F7 Kd Kd;lia
  refine#[_,a3,#[Kj,Kj],Kj,ite2 (λ_=>?_) (λ_=>?_)]
  .refine#[_,a4,Kj,Ld,_,a6,Kj,_,a5,Kj,Ld,Ld,hR _ _ _ _ Kd Kd Kd Kd ?_];have p:0<(1+x4%6)*(1+x5%4):=F7 Kd Kd;lia
  refine#[λd=>∃v:Int,d=.int v/\-12<=v/\v<=12,#[_,a4,Kj,_,rfl,Kd],?_];rintro _⟨a,rfl,ha⟩;k_places;refine#[λd=>∃v:Int,d=.int v/\-12<=v/\v<=12,#[_,a5,Kj,_,rfl,Kd],?_];rintro _⟨b,rfl,hb⟩;k_places;refine#[λd=>∃v:Int,d=.int v/\-12<=v/\v<=12,#[_,a6,Kj,_,rfl,Kd],?_];rintro _⟨c,rfl,hc⟩;k_places;refine#[λd=>∃v:Int,d=.int v/\-12<=v/\v<=12,#[_,a7,Kj,_,rfl,Kd],?_];rintro _⟨d,rfl,d7⟩;k_places;refine#[λx=>∃v:Int,x=.int v/\(-12<=v/\v<=12)/\¬(v=0/\b=0),ite2 (λe=>?_) (λe=>?_),?_]
  .have e':=of_decide_eq_true e;by_cases O6:b=0
   .refine#[_,rfl,?_];subst e' O6;simp
   .refine#[_,rfl,?_];subst e';simp[O6]
  .have e':=of_decide_eq_false (Gs.mpr e);refine#[_,rfl,?_];simp;lia
  rintro _⟨a,rfl,ha,LC⟩;k_places;refine#[.inl (i64 ha.1 ha.2),.inl (i64 hb.1 hb.2),ite2 (λe=>?_) (λe=>?_)]
  .refine#[Ld,Ld,Ld,hR a b (-b) a ha hb Kd ha ?_];rw[GN];intro z;have s1:0<=a*a:=sq0 a;have s2:0<=b*b:=sq0 b;have z1:a*a=0:=by omega
   have z2:b*b=0:=KK
   exact LC #[(HJ.mp z1).elim id id,(HJ.mp z2).elim id id]
  .have e':=of_decide_eq_false (Gs.mpr e);exact#[Ld,Ld,Ld,hR a b c d ha hb hc d7 e']
abbrev pd(V:Bx):Prop:=V.D 1 "_law_motif_text" lv Bv
def D1(T:V.T "_law_motif_text" lu lv)(uI:V.m "str"):pd V:=by
 refine Tx.okDW T sc__law_motif_text (λds R h=>?_) (λf cdv A outer s H E J hr=>⟨_,((aj (aq 3 sc__law_motif_text.nd (au (au (au (au (au (au (au aC (dm uI (ac (ai (aa 1) ag) ah))) aC) (dm uI (ac (ai (aa 1) ag) ah))) aC) (dm uI (ac (ai (aa 2) ag) ah))) aC) (dm uI (ac (ai (aa 2) ag) ah))))
   (ar (ay (au (au (au aC (gN (aa 0))) (aa 3)) aC))))),λds R h=>?_⟩)
 .obtain⟨_,_,_,_,_,rfl,_⟩:=h;rfl
 .obtain⟨L,a,b,c,d,rfl,hL,ha,hb,hc,hd,hR⟩:=h;have la:=bP ha;have lb:=bP hb;have lc:=bP hc;have ld:=bP hd;have l1:(";":E_).length=1:=rfl;have l2:(",":E_).length=1:=rfl;have l3:("[":E_).length=1:=rfl;have l4:("]":E_).length=1:=rfl;have ls:=tI hL;have lj:=StrLaws.join_length_le "/" L;unfold B12 at ha hb hc hd;refine#[λx=>x=.str ((((((((";":E_)++(toString a:String))++",")++(toString b:String))++";")++(toString c:String))++",")++(toString d:String)),#[_,rfl,Kd,?_,?_,_,rfl,Kd,?_,?_,_,rfl,Kd,?_,?_,_,rfl,Kd,?_,rfl],?_]
  .lia
  .rw[aH];lia
  .rw[aH,aH];lia
  .rw[aH,aH,aH];lia
  .rw[aH,aH,aH,aH];lia
  .rw[aH,aH,aH,aH,aH];lia
  .rw[aH,aH,aH,aH,aH,aH];lia
  rintro _ rfl;k_places;have lg:(Txt.join "/" L).length<=72:=by
   have e:Txt.join "/" L=Str.join "/" L:=StrLaws.glued_eq_join _ _;rw[e];exact FX lj ls
  refine#[L,ib L,Kd,?_,?_,?_,hR]
  .lia
  .repeat rw[aH]
   lia
  .repeat rw[aH]
   lia
abbrev pe(V:Bx):Prop:=V.D 3 "_law_motif" lz By
def D2(T:V.T "_law_motif" ly lz)(JN:gh V)(ND:oY V)(NE:oZ V)(NF:pd V):pe V:=by
 refine Tx.okDW T sc__law_motif (λds R h=>?_) (λf cdv A outer s H E J hr=>⟨_,((aj (aq 2 sc__law_motif.nd (aw JN hr (ac (aa 0) (ac (aa 1) (ac ag ah)))))
   (aj (aq 3 sc__law_motif.nd (aw ND hr (ac (aa 2) ah)))
   (aj (ze rfl (aw NE hr (ac (aa 2) ah)) (dg_cons 4 sc__law_motif.nd (dg_cons 5 sc__law_motif.nd dM)))
   (aj (aq 6 sc__law_motif.nd (aK (ac (aa 3) (ac (aa 4) (ac (aa 5) (ac (aK (ac ag (ac ag (ac ag (ac ag (ac ag (ac ag ah))))))) (ac (bE (ac ag (ac ag (ac ag (ac ag (ac ag (ac ag (ac ag ah)))))))) ah)))))))
   (ar (ay (bE (ac (aw NF hr (ac (aa 3) (ac (aa 4) (ac (aa 5) ah)))) (ac ag (ac (bE (ac (aa 6) ah)) ah))))))))))),λds R h=>?_⟩)
 .obtain⟨_,_,rfl,_⟩:=h;rfl
 .obtain⟨ns,k,rfl,hk,hR⟩:=h;refine#[λx=>∃xs:List Int,x=.lst (xs.map D.int)/\xs.length=40/\Drawn xs,#[ns,k,40,rfl,hk,Kj,λxs h1 h2=>#[xs,rfl,h1,h2]],?_];rintro _⟨xs,rfl,hl,hd⟩;k_places;refine#[λx=>∃L:List E_,x=.lst (L.map D.str)/\Rows L,#[xs,rfl,Kd,hd,λL h=>#[L,rfl,h]],?_];rintro _⟨L,rfl,hL⟩;k_places;refine#[xs,rfl,Kd,hd,λa b c d ha hb hc d7 hn=>#[rfl,?_]];refine#[λx=>x=(bD L a b c d).D,#[Ld,Ld,Ld,rfl],?_];rintro _ rfl;k_places;exact#[L,a,b,c,d,rfl,hL,ha,hb,hc,d7,Ld,Ld,hR L a b c d hL ha hb hc d7 hn]
abbrev pf(V:Bx):Prop:=V.D 1 "_law_wrapped" lC BJ
def D3(T:V.T "_law_wrapped" im lC)(uI:V.m "str")(KP:V.m "list")(uD:V.m "int"):pf V:=by
 refine Tx.okDW T sc__law_wrapped (λds R h=>?_) (λf cdv A outer s H E J hr=>⟨_,((aj (aT (rH (ai (aa 0) ag) ag) (ar (ay (aa 0))) aM)
   (aj (aq 2 sc__law_wrapped.nd (aX (az (aN (aa 1) ag) ag) ag))
   (aj (aq 3 sc__law_wrapped.nd (aX (az (aN (aa 1) ag) ag) ag))
   (aj (aq 4 sc__law_wrapped.nd (au ag (az (aN (aa 1) ag) ag)))
   (aj (aq 5 sc__law_wrapped.nd (au ag (az (aN (aa 1) ag) ag)))
   (aj (aq 6 sc__law_wrapped.nd (au (au (au (au aC (dm uI (ac (aa 2) ah))) aC) (dm uI (ac (aa 3) ah))) aC))
   (aj (aq 7 sc__law_wrapped.nd (ai (bE (ac aC (ac aC (ac (aa 6) (ac (au (au aC (dm uI (ac (aa 4) ah))) (dm uI (ac (aa 5) ah))) ah))))) (az (aa 1) ag)))
   (aj (aq 8 sc__law_wrapped.nd (bE (ac (aK (ac (cw ag) (ac ag (ac ag (ac ag (ac ag (ac ag ah))))))) (ac (aK (ac ag (ac ag (ac (cw ag) (ac ag (ac ag (ac ag ah))))))) ah))))
   (aj (aq 8 sc__law_wrapped.nd (au (aa 8) (bE (ac (aK (ac ag (ac ag (ac ag (ac ag (ac (cw (aa 2)) (ac (cw (aa 3)) ah))))))) (ac (aK (ac ag (ac ag (ac ag (ac ag (ac ag (ac ag ah))))))) ah)))))
   (aj (aq 9 sc__law_wrapped.nd (ai (aa 8) (az (aa 1) ag)))
   (aj (fM 10 sc__law_wrapped.nd ah)
   (aj (kh 11 PassesOwn.never rfl sc__law_wrapped.nd (ai (aa 0) ag) (aj (rM rfl (ai (aa 11) ag) (dg_cons 12 sc__law_wrapped.nd (dg_cons 13 sc__law_wrapped.nd (dg_cons 14 sc__law_wrapped.nd (dg_cons 15 sc__law_wrapped.nd (dg_cons 16 sc__law_wrapped.nd (dg_cons 17 sc__law_wrapped.nd dM)))))))
    (aj (aq 18 sc__law_wrapped.nd (aK (ac (au (aA (aa 12) (ai (aa 9) ag)) (aA (aa 13) (ai (aa 9) ag))) (ac (au (aA (aa 12) (ai (aa 9) ag)) (aA (aa 13) (ai (aa 9) ag))) ah))))
    (aj (aq 18 sc__law_wrapped.nd (au (aa 18) (aK (ac (au (aA (aa 14) (ai (aa 9) ag)) (aA (aa 15) (ai (aa 9) ag))) (ac (au (aA (aa 14) (ai (aa 9) ag)) (aA (aa 15) (ai (aa 9) ag))) ah)))))
    (aj (aq 16 sc__law_wrapped.nd (au (au (aa 16) (aA (aa 12) (ai (aa 9) ag))) (aA (aa 13) (ai (aa 9) ag))))
    (aj (aq 17 sc__law_wrapped.nd (au (au (aa 17) (aA (aa 14) (ai (aa 9) ag))) (aA (aa 15) (ai (aa 9) ag))))
    (aj (aq 19 sc__law_wrapped.nd (yR KP (ac (ai (aa 11) ag) ah)))
    (aj (cx (bp (az (aa 1) ag) ag) (ar (zj 19 rfl (compScope (by change bO _ (ao im) ["_law_part","_law_draw","_law_across","_law_down","_law_old","_law_new","_law_shift","_law_head","_law_ways","_law_by","_law_leaves","_law_leaf","_law_a","_law_b","_law_c","_law_d","_law_e","_law_f","_law_way","_law_hues"] _=true;decide+kernel)) sc__law_wrapped.nd (ai (aa 11) ag) (λcl s0 H0 fp=>(ai (bE (ac (aa 20) (ac (aa 5) ah))) (fO uD (ac (cv (aa 20) (aa 4)) ah)))))) aM)
    (ar (fN 10 (aK (ac (ai (aa 11) ag) (ac (ai (aa 11) ag) (ac (ai (aa 11) ag) (ac (au (aa 18) (aK (ac (aa 16) (ac (aa 17) ah)))) (ac (aa 19) ah))))))))))))))))
   (dh 10 (ar (ay (bE (ac (au (aa 7) (ai (aa 0) ag)) (ac (au (ai (aa 0) ag) ag) (ac (aa 10) ah)))))))))))))))))))),λds R h=>?_⟩)
 .obtain⟨_,_,rfl,_⟩:=h;rfl
 .obtain⟨p,draw,rfl,wf,hd,ht,hW⟩:=h;refine#[_,rfl,ite2 (λc=>?_) (λc=>?_)]
  .have c':=of_decide_eq_true c;exact hW.1 Kd
  have c':=of_decide_eq_false (Gs.mpr c);have d7:p.depth<5:=Kd
  refine#[λd=>∃v:Int,d=.int v/\B12 v,#[#[Kj,Kj],Kj,_,rfl,by unfold B12;lia],?_];rintro _⟨A,rfl,hA⟩;simp only[Gd,Gf,aY];refine#[λd=>∃v:Int,d=.int v/\B12 v,#[#[Kj,Kj],Kj,_,rfl,by unfold B12;lia],?_];rintro _⟨B,rfl,hB⟩;simp only[Gd,Gf,aY];refine#[λd=>∃v:Int,d=.int v/\1<=v/\v<=6,#[#[Kj,Kj],Kj,_,rfl,Kd],?_];rintro _⟨d6,rfl,ho⟩;simp only[Gd,Gf,aY];refine#[λd=>∃v:Int,d=.int v/\1<=v/\v<=6,#[#[Kj,Kj],Kj,_,rfl,Kd],?_];rintro _⟨new,rfl,hn⟩;simp only[Gd,Gf,aY];have l1:("s":E_).length=1:=rfl;have l2:(",":E_).length=1:=rfl;have l3:(":":E_).length=1:=rfl;have l4:("h":E_).length=1:=rfl;have lA:=bP hA;have lB:=bP hB;have lo:=eV ho;have ln:=eV hn;obtain⟨hs,b0,b1,b2,b3,b4,b5,e1,e2,hb,hl,hR⟩:=BH hW d7 (k:=0) hA hB ho hn Kd;unfold B12 at hA hB;refine#[λx=>x=.str ((((("s":E_)++(toString A:String))++",")++(toString B:String))++":"),#[Kd,?_,?_,Kd,?_,?_,rfl],?_]
  .lia
  .rw[aH];lia
  .rw[aH,aH];lia
  .rw[aH,aH,aH];lia
  rintro _ rfl;simp only[Gd,Gf,aY];refine#[λx=>x=.str hs,#[Kd,?_,Kd,?_,Ld,Kj,_,e1,rfl],?_]
  .lia
  .rw[aH];lia
  rintro _ rfl;simp only[Gd,Gf,aY];refine#[λx=>x=.lst [D.tup [.int (-1),.int 0,.int 0,.int 1,.int 0,.int 0],D.tup [.int 0,.int 1,.int (-1),.int 0,.int 0,.int 0]],#[Ld,Ld,Ld,rfl],?_];rintro _ rfl;simp only[Gd,Gf,aY];refine#[λx=>x=.lst ([D.tup [.int (-1),.int 0,.int 0,.int 1,.int 0,.int 0],D.tup [.int 0,.int 1,.int (-1),.int 0,.int 0,.int 0]]++[D.tup [.int 1,.int 0,.int 0,.int 1,.int (-A),.int (-B)],D.tup [.int 1,.int 0,.int 0,.int 1,.int 0,.int 0]]),#[Ld,Ld,Ld,Ld,rfl],?_];rintro _ rfl;simp only[Gd,Gf,aY];refine#[λx=>x=.tup [.int b0,.int b1,.int b2,.int b3,.int b4,.int b5],#[Kj,_,e2,rfl],?_];rintro _ rfl;simp only[Gd,Gf,aY];refine#[Ld,?_];generalize D.str ((((("s":E_)++(toString A:String))++",")++(toString B:String))++":")=sD;generalize D.lst ([D.tup [.int (-1),.int 0,.int 0,.int 1,.int 0,.int 0],D.tup [.int 0,.int 1,.int (-1),.int 0,.int 0,.int 0]]++[D.tup [.int 1,.int 0,.int 0,.int 1,.int (-A),.int (-B)],D.tup [.int 1,.int 0,.int 0,.int 1,.int 0,.int 0]])=wD;clear e1 e2 hW lA lB lo ln l1 l2 l3 l4 hA hB c';refine#[_,rfl,λk z=>∃w9 w_ m4 m5 Kw NG NH NI KQ:Option D,z=[be p.D,be (.int draw),be (.int A),be (.int B),be (.int d6),be (.int new),be sD,be (.str hs),be wD,be (.tup [.int b0,.int b1,.int b2,.int b3,.int b4,.int b5]),be (.own (((p.leaves.take k).map (Leaf.T (decide (draw%4=3)) d6 new b0 b1 b2 b3 b4 b5)).map Leaf.D)),w9,w_,m4,m5,Kw,NG,NH,NI,KQ],#[_,_,_,_,_,_,_,_,_,rfl],?_,?_]
  .rintro k v z hk⟨w9,w_,m4,m5,Kw,NG,NH,NI,KQ,rfl⟩;k_places;rw[FT]at hk;have n9:k<p.leaves.length:=by
    rcases G6 k p.leaves.length with q|q
    .exact q
    .rw[GE q]at hk;cases hk
   have KR:p.leaves[k]?=be p.leaves[k]:=F9 n9;rw[KR]at hk;cases hk;obtain⟨gd,nr⟩:=Pat.leaf_good wf p.leaves[k] (Gm n9);have b7:(p.leaves.take k).length<=1000:=by rw[Hj];have:=Pat.leaves_32 hd;lia
   generalize p.leaves[k]=l at KR gd nr;obtain⟨r0,r1,r2,r3⟩:=nr.unit;obtain⟨q0,q1,q2,q3,q4,q5⟩:=hb;refine#[_,rfl,rfl,?_];simp only[Gd,Gf,aY];refine#[λx=>x=.tup [.int (l.w0*b0+l.w1*b2),.int (l.w0*b1+l.w1*b3)],#[_,rfl,.inr (n64 q0),_,rfl,.inr (n64 q2),_,rfl,.inr (n64 q1),_,rfl,.inr (n64 q3),Ld,rfl],?_];rintro _ rfl;simp only[Gd,Gf,aY];refine#[λx=>x=.tup [.int (l.w0*b0+l.w1*b2),.int (l.w0*b1+l.w1*b3),.int (l.w2*b0+l.w3*b2),.int (l.w2*b1+l.w3*b3)],#[_,rfl,.inr (n64 q0),_,rfl,.inr (n64 q2),_,rfl,.inr (n64 q1),_,rfl,.inr (n64 q3),Ld,Ld,rfl],?_];rintro _ rfl;simp only[Gd,Gf,aY];refine#[λx=>x=.int (l.w4+l.w0*b4+l.w1*b5),#[_,rfl,.inr (n64 q4),_,rfl,.inr (n64 q5),rfl],?_];rintro _ rfl;simp only[Gd,Gf,aY];refine#[λx=>x=.int (l.w5+l.w2*b4+l.w3*b5),#[_,rfl,.inr (n64 q4),_,rfl,.inr (n64 q5),rfl],?_];rintro _ rfl;simp only[Gd,Gf,aY];refine#[λx=>x=.lst (l.hues.map D.int),#[_,rfl,rfl],?_];rintro _ rfl;simp only[Gd,Gf,aY];refine#[λz=>∃KQ:List Int,KQ=(Leaf.T (decide (draw%4=3)) d6 new b0 b1 b2 b3 b4 b5 l).hues/\z=[be p.D,be (.int draw),be (.int A),be (.int B),be (.int d6),be (.int new),be sD,be (.str hs),be wD,be (.tup [.int b0,.int b1,.int b2,.int b3,.int b4,.int b5]),be (.own (((p.leaves.take k).map (Leaf.T (decide (draw%4=3)) d6 new b0 b1 b2 b3 b4 b5)).map Leaf.D)),be l.D,be (.int l.w0),be (.int l.w1),be (.int l.w2),be (.int l.w3),be (.int (l.w4+l.w0*b4+l.w1*b5)),be (.int (l.w5+l.w2*b4+l.w3*b5)),be (.tup [.int (l.w0*b0+l.w1*b2),.int (l.w0*b1+l.w1*b3),.int (l.w2*b0+l.w3*b2),.int (l.w2*b1+l.w3*b3)]),be (.lst (KQ.map D.int))],#[Kj,ite2 (λc=>?_) (λc=>?_)],?_]
   .have c3:=of_decide_eq_true c;refine#[λx=>x=.lst ((l.hues.map (bQ d6 new)).map D.int),#[_,rfl,by rw[FP,gd.many];decide,λk ys=>ys=((l.hues.take k).map (bQ d6 new)).map D.int,rfl,?_,?_],?_]
    .rintro k' x ys hx hl rfl;rw[FT]at hx;cases e:l.hues[k']? with
     |none=>rw[e]at hx;cases hx
     |some hu=>
      rw[e]at hx;cases hx;refine#[Ld,_,BI hu d6 new,?_];dsimp only;rw[kQ e];simp
    .rintro ys hl rfl;rw[FP,HK]
    .rintro _ rfl;k_places;exact#[_,by simp[Leaf.T,c3,Leaf.dye,Leaf.by],rfl]
   .have c3:=of_decide_eq_false (Gs.mpr c);exact#[_,by simp[Leaf.T,c3,Leaf.by],rfl]
   rintro _⟨hu,QA,rfl⟩;k_places;refine#[_,rfl,_,rfl,_,rfl,Ld,Ld,Ld,by rw[FP,FP];lia,?_];have eT:(D.tup [.lst (l.rows.map D.str),.tup [.int l.a,.int l.b],.tup [.int l.c,.int l.d],.tup ([.int (l.w0*b0+l.w1*b2),.int (l.w0*b1+l.w1*b3),.int (l.w2*b0+l.w3*b2),.int (l.w2*b1+l.w3*b3)]++[.int (l.w4+l.w0*b4+l.w1*b5),.int (l.w5+l.w2*b4+l.w3*b5)]),.lst (hu.map D.int)])=(Leaf.T (decide (draw%4=3)) d6 new b0 b1 b2 b3 b4 b5 l).D:=by
    rw[QA];by_cases c3:draw%4=3
    .simp[Leaf.T,c3,Leaf.D,Leaf.dye,Leaf.by]
    .simp[Leaf.T,c3,Leaf.D,Leaf.by]
   have e9:((p.leaves.take (k+1)).map (Leaf.T (decide (draw%4=3)) d6 new b0 b1 b2 b3 b4 b5)).map Leaf.D=((p.leaves.take k).map (Leaf.T (decide (draw%4=3)) d6 new b0 b1 b2 b3 b4 b5)).map Leaf.D++[(Leaf.T (decide (draw%4=3)) d6 new b0 b1 b2 b3 b4 b5 l).D]:=by
    rw[kQ KR,Gr,Gr,FY,FY,GJ,GJ]
   rw[e9,<-eT];exact#[_,_,_,_,_,_,_,_,_,rfl]
  .rintro z⟨w9,w_,m4,m5,Kw,NG,NH,NI,KQ,rfl⟩;k_places;rw[FP,HK];refine#[_,rfl,Kd,_,rfl,Ld,hR]
abbrev je(V:Bx):Prop:=V.D 1 "_law_gcd" lF Bb
def D4(T:V.T "_law_gcd" lD lF)(uO:V.m "abs"):je V:=by
 refine Tx.okDW T sc__law_gcd (λds R h=>?_) (λf cdv A outer s H E J hr=>⟨_,((aj (aq 0 sc__law_gcd.nd (eE uO (ac (aa 0) ah)))
   (aj (aq 1 sc__law_gcd.nd (eE uO (ac (aa 1) ah)))
   (aj (dN PassesOwn.never (bT (aa 1) ag) (ar (yJ 0 1 rfl sc__law_gcd.nd (ac (aa 1) (ac (az (aa 0) (aa 1)) ah)))))
   (ar (ay (aa 0))))))),λds R h=>?_⟩)
 .obtain⟨x,y,rfl,_⟩:=h;rfl
 .obtain⟨x,y,rfl,hR⟩:=h;refine#[λd=>d=.int (if x<0 then -x else x),rfl,?_];rintro _ rfl;k_places;refine#[λd=>d=.int (if y<0 then -y else y),rfl,?_];rintro _ rfl;k_places;have hx:0<=(if x<0 then -x else x):=by split<;>lia
  have hy:0<=(if y<0 then -y else y):=by split<;>lia
  have NJ:∀e,(e∣(if x<0 then -x else x)/\e∣(if y<0 then -y else y))↔(e∣x/\e∣y):=λe=>by rw[tD,tD]
  generalize (if x<0 then -x else x)=a at hx NJ ⊢;generalize (if y<0 then -y else y)=b at hy NJ ⊢;refine#[λm z=>∃a b:Int,z=[be (.int a),be (.int b)]/\0<=a/\0<=b/\(∀e,(e∣a/\e∣b)↔(e∣x/\e∣y))/\m=b.toNat,#[_,a,b,rfl,hx,hy,NJ,rfl],?_];rintro m z⟨a,b,rfl,ha,hb,LC,rfl⟩;k_places;refine ite2 (λc=>?_) (λc=>?_)
  .have c':¬b=0:=by simpa using c
   have q1:=bX (a:=a) (show 0<b by lia);have q2:=bY (a:=a) (show 0<b by lia);refine#[Kd,_,?_,b,a%b,rfl,hb,q1,λe=>?_,rfl]
   .lia
   .rw[<-LC e];constructor
    .rintro⟨h1,h2⟩;exact#[(tE h1).mp h2,h1]
    .rintro⟨h1,h2⟩;exact#[h2,(tE h2).mpr h1]
  .have c':b=0:=by simpa using c
   subst c';have g:=(LC a).mp #[Int.dvd_refl a,Int.dvd_zero a];exact hR a ha g.1 g.2 λe h1 h2=>((LC e).mpr #[h1,h2]).1
abbrev jg(V:Bx):Prop:=V.D 1 "_law_on" lH Ba
def D5(T:V.T "_law_on" lG lH):jg V:=by
 refine Tx.okDW T sc__law_on (λds R h=>?_) (λf cdv A outer s H E J hr=>⟨_,((aj (aq 4 sc__law_on.nd (aX (aA (ai (aa 0) ag) (ai (aa 1) ag)) (aA (ai (aa 0) ag) (ai (aa 1) ag))))
   (ar (ay (cR (cv (rA (aX (aA (aa 2) (ai (aa 1) ag)) (aA (aa 3) (ai (aa 1) ag))) (aa 4)) ag) (cQ (cv (rA (aX (aA (ai (aa 0) ag) (aa 3)) (aA (ai (aa 0) ag) (aa 2))) (aa 4)) ag))))))),λds R h=>?_⟩)
 .obtain⟨a,b,c,d,u,v,rfl,_⟩:=h;rfl
 .obtain⟨a,b,c,d,u,v,rfl,ha,hb,hc,hd,hn,hR⟩:=h;have KS:∀{x:Int},x.natAbs<1073741824->-(2^64)<x/\x<2^64:=λh=>n64 (Nat.le_of_lt_succ h);refine#[λx=>x=.int (a*d-b*c),#[_,rfl,_,rfl,.inl (KS ha),_,rfl,_,rfl,.inl (KS hb),rfl],?_];rintro _ rfl;k_places;refine#[_,rfl,.inr (KS hd),_,rfl,.inr (KS hc),KK,ite2 (λe=>?_) (λe=>?_)]
  .have e':=of_decide_eq_true e;refine#[_,rfl,.inl (KS ha),_,rfl,.inl (KS hb),KK,?_];have q:decide ((a*v-b*u).fmod (a*d-b*c)=0)=decide ((u*d-v*c).fmod (a*d-b*c)=0/\(a*v-b*u).fmod (a*d-b*c)=0):=by simp[e']
   have g:R (.bl (decide ((a*v-b*u).fmod (a*d-b*c)=0))):=by rw[q];exact hR
   exact g
  .have e':=of_decide_eq_false (Gs.mpr e);have q:decide ((u*d-v*c).fmod (a*d-b*c)=0/\(a*v-b*u).fmod (a*d-b*c)=0)=false:=by simp[e']
   rw[q]at hR;exact hR
abbrev ph(V:Bx):Prop:=V.D 2 "_law_leaf_family" lK BL
def D6(T:V.T "_law_leaf_family" lJ lK)(uO:V.m "abs")(KU:je V)(KW:jg V):ph V:=by
 refine Tx.okDW T sc__law_leaf_family (λds R h=>?_) (λf cdv A outer s H E J hr=>⟨_,((aj (rM rfl (ai (aa 0) ag) (dg_cons 1 sc__law_leaf_family.nd (dg_cons 2 sc__law_leaf_family.nd (dg_cons 3 sc__law_leaf_family.nd (dg_cons 4 sc__law_leaf_family.nd (dg_cons 5 sc__law_leaf_family.nd (dg_cons 6 sc__law_leaf_family.nd dM)))))))
   (aj (aq 7 sc__law_leaf_family.nd (aK (ac (au (aA (aa 1) (ai (ai (aa 0) ag) ag)) (aA (aa 3) (ai (ai (aa 0) ag) ag))) (ac (au (aA (aa 2) (ai (ai (aa 0) ag) ag)) (aA (aa 4) (ai (ai (aa 0) ag) ag))) ah))))
   (aj (aq 8 sc__law_leaf_family.nd (aK (ac (au (aA (aa 1) (ai (ai (aa 0) ag) ag)) (aA (aa 3) (ai (ai (aa 0) ag) ag))) (ac (au (aA (aa 2) (ai (ai (aa 0) ag) ag)) (aA (aa 4) (ai (ai (aa 0) ag) ag))) ah))))
   (aj (aq 9 sc__law_leaf_family.nd (aw KU hr (ac (ai (aa 7) ag) (ac (ai (aa 8) ag) ah))))
   (aj (aq 10 sc__law_leaf_family.nd (aN (eE uO (ac (aX (aA (ai (aa 7) ag) (ai (aa 8) ag)) (aA (ai (aa 7) ag) (ai (aa 8) ag))) ah)) (aa 9)))
   (aj (aq 11 sc__law_leaf_family.nd ag)
   (aj (dN PassesOwn.never (cE (bN (aw KW hr (ac (aa 7) (ac (aa 8) (ac (aa 11) (ac (aa 9) ah))))))) (ar (aq 11 sc__law_leaf_family.nd (au (aa 11) ag))))
   (ar (ay (aK (ac (aa 10) (ac (aa 9) (ac (aa 11) ah)))))))))))))),λds R h=>?_⟩)
 .obtain⟨_,_,rfl,_⟩:=h;rfl
 .obtain⟨l,n,rfl,gd,nr,hR⟩:=h;obtain⟨h0,h1,h2,h3⟩:=nr.unit;obtain⟨z0,z1,z2,z3,ne,z5⟩:=Leaf.sizes gd nr;have ha:=gd.a;have hb:=gd.b;have hc:=gd.c;have hd:=gd.d;unfold B12 at ha hb hc hd;refine#[_,rfl,rfl,?_];simp only[Gd,Gf,aY];refine#[λx=>x=.tup [.int l.o0,.int l.o1],#[_,rfl,_,rfl,.inl (u64 h0),_,rfl,_,rfl,.inl (u64 h2),_,rfl,_,rfl,.inl (u64 h1),_,rfl,_,rfl,.inl (u64 h3),Ld,rfl],?_];rintro _ rfl;k_places;refine#[λx=>x=.tup [.int l.t0,.int l.t1],#[_,rfl,_,rfl,.inl (u64 h0),_,rfl,_,rfl,.inl (u64 h2),_,rfl,_,rfl,.inl (u64 h1),_,rfl,_,rfl,.inl (u64 h3),Ld,rfl],?_];rintro _ rfl;k_places;generalize l.o0=o0 at*;generalize l.o1=o1 at*;generalize l.t0=t0 at*;generalize l.t1=t1 at*;refine#[λx=>∃g:Int,x=.int g/\0<=g/\g∣o1/\g∣t1/\∀e,e∣o1->e∣t1->e∣g,#[_,rfl,_,rfl,o1,t1,rfl,λg q0 q1 q2 q3=>#[g,rfl,q0,q1,q2,q3]],?_];rintro _⟨g,rfl,q0,q1,q2,q3⟩;k_places;obtain⟨w,s,f⟩:=BK ne q0 q1 q2 q3;have hg:=f.2.1;have k1:=bW (a:=o0) (d:=t1) (A:=24) (B:=24) z0 z3;have k2:=bW (a:=o1) (d:=t0) (A:=24) (B:=24) z1 z2;have Ry:=f.bd (N:=288) z5;have v4:=f.cells;have ew:(if o0*t1-o1*t0<0 then -(o0*t1-o1*t0)else o0*t1-o1*t0)/g=w:=by
   have hp:=F7 f.1 hg;have:(if o0*t1-o1*t0<0 then -(o0*t1-o1*t0)else o0*t1-o1*t0)=w*g:=by split<;>lia
   rw[this];exact Gu _ Kd
  refine#[λx=>x=.int w,#[_,rfl,_,rfl,.inl (n64 z0),_,rfl,_,rfl,.inl (n64 z1),#[Kd,Kd],?_],?_]
  .exact congrArg D.int ew
  rintro _ rfl;k_places;refine#[λx=>x=.int 0,rfl,?_];rintro _ rfl;k_places;have hp:=F7 f.1 hg;refine#[λm z=>∃x:Int,z=[be l.D,be (.int l.w0),be (.int l.w1),be (.int l.w2),be (.int l.w3),be (.int l.w4),be (.int l.w5),be (.tup [.int o0,.int o1]),be (.tup [.int t0,.int t1]),be (.int g),be (.int w),be (.int x)]/\0<=x/\x<=s/\m=(s-x).toNat,#[_,0,rfl,Kd,f.2.2.1,rfl],?_];rintro m z⟨x,rfl,x0,x1,rfl⟩;k_places;refine#[o0,o1,t0,t1,x,g,rfl,Kd,Kd,Kd,Kd,ne,?_];refine ite2 (λc=>?_) (λc=>?_)
  .have c':¬((x*t1-g*t0).fmod (o0*t1-o1*t0)=0/\(o0*g-o1*x).fmod (o0*t1-o1*t0)=0):=notT c;have xs:x≠s:=by
    rintro rfl;obtain⟨_,_,_,_,m',n',k',l',_,e1,e2,e3,e4⟩:=id f;exact c' (tw e3 e4)
   refine#[λd=>d=.int (x+1),rfl,?_];rintro _ rfl;k_places;exact#[_,Kd,x+1,rfl,Kd,Kd,rfl]
  .have c':(x*t1-g*t0).fmod (o0*t1-o1*t0)=0/\(o0*g-o1*x).fmod (o0*t1-o1*t0)=0:=by
    exact notF c
   obtain⟨i,j,e1,e2⟩:=tP ne c';have:x=s:=f.uniq_lean e1 e2 x0 x1;subst this;exact#[Ld,hR w g x f Kd]
abbrev pi(V:Bx):Prop:=V.D 1 "_law_in_family" lM A9
def D7(T:V.T "_law_in_family" lL lM):pi V:=by
 refine Tx.okDW T Dg (λds R h=>?_) (λf cdv A outer s H E J hr=>#[_,((ar (ay (cR (cv (az (aa 2) (ai (aa 0) ag)) ag) (cQ (cv (az (aX (aa 1) (aA (aN (aa 2) (ai (aa 0) ag)) (ai (aa 0) ag))) (ai (aa 0) ag)) ag)))))),λds R h=>?_])
 .obtain⟨w,h,s,x,y,rfl,_⟩:=h;rfl
 .obtain⟨w,h,s,x,y,rfl,hw,hh,z9,hs,l8,hR⟩:=h;refine#[_,rfl,hh,ite2 (λc=>?_) (λc=>?_)]
  .have c':=of_decide_eq_true c;refine#[_,rfl,#[hh,z9],_,rfl,.inr #[Kd,Kd],_,rfl,hw,?_];have e:decide ((x-y/h*s)%w=0)=decide (y%h=0/\(x-y/h*s)%w=0):=by simp[c']
   have g:R (.bl (decide ((x-y/h*s)%w=0))):=by rw[e];exact hR
   exact g
  .have c':=of_decide_eq_false (Gs.mpr c);have e:decide (y%h=0/\(x-y/h*s)%w=0)=false:=by simp[c']
   rw[e]at hR;exact hR
abbrev jh(V:Bx):Prop:=V.D 2 "_law_both" lP BO
def D8(T:V.T "_law_both" lN lP)(KU:je V)(NK:pi V):jh V:=by
  refine Tx.okDW T sc__law_both (λds R h=>?_) (λf cdv A outer s H E J hr=>⟨_,((aj (aq 2 sc__law_both.nd (aN (aA (ai (aa 0) ag) (ai (aa 1) ag)) (aw KU hr (ac (ai (aa 0) ag) (ac (ai (aa 1) ag) ah)))))
      (aj (aq 3 sc__law_both.nd (ai (aa 0) ag))
      (aj (dN PassesOwn.never (yq (aA (aa 2) (aa 3)) ag) (aj (aq 4 sc__law_both.nd (az (aA (ai (aa 0) ag) (aN (aa 3) (ai (aa 0) ag))) (ai (aa 0) ag)))
        (aj (dN PassesOwn.never (dH (aa 4) (aa 2)) (aj (aT (bN (aw NK hr (ac (aa 1) (ac (aa 4) (ac (aa 3) ah))))) (ar (ay (aK (ac (aa 2) (ac (aa 3) (ac (aa 4) ah)))))) aM)
          (ar (aq 4 sc__law_both.nd (au (aa 4) (ai (aa 0) ag))))))
        (ar (aq 3 sc__law_both.nd (au (aa 3) (ai (aa 0) ag)))))))
      (ar (ay bG)))))),λds R h=>?_⟩)
  . obtain⟨_,_,_,_,_,_,rfl,_⟩:=h;rfl
  . obtain⟨w1,h1,s1,w2,h2,s2,rfl,f1,f2,hR⟩:=h;obtain⟨a1,a2,a3,a4,a5,a6⟩:=f1;obtain⟨b1,b2,b3,b4,b5,b6⟩:=f2;obtain⟨g,u,W,Hh,S,A,M1,eW,M⟩:=BN #[a1,a2,a3,a4,a5,a6] #[b1,b2,b3,b4,b5,b6];have O7:=hR W Hh S A M;have wb:W<=518400:=by
      have:=(kM a1 b1 M1).2.1;have:=bW (a:=w1) (d:=w2) (A:=720) (B:=720) Kd Kd;lia
    have mw:=M.w0;have mh:=M.h0;have ms:=M.s0;have Rz:=M.sw;refine#[λx=>x=.int W,#[_,rfl,_,rfl,.inl #[Kd,Kd],_,rfl,_,rfl,w1,w2,rfl,λG q0 q1 q2 q3=>?_],?_]
    . have eG:=M1.gcd q0 q1 q2 q3;subst eG;have hg:=M1.pos a1;have NL:=M1.le a1;exact#[#[hg,Kd],by rw[<-eW]]
    rintro _ rfl;k_places;refine#[λx=>x=.int h1,#[_,rfl,rfl],?_];rintro _ rfl;k_places;obtain⟨i0,j0,eS,eH⟩:=M.up1;have QB:1<=j0:=by
      rcases(Kd:j0<=0\/1<=j0)with z|z
      . have:=GW z (show 0<=h1 by lia);lia
      . exact z
    refine#[λm z=>∃(j:Int) (o:Option D),z=[be (.tup [.int w1,.int h1,.int s1]),be (.tup [.int w2,.int h2,.int s2]),be (.int W),be (.int (j*h1)),o]/\1<=j/\j<=j0/\m=(j0-j).toNat,#[_,1,_,by rw[Jz];rfl,Kd,QB,rfl],?_];rintro m z⟨j,o,rfl,JO,NM,rfl⟩;k_places;have QC:0<j*h1:=F7 Kd a3;have QD:j*h1<=Hh:=by
      rw[eH];exact Ga NM Kd
    have RA:=HF QD (show 0<=W by lia);refine#[.inl #[Kd,Kd],ite2 (λc=>?_) (λc=>?_)]
    . have c':=of_decide_eq_true c;have RB:j*h1<=720:=by
        have:=(cr (w:=W) (h:=j*h1) mw QC).2;lia
      have QE:j*h1/h1=j:=Gu _ Kd;refine#[λx=>∃v:Int,x=.int v/\0<=v/\v<w1/\∃i,v=i*w1+j*s1,#[_,rfl,_,rfl,#[Kd,Kd],.inl #[Kd,Kd],_,rfl,a1,_,rfl,bX a1,bY a1,?_],?_]
      . rw[QE];refine#[-(s1*j/w1),?_];have:=Gw (s1*j) w1;rw[this];have e1:s1*j=j*s1:=Gb _ _;have e2:w1*(s1*j/w1)=s1*j/w1*w1:=Gb _ _;rw[e2,GL];lia
      rintro _⟨x0,rfl,x1,x2,i1,O8⟩;k_places;refine#[λm z=>∃(x:Int),z=[be (.tup [.int w1,.int h1,.int s1]),be (.tup [.int w2,.int h2,.int s2]),be (.int W),be (.int (j*h1)),be (.int x)]/\0<=x/\(∃i,x=i*w1+j*s1)/\(j=j0->x<=S)/\m=(W-x).toNat,#[_,x0,rfl,x1,#[i1,O8],λej=>?_,rfl],?_]
      . subst ej;obtain⟨k,ek,k0⟩:=BP a1 x2 x1 ms eS #[i1,O8];have:=Ie k0 (show 0<=w1 by lia);lia
      rintro m z⟨x,rfl,y0,⟨i2,ex⟩,yS,rfl⟩;k_places;refine ite2 (λc=>?_) (λc=>?_)
      . have cW:=of_decide_eq_true c;refine#[w2,h2,s2,x,j*h1,rfl,b1,b3,Kd,b5,Kd,?_];refine ite2 (λq=>?_) (λq=>?_)
        . have q':=of_decide_eq_true q;obtain⟨i3,k3,e3,e4⟩:=BM q';obtain⟨z1,z2⟩:=M.high a3 JO #[i2,ex] #[i3,k3,e3,e4];have NN:j*h1=Hh:=by lia
          have:=z2 NN y0 cW;subst this;have:=O7.1 (by rw[<-NN];lia);rw[<-NN]at this;exact#[Ld,this]
        . have q':=of_decide_eq_false (Gs.mpr q);refine#[λd=>d=.int (x+w1),#[_,rfl,rfl],?_];rintro _ rfl;k_places;refine#[_,Kd,x+w1,rfl,Kd,#[i2+1,Lm],λej=>?_,rfl];subst ej;have hx:=yS rfl;have ne:x≠S:=by
            rintro rfl;obtain⟨i4,j4,e5,e6⟩:=M.up2;exact q' (in_fam (i:=i4) (j:=j4) b3 e5 (by rw[<-eH];exact e6))
          have:∃t:Int,S=x+t*w1:=#[i0-i2,by rw[ex];grind];obtain⟨t,et⟩:=this;have t1:1<=t:=by
            rcases(Kd:t<=0\/1<=t)with z|z
            . have:=GW z (show 0<=w1 by lia);lia
            . exact z
          have:=Ga t1 (show 0<=w1 by lia);lia
      . have cW:=of_decide_eq_false (Gs.mpr c);have RC:j<j0:=by
          rcases(Kd:j<j0\/j=j0)with z|z
          . exact z
          . have:=yS z;lia
        refine#[λd=>d=.int ((j+1)*h1),#[_,rfl,by congr 1;grind],?_];rintro _ rfl;k_places;exact#[_,Kd,j+1,_,rfl,Kd,Kd,rfl]
    . have c':=of_decide_eq_false (Gs.mpr c);exact O7.2 Kd
abbrev ji(V:Bx):Prop:=V.D 3 "_law_family" lR tS
def D9(T:V.T "_law_family" lQ lR)(Mo:ph V)(KY:jh V):ji V:=by
  refine Tx.okDW T sc__law_family (λds R h=>?_) (λf cdv A outer s H E J hr=>⟨_,((aj (aq 1 sc__law_family.nd (aw Mo hr (ac (ai (aa 0) ag) ah)))
      (aj (kh 2 PassesOwn.never rfl sc__law_family.nd (zb (aa 0) ag) (aj (aq 1 sc__law_family.nd (aw KY hr (ac (aa 1) (ac (aw Mo hr (ac (aa 2) ah)) ah))))
        (ar (aT (gJ (aa 1) bG) (ar (ay bG)) aM))))
      (ar (ay (aa 1)))))),λds R h=>?_⟩)
  . obtain⟨_,_,rfl,_⟩:=h;rfl
  . obtain⟨ls,n,rfl,p7,hg,hR⟩:=h;cases ls with
    |nil=>exact absurd rfl p7
    |cons l0 ls=>
    refine#[λx=>∃w h s:Int,x=.tup [.int w,.int h,.int s]/\FamOf l0.o0 l0.o1 l0.t0 l0.t1 w h s/\w*h<=288,#[_,bF (j:=0) rfl,l0,n,rfl,(hg l0 FU).1,(hg l0 FU).2,λw h s f q=>#[w,h,s,rfl,f,q]],?_];rintro _⟨w0,h0,s0,rfl,f0,q0⟩;k_places
    try simp only[Gd,Gf]
    have ec:cutD (HU Leaf.D (l0::ls)) (be 1) s_=ls.map Leaf.D:=by rw[FY,cut1]
    refine#[λk z=>∃(w h s:Int) (o:Option D),z=[be (.lst ((l0::ls).map Leaf.D)),be (.tup [.int w,.int h,.int s]),o]/\Fam0 w h s/\w*h<=720/\∀x y,InF w h s x y↔ca (l0::ls.take k) x y,#[w0,h0,s0,_,rfl,#[f0.1,f0.2.1,f0.2.2.1,f0.2.2.2.1],Kd,λx y=>?_],?_,?_]
    . rw[f0.lat];constructor
      . intro q l z;rcases FQ.mp z with e|e
        . rw[e];exact q
        . cases e
      . intro q;exact q l0 FU
    . rintro k v z hk⟨w,h,s,o,rfl,fm,O9,lat⟩;k_places;rw[ec,FT]at hk;have n9:k<ls.length:=by
        rcases G6 k ls.length with q|q
        . exact q
        . rw[GE q]at hk;cases hk
      have KR:ls[k]?=be ls[k]:=F9 n9;rw[KR]at hk;cases hk;obtain⟨gd,nr⟩:=hg ls[k] (FS _ (Gm n9));have LD:∀l∈ls.drop (k+1),l.Good/\l.Near n:=λl q=>hg l (FS _ (JA q));have H_:∀x y,ca (l0::ls) x y↔(ca (l0::ls.take k) x y/\ls[k].Lat x y)/\ca (ls.drop (k+1)) x y:=λx y=>by
        have ed:ls=ls.take k++ls[k]::ls.drop (k+1):=by rw[<-GX n9,JB]
        constructor
        . intro q;refine#[#[λl z=>?_,q _ (FS _ (Gm n9))],λl z=>q l (FS _ (JA z))];rcases FQ.mp z with e|e
          . exact q l (e ▸ FU)
          . exact q l (FS _ (List.mem_of_mem_take e))
        . rintro⟨⟨q1,q2⟩,q3⟩ l z;rcases FQ.mp z with e|e
          . exact q1 l (e ▸ FU)
          . rw[ed]at e;rcases Gk.mp e with e|e
            . exact q1 l (FS _ e)
            . rcases FQ.mp e with e|e
              . rw[e];exact q2
              . exact q3 l e
      have g9:∀x y,ca (l0::ls.take (k+1)) x y↔ca (l0::ls.take k) x y/\ls[k].Lat x y:=λx y=>by
        rw[kQ KR];constructor
        . intro q;refine#[λl z=>q l ?_,q _ (FS _ (Gh _ FU))];rcases FQ.mp z with e|e
          . rw[e];exact FU
          . exact FS _ (G0 _ e)
        . rintro⟨q1,q2⟩ l z;rcases FQ.mp z with e|e
          . exact q1 l (e ▸ FU)
          . rcases Gk.mp e with e|e
            . exact q1 l (FS _ e)
            . rw[FO.mp e];exact q2
      generalize ls[k]=l at gd nr H_ g9;obtain⟨p1,p2⟩:=cr fm.w0 fm.h0;refine#[λx=>(∃w h s:Int,x=.tup [.int w,.int h,.int s]/\Fam0 w h s/\w*h<=720/\∀x y,InF w h s x y↔ca (l0::ls.take (k+1)) x y)\/(x=.non/\R .non),#[l,n,rfl,gd,nr,λw2 h2 s2 f2 b2=>?_],?_]
      . obtain⟨r1,r2⟩:=cr f2.1 f2.2.1;refine#[w,h,s,w2,h2,s2,rfl,#[fm.w0,Kd,fm.h0,Kd,fm.s0,fm.sw],#[f2.1,Kd,f2.2.1,Kd,f2.2.2.1,f2.2.2.2.1],λW Hh S A M=>#[λq=>?_,λq=>?_]]
        . refine .inl #[W,Hh,S,rfl,#[M.w0,M.h0,M.s0,M.sw],q,λx y=>?_];rw[M.lat,lat,f2.lat,g9];exact Iff.rfl
        . refine .inr #[rfl,?_];obtain⟨w3,h3,s3,f3,e3⟩:=tR (ls.drop (k+1)) W Hh S #[M.w0,M.h0,M.s0,M.sw] LD;refine(hR w3 h3 s3 f3 λx y=>?_).2 ?_
          . rw[e3,M.lat,lat,f2.lat,H_];exact Iff.rfl
          . have:=(InF.le M.w0 M.h0 f3.w0 f3.h0 (λx y z=>((e3 x y).mp z).1)).1;lia
      . rintro _ (⟨W,Hh,S,rfl,QF,q,e'⟩|⟨rfl,hn⟩);k_places
        . try simp only[Gd,Gf]
          exact#[W,Hh,S,_,rfl,QF,q,e']
        . try simp only[Gd,Gf]
          exact hn
    . rintro z⟨w,h,s,o,rfl,fm,O9,lat⟩;k_places;rw[ec,FP,HK]at lat;exact(hR w h s fm lat).1 O9
abbrev pj(V:Bx):Prop:=V.D 4 "_law_over" lV BS
def Ea(T:V.T "_law_over" lU lV)(A':V.m "max")(KZ:ji V):pj V:=by
 refine Tx.okDW T sc__law_over (λds R h=>?_) (λf cdv A outer s H E J hr=>⟨_,((aj (aq 2 sc__law_over.nd (au (ai (aa 0) ag) (ai (aa 1) ag)))
   (aj (aT (de (db (rH (gM rfl A' (ac (ai (aa 0) ag) (ac (ai (aa 1) ag) ah))) ag) (dI (gJ (aw KZ hr (ac (aa 2) ah)) bG)))) (ar (ay (aa 0))) aM)
   (ar (ay (bE (ac (au (au (au (au aC (ai (aa 0) ag)) aC) (ai (aa 1) ag)) aC) (ac (au ag (gM rfl A' (ac (ai (aa 0) ag) (ac (ai (aa 1) ag) ah)))) (ac (aa 2) ah))))))))),λds R h=>?_⟩)
 .obtain⟨_,_,rfl,_⟩:=h;rfl
 .obtain⟨p,q,rfl,wp,wq,dp,dq,O_,QG⟩:=h;have n1:=Pat.leaves_32 dp;have n2:=Pat.leaves_32 dq;refine#[λx=>x=.lst ((Pat.over p q).leaves.map Leaf.D),#[_,rfl,_,rfl,?_,?_],?_]
  .rw[FP,FP];lia
  .rw[Pat.leaves,Gr]
  rintro _ rfl;k_places;refine#[_,rfl,_,rfl,ite2 (λc=>O_) (λc=>?_)];have c':=of_decide_eq_false (Gs.mpr c);have ep:p.depth<5/\q.depth<5:=by
   split at c'<;>lia
  refine#[(Pat.over p q).leaves,(Pat.over p q).depth,rfl,?_,λl hl=>Pat.leaf_good (p:=.over p q) #[wp,wq] l hl,λw h s f lat=>#[λsm=>?_,λ_=>O_]]
  .intro z;have:(Pat.over p q).leaves.length=0:=by rw[z];rfl
   rw[Pat.leaves,F8]at this;have:=Pat.leaves_pos p;lia
  have t1:=Pat.text_short wp dp;have t2:=Pat.text_short wq dq;have l1:("(":E_).length=1:=rfl;have l2:("|":E_).length=1:=rfl;have l3:(")":E_).length=1:=rfl;have QH:(Pat.over p q).Fits:=#[w,h,s,#[f,λx y=>(lat x y).trans (Pat.lat_leaves (.over p q) x y)],sm];refine#[_,rfl,?_,?_,_,rfl,?_,?_,_,rfl,_,rfl,Ld,?_]
  .lia
  .rw[aH];lia
  .rw[aH,aH];lia
  .rw[aH,aH,aH];lia
  have g:=QG ep.1 ep.2 QH;have e:(1+(if(q.depth:Int)>(p.depth:Int)then(q.depth:Int)else(p.depth:Int)))=(((Pat.over p q).depth:Nat):Int):=by
   rw[Pat.depth];split<;>lia
  unfold Pat.D at g;rw[<-e]at g;exact g
abbrev pk(V:Bx):Prop:=V.D 5 "_law_pattern" lX BT
def Eb(T:V.T "_law_pattern" lW lX)(uA:V.m "range")(JN:gh V)(Mp:pe V)(Mq:pf V)(Mr:pj V):pk V:=by
  refine Tx.okDW T sc__law_pattern (λds R h=>?_) (λf cdv A outer s H E J hr=>⟨_,((aj (aq 2 sc__law_pattern.nd (aw JN hr (ac (aa 0) (ac (aa 1) (ac ag ah)))))
      (aj (aq 3 sc__law_pattern.nd (aw Mp hr (ac (aa 0) (ac (au (aa 1) ag) ah))))
      (aj (bK 4 PassesOwn.never rfl sc__law_pattern.nd uA (az (ai (aa 2) ag) ag) (aj (aq 5 sc__law_pattern.nd (ai (aa 2) (au ag (aA ag (aa 4)))))
        (ar (cx (bp (az (aa 5) ag) ag) (ar (aq 3 sc__law_pattern.nd (aw Mq hr (ac (aa 3) (ac (aN (aa 5) ag) ah))))) (aj (aq 6 sc__law_pattern.nd (aw Mp hr (ac (aa 0) (ac (au (au (aa 1) ag) (aA ag (aa 4))) ah))))
         (aj (cx (bp (az (aN (aa 5) ag) ag) ag) (ar (aq 6 sc__law_pattern.nd (aw Mq hr (ac (aa 6) (ac (ai (aa 2) (au ag (aA ag (aa 4)))) ah))))) aM)
         (ar (aq 3 sc__law_pattern.nd (ai (bE (ac (aw Mr hr (ac (aa 3) (ac (aa 6) ah))) (ac (aw Mr hr (ac (aa 6) (ac (aa 3) ah))) ah))) (az (aN (aa 5) ag) ag))))))))))
      (ar (ay (aa 3))))))),λds R h=>?_⟩)
  . obtain⟨_,_,rfl,_⟩:=h;rfl
  . obtain⟨ns,k,rfl,hk,hR⟩:=h;refine#[λx=>∃xs:List Int,x=.lst (xs.map D.int)/\xs.length=13/\Drawn xs,#[ns,k,13,rfl,hk,Kj,λxs h1 h2=>#[xs,rfl,h1,h2]],?_];rintro _⟨xs,rfl,hl,hd⟩;k_places;refine#[λx=>∃p:Pat,x=p.D/\p.Ok,#[ns,k+2,rfl,Kd,λL a b c d h1 h2 h3 h4 h5 h6=>#[.mot L a b c d,rfl,#[h1,h2,h3,h4,h5,h6],by simp[Pat.depth],Pat.fits_mot h2 h3 h4 h5 h6]],?_];rintro _⟨p0,rfl,QI⟩;k_places;have a0:=cN (xs:=xs) (k:=0) Kj (show 0<xs.length by lia);have h7:=bX (a:=cell xs 0) (show(0:Int)<7 by decide);have h8:=bY (a:=cell xs 0) (show(0:Int)<7 by decide);refine#[_,a0,Kj,#[Kd,Kd],λi z=>∃(p:Pat) (o1 o2 o3:Option D),z=[be (.rol (ns.map D.int)),be (.int k),be (.lst (xs.map D.int)),be p.D,o1,o2,o3]/\p.Ok,#[p0,_,_,_,rfl,QI],?_,?_]
    . rintro i v z hi⟨p,o1,o2,o3,rfl,ok⟩;k_places;obtain⟨f8,rfl⟩:=bx hi;have a1:=cN (xs:=xs) (k:=1+2*(i:Int)) Kd Kd;have a2:=cN (xs:=xs) (k:=2+2*(i:Int)) Kd Kd;generalize cell xs (1+2*(i:Int))=st at a1;generalize cell xs (2+2*(i:Int))=sv at a2;refine#[λx=>x=.int st,#[.inr #[Kd,Kd],_,a1,rfl],?_];rintro _ rfl;k_places;refine#[λz=>∃(p:Pat) (o3:Option D),z=[be (.rol (ns.map D.int)),be (.int k),be (.lst (xs.map D.int)),be p.D,be (.int i),be (.int st),o3]/\p.Ok,#[Kj,ite2 (λc=>?_) (λc=>?_)],?_]
      . refine#[λx=>∃p:Pat,x=p.D/\p.Ok,#[#[Kj,Kj],p,_,rfl,ok.wf,ok.deep,by have:=Pat.text_short ok.wf ok.deep;lia,Wraps.of ok λq hq=>#[q,rfl,hq]],?_];rintro _⟨q,rfl,d5⟩;k_places;exact#[q,_,rfl,d5]
      . refine#[λx=>∃p:Pat,x=p.D/\p.Ok,#[.inr #[Kd,Kd],ns,k+4+2*(i:Int),rfl,Kd,λL a b c d h1 h2 h3 h4 h5 h6=>#[.mot L a b c d,rfl,#[h1,h2,h3,h4,h5,h6],by simp[Pat.depth],Pat.fits_mot h2 h3 h4 h5 h6]],?_];rintro _⟨q,rfl,d5⟩;k_places;refine#[λz=>∃(q:Pat),z=[be (.rol (ns.map D.int)),be (.int k),be (.lst (xs.map D.int)),be p.D,be (.int i),be (.int st),be q.D]/\q.Ok,#[#[Kj,Kj],Kj,ite2 (λc=>?_) (λc=>?_)],?_]
        . refine#[λx=>∃p:Pat,x=p.D/\p.Ok,#[.inr #[Kd,Kd],_,a2,q,_,rfl,d5.wf,d5.deep,by have:=Pat.text_short d5.wf d5.deep;lia,Wraps.of d5 λq hq=>#[q,rfl,hq]],?_];rintro _⟨q,rfl,d5⟩;k_places;exact#[q,rfl,d5]
        . exact#[q,rfl,d5]
        rintro _⟨q,rfl,d5⟩;k_places;refine#[λx=>∃p:Pat,x=p.D/\p.Ok,?_,?_]
        . have fI:∀r r':Pat,r.Ok->r'.Ok->∃x,atI [r.D,r'.D] (st/4%2)=be x/\∃p:Pat,x=p.D/\p.Ok:=λr r' hr QJ=>by
            rcases(Kd:st/4%2=0\/st/4%2=1)with e|e<;>rw[e]
            . exact#[_,rfl,r,rfl,hr]
            . exact#[_,rfl,r',rfl,QJ]
          have Pa:p.depth<5->q.depth<5->(Pat.over p q).Fits->(Pat.over p q).Ok:=λd1 d2 ft=>#[#[ok.wf,d5.wf],by simp only[Pat.depth];lia,ft];have Pb:q.depth<5->p.depth<5->(Pat.over q p).Fits->(Pat.over q p).Ok:=λd1 d2 ft=>#[#[d5.wf,ok.wf],by simp only[Pat.depth];lia,ft];refine#[p,q,rfl,ok.wf,d5.wf,ok.deep,d5.deep,?_,λd1 d2 ft=>?_]<;>refine#[q,p,rfl,d5.wf,ok.wf,d5.deep,ok.deep,?_,λd3 d4 Pc=>?_]<;>refine#[Ld,#[Kj,Kj],Kj,?_]
          . exact fI _ _ ok d5
          . exact fI _ _ ok (Pb d3 d4 Pc)
          . exact fI _ _ (Pa d1 d2 ft) d5
          . exact fI _ _ (Pa d1 d2 ft) (Pb d3 d4 Pc)
        rintro _⟨q',rfl,NP⟩;k_places;exact#[q',_,rfl,NP]
      rintro _⟨q,o3,rfl,d5⟩;k_places;exact#[q,_,_,_,rfl,d5]
    . rintro z⟨p,o1,o2,o3,rfl,ok⟩;k_places;exact hR p ok
def Ec:SpD:=λds R=>∃(p:Pat) (n:Int) (c:Nat),ds=[p.D,.int n,.str #[[c].toArray]]/\p.Ok/\bj c/\∀q:Pat,q.Ok->R q.D
abbrev pp(V:Bx):Prop:=V.D 1 "_law_respelled" lZ Ec
def Ed(T:V.T "_law_respelled" lY lZ)(uB:V.m "len")(KP:V.m "list"):pp V:=by
 refine Tx.okDW T sc__law_respelled (λds R h=>?_) (λf cdv A outer s H E J hr=>⟨_,((aj (aq 3 sc__law_respelled.nd (ai (ai (aa 0) ag) ag))
   (aj (aq 4 sc__law_respelled.nd (bH uB (ac (ai (ai (aa 3) ag) ag) ah)))
   (aj (aq 5 sc__law_respelled.nd (aN (az (aa 1) (aA (aa 4) (bH uB (ac (ai (aa 3) ag) ah)))) (aa 4)))
   (aj (aq 6 sc__law_respelled.nd (az (aa 1) (aa 4)))
   (aj (AY 7 KP sc__law_respelled.nd (ac (ai (aa 3) ag) ah))
   (aj (gS 7 (au (au (cH (bU 7 (aa 5)) cF (cG (aa 6))) (aa 2)) (cH (bU 7 (aa 5)) (cG (au (aa 6) ag)) cF)) (aa 5))
   (aj (aq 8 sc__law_respelled.nd (au (au (au (su (ai (aa 0) ag) (ac aC ah)) ag) (aA (aa 5) (au (aa 4) ag))) (aa 6)))
   (aj (aq 9 sc__law_respelled.nd (au (au (cH (ai (aa 0) ag) cF (cG (aa 8))) (aa 2)) (cH (ai (aa 0) ag) (cG (au (aa 8) ag)) cF)))
   (dh 7 (ar (ay (bE (ac (aa 9) (ac (ai (aa 0) ag) (ac (au (bE (ac (aK (ac (aa 7) (ac (ai (aa 3) ag) (ac (ai (aa 3) ag) (ac (ai (aa 3) ag) (ac (ai (aa 3) ag) ah)))))) ah)) (cH (ai (aa 0) ag) (cG ag) cF)) ah)))))))))))))))),λds R h=>?_⟩)
 .obtain⟨_,_,_,rfl,_⟩:=h;rfl
 .obtain⟨p,n,c,rfl,ok,hc,hR⟩:=h;obtain⟨A,B,l,ls,r⟩:=Pat.re_ex ok.wf;obtain⟨m,w,w8,hr⟩:=r.rows;have hw:∀s∈l.rows,s.length=w:=λs hs=>(hr s hs).1;have QK:=Pat.text_short ok.wf ok.deep;have Pd:=cA p;rw[r.tl]at Pd;obtain⟨i0,rest,eo,ei⟩:=DP Pd r.no;have wm:0<w*l.rows.length:=Nat.mul_pos KK KK;obtain⟨j,hj,jm⟩:∃j:Nat,n%((w:Int)*l.rows.length)/w=j/\j<l.rows.length:=by
   have h0:=Gp n (show((w*l.rows.length:Nat):Int)≠0 by omega);have h1:=Gq n (show 0<((w*l.rows.length:Nat):Int)by omega);rw[Ih]at h0 h1;have q0:=HV h0 (show 0<=(w:Int)by omega);have q1:=Int.ediv_lt_of_lt_mul (show 0<(w:Int)by omega) (show n%((w:Int)*l.rows.length)<(l.rows.length:Int)*w by rw[Gb (l.rows.length:Int)];exact h1);exact#[(n%((w:Int)*l.rows.length)/w).toNat,KK,KK]
  obtain⟨i,hi,iw⟩:∃i:Nat,n%(w:Int)=i/\i<w:=by
   have h0:=Gp n (show(w:Int)≠0 by omega);have h1:=Gq n (show 0<(w:Int)by omega);exact#[(n%(w:Int)).toNat,KK,KK]
  have QL:atI (p.leaves.map Leaf.D) 0=be l.D:=bF (j:=0) (by rw[r.leaves];rfl);have NQ:atI (l.rows.map D.str) 0=be (.str (l.rows[0]' KK)):=bF (j:=0) (by rw[FT,F9 (show 0<l.rows.length by omega)];rfl);have LF:atI (l.rows.map D.str) (j:Int)=be (.str l.rows[j]):=bF (by rw[FT,F9 jm];rfl);have NR:=hw (l.rows[0]' KK) (Gm _);have QM:=hw l.rows[j] (Gm jm);refine#[λd=>d=l.D,#[_,rfl,_,QL,rfl],?_];rintro _ rfl;k_places;refine#[λd=>d=.int (w:Int),#[_,rfl,_,NQ,KK,by rw[NR]],?_];rintro _ rfl;k_places;refine#[λd=>d=.int (j:Int),#[_,rfl,.inl #[KK,KK],?_,#[KK,KK],?_],?_]
  .rw[FP,<-Ih];omega
  .rw[FP,hj]
  rintro _ rfl;k_places;refine#[λd=>d=.int (i:Int),#[KK,by rw[hi]],?_];rintro _ rfl;k_places;show dSeq _ _ _ [_,_,_,_,_,_,_,_,_,_];refine#[_,rfl,?_];have s1:=Txt.slice_le l.rows[j] s_ (be (i:Int));have s2:=Txt.slice_le l.rows[j] (be ((i:Int)+1)) s_;have c1:(#[[c].toArray]:E_).length=1:=rfl;have hs:=vo (c:=c) (show i<l.rows[j].length by omega);generalize J0:((Txt.slice l.rows[j] s_ (be (i:Int))++#[[c].toArray])++Txt.slice l.rows[j] (be ((i:Int)+1)) s_:E_)=s' at hs;obtain⟨q,d5,dq,lq,sp,tq⟩:=r.put ok hw jm iw hc hs;refine#[_,LF,KK,KK,_,LF,KK,by rw[aH];omega,j,?_,?_]
  .rw[FP];unfold ixN;rw[if_pos KK,if_pos KK,G2]
  rw[J0,<-Jy];have QN:(i0:Int)=A.length:=KK
  refine#[λd=>d=.int ((A.length+1+j*(w+1)+i:Nat):Int),#[_,rfl,i0,rest,eo,.inl #[KK,KK],?_],?_]
  .show D.int _=D.int _;rw[QN];simp
  rintro _ rfl;k_places;have t1:=Txt.slice_le p.text s_ (be ((A.length+1+j*(w+1)+i:Nat):Int));have t2:=Txt.slice_le p.text (be (((A.length+1+j*(w+1)+i:Nat):Int)+1)) s_;refine#[λd=>d=.str q.text,#[_,rfl,KK,KK,_,rfl,KK,by rw[aH];omega,?_],?_]
  .show D.str _=D.str _;rw[tq _ (vo sp)]
  rintro _ rfl;k_places;have RD:=Pat.leaves_32 ok.deep;have ec:cutD (p.leaves.map Leaf.D) (be 1) s_=ls.map Leaf.D:=by rw[r.leaves,FY,cut1]
  refine#[_,rfl,_,rfl,_,rfl,_,rfl,_,rfl,by show(5:Nat)<=1000;decide,by show(1:Nat)<=1000;decide,_,rfl,?_,by show(3:Nat)<=1000;decide,?_]
  .have:=congrArg Hi r.leaves;rw[FV]at this;show 1+(cutD (p.leaves.map Leaf.D) (be 1) s_).length<=1000000;rw[ec,FP];omega
  have e:=hR q d5;unfold Pat.D at e;rw[dq,lq,FY,<-ec]at e;exact e
abbrev pq(V:Bx):Prop:=V.D 1 "_law_keeps" me CU
def Ee(T:V.T "_law_keeps" ma me)(uA:V.m "range"):pq V:=by
 refine Tx.okDW T sc__law_keeps (λds R h=>?_) (λf cdv A outer s H E J hr=>⟨_,((aj (bK 4 PassesOwn.never rfl sc__law_keeps.nd uA (ai (aa 1) ag) (aj (aq 5 sc__law_keeps.nd (ai (aa 0) (az (au (aa 4) (aa 3)) (ai (aa 1) ag))))
    (aj (aq 6 sc__law_keeps.nd (az (aX (aa 2) (aA (aN (au (aa 4) (aa 3)) (ai (aa 1) ag)) (ai (aa 1) ag))) (ai (aa 1) ag)))
    (ar (aT (bT (au (cH (aa 5) (cG (aa 6)) cF) (cH (aa 5) cF (cG (aa 6)))) (ai (aa 0) (aa 4))) (ar (ay ce)) aM)))))
   (ar (ay ce)))),λds R h=>?_⟩)
 .obtain⟨_,_,_,_,_,_,rfl,_⟩:=h;rfl
 .obtain⟨p,w,h,s,x,y,rfl,ok,F,w7,h7,hR⟩:=h;have f:=F.f;have x8:∀k:Int,0<=k->k<h->atI ((FN h.toNat).map λ(y:Nat)=>D.str (aB p 0 (y:Int) w.toNat)) k=be (.str (aB p 0 k w.toNat)):=λk a b=>by
   have e:k=((k.toNat:Nat):Int):=Kd
   rw[e];exact bF (by rw[FT,Gv Kd];simp)
  refine#[_,rfl,#[by have:=f.h0;lia,Kd],λk z=>∃o1 o2 o3,z=[be (bu p w h),be (.tup [.int w,.int h,.int s]),be (.int x),be (.int y),o1,o2,o3]/\∀j:Nat,j<k->aB p x (y+j) w.toNat=aB p 0 j w.toNat,#[_,_,_,rfl,λj hj=>absurd hj (GU j)],?_,?_]
  .rintro k v z hk⟨o1,o2,o3,rfl,hj⟩;k_places;obtain⟨gV,rfl⟩:=bx hk;have m0:=Gp (y+(k:Int)) (show h≠0 by have:=f.h0;lia);have m1:=Gq (y+(k:Int)) f.h0;refine#[λd=>d=.str (aB p 0 ((y+k)%h) w.toNat),#[_,rfl,f.h0,_,by rw[HS];exact x8 _ m0 m1,rfl],?_];rintro _ rfl;k_places;refine#[λd=>d=.int (hmX w h s x (y+k)),#[_,rfl,#[f.h0,Kd],_,rfl,.inr #[by have:=f.s0;lia,by have:=f.sw;lia],_,rfl,f.w0,by rw[HS (k:Int) y];rfl],?_];rintro _ rfl;k_places;have l:=ii p 0 ((y+k)%h) w.toNat;have e:=va f.w0 f.h0 (λ_ _ q=>F.keeps q) x (y+k);refine#[Kd,Kd,?_,?_]
   .rw[<-bi,<-bi,<-F8,<-bI,e,cK];simp;lia
   rw[e];refine#[_,x8 k Kd Kd,ite2 (λc=>?_) (λc=>?_)]
   .refine hR false ?_;have c':¬aB p x (y+k) w.toNat=aB p 0 k w.toNat:=λz=>by simp[z]at c
    rw[<-ij ok F];exact#[(λz=>nomatch z),λz=>absurd (z k Kd) c']
   .have c':aB p x (y+k) w.toNat=aB p 0 k w.toNat:=by simpa using c
    refine#[_,_,_,rfl,λj NM=>?_];by_cases e:j=k
    .subst e;exact c'
    .exact hj j Kd
  .rintro z⟨o1,o2,o3,rfl,hj⟩;k_places;rw[bC]at hj;exact hR true #[λ_=>(ij ok F x y).mp hj,λ_=>rfl]
abbrev pr(V:Bx):Prop:=V.D 2 "_law_least" mi CV
def Ef(T:V.T "_law_least" mf mi)(Ms:pq V):pr V:=by
  refine Tx.okDW T sc__law_least (λds R h=>?_) (λf cdv A outer s H E J hr=>⟨_,((aj (aq 2 sc__law_least.nd ag)
      (aj (dN PassesOwn.never (cE (bN (aw Ms hr (ac (aa 0) (ac (aa 1) (ac (aa 2) (ac ag ah))))))) (ar (aq 2 sc__law_least.nd (au (aa 2) ag))))
      (aj (aq 3 sc__law_least.nd ag)
      (aj (aq 4 sc__law_least.nd ag)
      (aj (dN PassesOwn.never (cE (bN (aw Ms hr (ac (aa 0) (ac (aa 1) (ac (aa 4) (ac (aa 3) ah))))))) (aj (aq 4 sc__law_least.nd (au (aa 4) ag))
        (ar (cx (bp (aa 4) (aa 2)) (aj (aq 4 sc__law_least.nd ag)
         (ar (aq 3 sc__law_least.nd (au (aa 3) ag)))) aM))))
      (ar (ay (aK (ac (aa 2) (ac (aa 3) (ac (aa 4) ah)))))))))))),λds R h=>?_⟩)
  . obtain⟨_,_,_,_,rfl,_⟩:=h;rfl
  . obtain⟨p,w,h,s,rfl,ok,F,w7,h7,hR⟩:=h;obtain⟨w',h',s',L,d1,d2,Pe,Pf,Kx⟩:=Pat.least_ex F;have w0:=L.f.w0;have h0:=L.f.h0;have kw:p.Keeps w' 0:=(L.lat _ _).mp (InF.one _ _ _);have ks:p.Keeps s' h':=(L.lat _ _).mp (InF.two _ _ _);refine#[λd=>d=.int 1,rfl,?_];rintro _ rfl;k_places;refine#[λm z=>∃x:Int,z=[be (bu p w h),be (.tup [.int w,.int h,.int s]),be (.int x),s_,s_]/\1<=x/\x<=w'/\m=(w'-x).toNat,#[_,1,rfl,Kd,Kd,rfl],?_];rintro m z⟨x,rfl,x1,xw,hm⟩;k_places;refine#[p,w,h,s,x,0,rfl,ok,F,w7,h7,λb hb=>?_];cases b with
    |false=>
      have nk:¬p.Keeps x 0:=λz=>nomatch hb.mpr z;have:x≠w':=λz=>nk (z ▸ kw);refine#[λd=>d=.int (x+1),rfl,?_];rintro _ rfl;k_places;exact#[(w'-(x+1)).toNat,Kd,x+1,rfl,Kd,Kd,rfl]
    |true=>
      have k:=hb.mp rfl;obtain⟨i,j,e1,e2⟩:=(L.lat x 0).mpr k;have j0:j=0:=small_mul (i:=j) h0 Kd Kd;subst j0;have ex:x=w':=by
        rcases Hf i 1 with q|q|q
        . have:=Ga (show i<=0 by lia) (show 0<=w' by lia);lia
        . subst q;lia
        . have:=Ga (show 2<=i by lia) (show 0<=w' by lia);lia
      subst ex;refine#[λd=>d=.int 1,rfl,?_];rintro _ rfl;k_places;refine#[λd=>d=.int 0,rfl,?_];rintro _ rfl;k_places;have NS:∀a b:Int,a<b->a*x+x<=b*x:=λa b q=>by
        have:=Ga (show a+1<=b by lia) (show 0<=x by lia);rw[Hc]at this;lia
      refine#[λm z=>∃y l:Int,z=[be (bu p w h),be (.tup [.int w,.int h,.int s]),be (.int x),be (.int y),be (.int l)]/\1<=y/\y<=h'/\0<=l/\l<x/\(y=h'->l<=s')/\m=(h'*x-y*x+(x-l)).toNat,#[_,1,0,rfl,Kd,Kd,Kd,w0,λ_=>L.f.s0,rfl],?_];rintro m z⟨y,l,rfl,y1,yh,l0,lx,Pg,hm⟩;k_places;have my:y*x<=h'*x:=Ga yh Kd;refine#[p,w,h,s,l,y,rfl,ok,F,w7,h7,λb hb=>?_];cases b with
      |false=>
        have nk:¬p.Keeps l y:=λz=>nomatch hb.mpr z;have ne:y=h'->l≠s':=λq z=>nk (q ▸ z ▸ ks);have sw:=L.f.sw;refine#[λd=>d=.int (l+1),rfl,?_];rintro _ rfl;k_places;refine#[λz=>∃y' l':Int,z=[be (bu p w h),be (.tup [.int w,.int h,.int s]),be (.int x),be (.int y'),be (.int l')]/\1<=y'/\y'<=h'/\0<=l'/\l'<x/\(y'=h'->l'<=s')/\(h'*x-y'*x+(x-l')).toNat<m,ite2 (λc=>?_) (λc=>?_),?_]
        . have c':=of_decide_eq_true c;have yl:y<h':=by
            rcases Int.lt_or_eq_of_le yh with q|q
            . exact q
            . have:=Pg q;have:=ne q;lia
          have:=NS y h' yl;refine#[λd=>d=.int 0,rfl,?_];rintro _ rfl;k_places;refine#[λd=>d=.int (y+1),rfl,?_];rintro _ rfl;k_places;refine#[y+1,0,rfl,Kd,Kd,Kd,w0,λ_=>L.f.s0,?_];rw[Hc,Jz];lia
        . have c':¬(l+1=x):=λz=>c (decide_eq_true z);exact#[y,l+1,rfl,y1,yh,Kd,Kd,λq=>by have:=Pg q;have:=ne q;lia,Kd]
        . rintro _⟨y',l',rfl,a1,a2,a3,a4,a5,a6⟩;k_places;exact#[_,a6,y',l',rfl,a1,a2,a3,a4,a5,rfl]
      |true=>
        have k:=hb.mp rfl;have ey:y=h':=by have:=(L.down k Kd).1;lia
        subst ey;have el:=L.slant l0 lx k;subst el;exact#[by show(3:Nat)<=1000;decide,hR x y l L Pe Pf Kx]
abbrev pv(V:Bx):Prop:=V.D 2 "_law_leaf_shows" mm Bz
def Eg(T:V.T "_law_leaf_shows" mj mm)(uA:V.m "range")(uB:V.m "len")(uD:V.m "int")(KW:jg V):pv V:=by
 refine Tx.okDW T sc__law_leaf_shows (λds R h=>?_) (λf cdv A outer s H E J hr=>⟨_,((aj (aq 3 sc__law_leaf_shows.nd (ai (aa 0) ag))
   (aj (aq 4 sc__law_leaf_shows.nd (au (au (aA (ai (aa 3) ag) (aa 1)) (aA (ai (aa 3) ag) (aa 2))) (ai (aa 3) ag)))
   (aj (aq 5 sc__law_leaf_shows.nd (au (au (aA (ai (aa 3) ag) (aa 1)) (aA (ai (aa 3) ag) (aa 2))) (ai (aa 3) ag)))
   (aj (bK 6 PassesOwn.never rfl sc__law_leaf_shows.nd uA (bH uB (ac (ai (aa 0) ag) ah)) (ar (bK 7 PassesOwn.never rfl sc__law_leaf_shows.nd uA (bH uB (ac (ai (ai (aa 0) ag) (aa 6)) ah)) (ar (aT (de (yt (bT (ai (ai (ai (aa 0) ag) (aa 6)) (aa 7)) aC) (yr (bN (aw KW hr (ac (ai (aa 0) ag) (ac (ai (aa 0) ag) (ac (aX (aa 4) (aa 7)) (ac (aX (aa 5) (aa 6)) ah))))))))) (ar (ay (ai (ai (aa 0) ag) (fO uD (ac (ai (ai (ai (aa 0) ag) (aa 6)) (aa 7)) ah))))) aM)))))
   (ar (ay ag))))))),λds R h=>?_⟩)
 .obtain⟨_,_,_,rfl,_⟩:=h;rfl
 .obtain⟨l,x,y,rfl,ok,hR⟩:=h;obtain⟨hm,wd,QO,t9⟩:=id ok.rows;refine#[λd=>d=.tup [.int l.w0,.int l.w1,.int l.w2,.int l.w3,.int l.w4,.int l.w5],#[_,rfl,rfl],?_];rintro _ rfl;k_places;refine#[λd=>d=.int (l.w0*x+l.w1*y+l.w4),#[_,rfl,.inl (n64 ok.w0),_,rfl,.inl (n64 ok.w1),_,rfl,rfl],?_];rintro _ rfl;k_places;refine#[λd=>d=.int (l.w2*x+l.w3*y+l.w5),#[_,rfl,.inl (n64 ok.w2),_,rfl,.inl (n64 ok.w3),_,rfl,rfl],?_];rintro _ rfl;k_places;have J2:R (.int (match l.hit x y with|some c=>cell l.hues ((c:Int)-48)|none=>0)):=hR;unfold Leaf.hit at J2;generalize l.w0*x+l.w1*y+l.w4=U at J2 ⊢;generalize l.w2*x+l.w3*y+l.w5=V at J2 ⊢;generalize ef:(λi j=>onB l.a l.b l.c l.d (U-i) (V-j))=f at J2;have e0:∀i j,f i j=onB l.a l.b l.c l.d (U-i) (V-j):=λi j=>by rw[<-ef]
  have b7:((l.rows.map D.str).length:Int).toNat=l.rows.length:=Ld
  refine#[_,rfl,#[Kd,Ou],λk z=>∃o1 o2:Option D,z=[be l.D,be (.int x),be (.int y),be (.tup [.int l.w0,.int l.w1,.int l.w2,.int l.w3,.int l.w4,.int l.w5]),be (.int U),be (.int V),o1,o2]/\bZ f 0 l.rows=bZ f k (l.rows.drop k),#[_,_,rfl,rfl],?_,?_]
  .rintro j v z hj⟨o1,o2,rfl,hs⟩;k_places;obtain⟨KO,rfl⟩:=bx hj;rw[b7]at KO;have LG:l.rows[j]?=be l.rows[j]:=F9 KO;have x9:l.rows.drop j=l.rows[j]::l.rows.drop (j+1):=GX KO;obtain⟨Mm,LB⟩:=t9 l.rows[j] (Gm KO);generalize l.rows[j]=row at LG x9 Mm LB;have Ky:=at_str LG;have v4:=bi row;refine#[_,rfl,_,Ky,Kd,#[Kd,Kd],λi z=>∃o2:Option D,z=[be l.D,be (.int x),be (.int y),be (.tup [.int l.w0,.int l.w1,.int l.w2,.int l.w3,.int l.w4,.int l.w5]),be (.int U),be (.int V),be (.int j),o2]/\scanRow (λi=>f i j) 0 (cs row)=scanRow (λi=>f i j) i ((cs row).drop i),#[_,rfl,rfl],?_,?_]
   .rintro i v z hi⟨o2,rfl,K0⟩;k_places;obtain⟨f8,rfl⟩:=bx hi;have NT:i<(cs row).length:=by lia
    have JP:(cs row).drop i=(cs row)[i]::(cs row).drop (i+1):=GX NT;have LH:=LB (cs row)[i] (Gm NT);have NU:atI (cs row) (i:Int)=be (cs row)[i]:=bF (F9 NT);generalize (cs row)[i]=c at JP LH NU;refine#[_,rfl,_,Ky,c,#[Kd,NU],ite2 (λq=>?_) (λq=>?_)]
    .have t8:¬c=46:=by
      intro z;have:(#[[c].toArray]:E_)=".":=one_sign.mpr z;simp[this]at q
     refine#[_,rfl,_,rfl,l.a,l.b,l.c,l.d,U-i,V-j,rfl,ok.a.lt,ok.b.lt,ok.c.lt,ok.d.lt,ok.ne,?_];refine ite2 (λq2=>?_) (λq2=>?_)
     .have fI:f i j=true:=by rw[e0];exact q2
      have QP:49<=c/\c<=54:=by unfold bj at LH;lia
      refine#[_,rfl,_,rfl,_,Ky,c,#[Kd,NU],_,#[digit_of QP,by show 1<=640;decide],_,cN Kd (by rw[ok.many];lia),?_];rw[hs,x9,bZ,K0,JP,scanRow,if_pos #[t8,fI]]at J2;exact J2
     .have fI:¬f i j=true:=by rw[e0];exact q2
      refine#[_,rfl,?_];rw[K0,JP,scanRow,if_neg (λz=>fI z.2)]
    .have t8:c=46:=by
      rcases Classical.em (c=46)with z|z
      .exact z
      .exact absurd (by
        have:¬(#[[c].toArray]:E_)=".":=λw=>z (one_sign.mp w);simp[this]) q
     refine#[_,rfl,?_];rw[K0,JP,scanRow,if_neg (λz=>z.1 t8)]
   .rintro z⟨o2,rfl,K0⟩;k_places;refine#[_,_,rfl,?_];have hn:((row.length:Int).toNat)=(cs row).length:=by lia
    rw[bC,hn,Iq (FM _),scanRow]at K0;rw[hs,x9,bZ,K0]
  .rintro z⟨o1,o2,rfl,hs⟩;k_places;rw[bC,b7,Iq (FM _),bZ]at hs;rw[hs]at J2;exact J2
abbrev gj(V:Bx):Prop:=V.D 3 "_law_shows" mo BA
def Eh(T:V.T "_law_shows" mn mo)(NV:pv V):gj V:=by
 refine Tx.okDW T sc__law_shows (λds R h=>?_) (λf cdv A outer s H E J hr=>⟨_,((aj (kh 3 PassesOwn.never rfl sc__law_shows.nd (aa 0) (aj (aq 4 sc__law_shows.nd (aw NV hr (ac (aa 3) (ac (aa 1) (ac (aa 2) ah)))))
    (ar (aT (bT (aa 4) ag) (ar (ay (aa 4))) aM))))
   (ar (ay ag)))),λds R h=>?_⟩)
 .obtain⟨_,_,_,rfl,_⟩:=h;rfl
 .obtain⟨ls,x,y,rfl,ok,hR⟩:=h;refine#[λk z=>∃o1 o2:Option D,z=[be (.lst (ls.map Leaf.D)),be (.int x),be (.int y),o1,o2]/\aZ ls x y=aZ (ls.drop k) x y,#[_,_,rfl,rfl],?_,?_]
  .rintro k v z hk⟨o1,o2,rfl,hs⟩;k_places;rw[FT]at hk;have n9:k<ls.length:=by
    rcases G6 k ls.length with q|q
    .exact q
    .rw[GE q]at hk;cases hk
   rw[F9 n9]at hk;cases hk;have ed:ls.drop k=ls[k]::ls.drop (k+1):=GX n9;have Ph:=ok ls[k] (Gm n9);generalize ls[k]=l at ed Ph;refine#[λd=>d=.int (l.shows x y),#[l,x,y,rfl,Ph,rfl],?_];rintro _ rfl;k_places;refine ite2 (λq=>?_) (λq=>?_)
   .have q':¬l.shows x y=0:=by simpa using q
    rw[hs,ed,aZ,if_pos q']at hR;exact hR
   .have q':l.shows x y=0:=by simpa using q
    refine#[_,_,rfl,?_];rw[hs,ed,aZ,if_neg (λz=>z q')]
  .rintro z⟨o1,o2,rfl,hs⟩;k_places;rw[FP,Iq (FM _),aZ]at hs;rw[hs]at hR;exact hR
abbrev pw(V:Bx):Prop:=V.D 4 "_law_table" mq CT
def Ei(T:V.T "_law_table" io mq)(uA:V.m "range")(uW:gj V):pw V:=by
 refine Tx.okDW T sc__law_table (λds R h=>?_) (λf cdv A outer s H E J hr=>⟨_,((aj (fM 2 sc__law_table.nd ah)
   (aj (bK 3 PassesOwn.never rfl sc__law_table.nd uA (ai (aa 1) ag) (ar (fN 2 (gN (gR rfl (compScope (by change bO _ (ao io) ["_law_leaves","_law_three","_law_lines_here","_law_y"] _=true;decide+kernel)) uA (ai (aa 1) ag) (λcl s0 H0 fp=>(ai aC (aw uW hr (ac (aa 0) (ac (aa 4) (ac (aa 3) ah)))))))))))
   (dh 2 (ar (ay (aa 2))))))),λds R h=>?_⟩)
 .obtain⟨_,_,_,_,rfl,_⟩:=h;rfl
 .obtain⟨p,w,h,s,rfl,wf,dp,w0,w7,h0,h7,hR⟩:=h;refine#[Ld,?_];refine#[_,rfl,#[Kd,Kd],λk z=>∃o,z=[be (.lst (p.leaves.map Leaf.D)),be (.tup [.int w,.int h,.int s]),be (.own ((FN k).map λ(y:Nat)=>D.str (aB p 0 (y:Int) w.toNat))),o],#[_,rfl],?_,?_]
  .rintro k v z hk⟨o,rfl⟩;k_places;obtain⟨gV,rfl⟩:=bx hk;refine#[_,rfl,#[Kd,Kd],by rw[bC];lia,λi ys=>ys=(FN i).map λ(x:Nat)=>D.str #[[bo (p.show (0+(x:Int)) k)].toArray],rfl,?_,?_]
   .rintro i v ys hi hl rfl;obtain⟨s9,rfl⟩:=bx hi;refine#[p.leaves,i,k,rfl,Pat.leaf_ok wf Kd,?_];rw[Pat.show_leaves wf Kd];obtain⟨b0,b6⟩:=Pat.show_le wf Kd (i:Int) k;refine#[_,#[Kj,kU b0 b6],?_];show _=HU _ (FN (i+1));rw[GT,Gr];simp only[FY,GJ,Il]
   .rintro ys hl rfl;rw[bC,vc];refine#[_,ib _,?_,?_]
    .rw[CS,show("":E_).length=0 from rfl];simp;lia
    .rw[CQ];refine#[Ou,?_];refine#[be (.int k),?_];rw[GT,Gr];rfl
  .rintro z⟨o,rfl⟩;k_places;rw[bC];exact hR
def Ej:SpD:=λds R=>∃(p q:Pat) (w h s:Int),ds=[.lst (p.leaves.map Leaf.D),.lst (q.leaves.map Leaf.D),.tup [.int w,.int h,.int s]]/\p.Ok/\q.Ok/\0<w/\w<=720/\0<h/\h<=720/\((∀x y:Int,0<=x->x<w->0<=y->y<h->p.show x y=q.show x y)->R .non)/\∀x y:Int,0<=x->x<w->0<=y->y<h->p.show x y≠q.show x y->(∀x' y':Int,0<=x'->x'<w->0<=y'->(y'<y\/(y'=y/\x'<x))->p.show x' y'=q.show x' y')->R (.tup [.int x,.int y])
abbrev pz(V:Bx):Prop:=V.D 4 "_law_unlike" mx Ej
def El(T:V.T "_law_unlike" mv mx)(uA:V.m "range")(uW:gj V):pz V:=by
 refine Tx.okDW T sc__law_unlike (λds R h=>?_) (λf cdv A outer s H E J hr=>⟨_,((aj (bK 3 PassesOwn.never rfl sc__law_unlike.nd uA (ai (aa 2) ag) (ar (bK 4 PassesOwn.never rfl sc__law_unlike.nd uA (ai (aa 2) ag) (ar (aT (bT (aw uW hr (ac (aa 0) (ac (aa 4) (ac (aa 3) ah)))) (aw uW hr (ac (aa 1) (ac (aa 4) (ac (aa 3) ah))))) (ar (ay (aK (ac (aa 4) (ac (aa 3) ah))))) aM)))))
   (ar (ay bG)))),λds R h=>?_⟩)
 .obtain⟨_,_,_,_,_,rfl,_⟩:=h;rfl
 .obtain⟨p,q,w,h,s,rfl,g_,d5,w0,w7,h0,h7,hN,hS⟩:=h;have lo:=Pat.leaf_ok g_.wf (show p.depth<=40 by have:=g_.deep;omega);have QQ:=Pat.leaf_ok d5.wf (show q.depth<=40 by have:=d5.deep;omega);have sl:=λx y=>Pat.show_leaves g_.wf (show p.depth<=40 by have:=g_.deep;omega) x y;have L6:=λx y=>Pat.show_leaves d5.wf (show q.depth<=40 by have:=d5.deep;omega) x y;refine#[_,rfl,#[KK,KK],λk z=>∃o3 o4,z=[be (.lst (p.leaves.map Leaf.D)),be (.lst (q.leaves.map Leaf.D)),be (.tup [.int w,.int h,.int s]),o3,o4]/\∀x y:Int,0<=x->x<w->0<=y->y<k->p.show x y=q.show x y,#[_,_,rfl,λx y _ _ a b=>KK],?_,?_]
  .rintro k v z hk⟨o3,o4,rfl,hj⟩;k_places;obtain⟨gV,rfl⟩:=bx hk;refine#[_,rfl,#[KK,KK],λi z=>∃o4,z=[be (.lst (p.leaves.map Leaf.D)),be (.lst (q.leaves.map Leaf.D)),be (.tup [.int w,.int h,.int s]),be (.int k),o4]/\∀x:Int,0<=x->x<i->p.show x k=q.show x k,#[_,rfl,λx a b=>KK],?_,?_]
   .rintro i v z hi⟨o4,rfl,f8⟩;k_places;obtain⟨s9,rfl⟩:=bx hi;refine#[p.leaves,i,k,rfl,lo,q.leaves,i,k,rfl,QQ,?_];rw[sl,L6];refine ite2 (λc=>?_) (λc=>?_)
    .refine#[by show(2:Nat)<=1000;decide,hS i k KK KK KK KK (λz=>by simp[z]at c) λx' y' a b c d=>?_];rcases d with d|⟨rfl,d⟩
     .exact hj x' y' a b c KK
     .exact f8 x' a KK
    .have c':p.show i k=q.show i k:=by simpa using c
     refine#[_,rfl,λx a b=>?_];by_cases e:x=i
     .rw[e];exact c'
     .exact f8 x a KK
   .rintro z⟨o4,rfl,f8⟩;k_places;rw[bC]at f8;refine#[_,_,rfl,λx y a b c d=>?_];by_cases e:y=k
    .rw[e];exact f8 x a KK
    .exact hj x y a b c KK
  .rintro z⟨o3,o4,rfl,hj⟩;k_places;rw[bC]at hj;exact hN λx y a b c d=>hj x y a b c KK
abbrev dE(V:Bx):Prop:=V.Q 1 "Reading" "may_take" mB BY
def Em(T:V.Tm "Reading" "may_take" "Reading.may_take" mz mB)(uB:V.m "len")(J3:V.a "Reading" "text")(uL:V.a "Reading" "place"):dE V:=by
 refine Txm.okM T Dh (λds M R RX h=>?_) (λf cdv A outer s H E J hr hx=>⟨_,((aF (cz (mt_w (zP (hV (aU uL (av (aa 0))) (sF uB (bg (aU J3 (av (aa 0))) bL))) (zN (zL (sB (aU J3 (av (aa 0))) (aU uL (av (aa 0)))) (av (aa 1)))))) (aJ (aS (av aC))) cq)
   (aF (ia uL (av (aa 0)) (gZ (aU uL (av (aa 0))) (av ag)))
   (aJ (aS (sB (aU J3 (av (aa 0))) (kC (aU uL (av (aa 0))) (av ag)))))))),λds M R RX e_ h=>?_⟩)
 .obtain⟨_,_,_,_,_,rfl,_⟩:=h;rfl
 .obtain⟨a,t,k,l,al,rfl,rfl,c7,hR⟩:=h;refine#[_,bb,_,fg,_,bb,_,kR,FX c7.sz Kj,?_];cases l with
  |nil=>
   refine ifdT (by rw[c7.nil]) (ifT rfl ?_);exact hR
  |cons c l=>
   have lt:=c7.lt;refine ifdF Kd ?_;refine#[_,bb,_,kR,_,bb,_,fg,c,#[FX c7.sz Kj,bF c7.get],?_];refine ite2 (λe=>?_) (λe=>?_)
   .have e2:(!(!(Builtin.Str.occurrences al #[[c].toArray] 0 al.length 1).isEmpty))=true:=e;rw[tY]at e2;have nc:c∉cs al:=by simpa using e2
    rw[dU nc,dW nc]at hR;exact hR
   .have e2:¬(!(!(Builtin.Str.occurrences al #[[c].toArray] 0 al.length 1).isEmpty))=true:=e;rw[tY]at e2;have nc:c∈cs al:=by simpa using e2
    rw[fj nc,fk nc]at hR;refine#[_,bb,_,fg,_,bb,by show(2:Nat)<1000;decide,?_];rw[show mput (RdM a t k) a (.ins "Reading" (putD ("place":E_) (.int ((k:Int)+1)) (rdF t k)))=RdM a t (k+1)by rw[BW];exact ig];refine#[_,bb,_,kR,_,bb,_,fg,c,#[FX c7.sz Kj,?_],hR];rw[show((k+1:Nat):Int)-1=(k:Int)by lia];exact bF c7.get
abbrev cP(V:Bx):Prop:=V.Q 2 "Reading" "take" mD BZ
def En(T:V.Tm "Reading" "take" "Reading.take" mC mD)(uG:dE V):cP V:=by
 refine Txm.okM T sc_Reading_take (λds M R RX h=>?_) (λf cdv A outer s H E J hr hx=>⟨_,((aF (br 2 sc_Reading_take.nd (bn (CalMth.one uG) hx hr (av (aa 0)) (aG (ac (aa 1) ah))))
   (aF (cz (cy (bp (aa 2) aC)) (aJ ie) cq)
   (aJ (aS (av (aa 2))))))),λds M R RX e_ h=>?_⟩)
 .obtain⟨_,_,_,_,_,_,rfl,_⟩:=h;rfl
 .obtain⟨a,t,k,c,l,al,rfl,rfl,c7,hc,hR⟩:=h;refine#[λd M'=>d=.str #[[c].toArray]/\M'=RdM a t (k+1),#[_,FO.mpr rfl,_,bb,dA,a,t,k,_,al,rfl,rfl,c7,by rw[fj hc,fk hc];exact#[rfl,rfl]],?_];rintro _ _⟨rfl,rfl⟩;k_places;exact hR
abbrev pA(V:Bx):Prop:=V.MM 3 "line_from" mG S_line_from
def Eo(T:V.T "line_from" mF mG)(uA:V.m "range")(uN:V.gs "SIGNS" ".123456")(uC:cP V)(uG:dE V):pA V:=by
 refine Tx.okM T sc_line_from (λds M R RX h=>?_) (λf cdv A outer s H E J hr hx=>⟨_,((aF (br 3 sc_line_from.nd (av aC))
   (aF (Ag 4 PassesOwn.leaving rfl sc_line_from.nd uA (av (aa 2)) (aJ (br 3 sc_line_from.nd (gZ (av (aa 3)) (fT (cy (dH (aa 4) (aa 1))) (bn (CalMth.one uC) hx hr (av (aa 0)) (aG (ac (eO uN) ah))) (bn (CalMth.one uG) hx hr (av (aa 0)) (aG (ac (eO uN) ah))))))))
   (aJ (aS (av (aa 3))))))),λds M R RX e_ h=>?_⟩)
 .obtain⟨_,_,_,_,_,_,_,rfl,_⟩:=h;rfl
 .obtain⟨a,t,k,n,m,x,l,rfl,rfl,c7,hs,hn,hm,RE,j6,hR⟩:=h;refine#[λd M'=>d=.str ""/\M'=RdM a t k,#[rfl,rfl],?_];rintro _ _⟨rfl,rfl⟩;k_places;refine#[#[Kd,Kd],λi z M'=>i<=m/\∃col,z=[be (.ptr a),be (.int n),be (.int m),be (.str #[(x.take i).toArray]),col]/\M'=RdM a t (k+min i x.length),#[Go _,s_,rfl,by rw[Nat.zero_min];rfl],?_,?_]
  .rintro i d z M' hi⟨RF,col,rfl,rfl⟩;k_places;obtain⟨s9,rfl⟩:=bx hi;have s9:i<m:=by lia
   have b7:=List.length_take_le i x;refine#[λd M'=>d=.str #[(x.take (i+1)).toArray]/\M'=RdM a t (k+min (i+1) x.length),?_,?_]
   .by_cases g8:i<x.length
    .have e1:x.take (i+1)=x.take i++[x[i]]:=List.take_succ_eq_append_getElem g8;have c8:At t (k+i) (x[i]::(x.drop (i+1)++l)):=by
      have:=c7;rw[<-JB i x,GF,GX g8]at this;have:=this.app;rw[Hj,Ht Kd]at this;exact this
     have hc:=signs_is.mpr (BV (hs x[i] (Gm g8)));have e2:(#[(x.take i).toArray]:E_)++#[[x[i]].toArray]=#[(x.take (i+1)).toArray]:=by rw[show(#[[x[i]].toArray]:E_)=#[[x[i]].toArray]from rfl,fW,e1]
     rw[Ht Kd,Ht Kd];refine ite2 (λ_=>?_) (λ_=>?_)
     .exact#[_,FO.mpr rfl,_,bb,cB,a,t,_,_,_,".123456",rfl,rfl,c8,hc,by rw[fo,show(#[[x[i]].toArray]:E_).length=1 from rfl];lia,congrArg D.str e2,rfl]
     .refine#[_,FO.mpr rfl,_,bb,dA,a,t,_,_,".123456",rfl,rfl,c8,?_];rw[fj hc,fk hc];exact#[by rw[fo,show(#[[x[i]].toArray]:E_).length=1 from rfl];lia,congrArg D.str e2,rfl]
    .obtain⟨c,l',rfl,hc⟩:=j6.resolve_left Kd;have c8:=c7.app;rw[HQ Kd,HQ Kd,G7 Kd,G7 Kd];refine ite2 (λc=>absurd (of_decide_eq_true c) Kd) (λ_=>?_);refine#[_,FO.mpr rfl,_,bb,dA,a,t,_,_,".123456",rfl,rfl,c8,?_];rw[dU (tZ hc),dW (tZ hc)];refine#[by rw[fo,show("":E_).length=0 from rfl];lia,?_,rfl];rw[show("":E_)=#[([]:List Nat).toArray]from rfl,fW,GB]
   .rintro _ _⟨rfl,rfl⟩;k_places;exact#[s9,_,rfl,trivial]
  .intro z M' hz;rw[bC,G2]at hz;obtain⟨_,col,rfl,rfl⟩:=hz;rw[G7 hm,HQ hm];exact hR
abbrev pB(V:Bx):Prop:=V.MM 4 "lines_from" mI B5
def Ep(T:V.T "lines_from" mH mI)(uB:V.m "len")(Mt:pA V)(Mu:V.gi "LONGEST" 8)(uG:dE V):pB V:=by
 refine Tx.okM T sc_lines_from (λds M R RX h=>?_) (λf cdv A outer s H E J hr hx=>⟨_,((aF (br 1 sc_lines_from.nd (zS (bg (bq (CalMM.frame Mt) hx hr (aG (ac (aa 0) (ac ag (ac (eN Mu) ah))))) bL)))
   (aF (br 2 sc_lines_from.nd (sF uB (bg (Aj (av (aa 1)) (av ag)) bL)))
   (aF (Af PassesOwn.leaving (mt_w (zO (sC (Ai uB (av (aa 1))) (av (eN Mu))) (zM (hV (bn (CalMth.one (CalMth.frame uG)) hx hr (av (aa 0)) (aG (ac aC ah))) (av aC))))) (aJ (cJ (Al (av (aa 1)) (bq (CalMM.frame Mt) hx hr (aG (ac (aa 0) (ac (aa 2) (ac (aa 2) ah)))))))))
   (sJ 1 (aJ (aS (av (aa 1))))))))),λds M R RX e_ h=>?_⟩)
 .obtain⟨_,_,_,_,_,_,rfl,_⟩:=h;rfl
 .obtain⟨a,t,k,L,w,l,rfl,rfl,hL,c7,hR⟩:=h;have hw:=hL.w1;have QR:=hL.w8;have x_:=hL.many;cases L with
  |nil=>exact absurd x_.1 Kj
  |cons x L=>
   obtain⟨KH,o_⟩:=hL.each x FU;rw[tX]at c7 hR;rw[GF]at c7;rw[FV]at x_;have stop:∀N:List (List Nat),∃c l',rowsT N++59::l=c::l'/\isSg c=false:=λN=>by
    cases N with
    |nil=>exact#[59,l,rfl,rfl]
    |cons y N=>exact#[47,_,rfl,rfl]
   refine#[λd M'=>∃p,p≠a/\d=.ptr p/\M'=(p,.lst [.str #[x.toArray]])::RdM a t (k+x.length),#[[],RdM a t k,rfl,a,t,k,1,8,x,_,rfl,rfl,c7,o_,Kd,Kd,Kj,.inr (stop L),by show 1<=1000;decide,λp hp=>#[p,λe=>hp (by rw[e];exact FO.mpr rfl),rfl,rfl]],?_];rintro _ _⟨p,QS,rfl,rfl⟩;k_places;refine#[λd M'=>d=.int w/\M'=(p,.lst [.str #[x.toArray]])::RdM a t (k+x.length),#[_,cT,_,rfl,by rw[fo];lia,by rw[fo,KH],rfl],?_];rintro _ _⟨rfl,rfl⟩;k_places;refine#[λm z M'=>∃L1 L2 k',L=L1++L2/\m=L2.length/\At t k' (rowsT L2++59::l)/\k'+(rowsT L2).length=k+(x++rowsT L).length/\z=[be (.ptr a),be (.ptr p),be (.int w)]/\M'=(p,.lst (lstD (x::L1)))::RdM a t k',#[_,[],L,_,rfl,rfl,c7.app,by rw[F8];lia,rfl,rfl],?_];rintro m z M'⟨L1,L2,k',rfl,rfl,h_,hk,rfl,rfl⟩;k_places;rw[F8]at x_;have LI:(lstD (x::L1)).length=L1.length+1:=by simp[lstD]
   have done:L2=[]->R (.lst (lstD (x::L1))) (RdM a t k'):=λe=>by
    subst e;rw[show k'=k+(x++rowsT (L1++[])).length from hk,show lstD (x::L1)=lstD (x::(L1++[]))by rw[GB]];exact hR
   refine#[_,cT,?_];rw[LI];refine ite2 (λc=>?_) (λc=>?_)
   .refine#[_,FO.mpr rfl,_,B4 QS,dA,[(p,_)],RdM a t _,rfl,a,t,_,_,"/",rfl,rfl,h_,?_];cases L2 with
    |nil=>
     rw[show rowsT []++59::l=59::l from rfl,dU Kj,dW Kj];refine#[_,cT,?_];rw[show mdel ([(p,MO.lst (lstD (x::L1)))]++RdM a t (k'+0)) p=RdM a t k' from kS];exact done rfl
    |cons y N=>
     have e1:rowsT (y::N)++59::l=47::(y++(rowsT N++59::l)):=by simp[rowsT]
     have Pj:(47:Nat)∈cs "/":=Kj
     rw[e1]at h_ ⊢;rw[fj Pj,fk Pj];obtain⟨QT,QU⟩:=hL.each y (FS _ (Gh _ FU));have o6:=h_.next;refine#[#[_,cT],[(p,_)],RdM a t _,rfl,a,t,_,w,w,y,_,rfl,rfl,o6,QU,Kd,Kd,QR,.inl QT,?_];refine#[_,cT,by rw[LI];lia,N.length,by rw[FV];lia,L1++[y],N,_,Ld,rfl,o6.app,?_,rfl,?_]
     .rw[<-hk];simp[rowsT];lia
     .show mput ((p,MO.lst (lstD (x::L1)))::RdM a t _) p _=_;rw[ub];simp[lstD]
   .have c':L1.length+1=8:=by
     have:¬((L1.length+1:Nat):Int)<8:=λz=>c (decide_eq_true z);lia
    refine#[_,cT,?_];rw[kS];exact done (IQ Kd)
abbrev pC(V:Bx):Prop:=V.MM 3 "number_from" mK B2
def Er(T:V.T "number_from" mJ mK)(uD:V.m "int")(uG:dE V)(uC:cP V):pC V:=by
  refine Tx.okM T sc_number_from (λds M R RX h=>?_) (λf cdv A outer s H E J hr hx=>⟨_,((aF (cz (hV (bn (CalMth.one uG) hx hr (av (aa 0)) (aG (ac aC ah))) (av aC)) (aJ (aS (av ag))) cq)
      (aF (br 1 sc_number_from.nd (gZ (bn (CalMth.one uG) hx hr (av (aa 0)) (aG (ac aC ah))) (bn (CalMth.one uC) hx hr (av (aa 0)) (aG (ac aC ah)))))
      (aF (sI (cy (bN (zI (aa 1) (ac aC ah)))) (aJ (br 1 sc_number_from.nd (gZ (av (aa 1)) (bn (CalMth.one uG) hx hr (av (aa 0)) (aG (ac aC ah)))))) cq)
      (aJ (aS (av (fO uD (ac (aa 1) ah))))))))),λds M R RX e_ h=>?_⟩)
  . obtain⟨_,_,_,_,_,_,rfl,_⟩:=h;rfl
  . obtain⟨a,t,k,x,e,l,rfl,rfl,g8,he,c7,hR⟩:=h;have hi:=B0 g8;have hl:=bP g8;rw[<-bi]at hl;change (numL x).length<=3 at hl;refine#[_,FO.mpr rfl,_,bb,dA,a,t,k,_,"0",rfl,rfl,c7,?_];rcases numS g8 with e0|⟨pre,c,y,hp,hc,ev,hy⟩
    . rw[e0]at hR hi ⊢;have e1:x=0:=Option.some.inj (hi.symm.trans Kl);subst e1;have e2:(48:Nat)∈cs "0":=by decide
      rw[show([48]++e::l:List Nat)=48::e::l from rfl,fj e2,fk e2];exact hR
    rw[ev]at c7 hR hi hl ⊢;have h0:mayS "0" (pre++c::y++e::l)=""/\mayN "0" (pre++c::y++e::l)=0:=by
      have n:c∉cs "0":=λq=>by have:=FO.mp q;lia
      rcases hp with rfl|rfl
      . exact#[dU n,dW n]
      . exact#[dU Kj,dW Kj]
    have hm:mayS "-" (pre++c::y++e::l)=#[pre.toArray]/\mayN "-" (pre++c::y++e::l)=pre.length:=by
      have n:c∉cs "-":=λq=>by have:=FO.mp q;lia
      rcases hp with rfl|rfl
      . exact#[dU n,dW n]
      . exact#[rfl,rfl]
    rw[h0.1,h0.2];have c8:At t (k+pre.length) (c::(y++e::l)):=by rw[GF]at c7;exact c7.app
    have h_:=c8.next;refine#[λd M'=>d=.str #[(pre++[c]).toArray]/\M'=RdM a t (k+pre.length+1),?_,?_]
    . refine#[_,FO.mpr rfl,_,bb,dA,a,t,k,_,"-",rfl,rfl,c7,?_];rw[hm.1,hm.2];refine#[_,FO.mpr rfl,_,bb,cB,a,t,k+pre.length,c,_,"123456789",rfl,rfl,c8,digits19.mpr hc,?_,?_,rfl]
      . rcases hp with rfl|rfl<;>simp[Str.length]
      . rw[show(#[[c].toArray]:E_)=#[[c].toArray]from rfl,fW]
    . rintro _ _⟨rfl,rfl⟩;k_places;refine#[λz M'=>z=[be (.ptr a),be (.str #[(pre++c::y).toArray])]/\M'=RdM a t (k+(pre++c::y).length),?_,?_]
      . show if Txt.endswith #[(pre++[c]).toArray] "1"=true then _ else _
        rw[B1];refine ite2 (λz=>?_) (λz=>?_)
        . obtain⟨e1,e2,e3⟩:(⟨(pre++[c]).toArray⟩:E_)++mayS "012" (y++e::l)=⟨(pre++c::y).toArray⟩/\mayN "012" (y++e::l)=y.length/\(mayS "012" (y++e::l)).length<=1:=by
            rcases hy with rfl|⟨_,d,hd,rfl⟩
            . have n:e∉cs "012":=λq=>by have:=digits02.mp q;unfold endS at he;lia
              rw[List.nil_append,dU n,dW n];refine#[?_,rfl,Kj];rw[show("":E_)=#[([]:List Nat).toArray]from rfl,fW];simp
            . rw[show([d]++e::l:List Nat)=d::e::l from rfl,fj (digits02.mpr hd),fk (digits02.mpr hd)];refine#[?_,rfl,FM 1];rw[show(#[[d].toArray]:E_)=#[[d].toArray]from rfl,fW];simp
          refine#[λv M'=>v=.str #[(pre++c::y).toArray]/\M'=RdM a t (k+(pre++c::y).length),#[_,FO.mpr rfl,_,bb,dA,a,t,_,_,"012",rfl,rfl,h_,?_],?_]
          . refine#[?_,congrArg D.str e1,?_]
            . rcases hp with rfl|rfl<;>simp[Str.length]at e3 ⊢<;>lia
            . rw[e2];congr 1;simp;lia
          . rintro _ _⟨rfl,rfl⟩;k_places;exact#[rfl,trivial]
        . have QV:y=[]:=hy.resolve_right λq=>z (decide_eq_true q.1);subst QV;exact#[rfl,by rw[F8];rfl]
      . rintro _ _⟨rfl,rfl⟩;k_places;exact#[x,#[hi,by show(pre++c::y).length<=640;lia],hR]
abbrev gk(V:Bx):Prop:=V.MM 4 "shift_from" mM B3
def Es(T:V.T "shift_from" mL mM)(Mw:pC V)(uC:cP V):gk V:=by
 refine Tx.okM T sc_shift_from (λds M R RX h=>?_) (λf cdv A outer s H E J hr hx=>⟨_,((aF (br 1 sc_shift_from.nd (bq Mw hx hr (aG (ac (aa 0) ah))))
   (aF (cJ (bn (CalMth.one uC) hx hr (av (aa 0)) (aG (ac aC ah))))
   (aJ (aS (zR (bg (av (aa 1)) (bg (bq Mw hx hr (aG (ac (aa 0) ah))) bL)))))))),λds M R RX e_ h=>?_⟩)
 .obtain⟨_,_,_,_,_,_,_,rfl,_⟩:=h;rfl
 .obtain⟨a,t,k,x,y,e,l,rfl,rfl,g8,hy,he,c7,hR⟩:=h;refine#[λd M'=>d=.int x/\M'=RdM a t (k+(numL x).length),#[a,t,k,x,44,_,rfl,rfl,g8,.inl rfl,c7,rfl,rfl],?_];rintro _ _⟨rfl,rfl⟩;k_places;have c8:=c7.app;exact#[_,FO.mpr rfl,_,bb,cB,a,t,_,44,_,",",rfl,rfl,c8,Kj,a,t,_,y,e,l,rfl,rfl,hy,he,c8.next,Ld,hR]
abbrev jj(V:Bx):Prop:=V.D 1 "levelled" mO Bd
def Et(T:V.T "levelled" mN mO):jj V:=by
 refine Tx.okDW T sc_levelled (λds R h=>?_) (λf cdv A outer s H E J hr=>⟨_,((aj (dN PassesOwn.never (bT (ai (aa 1) ag) ag) (aj (aq 2 sc_levelled.nd (yd (ai (aa 0) ag) (ai (aa 1) ag)))
    (aj (aq 3 sc_levelled.nd (aK (ac (aX (ai (aa 0) ag) (aA (aa 2) (ai (aa 1) ag))) (ac (aX (ai (aa 0) ag) (aA (aa 2) (ai (aa 1) ag))) ah))))
    (aj (aq 0 sc_levelled.nd (aa 1))
    (ar (aq 1 sc_levelled.nd (aa 3)))))))
   (aj (cx (dH (ai (aa 0) ag) ag) (ar (aq 0 sc_levelled.nd (aK (ac (cw (ai (aa 0) ag)) (ac (cw (ai (aa 0) ag)) ah))))) aM)
   (ar (ay (aK (ac (aa 0) (ac (aa 1) ah)))))))),λds R h=>?_⟩)
 .obtain⟨a,b,c,d,rfl,_⟩:=h;rfl
 .obtain⟨a,b,c,d,rfl,hb,hd,hR⟩:=h;refine#[λm z=>∃(f0 f1 s0 s1:Int) (t r:Option D),z=[be (.tup [.int f0,.int f1]),be (.tup [.int s0,.int s1]),t,r]/\Uni a b c d f0 f1 s0 s1/\f1.natAbs<4611686018427387904/\s1.natAbs<4611686018427387904/\m=s1.natAbs,#[_,a,b,c,d,s_,s_,rfl,Uni.refl a b c d,hb,hd,rfl],?_];rintro m z⟨f0,f1,s0,s1,t,r,rfl,hu,hf,hs,rfl⟩;k_places;refine#[_,rfl,ite2 (λcc=>?_) (λcc=>?_)]
  .have c':¬s1=0:=by simpa using cc
   obtain⟨g1,g2⟩:=fdm f1 s1 c';refine#[λd=>d=.int (f1.fdiv s1),#[_,rfl,_,rfl,#[c',hs],rfl],?_];rintro _ rfl;k_places;refine#[λd=>d=.tup [.int (f0-f1.fdiv s1*s0),.int (f1-f1.fdiv s1*s1)],#[_,rfl,_,rfl,.inl #[Kd,Kd],_,rfl,_,rfl,.inl #[Kd,Kd],Ld,rfl],?_];rintro _ rfl;k_places;refine#[λd=>d=.tup [.int s0,.int s1],rfl,?_];rintro _ rfl;k_places;refine#[λd=>d=.tup [.int (f0-f1.fdiv s1*s0),.int (f1-f1.fdiv s1*s1)],rfl,?_];rintro _ rfl;k_places;exact#[_,g1,s0,s1,_,_,_,_,rfl,hu.step _,hs,Kd,rfl]
  .have c':s1=0:=by simpa using cc
   subst c';refine#[λz=>∃p0 p1:Int,z=[be (.tup [.int p0,.int p1]),be (.tup [.int s0,.int 0]),t,r]/\Lev a b c d p0 p1 s0,#[_,rfl,ite2 (λe=>?_) (λe=>?_)],?_]
   .have e':=of_decide_eq_true e;refine#[λd=>d=.tup [.int (-f0),.int (-f1)],#[_,rfl,_,rfl,Ld,rfl],?_];rintro _ rfl;k_places;exact#[_,_,rfl,Kd,hu.neg]
   .have e':=of_decide_eq_false (Gs.mpr e);exact#[_,_,rfl,Kd,hu]
   .rintro _⟨p0,p1,rfl,hL⟩;k_places;exact#[Ld,hR p0 p1 s0 hL]
abbrev jk(V:Bx):Prop:=V.D 2 "spread" mR Be
def Eu(T:V.T "spread" mQ mR)(uO:V.m "abs")(K1:jj V):jk V:=by
 refine Tx.okDW T sc_spread (λds R h=>?_) (λf cdv A outer s H E J hr=>⟨_,((aj (aT (bp (aA (ai (aa 0) ag) (ai (aa 1) ag)) (aA (ai (aa 0) ag) (ai (aa 1) ag))) (ar (ay bG)) aM)
   (aj (aq 2 sc_spread.nd (aw K1 hr (ac (aa 0) (ac (aa 1) ah))))
   (aj (aq 3 sc_spread.nd (eE uO (ac (ai (ai (aa 2) ag) ag) ah)))
   (ar (ay (aK (ac (aa 3) (ac (ai (ai (aa 2) ag) ag) (ac (az (ai (ai (aa 2) ag) ag) (aa 3)) ah)))))))))),λds R h=>?_⟩)
 .obtain⟨a,b,c,d,rfl,_⟩:=h;rfl
 .obtain⟨a,b,c,d,rfl,ha,hb,hc,hd,hN,hR⟩:=h;refine#[_,rfl,_,rfl,.inl #[Kd,Kd],_,rfl,_,rfl,.inl #[Kd,Kd],ite2 (λe=>?_) (λe=>?_)]
  .exact hN (of_decide_eq_true e)
  .have e':=of_decide_eq_false (Gs.mpr e);refine#[λx=>∃p0 p1 q0:Int,x=.tup [.tup [.int p0,.int p1],.tup [.int q0,.int 0]]/\Lev a b c d p0 p1 q0,#[a,b,c,d,rfl,hb,hd,λp0 p1 q0 hL=>#[p0,p1,q0,rfl,hL]],?_];rintro _⟨p0,p1,q0,rfl,hL⟩;k_places;have hF:=fU e' hL;refine#[λx=>x=.int (if q0<0 then -q0 else q0),#[_,rfl,_,rfl,rfl],?_];rintro _ rfl;k_places;exact#[_,rfl,_,rfl,_,rfl,_,rfl,hF.1,Ld,hR e' _ _ _ hF]
abbrev fz(V:Bx):Prop:=V.D 1 "home" mV Bc
def Ev(T:V.T "home" mU mV):fz V:=by
 refine Tx.okDW T sc_home (λds R h=>?_) (λf cdv A outer s H E J hr=>⟨_,((aj (aq 3 sc_home.nd (ai (aa 0) ag))
   (aj (aq 4 sc_home.nd (ai (aa 0) ag))
   (aj (aq 5 sc_home.nd (ai (aa 0) ag))
   (ar (ay (aK (ac (az (aX (aa 1) (aA (aN (aa 2) (aa 4)) (aa 5))) (aa 3)) (ac (az (aa 2) (aa 4)) ah))))))))),λds R h=>?_⟩)
 .obtain⟨w,h,s,x,y,rfl,_⟩:=h;rfl
 .obtain⟨w,h,s,x,y,rfl,hw,hh,z9,hs,l8,hR⟩:=h;refine#[λd=>d=.int w,#[_,rfl,rfl],?_];rintro _ rfl;k_places;refine#[λd=>d=.int h,#[_,rfl,rfl],?_];rintro _ rfl;k_places;refine#[λd=>d=.int s,#[_,rfl,rfl],?_];rintro _ rfl;k_places;exact#[#[hh,z9],.inr #[Kd,Kd],hw,hh,Ld,hR]
abbrev pD(V:Bx):Prop:=V.MM 2 "hues_by_home" mY Ca
def Ew(T:V.T "hues_by_home" mW mY)(A_:V.m "enumerate")(uY:fz V)(uN:V.gs "SIGNS" ".123456"):pD V:=by
 refine Tx.okM T sc_hues_by_home (λds M R RX h=>?_) (λf cdv A outer s H E J hr hx=>⟨_,((aF (br 2 sc_hues_by_home.nd AA)
   (aF (Aq PassesOwn.leaving rfl A_ (av (aa 0)) (dg_cons 3 sc_hues_by_home.nd (dg_cons 4 sc_hues_by_home.nd dM)) (aJ (Ar PassesOwn.leaving rfl A_ (av (aa 4)) (dg_cons 5 sc_hues_by_home.nd (dg_cons 6 sc_hues_by_home.nd dM)) (aJ (sI (cy (bT (aa 6) aC)) (aJ (cJ (AD (gD hr) (av (aa 2)) (aG (ac (aw uY hr (ac (aa 1) (ac (aa 5) (ac (aa 3) ah)))) (ac (su (eO uN) (ac (aa 6) ah)) ah)))))) cq)))))
   (sJ 2 (aJ (aS (av (aa 2)))))))),λds M R RX e_ h=>?_⟩)
 .obtain⟨_,_,_,_,_,rfl,_⟩:=h;rfl
 .obtain⟨L,wd,w,h,s,rfl,hL,hw,hh,z9,hs,l8,hR⟩:=h;have QO:=hL.w8;refine#[λd M'=>∃p,p∉aE M/\d=.ptr p/\M'=(p,.dti [])::M,λp hp=>#[p,hp,rfl,rfl],?_];rintro _ _⟨p,hp,rfl,rfl⟩;k_places;refine#[λj z M'=>∃(kv:List ((Int×Int)×Int)) (x3 x4 x5 x6:Option D),hAll w h s j (L.drop j) kv=hAll w h s 0 L []/\kv.length<=8*j/\z=[be (.lst (lstD L)),be (.tup [.int w,.int h,.int s]),be (.ptr p),x3,x4,x5,x6]/\M'=(p,.dti kv)::M,#[[],s_,s_,s_,s_,rfl,Ld,rfl,rfl],?_,?_]
  .rintro j d z M' hd⟨kv,x3,x4,x5,x6,e1,QW,rfl,rfl⟩;k_places;obtain⟨x,g8,rfl⟩:=B8 hd;have hj:j<L.length:=(FZ.mp g8).1;have RG:=hL.many;obtain⟨xl,xs⟩:=hL.each x (Hx g8);rw[ud g8]at e1;refine#[B7 xs,λi z M'=>∃(JQ:List ((Int×Int)×Int)) (x5 x6:Option D),hRow w h s j i (x.drop i) JQ=hRow w h s j 0 x kv/\JQ.length<=8*j+i/\i<=x.length/\z=[be (.lst (lstD L)),be (.tup [.int w,.int h,.int s]),be (.ptr p),be (.int j),be (.str #[x.toArray]),x5,x6]/\M'=(p,.dti JQ)::M,#[kv,x5,x6,rfl,Kd,Go _,rfl,rfl],?_,?_]
   .rintro i d z M' o7⟨JQ,y5,y6,e2,NW,hi,rfl,rfl⟩;k_places;obtain⟨c,hc,rfl⟩:=B9 o7;have s9:i<x.length:=(FZ.mp hc).1;have sc:=xs c (Hx hc);rw[ud hc,hRow]at e2;refine#[λz M'=>∃LJ:List ((Int×Int)×Int),hRow w h s j (i+1) (x.drop (i+1)) LJ=hRow w h s j 0 x kv/\LJ.length<=8*j+(i+1)/\z=[be (.lst (lstD L)),be (.tup [.int w,.int h,.int s]),be (.ptr p),be (.int j),be (.str #[x.toArray]),be (.int i),be (.str #[[c].toArray])]/\M'=(p,.dti LJ)::M,?_,?_]
    .show if(!decide ((#[[c].toArray]:E_)="."))=true then _ else _;by_cases t8:c=46
     .subst t8;rw[if_pos rfl]at e2;exact#[JQ,e2,Kd,rfl,rfl]
     .rw[if_neg t8]at e2;refine ifT (by simp[one_sign,t8]) ?_;have c6:49<=c/\c<=54:=by unfold bj at sc;lia
      obtain⟨ix,rest,ho,M8⟩:=B6 c6;refine#[#[_,cT],w,h,s,i,j,rfl,hw,hh,z9,hs,l8,ix,rest,ho,_,cT,by have:=uc JQ (hmX w h s i j) ((j:Int)%h) ((c:Int)-48);lia,λv=>?_];rw[ub,M8];exact#[_,e2,by have:=uc JQ (hmX w h s i j) ((j:Int)%h) ((c:Int)-48);lia,rfl,rfl]
    .rintro z M'⟨LJ,e3,h3,rfl,rfl⟩;k_places;exact#[LJ,_,_,e3,h3,s9,rfl,rfl]
   .rintro z M' hz;rw[gX,fo]at hz;obtain⟨JQ,y5,y6,e2,NW,hi,rfl,rfl⟩:=hz;rw[JC]at e2;refine#[JQ,_,_,_,_,?_,Kd,rfl,rfl];rw[<-e1,hAll,<-e2];rfl
  .rintro z M' hz;rw[show(lstD L).length=L.length by simp[lstD]]at hz;obtain⟨kv,x3,x4,x5,x6,e1,QW,rfl,rfl⟩:=hz;rw[JC]at e1;refine#[_,cT,?_];rw[kS];have e2:kv=hAll w h s 0 L []:=e1;rw[<-e2]at hR;exact hR
abbrev pE(V:Bx):Prop:=V.M 3 "Motif" ng Cb
def Ey(T:V.Ti "Motif" "Motif.__init__" mZ ng)(K2:jk V)(NX:pD V)(NY:V.a "Motif" "place")(uK:V.a "Motif" "shifts")(J4:V.a "Motif" "hues"):pE V:=by
 refine Txi.okIM T Di (λds R h=>?_) (λf cdv A outer s H E J hr hx=>⟨_,((aF (ia NY (av (aa 0)) (av (aa 1)))
   (aF (ia uK (av (aa 0)) (av (aw K2 hr (ac (aa 3) (ac (aa 4) ah)))))
   (aJ (ia J4 (av (aa 0)) (fT (sE (aU uK (av (aa 0))) (av bG)) Az (bq NX hx hr (bg (av (aa 2)) (bg (aU uK (av (aa 0))) bL))))))))),λa ds R Lg h=>?_⟩)
 .obtain⟨_,_,_,_,_,_,_,rfl,_⟩:=h;rfl
 .obtain⟨k,L,wd,x,y,u,v,rfl,hL,g8,hy,hu,hv,hn,h1⟩:=h;unfold B12 at g8 hy hu hv;refine#[_,dS,by show(0:Nat)<1000;decide,?_];rw[ig,Cd];refine#[x,y,u,v,rfl,Kd,Kd,Kd,Kd,λe=>absurd e hn,λe w h s F=>?_];refine#[_,dS,by show(1:Nat)<1000;decide,?_];rw[ig,Ce];refine#[_,dS,_,ue,?_];obtain⟨b1,b2,b3⟩:=F.bd (N:=288) (by
   have m1:=bW (a:=x) (d:=v) (A:=12) (B:=12) Kd Kd;have m2:=bW (a:=y) (d:=u) (A:=12) (B:=12) Kd Kd;lia)
  refine#[_,dS,_,ue,L,wd,w,h,s,rfl,hL,F.1,F.2.1,Kd,F.2.2.1,Kd,?_];refine#[_,dS,by show(2:Nat)<1000;decide,?_];rw[ig,Cf];exact#[_,rfl,h1 w h s F]
abbrev jl(V:Bx):Prop:=V.MM 5 "motif_from" nj Cm
def Ez(T:V.T "motif_from" nh nj)(NZ:pB V)(JR:gk V)(uL:V.a "Reading" "place")(N0:pE V)(uC:cP V):jl V:=by
 refine Tx.okM T sc_motif_from (λds M R RX h=>?_) (λf cdv A outer s H E J hr hx=>⟨_,((aF (br 1 sc_motif_from.nd (aU uL (av (aa 0))))
   (aF (cJ (bn (CalMth.one uC) hx hr (av (aa 0)) (aG (ac aC ah))))
   (aF (br 2 sc_motif_from.nd (bq NZ hx hr (aG (ac (aa 0) ah))))
   (aF (cJ (bn (CalMth.one uC) hx hr (av (aa 0)) (aG (ac aC ah))))
   (aF (br 3 sc_motif_from.nd (bq JR hx hr (aG (ac (aa 0) ah))))
   (aF (cJ (bn (CalMth.one uC) hx hr (av (aa 0)) (aG (ac aC ah))))
   (aF (br 4 sc_motif_from.nd (bq JR hx hr (aG (ac (aa 0) ah))))
   (aF (cJ (bn (CalMth.one uC) hx hr (av (aa 0)) (aG (ac aC ah))))
   (aJ (aS (av (ko N0 hr (ac (aa 1) (ac (aa 2) (ac (aa 3) (ac (aa 4) ah))))))))))))))))),λds M R RX e_ h=>?_⟩)
 .obtain⟨_,_,_,_,_,_,_,_,_,rfl,_⟩:=h;rfl
 .obtain⟨g,t,k,L,a,b,c,d,l,rfl,rfl,c7,⟨LK,ha,hb,hc,hd,hn⟩,hR⟩:=h;obtain⟨w,hL⟩:=Cl LK;have c7:At t k (91::(rowsL (L.map cs)++59::(numL a++44::(numL b++59::(numL c++44::(numL d++93::l)))))):=by simpa[motL]using c7
  have b7:k+(motL (L.map cs) a b c d).length=k+1+(rowsL (L.map cs)).length+1+(numL a).length+1+(numL b).length+1+(numL c).length+1+(numL d).length+1:=by simp[motL];lia
  rw[b7]at hR;have c8:=c7.next;have h_:=c8.app;have o6:=h_.next;have LL:At t (k+1+(rowsL (L.map cs)).length+1+(numL a).length+1+(numL b).length) _:=o6.app.next.app;have LM:=LL.next;have N1:At t (k+1+(rowsL (L.map cs)).length+1+(numL a).length+1+(numL b).length+1+(numL c).length+1+(numL d).length) _:=LM.app.next.app;refine#[λv M'=>v=.int k/\M'=RdM g t k,#[_,bb,_,fg,rfl,rfl],?_];rintro _ _⟨rfl,rfl⟩;k_places;refine#[_,FO.mpr rfl,_,bb,cB,g,t,_,91,_,"[",rfl,rfl,c7,Kj,?_];refine#[λv M'=>v=.lst (lstD (L.map cs))/\M'=RdM g t (k+1+(rowsL (L.map cs)).length),#[g,t,_,_,w,_,rfl,rfl,hL,c8,rfl,rfl],?_];rintro _ _⟨rfl,rfl⟩;k_places;refine#[_,FO.mpr rfl,_,bb,cB,g,t,_,59,_,";",rfl,rfl,h_,Kj,?_];refine#[λv M'=>v=.tup [.int a,.int b]/\M'=RdM g t (k+1+(rowsL (L.map cs)).length+1+(numL a).length+1+(numL b).length),#[g,t,_,a,b,59,_,rfl,rfl,ha,hb,.inr (.inl rfl),o6,rfl,rfl],?_];rintro _ _⟨rfl,rfl⟩;k_places;refine#[_,FO.mpr rfl,_,bb,cB,g,t,_,59,_,";",rfl,rfl,LL,Kj,?_];refine#[λv M'=>v=.tup [.int c,.int d]/\M'=RdM g t (k+1+(rowsL (L.map cs)).length+1+(numL a).length+1+(numL b).length+1+(numL c).length+1+(numL d).length),#[g,t,_,c,d,93,_,rfl,rfl,hc,hd,.inr (.inr (.inr rfl)),LM,rfl,rfl],?_];rintro _ _⟨rfl,rfl⟩;k_places;exact#[_,FO.mpr rfl,_,bb,cB,g,t,_,93,_,"]",rfl,rfl,N1,Kj,k,_,w,a,b,c,d,rfl,hL,ha,hb,hc,hd,hn,λw h s F=>hR _ #[k,w,h,s,rfl,F]]
abbrev jn(V:Bx):Prop:=V.M 1 "Mirror" nt Ci
def EA(T:V.Ti "Mirror" "Mirror.__init__" nq nt)(uQ:V.a "Mirror" "form"):jn V:=by
 refine Txi.okI T Dj (λds R h=>?_) (λf cdv A outer s H E J hr=>#[_,((bV uQ (aa 1) dO)),λds R h=>?_])
 .obtain⟨_,_,rfl,_⟩:=h;rfl
 .obtain⟨x,fs,rfl,hR⟩:=h;exact#[Kj,hR]
abbrev jp(V:Bx):Prop:=V.M 1 "Turn" nv Cj
def EB(T:V.Ti "Turn" "Turn.__init__" nu nv)(uP:V.a "Turn" "form"):jp V:=by
 refine Txi.okI T Dk (λds R h=>?_) (λf cdv A outer s H E J hr=>#[_,((bV uP (aa 1) dO)),λds R h=>?_])
 .obtain⟨_,_,rfl,_⟩:=h;rfl
 .obtain⟨x,fs,rfl,hR⟩:=h;exact#[Kj,hR]
abbrev jq(V:Bx):Prop:=V.M 1 "Over" ny Cg
def EC(T:V.Ti "Over" "Over.__init__" nw ny)(uR:V.a "Over" "above")(uT:V.a "Over" "below"):jq V:=by
 refine Txi.okI T Dl (λds R h=>?_) (λf cdv A outer s H E J hr=>#[_,((bV uR (aa 1) (bV uT (aa 2) dO))),λds R h=>?_])
 .obtain⟨_,_,_,_,rfl,_⟩:=h;rfl
 .obtain⟨x,y,fs,gs,rfl,hR⟩:=h;refine#[Kj,by show(1:Nat)<1000;decide,?_];show R (putD _ _ (putD _ _ []));rw[putD,putD,if_neg Kl];exact hR
abbrev jr(V:Bx):Prop:=V.M 1 "Shifted" nA Ch
def EE(T:V.Ti "Shifted" "Shifted.__init__" nz nA)(uS:V.a "Shifted" "form")(J5:V.a "Shifted" "x")(J6:V.a "Shifted" "y"):jr V:=by
 refine Txi.okI T Dm (λds R h=>?_) (λf cdv A outer s H E J hr=>#[_,((bV uS (aa 1) (bV J5 (aa 2) (bV J6 (aa 3) dO)))),λds R h=>?_])
 .obtain⟨_,_,_,_,rfl,_⟩:=h;rfl
 .obtain⟨x,fs,a,b,rfl,hR⟩:=h;refine#[Kj,by show(1:Nat)<1000;decide,by show(2:Nat)<1000;decide,?_];show R (putD _ _ (putD _ _ (putD _ _ [])));rw[show putD ("x":E_) (.int a) (putD ("form":E_) (.obj x fs) [])=([("form",.obj x fs),("x",.int a)]:List (E_×D))by rw[putD,putD,if_neg Kl];rfl,putD,if_neg Kl,putD,if_neg Kl];exact hR
abbrev js(V:Bx):Prop:=V.M 1 "Rehue" nC Ck
def EF(T:V.Ti "Rehue" "Rehue.__init__" nB nC)(uV:V.a "Rehue" "form")(J7:V.a "Rehue" "old")(J8:V.a "Rehue" "new"):js V:=by
 refine Txi.okI T Dn (λds R h=>?_) (λf cdv A outer s H E J hr=>#[_,((bV uV (aa 1) (bV J7 (aa 2) (bV J8 (aa 3) dO)))),λds R h=>?_])
 .obtain⟨_,_,_,_,rfl,_⟩:=h;rfl
 .obtain⟨x,fs,a,b,rfl,hR⟩:=h;refine#[Kj,by show(1:Nat)<1000;decide,by show(2:Nat)<1000;decide,?_];show R (putD _ _ (putD _ _ (putD _ _ [])));rw[show putD ("old":E_) (.int a) (putD ("form":E_) (.obj x fs) [])=([("form",.obj x fs),("old",.int a)]:List (E_×D))by rw[putD,putD,if_neg Kl];rfl,putD,if_neg Kl,putD,if_neg Kl];exact hR
variable{n j:Nat}
def EG(hL:5<=n)(T:V.T "over_from" ip fZ)(uH:V.MM n "form_from" cO (dB j))(LN:jq V)(uC:cP V):V.MM (n+1) "over_from" fZ (uh j):=by
 refine Tx.okM T sc_over_from (λds M R RX h=>?_) (λf cdv A outer s H E J hr hx=>⟨_,((aF (br 2 sc_over_from.nd (bq (hn:=KK) uH hx hr (aG (ac (aa 0) (ac (aa 1) ah)))))
   (aF (cJ (bn (hn:=KK) (CalMth.one uC) hx hr (av (aa 0)) (aG (ac aC ah))))
   (aF (br 3 sc_over_from.nd (bq (hn:=KK) uH hx hr (aG (ac (aa 0) (ac (aa 1) ah)))))
   (aF (cJ (bn (hn:=KK) (CalMth.one uC) hx hr (av (aa 0)) (aG (ac aC ah))))
   (aJ (aS (av (ko (hn:=KK) LN hr (ac (aa 2) (ac (aa 3) ah))))))))))),λds M R RX e_ h=>?_⟩)
 .obtain⟨_,_,_,_,_,_,_,rfl,_⟩:=h;rfl
 .obtain⟨a,t,k,p,q,l,d,rfl,rfl,c7,Kz,JO,hp,hq,t_,QX,hR⟩:=h;have c8:=c7.app;have h_:=c8.next;have o6:=h_.app;refine#[λv M'=>FormOf p v/\M'=RdM a t (k+p.tl.length),#[a,t,k,p,_,d,rfl,rfl,c7,Kz,JO,hp,t_,λv h=>#[h,rfl]],?_];rintro v _⟨hv,rfl⟩;k_places;obtain⟨fs,rfl,_⟩:=hv.objm;refine#[_,FO.mpr rfl,_,bb,cB,a,t,_,124,_,"|",rfl,rfl,c8,Kj,?_];refine#[λv M'=>FormOf q v/\M'=RdM a t (k+p.tl.length+1+q.tl.length),#[a,t,_,q,_,d,rfl,rfl,h_,Kz,JO,hq,QX,λv h=>#[h,rfl]],?_];rintro v _⟨Pk,rfl⟩;k_places;obtain⟨gs,rfl,_⟩:=Pk.objm;exact#[_,FO.mpr rfl,_,bb,cB,a,t,_,41,_,")",rfl,rfl,o6,Kj,_,_,_,_,rfl,hR _ _ hv Pk]
def EH(hL:5<=n)(T:V.T "shifted_from" iq gb)(JR:gk V)(uH:V.MM n "form_from" cO (dB j))(LO:jr V)(uC:cP V):V.MM (n+1) "shifted_from" gb (ui j):=by
 refine Tx.okM T sc_shifted_from (λds M R RX h=>?_) (λf cdv A outer s H E J hr hx=>⟨_,((aF (br 2 sc_shifted_from.nd (bq (hn:=KK) JR hx hr (aG (ac (aa 0) ah))))
   (aF (cJ (bn (hn:=KK) (CalMth.one uC) hx hr (av (aa 0)) (aG (ac aC ah))))
   (aJ (aS (hZ (hn:=KK) LO hr (bg (bq (hn:=KK) uH hx hr (aG (ac (aa 0) (ac (aa 1) ah)))) (bg (av (ai (aa 2) ag)) (bg (av (ai (aa 2) ag)) bL))))))))),λds M R RX e_ h=>?_⟩)
 .obtain⟨_,_,_,_,_,_,_,_,rfl,_⟩:=h;rfl
 .obtain⟨a,t,k,x,y,p,l,d,rfl,rfl,c7,Kz,JO,g8,hy,hp,t_,hR⟩:=h;have c8:At t (k+(numL x).length+1+(numL y).length) _:=c7.app.next.app;refine#[λv M'=>v=.tup [.int x,.int y]/\M'=RdM a t (k+(numL x).length+1+(numL y).length),#[a,t,_,x,y,58,_,rfl,rfl,g8,hy,.inr (.inr (.inl rfl)),c7,rfl,rfl],?_];rintro _ _⟨rfl,rfl⟩;k_places;refine#[_,FO.mpr rfl,_,bb,cB,a,t,_,58,_,":",rfl,rfl,c8,Kj,?_];refine#[a,t,_,p,l,d,rfl,rfl,c8.next,Kz,JO,hp,t_,λv h=>?_];obtain⟨fs,rfl,_⟩:=h.objm;exact#[_,rfl,_,rfl,_,_,_,_,rfl,hR _ h]
def EI(hL:5<=n)(T:V.T "rehue_from" ir gc)(uD:V.m "int")(uH:V.MM n "form_from" cO (dB j))(LP:js V)(uC:cP V):V.MM (n+1) "rehue_from" gc (uj j):=by
 refine Tx.okM T sc_rehue_from (λds M R RX h=>?_) (λf cdv A outer s H E J hr hx=>⟨_,((aF (br 2 sc_rehue_from.nd (sG uD (bg (bn (hn:=KK) (CalMth.one uC) hx hr (av (aa 0)) (aG (ac aC ah))) bL)))
   (aF (br 3 sc_rehue_from.nd (sG uD (bg (bn (hn:=KK) (CalMth.one uC) hx hr (av (aa 0)) (aG (ac aC ah))) bL)))
   (aJ (aS (hZ (hn:=KK) LP hr (bg (bq (hn:=KK) uH hx hr (aG (ac (aa 0) (ac (aa 1) ah)))) (bg (av (aa 2)) (bg (av (aa 3)) bL))))))))),λds M R RX e_ h=>?_⟩)
 .obtain⟨_,_,_,_,_,_,_,_,rfl,_⟩:=h;rfl
 .obtain⟨a,t,k,f,g,p,l,d,rfl,rfl,c7,Kz,JO,hf,hg,hp,t_,hR⟩:=h;have Pl:∀{f:Int},1<=f/\f<=6->PySem.intText? (#[[(48+f).toNat].toArray]:E_)=be f:=λ{f} h=>by
   have:=digit_of (c:=(48+f).toNat) Kd;rw[show(((48+f).toNat:Nat):Int)-48=f by lia]at this;exact this
  refine#[λv M'=>v=.int f/\M'=RdM a t (k+1),#[_,FO.mpr rfl,_,bb,cB,a,t,_,_,_,"123456",rfl,rfl,c7,uf hf,_,#[Pl hf,by show(1:Nat)<=640;decide],rfl,rfl],?_];rintro _ _⟨rfl,rfl⟩;k_places;refine#[λv M'=>v=.int g/\M'=RdM a t (k+2),#[_,FO.mpr rfl,_,bb,cB,a,t,_,_,_,"123456",rfl,rfl,c7.next,uf hg,_,#[Pl hg,by show(1:Nat)<=640;decide],rfl,rfl],?_];rintro _ _⟨rfl,rfl⟩;k_places;refine#[a,t,_,p,l,d,rfl,rfl,c7.next.next,Kz,JO,hp,t_,λv h=>?_];obtain⟨fs,rfl,_⟩:=h.objm;exact#[_,_,_,_,rfl,hR _ h]
def EJ(hL:5<=n)(T:V.T "form_from" iu cO)(QY:V.MM n "over_from" fZ (uh j))(QZ:V.MM n "shifted_from" gb (ui j))(uH:V.MM n "form_from" cO (dB j))(Q0:V.MM n "rehue_from" gc (uj j))(LQ:jl V)(LR:V.gi "DEEP" 5)(LS:jn V)(LU:jp V)(uG:dE V):V.MM (n+1) "form_from" cO (dB (j+1)):=by
 refine Tx.okM T sc_form_from (λds M R RX h=>?_) (λf cdv A outer s H E J hr hx=>⟨_,((aF (br 2 sc_form_from.nd (fT (cy (dH (aa 1) (eN LR))) (bn (hn:=KK) (CalMth.one uG) hx hr (av (aa 0)) (aG (ac aC ah))) (av aC)))
   (aF (cz (cy (bp (aa 2) aC)) (aJ (aS (bq (hn:=KK) QY hx hr (aG (ac (aa 0) (ac (au (aa 1) ag) ah)))))) cq)
   (aF (cz (cy (bp (aa 2) aC)) (aJ (aS (bq (hn:=KK) QZ hx hr (aG (ac (aa 0) (ac (au (aa 1) ag) ah)))))) cq)
   (aF (cz (cy (bp (aa 2) aC)) (aJ (aS (hZ (hn:=KK) LS hr (bg (bq (hn:=KK) uH hx hr (aG (ac (aa 0) (ac (au (aa 1) ag) ah)))) bL)))) cq)
   (aF (cz (cy (bp (aa 2) aC)) (aJ (aS (hZ (hn:=KK) LU hr (bg (bq (hn:=KK) uH hx hr (aG (ac (aa 0) (ac (au (aa 1) ag) ah)))) bL)))) cq)
   (aF (cz (cy (bp (aa 2) aC)) (aJ (aS (bq (hn:=KK) Q0 hx hr (aG (ac (aa 0) (ac (au (aa 1) ag) ah)))))) cq)
   (aJ (aS (bq (hn:=KK) LQ hx hr (aG (ac (aa 0) ah)))))))))))),λds M R RX e_ h=>?_⟩)
 .obtain⟨_,_,_,_,_,_,rfl,_⟩:=h;rfl
 .obtain⟨a,t,k,p,l,d,rfl,rfl,c7,Kz,JO,hp,t_,hR⟩:=h;refine#[λv M'=>v=.str (mayS "(smth" (p.tl++l))/\M'=RdM a t (k+mayN "(smth" (p.tl++l)),?_,?_]
  .show if decide ((d:Int)<5)=true then _ else _
   refine ite2 (λc=>?_) (λc=>?_)
   .exact#[_,FO.mpr rfl,_,bb,dA,a,t,_,_,"(smth",rfl,rfl,c7,rfl,rfl]
   .have c':¬((d:Int)<5):=λz=>c (decide_eq_true z);cases p with
    |mot L a b c d=>exact#[rfl,rfl]
    |_=>rw[Pat.depth]at t_;lia
  rintro _ _⟨rfl,rfl⟩;k_places;cases p with
  |mot L x y u v=>exact#[a,t,k,L,x,y,u,v,l,rfl,rfl,c7,hp,hR]
  |over p q=>
   rw[Pat.depth]at t_;have e:k+(Pat.over p q).tl.length=k+1+p.tl.length+1+q.tl.length+1:=by rw[Pat.tl];simp;lia
   have c8:At t (k+1) (p.tl++124::(q.tl++41::l)):=by have:=c7.next;simpa using this
   rw[e]at hR;exact#[a,t,k+1,p,q,l,d+1,rfl,rfl,c8,Kd,Kd,hp.1,hp.2,Kd,Kd,λu u' h1 h2=>hR _ #[u,u',rfl,h1,h2]]
  |sh x y p=>
   rw[Pat.depth]at t_;have e:k+(Pat.sh x y p).tl.length=k+1+(numL x).length+1+(numL y).length+1+p.tl.length:=by rw[Pat.tl];simp;lia
   have c8:At t (k+1) (numL x++44::(numL y++58::(p.tl++l))):=by have:=c7.next;simpa using this
   rw[e]at hR;exact#[a,t,k+1,x,y,p,l,d+1,rfl,rfl,c8,Kd,Kd,hp.1,hp.2.1,hp.2.2,Kd,λu h1=>hR _ #[u,rfl,h1]]
  |mir p=>
   rw[Pat.depth]at t_;have e:k+(Pat.mir p).tl.length=k+1+p.tl.length:=by rw[Pat.tl];simp;lia
   rw[e]at hR;refine#[a,t,k+1,p,l,d+1,rfl,rfl,c7.next,Kd,Kd,hp,Kd,λu h1=>?_];obtain⟨fs,rfl,_⟩:=h1.objm;exact#[_,_,rfl,hR _ #[_,rfl,h1]]
  |tur p=>
   rw[Pat.depth]at t_;have e:k+(Pat.tur p).tl.length=k+1+p.tl.length:=by rw[Pat.tl];simp;lia
   rw[e]at hR;refine#[a,t,k+1,p,l,d+1,rfl,rfl,c7.next,Kd,Kd,hp,Kd,λu h1=>?_];obtain⟨fs,rfl,_⟩:=h1.objm;exact#[_,_,rfl,hR _ #[_,rfl,h1]]
  |hue f g p=>
   rw[Pat.depth]at t_;have e:k+(Pat.hue f g p).tl.length=k+1+2+p.tl.length:=by rw[Pat.tl,hueL hp.1,hueL hp.2.1];simp;lia
   have c8:At t (k+1) ((48+f).toNat::(48+g).toNat::(p.tl++l)):=by
    have:=c7.next;rw[hueL hp.1,hueL hp.2.1]at this;simpa using this
   rw[e]at hR;exact#[a,t,k+1,f,g,p,l,d+1,rfl,rfl,c8,Kd,Kd,hp.1,hp.2.1,hp.2.2,Kd,λu h1=>hR _ #[u,rfl,h1]]
def EK(Q1:V.T "over_from" ip fZ)(Q2:V.T "shifted_from" iq gb)(Q3:V.T "rehue_from" ir gc)(Pm:V.T "form_from" iu cO)(LN:jq V)(uC:cP V)(JR:gk V)(LO:jr V)(uD:V.m "int")(LP:js V)(LQ:jl V)(LR:V.gi "DEEP" 5)(LS:jn V)(LU:jp V)(uG:dE V):∀j,V.MM (5+2*j) "form_from" cO (dB j):=by
 intro j;induction j with
 |zero=>exact CalMM.never Pm (λds M R RX=>Cn)
 |succ j ih=>
  have LV:=ih;have N2:=EG (n:=5+2*j) (j:=j) KK Q1 LV LN uC;have N3:=EH (n:=5+2*j) (j:=j) KK Q2 JR LV LO uC;have N4:=EI (n:=5+2*j) (j:=j) KK Q3 uD LV LP uC;have LV:=Cal.mono ih (G1 _);exact EJ (n:=5+2*j+1) (j:=j) KK Pm N2 N3 LV N4 LQ LR LS LU uG
abbrev pF(V:Bx):Prop:=V.M 1 "Reading" nE BX
def EL(T:V.Ti "Reading" "Reading.__init__" nD nE)(J3:V.a "Reading" "text")(uL:V.a "Reading" "place"):pF V:=by
 refine Txi.okI T Do (λds R h=>?_) (λf cdv A outer s H E J hr=>#[_,((bV J3 (aa 1) (bV uL ag dO))),λds R h=>?_])
 .obtain⟨_,rfl,_⟩:=h;rfl
 .obtain⟨t,rfl,hR⟩:=h;refine#[Kj,by show(1:Nat)<1000;decide,?_];show R (putD _ _ (putD _ _ []));rw[putD,putD,if_neg Kl];exact hR
abbrev pG(V:Bx):Prop:=V.M 1 "Pattern" nG Cs
def EM(T:V.Ti "Pattern" "Pattern.__init__" nF nG)(K3:V.a "Pattern" "text")(uM:V.a "Pattern" "shifts")(K4:V.a "Pattern" "form"):pG V:=by
 refine Txi.okI T Dp (λds R h=>?_) (λf cdv A outer s H E J hr=>#[_,((bV K3 (aa 1) (bV uM (aa 2) (bV K4 (aa 3) dO)))),λds R h=>?_])
 .obtain⟨_,_,_,_,_,_,rfl,_⟩:=h;rfl
 .obtain⟨t,w,h,s,x,fs,rfl,hR⟩:=h;refine#[Kj,by show(1:Nat)<1000;decide,by show(2:Nat)<1000;decide,?_];show R (putD _ _ (putD _ _ (putD _ _ [])));rw[show putD ("shifts":E_) (.tup [.int w,.int h,.int s]) (putD ("text":E_) (.str t) [])=([("text",.str t),("shifts",.tup [.int w,.int h,.int s])]:List (E_×D))by rw[putD,putD,if_neg Kl];rfl,putD,if_neg Kl,putD,if_neg Kl];exact hR
abbrev pH(V:Bx):Prop:=V.D 2 "measure" nI Bh
def EN(T:V.T "measure" nH nI)(K1:jj V):pH V:=by
 refine Tx.okDW T sc_measure (λds R h=>?_) (λf cdv A outer s H E J hr=>⟨_,((aj (aq 2 sc_measure.nd (ai (aw K1 hr (ac (aK (ac ag (ac (aa 0) ah))) (ac (aK (ac ag (ac (aa 1) ah))) ah))) ag))
   (ar (ay (aK (ac (ai (aa 2) ag) (ac (ai (aa 2) ag) ah))))))),λds R h=>?_⟩)
 .obtain⟨x,y,rfl,_⟩:=h;rfl
 .obtain⟨x,y,rfl,hx,hy,hR⟩:=h;refine#[λd=>∃p0 p1:Int,d=.tup [.int p0,.int p1]/\Meas x y p1 p0,#[Ld,Ld,1,x,0,y,rfl,hx,hy,λp0 p1 q0 hL=>#[_,rfl,p0,p1,rfl,tz #[hL.1,hL.2]]],?_];rintro _⟨p0,p1,rfl,hM⟩;k_places;exact#[_,rfl,_,rfl,Ld,hR p1 p0 hM]
abbrev gl(V:Bx):Prop:=V.D 3 "met" nK Bi
def EO(T:V.T "met" nJ nK)(LW:pH V):gl V:=by
 refine Tx.okDW T sc_met (λds R h=>?_) (λf cdv A outer s H E J hr=>⟨_,((aj (aq 2 sc_met.nd (aw LW hr (ac (ai (aa 0) ag) (ac (ai (aa 1) ag) ah))))
   (aj (aq 3 sc_met.nd (aN (aA (ai (aa 0) ag) (ai (aa 1) ag)) (ai (aa 2) ag)))
   (aj (aq 4 sc_met.nd (aN (aA (ai (aa 0) ag) (ai (aa 1) ag)) (ai (aw LW hr (ac (ai (aa 0) ag) (ac (ai (aa 1) ag) ah))) ag)))
   (aj (aq 5 sc_met.nd (aA (aN (aa 4) (ai (aa 0) ag)) (ai (aa 0) ag)))
   (aj (aq 6 sc_met.nd (aX (aA (aN (aa 4) (ai (aa 1) ag)) (ai (aa 1) ag)) (aa 5)))
   (aj (aq 7 sc_met.nd (aN (ai (aa 2) ag) (ai (aw LW hr (ac (ai (aa 2) ag) (ac (aa 6) ah))) ag)))
   (aj (aq 8 sc_met.nd (aA (aN (aA (aa 7) (aa 6)) (ai (aa 2) ag)) (ai (aa 2) ag)))
   (ar (ay (aK (ac (aa 3) (ac (aA (aa 4) (aa 7)) (ac (az (au (aA (aa 7) (aa 5)) (aA (aa 8) (ai (aa 0) ag))) (aa 3)) ah)))))))))))))),λds R h=>?_⟩)
 .obtain⟨_,_,_,_,_,_,rfl,_⟩:=h;rfl
 .obtain⟨w1,h1,s1,w2,h2,s2,rfl,a1,a2,a3,a4,a5,a6,b1,b2,b3,b4,b5,b6,hR⟩:=h;refine#[λd=>∃g u:Int,d=.tup [.int g,.int u]/\Meas w1 w2 g u,#[_,rfl,_,rfl,w1,w2,rfl,KK,KK,λg u M=>#[g,u,rfl,M]],?_];rintro _⟨g,u,rfl,M1⟩;k_places;have hg:=M1.pos a1;have NL:=M1.le a1;refine#[λd=>d=.int (w1*w2/g),#[_,rfl,_,rfl,.inl (b64B a1 a2),_,rfl,d30B hg (HW NL a2),rfl],?_];rintro _ rfl;k_places;refine#[λd=>∃k u':Int,d=.int (h1*h2/k)/\Meas h1 h2 k u',#[_,rfl,_,rfl,.inl (b64B a3 a4),_,rfl,_,rfl,h1,h2,rfl,KK,KK,λk u' M=>#[_,rfl,d30B (M.pos a3) (HW (M.le a3) a4),k,u',rfl,M]],?_];rintro _⟨k,u',rfl,M2⟩;k_places;obtain⟨r0,r1,r2,r3,r4,r5⟩:=kM a3 b3 M2;have Q4:h1*h2<=1125899906842624:=by
   have:=bW (a:=h1) (d:=h2) (A:=33554432) (B:=33554432) KK KK;omega
  refine#[λd=>d=.int (h1*h2/k/h1*s1),#[_,rfl,d30B a3 a4,_,rfl,.inr (s64B a5 a6 a2),rfl],?_];rintro _ rfl;k_places;refine#[λd=>d=.int (h1*h2/k/h2*s2-h1*h2/k/h1*s1),#[_,rfl,d30B b3 b4,_,rfl,.inr (s64B b5 b6 b2),rfl],?_];rintro _ rfl;k_places;have t1:=bW (a:=h1*h2/k/h1) (d:=s1) (A:=33554432) (B:=33554432) KK KK;have t2:=bW (a:=h1*h2/k/h2) (d:=s2) (A:=33554432) (B:=33554432) KK KK;refine#[λd=>∃gg t6:Int,d=.int (g/gg)/\Meas g (h1*h2/k/h2*s2-h1*h2/k/h1*s1) gg t6,#[_,rfl,_,rfl,g,_,rfl,KK,KK,λgg t6 M=>#[_,rfl,d30B (M.pos hg) (HW (M.le hg) (HW NL a2)),gg,t6,rfl,M]],?_];rintro _⟨gg,t6,rfl,M3⟩;k_places;have JM:=M3.pos hg;have c1:0<=g/gg:=HV KK KK;have c2:g/gg<=g:=Ir _ KK;have c4:=A2 (c:=g/gg) (gap:=h1*h2/k/h2*s2-h1*h2/k/h1*s1) (N:=2251799813685248) hg c1 c2 KK;have mr:=kL a1 b1 a3 b3 M1 M2 M3;refine#[λd=>d=.int (g/gg*(h1*h2/k/h2*s2-h1*h2/k/h1*s1)/g*u),#[.inl #[KK,KK],_,rfl,#[KK,KK],_,rfl,.inl #[KK,KK],rfl],?_];rintro _ rfl;k_places;obtain⟨w0,w3,_⟩:=kM a1 b1 M1;have Q5:w1*w2<=1125899906842624:=by
   have:=bW (a:=w1) (d:=w2) (A:=33554432) (B:=33554432) KK KK;omega
  have OX:=bW (a:=h1*h2/k) (d:=g/gg) (A:=1125899906842624) (B:=33554432) KK KK;exact#[.inl #[KK,KK],.inl #[KK,KK],_,rfl,.inr #[KK,KK],w0,Ld,hR _ _ _ _ mr]
abbrev jt(V:Bx):Prop:=V.D 1 "mirrored" nN Bf
def EQ(T:V.T "mirrored" nM nN):jt V:=by
 refine Tx.okDW T Dq (λds R h=>?_) (λf cdv A outer s H E J hr=>#[_,((ar (ay (aK (ac (ai (aa 0) ag) (ac (ai (aa 0) ag) (ac (az (cw (ai (aa 0) ag)) (ai (aa 0) ag)) ah))))))),λds R h=>?_])
 .obtain⟨w,h,s,rfl,_⟩:=h;rfl
 .obtain⟨w,h,s,rfl,hw,hR⟩:=h;exact#[_,rfl,_,rfl,_,rfl,_,rfl,hw,Ld,hR]
abbrev ju(V:Bx):Prop:=V.D 3 "turned" nP Bg
def ER(T:V.T "turned" nO nP)(K2:jk V):ju V:=by
 refine Tx.okDW T Dr (λds R h=>?_) (λf cdv A outer s H E J hr=>#[_,((ar (ay (aw K2 hr (ac (aK (ac ag (ac (ai (aa 0) ag) ah))) (ac (aK (ac (cw (ai (aa 0) ag)) (ac (ai (aa 0) ag) ah))) ah)))))),λds R h=>?_])
 .obtain⟨w,h,s,rfl,_⟩:=h;rfl
 .obtain⟨w,h,s,rfl,hw,hh,LB,z9,hs,l8,hR⟩:=h;have hp:0<w*h:=F7 hw hh;have hn:¬0*s=w* -h:=by rw[GN];lia
  exact#[_,rfl,Ld,_,rfl,_,rfl,Ld,0,w,-h,s,rfl,Kd,Kd,Kd,Kd,λe=>absurd e hn,λ_ w' h' s' f=>hR w' h' s' f]
def ok_Motif_family(hL:3<=n)(T:V.Tm "Motif" "family" "Motif.family" iy cL)(uK:V.a "Motif" "shifts"):V.Q (n+1) "Motif" "family" cL (ofX (cj (j+1) "Motif")):=by
 refine Txm.okM T Ds (λds M R RX h=>?_) (λf cdv A outer s H E J hr hx=>⟨_,((aF (cz (sE (aU uK (av (aa 0))) (av bG)) (aJ ie) cq)
   (aJ (aS (aU uK (av (aa 0))))))),λds M R RX e_ h=>?_⟩)
 .obtain⟨_,_,rfl,_⟩:=h;rfl
 .obtain⟨p,v,rfl,hv,hp,hd,hc,hf,hR⟩:=h;cases p<;>simp only[Pat.cls]at hc<;>try exact absurd hc Kl
  obtain⟨k,w,h,s,rfl,F⟩:=hv;exact#[_,#[rfl,rfl],_,mo_shifts,_,#[rfl,rfl],_,mo_shifts,hR w h s (Pat.Fam.mot F)]
def ES(hL:3<=n)(T:V.Tm "Over" "family" "Over.family" iz iA)(J9:gl V)(uR:V.a "Over" "above")(uT:V.a "Over" "below")(uF:∀x,x∈(["Motif","Over","Shifted","Mirror","Turn","Rehue"]:List E_)->V.Q n x "family" cL (ofX (cj j x))):V.Q (n+1) "Over" "family" iA (ofX (cj (j+1) "Over")):=by
 refine Txm.okM T sc_Over_family (λds M R RX h=>?_) (λf cdv A outer s H E J hr hx=>⟨_,((aF (br 1 sc_Over_family.nd (dQ (hn:=KK) uF hx hr (aU uR (av (aa 0)))))
   (aJ (aS (bq (hn:=KK) (CalD.toM J9) hx hr (bg (av (aa 1)) (bg (dQ (hn:=KK) uF hx hr (aU uT (av (aa 0)))) bL))))))),λds M R RX e_ h=>?_⟩)
 .obtain⟨_,_,rfl,_⟩:=h;rfl
 .obtain⟨p,v,rfl,hv,hp,hd,hc,hf,hR⟩:=h;cases p<;>simp only[Pat.cls]at hc<;>try exact absurd hc Kl
  rename_i p q;obtain⟨u,u',rfl,hu,LX⟩:=hv;obtain⟨fs,rfl,o1⟩:=hu.objm;obtain⟨gs,rfl,o2⟩:=LX.objm;obtain⟨f1,f2⟩:=Pat.Fits.over_parts hp.1 hp.2 hf;rw[Pat.depth]at hd;refine#[λd M'=>(∃w h s,p.Fam w h s/\d=.tup [.int w,.int h,.int s])/\M'=M,#[_,#[rfl,rfl],_,rfl,p.cls,p.cls_mem,fs,#[rfl,rfl],o1.fam,p,_,rfl,hu,hp.1,Kd,rfl,f1,λw h s F=>#[#[w,h,s,F,rfl],rfl]],?_];rintro _ _⟨⟨w1,h1,s1,F1,rfl⟩,rfl⟩;k_places;refine#[_,#[rfl,rfl],_,fq Kl,q.cls,q.cls_mem,gs,#[rfl,rfl],o2.fam,q,_,rfl,LX,hp.2,Kd,rfl,f2,λw2 h2 s2 F2=>?_];obtain⟨a1,a2,a3,a4,a5,a6⟩:=f1.small F1;obtain⟨b1,b2,b3,b4,b5,b6⟩:=f2.small F2;exact#[w1,h1,s1,w2,h2,s2,rfl,a1,Kd,a3,Kd,a5,a6,b1,Kd,b3,Kd,b5,b6,λw h s A MR=>hR w h s (Pat.Fam.over F1 F2 MR)]
def ET(hL:3<=n)(T:V.Tm "Shifted" "family" "Shifted.family" iB iC)(uS:V.a "Shifted" "form")(uF:∀x,x∈(["Motif","Over","Shifted","Mirror","Turn","Rehue"]:List E_)->V.Q n x "family" cL (ofX (cj j x))):V.Q (n+1) "Shifted" "family" iC (ofX (cj (j+1) "Shifted")):=by
 refine Txm.okM T Dt (λds M R RX h=>?_) (λf cdv A outer s H E J hr hx=>#[_,((aJ (aS (dQ (hn:=KK) uF hx hr (aU uS (av (aa 0))))))),λds M R RX e_ h=>?_])
 .obtain⟨_,_,rfl,_⟩:=h;rfl
 .obtain⟨p,v,rfl,hv,hp,hd,hc,hf,hR⟩:=h;cases p<;>simp only[Pat.cls]at hc<;>try exact absurd hc Kl
  rename_i a b p;obtain⟨u,rfl,hu⟩:=hv;obtain⟨fs,rfl,o1⟩:=hu.objm;rw[Pat.depth]at hd;refine#[_,#[rfl,rfl],_,rfl,p.cls,p.cls_mem,fs,#[rfl,rfl],o1.fam,p,_,rfl,hu,hp.2.2,Kd,rfl,hf.of_sh,λw h s F=>?_];exact hR w h s (F.sh a b)
def EU(hL:3<=n)(T:V.Tm "Mirror" "family" "Mirror.family" iD iE)(LY:jt V)(uQ:V.a "Mirror" "form")(uF:∀x,x∈(["Motif","Over","Shifted","Mirror","Turn","Rehue"]:List E_)->V.Q n x "family" cL (ofX (cj j x))):V.Q (n+1) "Mirror" "family" iE (ofX (cj (j+1) "Mirror")):=by
 refine Txm.okM T Du (λds M R RX h=>?_) (λf cdv A outer s H E J hr hx=>#[_,((aJ (aS (bq (hn:=KK) (CalD.toM LY) hx hr (bg (dQ (hn:=KK) uF hx hr (aU uQ (av (aa 0)))) bL))))),λds M R RX e_ h=>?_])
 .obtain⟨_,_,rfl,_⟩:=h;rfl
 .obtain⟨p,v,rfl,hv,hp,hd,hc,hf,hR⟩:=h;cases p<;>simp only[Pat.cls]at hc<;>try exact absurd hc Kl
  rename_i p;obtain⟨u,rfl,hu⟩:=hv;obtain⟨fs,rfl,o1⟩:=hu.objm;rw[Pat.depth]at hd;refine#[_,#[rfl,rfl],_,rfl,p.cls,p.cls_mem,fs,#[rfl,rfl],o1.fam,p,_,rfl,hu,hp,Kd,rfl,Pat.Fits.of_mir (p:=p) hp hf,λw h s F=>?_];exact#[w,h,s,rfl,F.f.w0,hR w h _ F.mir]
def EV(hL:3<=n)(T:V.Tm "Turn" "family" "Turn.family" iF iG)(LZ:ju V)(uP:V.a "Turn" "form")(uF:∀x,x∈(["Motif","Over","Shifted","Mirror","Turn","Rehue"]:List E_)->V.Q n x "family" cL (ofX (cj j x))):V.Q (n+1) "Turn" "family" iG (ofX (cj (j+1) "Turn")):=by
 refine Txm.okM T Dv (λds M R RX h=>?_) (λf cdv A outer s H E J hr hx=>#[_,((aJ (aS (bq (hn:=KK) (CalD.toM LZ) hx hr (bg (dQ (hn:=KK) uF hx hr (aU uP (av (aa 0)))) bL))))),λds M R RX e_ h=>?_])
 .obtain⟨_,_,rfl,_⟩:=h;rfl
 .obtain⟨p,v,rfl,hv,hp,hd,hc,hf,hR⟩:=h;cases p<;>simp only[Pat.cls]at hc<;>try exact absurd hc Kl
  rename_i p;obtain⟨u,rfl,hu⟩:=hv;obtain⟨fs,rfl,o1⟩:=hu.objm;rw[Pat.depth]at hd;refine#[_,#[rfl,rfl],_,rfl,p.cls,p.cls_mem,fs,#[rfl,rfl],o1.fam,p,_,rfl,hu,hp,Kd,rfl,Pat.Fits.of_tur (p:=p) hp hf,λw h s F=>?_];obtain⟨a1,a2,a3,a4,a5,a6⟩:=(Pat.Fits.of_tur (p:=p) hp hf).small F;exact#[w,h,s,rfl,a1,a3,Kd,Kd,a5,Kd,λw' h' s' F'=>hR w' h' s' (F.tur F')]
def EW(hL:3<=n)(T:V.Tm "Rehue" "family" "Rehue.family" iH iI)(uV:V.a "Rehue" "form")(uF:∀x,x∈(["Motif","Over","Shifted","Mirror","Turn","Rehue"]:List E_)->V.Q n x "family" cL (ofX (cj j x))):V.Q (n+1) "Rehue" "family" iI (ofX (cj (j+1) "Rehue")):=by
 refine Txm.okM T Dw (λds M R RX h=>?_) (λf cdv A outer s H E J hr hx=>#[_,((aJ (aS (dQ (hn:=KK) uF hx hr (aU uV (av (aa 0))))))),λds M R RX e_ h=>?_])
 .obtain⟨_,_,rfl,_⟩:=h;rfl
 .obtain⟨p,v,rfl,hv,hp,hd,hc,hf,hR⟩:=h;cases p<;>simp only[Pat.cls]at hc<;>try exact absurd hc Kl
  rename_i f g p;obtain⟨u,rfl,hu⟩:=hv;obtain⟨fs,rfl,o1⟩:=hu.objm;rw[Pat.depth]at hd;refine#[_,#[rfl,rfl],_,rfl,p.cls,p.cls_mem,fs,#[rfl,rfl],o1.fam,p,_,rfl,hu,hp.2.2,Kd,rfl,hf.of_hue,λw h s F=>?_];exact hR w h s (F.hue f g)
def EY(Pn:V.Tm "Motif" "family" "Motif.family" iy cL)(Po:V.Tm "Over" "family" "Over.family" iz iA)(Pp:V.Tm "Shifted" "family" "Shifted.family" iB iC)(Pq:V.Tm "Mirror" "family" "Mirror.family" iD iE)(Pr:V.Tm "Turn" "family" "Turn.family" iF iG)(Ps:V.Tm "Rehue" "family" "Rehue.family" iH iI)(uK:V.a "Motif" "shifts")(J9:gl V)(uR:V.a "Over" "above")(uT:V.a "Over" "below")(uS:V.a "Shifted" "form")(LY:jt V)(uQ:V.a "Mirror" "form")(LZ:ju V)(uP:V.a "Turn" "form")(uV:V.a "Rehue" "form"):∀j x,x∈(["Motif","Over","Shifted","Mirror","Turn","Rehue"]:List E_)->V.Q (3+j) x "family" cL (ofX (cj j x)):=by
 intro j;induction j with
 |zero=>
  intro x hx;simp only[FQ,Hb,or_false]at hx;rcases hx with rfl|rfl|rfl|rfl|rfl|rfl
  .exact CalMth.never Pn (λds M R RX=>fu)
  .exact CalMth.never Po (λds M R RX=>fu)
  .exact CalMth.never Pp (λds M R RX=>fu)
  .exact CalMth.never Pq (λds M R RX=>fu)
  .exact CalMth.never Pr (λds M R RX=>fu)
  .exact CalMth.never Ps (λds M R RX=>fu)
 |succ j L0=>
  intro x hx;simp only[FQ,Hb,or_false]at hx;rcases hx with rfl|rfl|rfl|rfl|rfl|rfl
  .exact ok_Motif_family (n:=3+j) (j:=j) KK Pn uK
  .exact ES (n:=3+j) (j:=j) KK Po J9 uR uT L0
  .exact ET (n:=3+j) (j:=j) KK Pp uS L0
  .exact EU (n:=3+j) (j:=j) KK Pq LY uQ L0
  .exact EV (n:=3+j) (j:=j) KK Pr LZ uP L0
  .exact EW (n:=3+j) (j:=j) KK Ps uV L0
abbrev vw(V:Bx):Prop:=V.MM 17 "form_from" cO (dB 6)
abbrev vx(V:Bx):Prop:=∀x,x∈(["Motif","Over","Shifted","Mirror","Turn","Rehue"]:List E_)->V.Q 9 x "family" cL (ofX (cj 6 x))
abbrev pI(V:Bx):Prop:=V.X 18 "read" nR uq
def EZ(T:V.T "read" nQ nR)(uB:V.m "len")(uH:vw V)(K5:V.gi "MOST" 720)(uL:V.a "Reading" "place")(N5:pF V)(N6:pG V)(uF:vx V):pI V:=by
 refine CalMM.nilX (Tx.okM T sc_read (λds M R RX h=>?_) (λf cdv A outer s H E J hr hx=>⟨_,((aF (br 1 sc_read.nd (Aa N5 hr (aG (ac (aa 0) ah))))
   (aF (br 2 sc_read.nd (bq uH hx hr (aG (ac (aa 1) (ac ag ah)))))
   (aF (cz (sC (aU uL (av (aa 1))) (av (bH uB (ac (aa 0) ah)))) (aJ ie) cq)
   (aF (br 3 sc_read.nd (dQ uF hx hr (av (aa 2))))
   (aF (cz (cy (jZ (aA (ai (aa 3) ag) (ai (aa 3) ag)) (eN K5))) (aJ ie) cq)
   (aJ (aS (av (ko N6 hr (ac (aa 0) (ac (aa 3) (ac (aa 2) ah))))))))))))),λds M R RX e_ h=>?_⟩))
 .obtain⟨_,R0,KL,⟨_,rfl,_⟩,_⟩:=h;rfl
 .obtain⟨rfl,R0,KL,⟨p,rfl,ok,hG⟩,hR,hX⟩:=h;have b7:=Pat.text_short ok.wf ok.deep;have c7:At p.text 0 (p.tl++[]):=#[by rw[GB];exact cA p,Go _,Kd];have Q6:=ok.deep;have hl:p.text.length=p.tl.length:=by rw[<-bi,cA]
  refine#[λd M'=>∃a,d=.ptr a/\M'=RdM a p.text 0,#[_,rfl,λa _=>#[a,rfl,rfl]],?_];rintro _ _⟨a,rfl,rfl⟩;k_places;refine#[λv M'=>FormOf p v/\M'=RdM a p.text p.tl.length,#[a,p.text,0,p,[],0,rfl,rfl,c7,rfl,Kj,ok.wf,Kd,λv h=>#[h,by rw[Io]]],?_];rintro v _⟨hv,rfl⟩;k_places;refine#[_,bb,_,fg,Kd,ite2 (λc=>absurd (of_decide_eq_true c) Kd) (λ_=>?_)];obtain⟨fs,rfl,o1⟩:=hv.objm;refine#[λd M'=>∃w h s,p.Fam w h s/\d=.tup [.int w,.int h,.int s],#[p.cls,p.cls_mem,fs,#[rfl,rfl],o1.fam,p,_,rfl,hv,ok.wf,Kd,rfl,ok.fits,λw h s F=>#[w,h,s,F,rfl]],?_];rintro _ M'⟨w,h,s,F,rfl⟩;k_places;have a1:=ok.fits.small F;obtain⟨w',h',s',F',hb⟩:=ok.fits;obtain⟨rfl,rfl,_⟩:=F.uniq F';refine#[_,rfl,_,rfl,.inl #[Kd,Kd],ite2 (λc=>absurd (of_decide_eq_true c) Kd) (λ_=>?_)];exact#[_,_,_,_,_,_,rfl,hR _ _ (hG _ #[_,_,s,_,rfl,rfl,fq Kl,#[F,#[_,kT Kl Kl,hv],by simp[noLF,noL,noLs,o1.nl]]])]
abbrev pJ(V:Bx):Prop:=V.D 1 "_law_coordinate" nU BB
def E1(T:V.T "_law_coordinate" nS nU):pJ V:=by
 refine Tx.okDW T Dx (λds R h=>?_) (λf cdv A outer s H E J hr=>⟨_,((aj (aT (dH (az (aa 0) ag) ag) (ar (ay (aX (az (aN (aa 0) ag) ag) ag))) aM)
   (aj (aT (bp (az (aa 0) ag) ag) (ar (ay (aX (az (aA (aN (aa 0) ag) ag) (au (aA ag (cY ag ag)) ag)) (cY ag ag)))) aM)
   (ar (ay (ai (bE (ac (cw (cY ag ag)) (ac (aX ag (cY ag ag)) (ac (aX (cY ag ag) ag) (ac (cY ag ag) ah))))) (az (aN (aa 0) ag) ag))))))),λds R h=>?_⟩)
 .obtain⟨_,rfl,_⟩:=h;rfl
 .obtain⟨v,rfl,hR⟩:=h;have Pt:((10:Int)^Hq 12)=1000000000000:=by decide
  refine#[Kj,ite2 (λ_=>?_) (λ_=>?_)]
  .exact#[#[Kj,Kj],Kj,hR _ Kd Kd]
  refine#[Kj,ite2 (λ_=>?_) (λ_=>?_)]
  .refine#[#[Kj,Kj],.inr #[Kj,Kj],#[Kj,Kj,Kj],.inl #[Kj,Kj],Kj,#[Kj,Kj,Kj],hR _ ?_ ?_]
   .rw[Pt];have:=bX (a:=v/4*3360676521) (show(0:Int)<2*1000000000000+1 by decide);lia
   .rw[Pt];have:=bY (a:=v/4*3360676521) (show(0:Int)<2*1000000000000+1 by decide);lia
  obtain⟨c,ec,h1,h2⟩:=BC (v/4);exact#[#[Kj,Kj,Kj],#[Kj,Kj,Kj],#[Kj,Kj,Kj],#[Kj,Kj,Kj],Ld,#[Kj,Kj],Kj,_,ec,hR c h1 h2]
abbrev jv(V:Bx):Prop:=V.X 1 "refuse_far" nW Ct
def E2(T:V.T "refuse_far" nV nW)(A':V.m "max")(uO:V.m "abs")(N7:V.gi "FAR" 1000000000000)(N8:V.n "TooFar"):jv V:=by
 refine Tx.okXW T Dy (λds R RX h=>?_) (λf cdv A outer s H E J hr hx=>#[_,((ar (aT (jZ (gM rfl A' (ac (eE uO (ac (aa 0) ah)) (ac (eE uO (ac (aa 1) ah)) ah))) (eN N7)) (ar (so N8 hx rfl (ac aC ah))) aM))),λds R RX e_ h=>?_])
 .obtain⟨_,_,rfl,_⟩:=h;rfl
 .obtain⟨x,y,rfl,h1,h2⟩:=h;refine ite2 (λc=>?_) (λc=>?_)
  .have c':=of_decide_eq_true c;refine#[by show(1:Nat)<=1000;decide,?_];rw[e_];refine h2 λ⟨⟨a1,a2⟩,a3,a4⟩=>?_;split at c'<;>split at c'<;>split at c'<;>lia
  .have c':¬_:=λz=>c (decide_eq_true z);refine h1 ?_;unfold aI;split at c'<;>split at c'<;>split at c'<;>lia
def ok_Motif_shows(hL:1<=n)(T:V.Tm "Motif" "shows" "Motif.shows" iJ cM)(uY:fz V)(J4:V.a "Motif" "hues")(uK:V.a "Motif" "shifts"):V.Q (n+1) "Motif" "shows" cM (ofX (ck (j+1) "Motif")):=by
 refine Txm.okM T Dz (λds M R RX h=>?_) (λf cdv A outer s H E J hr hx=>#[_,((aJ (aS (AC (gD hr) (aU J4 (av (aa 0))) (bg (bq (hn:=KK) (CalD.toM uY) hx hr (bg (aU uK (av (aa 0))) (bg (av (aa 1)) (bg (av (aa 2)) bL)))) (bg (av ag) bL)))))),λds M R RX e_ h=>?_])
 .obtain⟨_,_,_,_,rfl,_⟩:=h;rfl
 .obtain⟨p,v,X,Y,rfl,hv,u6,hd,hc,hR⟩:=h;cases p<;>simp only[Pat.cls]at hc<;>try exact absurd hc Kl
  rename_i L a b c d;obtain⟨k,w,h,s,rfl,F⟩:=hv;obtain⟨hL,ha,hb,JX,d7,hn⟩:=u6;unfold B12 at ha hb JX d7;obtain⟨b1,b2,b3⟩:=F.bd (N:=288) (by
   have m1:=bW (a:=a) (d:=d) (A:=12) (B:=12) Kd Kd;have m2:=bW (a:=b) (d:=c) (A:=12) (B:=12) Kd Kd;lia)
  rw[Pat.show,<-motif_shows hL F hn X Y]at hR;exact#[_,#[rfl,rfl],_,Co,_,#[rfl,rfl],_,mo_shifts,w,h,s,X,Y,rfl,F.1,F.2.1,Kd,F.2.2.1,Kd,hR]
def E3(hL:1<=n)(T:V.Tm "Over" "shows" "Over.shows" iK iL)(uR:V.a "Over" "above")(uT:V.a "Over" "below")(uE:∀x,x∈(["Motif","Over","Shifted","Mirror","Turn","Rehue"]:List E_)->V.Q n x "shows" cM (ofX (ck j x))):V.Q (n+1) "Over" "shows" iL (ofX (ck (j+1) "Over")):=by
 refine Txm.okM T sc_Over_shows (λds M R RX h=>?_) (λf cdv A outer s H E J hr hx=>⟨_,((aF (br 3 sc_Over_shows.nd (bn (hn:=KK) uE hx hr (aU uR (av (aa 0))) (aG (ac (aa 1) (ac (aa 2) ah)))))
   (aJ (aS (fT (cy (bp (aa 3) ag)) (bn (hn:=KK) uE hx hr (aU uT (av (aa 0))) (aG (ac (aa 1) (ac (aa 2) ah)))) (av (aa 3))))))),λds M R RX e_ h=>?_⟩)
 .obtain⟨_,_,_,_,rfl,_⟩:=h;rfl
 .obtain⟨p,v,X,Y,rfl,hv,u6,hd,hc,hR⟩:=h;cases p<;>simp only[Pat.cls]at hc<;>try exact absurd hc Kl
  rename_i p q;obtain⟨u,u',rfl,hu,LX⟩:=hv;obtain⟨fs,rfl,o1⟩:=hu.objm;obtain⟨gs,rfl,o2⟩:=LX.objm;rw[Pat.depth]at hd;refine#[λd M'=>d=.int (p.show X Y)/\M'=M,#[_,#[rfl,rfl],_,rfl,p.cls,p.cls_mem,fs,#[rfl,rfl],o1.shw,p,_,X,Y,rfl,hu,u6.1,Kd,rfl,rfl,rfl],?_];rintro _ _⟨rfl,rfl⟩;k_places;rw[Pat.show]at hR;show if decide (p.show X Y=0)=true then _ else _
  refine ite2 (λe=>?_) (λe=>?_)
  .have e':=of_decide_eq_true e;rw[if_neg (λz=>z e')]at hR;exact#[_,#[rfl,rfl],_,fq Kl,q.cls,q.cls_mem,gs,#[rfl,rfl],o2.shw,q,_,X,Y,rfl,LX,u6.2,Kd,rfl,hR]
  .have e':p.show X Y≠0:=λz=>e (decide_eq_true z);rw[if_pos e']at hR;exact hR
def E4(hL:1<=n)(T:V.Tm "Shifted" "shows" "Shifted.shows" iM iN)(uS:V.a "Shifted" "form")(J6:V.a "Shifted" "y")(J5:V.a "Shifted" "x")(uE:∀x,x∈(["Motif","Over","Shifted","Mirror","Turn","Rehue"]:List E_)->V.Q n x "shows" cM (ofX (ck j x))):V.Q (n+1) "Shifted" "shows" iN (ofX (ck (j+1) "Shifted")):=by
 refine Txm.okM T DB (λds M R RX h=>?_) (λf cdv A outer s H E J hr hx=>#[_,((aJ (aS (bn (hn:=KK) uE hx hr (aU uS (av (aa 0))) (bg (kC (av (aa 1)) (aU J5 (av (aa 0)))) (bg (kC (av (aa 2)) (aU J6 (av (aa 0)))) bL)))))),λds M R RX e_ h=>?_])
 .obtain⟨_,_,_,_,rfl,_⟩:=h;rfl
 .obtain⟨p,v,X,Y,rfl,hv,u6,hd,hc,hR⟩:=h;cases p<;>simp only[Pat.cls]at hc<;>try exact absurd hc Kl
  rename_i a b p;obtain⟨u,rfl,hu⟩:=hv;obtain⟨fs,rfl,o1⟩:=hu.objm;rw[Pat.depth]at hd;exact#[_,#[rfl,rfl],_,rfl,p.cls,p.cls_mem,fs,#[rfl,rfl],o1.shw,_,#[rfl,rfl],_,fq Kl,_,#[rfl,rfl],_,kT Kl Kl,p,_,X-a,Y-b,rfl,hu,u6.2.2,Kd,rfl,hR]
def E5(hL:1<=n)(T:V.Tm "Mirror" "shows" "Mirror.shows" iO iP)(uQ:V.a "Mirror" "form")(uE:∀x,x∈(["Motif","Over","Shifted","Mirror","Turn","Rehue"]:List E_)->V.Q n x "shows" cM (ofX (ck j x))):V.Q (n+1) "Mirror" "shows" iP (ofX (ck (j+1) "Mirror")):=by
 refine Txm.okM T DC (λds M R RX h=>?_) (λf cdv A outer s H E J hr hx=>#[_,((aJ (aS (bn (hn:=KK) uE hx hr (aU uQ (av (aa 0))) (aG (ac (cw (aa 1)) (ac (aa 2) ah))))))),λds M R RX e_ h=>?_])
 .obtain⟨_,_,_,_,rfl,_⟩:=h;rfl
 .obtain⟨p,v,X,Y,rfl,hv,u6,hd,hc,hR⟩:=h;cases p<;>simp only[Pat.cls]at hc<;>try exact absurd hc Kl
  rename_i p;obtain⟨u,rfl,hu⟩:=hv;obtain⟨fs,rfl,o1⟩:=hu.objm;rw[Pat.depth]at hd;exact#[_,#[rfl,rfl],_,rfl,p.cls,p.cls_mem,fs,#[rfl,rfl],o1.shw,p,_,-X,Y,rfl,hu,u6,Kd,rfl,hR]
def E6(hL:1<=n)(T:V.Tm "Turn" "shows" "Turn.shows" iQ iR)(uP:V.a "Turn" "form")(uE:∀x,x∈(["Motif","Over","Shifted","Mirror","Turn","Rehue"]:List E_)->V.Q n x "shows" cM (ofX (ck j x))):V.Q (n+1) "Turn" "shows" iR (ofX (ck (j+1) "Turn")):=by
 refine Txm.okM T DD (λds M R RX h=>?_) (λf cdv A outer s H E J hr hx=>#[_,((aJ (aS (bn (hn:=KK) uE hx hr (aU uP (av (aa 0))) (aG (ac (aa 2) (ac (cw (aa 1)) ah))))))),λds M R RX e_ h=>?_])
 .obtain⟨_,_,_,_,rfl,_⟩:=h;rfl
 .obtain⟨p,v,X,Y,rfl,hv,u6,hd,hc,hR⟩:=h;cases p<;>simp only[Pat.cls]at hc<;>try exact absurd hc Kl
  rename_i p;obtain⟨u,rfl,hu⟩:=hv;obtain⟨fs,rfl,o1⟩:=hu.objm;rw[Pat.depth]at hd;exact#[_,#[rfl,rfl],_,rfl,p.cls,p.cls_mem,fs,#[rfl,rfl],o1.shw,p,_,Y,-X,rfl,hu,u6,Kd,rfl,hR]
def E7(hL:1<=n)(T:V.Tm "Rehue" "shows" "Rehue.shows" iS iT)(uV:V.a "Rehue" "form")(J7:V.a "Rehue" "old")(J8:V.a "Rehue" "new")(uE:∀x,x∈(["Motif","Over","Shifted","Mirror","Turn","Rehue"]:List E_)->V.Q n x "shows" cM (ofX (ck j x))):V.Q (n+1) "Rehue" "shows" iT (ofX (ck (j+1) "Rehue")):=by
 refine Txm.okM T sc_Rehue_shows (λds M R RX h=>?_) (λf cdv A outer s H E J hr hx=>⟨_,((aF (br 3 sc_Rehue_shows.nd (bn (hn:=KK) uE hx hr (aU uV (av (aa 0))) (aG (ac (aa 1) (ac (aa 2) ah)))))
   (aJ (aS (fT (hV (av (aa 3)) (aU J7 (av (aa 0)))) (aU J8 (av (aa 0))) (av (aa 3))))))),λds M R RX e_ h=>?_⟩)
 .obtain⟨_,_,_,_,rfl,_⟩:=h;rfl
 .obtain⟨p,v,X,Y,rfl,hv,u6,hd,hc,hR⟩:=h;cases p<;>simp only[Pat.cls]at hc<;>try exact absurd hc Kl
  rename_i f g p;obtain⟨u,rfl,hu⟩:=hv;obtain⟨fs,rfl,o1⟩:=hu.objm;rw[Pat.depth]at hd;refine#[λd M'=>d=.int (p.show X Y)/\M'=M,#[_,#[rfl,rfl],_,rfl,p.cls,p.cls_mem,fs,#[rfl,rfl],o1.shw,p,_,X,Y,rfl,hu,u6.2.2,Kd,rfl,rfl,rfl],?_];rintro _ _⟨rfl,rfl⟩;k_places;rw[Pat.show]at hR;unfold bQ at hR;refine#[_,#[rfl,rfl],_,fq Kl,ite2 (λe=>?_) (λe=>?_)]
  .rw[if_pos (of_decide_eq_true e)]at hR;exact#[_,#[rfl,rfl],_,kT Kl Kl,hR]
  .rw[if_neg (λz=>e (decide_eq_true z))]at hR;exact hR
def E8(Pu:V.Tm "Motif" "shows" "Motif.shows" iJ cM)(Pw:V.Tm "Over" "shows" "Over.shows" iK iL)(Px:V.Tm "Shifted" "shows" "Shifted.shows" iM iN)(Py:V.Tm "Mirror" "shows" "Mirror.shows" iO iP)(Pz:V.Tm "Turn" "shows" "Turn.shows" iQ iR)(PB:V.Tm "Rehue" "shows" "Rehue.shows" iS iT)(uY:fz V)(J4:V.a "Motif" "hues")(uK:V.a "Motif" "shifts")(uR:V.a "Over" "above")(uT:V.a "Over" "below")(uS:V.a "Shifted" "form")(J6:V.a "Shifted" "y")(J5:V.a "Shifted" "x")(uQ:V.a "Mirror" "form")(uP:V.a "Turn" "form")(uV:V.a "Rehue" "form")(J7:V.a "Rehue" "old")(J8:V.a "Rehue" "new"):∀j x,x∈(["Motif","Over","Shifted","Mirror","Turn","Rehue"]:List E_)->V.Q (1+j) x "shows" cM (ofX (ck j x)):=by
 intro j;induction j with
 |zero=>
  intro x hx;simp only[FQ,Hb,or_false]at hx;rcases hx with rfl|rfl|rfl|rfl|rfl|rfl
  .exact CalMth.never Pu (λds M R RX=>fv)
  .exact CalMth.never Pw (λds M R RX=>fv)
  .exact CalMth.never Px (λds M R RX=>fv)
  .exact CalMth.never Py (λds M R RX=>fv)
  .exact CalMth.never Pz (λds M R RX=>fv)
  .exact CalMth.never PB (λds M R RX=>fv)
 |succ j L3=>
  intro x hx;simp only[FQ,Hb,or_false]at hx;rcases hx with rfl|rfl|rfl|rfl|rfl|rfl
  .exact ok_Motif_shows (n:=1+j) (j:=j) KK Pu uY J4 uK
  .exact E3 (n:=1+j) (j:=j) KK Pw uR uT L3
  .exact E4 (n:=1+j) (j:=j) KK Px uS J6 J5 L3
  .exact E5 (n:=1+j) (j:=j) KK Py uQ L3
  .exact E6 (n:=1+j) (j:=j) KK Pz uP L3
  .exact E7 (n:=1+j) (j:=j) KK PB uV J7 J8 L3
abbrev vy(V:Bx):Prop:=∀x,x∈(["Motif","Over","Shifted","Mirror","Turn","Rehue"]:List E_)->V.Q 7 x "shows" cM (ofX (ck 6 x))
abbrev gm(V:Bx):Prop:=V.X 8 "cell_at" nY uu
def E9(T:V.T "cell_at" nX nY)(KA:jv V)(K4:V.a "Pattern" "form")(uE:vy V):gm V:=by
 refine CalMM.nilX (Tx.okM T DF (λds M R RX h=>?_) (λf cdv A outer s H E J hr hx=>⟨_,((aF (cJ (bq (CalX.toM KA) hx hr (aG (ac (aa 1) (ac (aa 2) ah)))))
   (aJ (aS (bn uE hx hr (aU K4 (av (aa 0))) (aG (ac (aa 1) (ac (aa 2) ah)))))))),λds M R RX e_ h=>?_⟩))
 .obtain⟨_,R0,KL,⟨_,_,_,_,rfl,_⟩,_⟩:=h;rfl
 .obtain⟨rfl,R0,KL,⟨p,d,x,y,rfl,⟨w,h,s,fs,rfl,e1,e2,hp⟩,ok,h1,h2⟩,hR,hX⟩:=h;obtain⟨v,e3,hv⟩:=hp.form;obtain⟨gs,rfl,o1⟩:=hv.objm;have Q6:=ok.deep;refine#[x,y,rfl,λhn=>?_,λhn=>?_]
  .exact#[_,#[rfl,rfl],_,e3,p.cls,p.cls_mem,gs,#[rfl,rfl],o1.shw,p,_,x,y,rfl,hv,ok.wf,Kd,rfl,hR _ _ (h1 hn)]
  .rw[e_];exact hX _ _ _ (h2 hn)
abbrev jw(V:Bx):Prop:=V.D 1 "_law_whole" oa A8
def Fb(T:V.T "_law_whole" nZ oa)(uJ:V.m "isinstance")(K6:V.m "bool")(uD:V.m "int"):jw V:=by
 refine Tx.okDW T DG (λds R h=>?_) (λf cdv A outer s H E J hr=>#[_,((ar (ay (cR (df uJ uD (aa 0) PyProof.Rows.boot_int yF) (cQ (yx (df uJ K6 (aa 0) PyProof.Rows.boot_bool kit_bool))))))),λds R h=>?_])
 .obtain⟨i,rfl,_⟩:=h;rfl
 .obtain⟨i,rfl,hR⟩:=h;exact hR
abbrev gp(V:Bx):Prop:=V.D 9 "row_from" og Cw
def Fc(T:V.T "row_from" iU og)(uA:V.m "range")(uZ:gm V)(uN:V.gs "SIGNS" ".123456"):gp V:=by
 refine Tx.okDW T DJ (λds R h=>?_) (λf cdv A outer s H E J hr=>#[_,((ar (ay (gN (gR rfl (compScope (by change bO _ (ao iU) ["pattern","x","y","many"] _=true;decide+kernel)) uA (aa 3) (λcl s0 H0 fp=>(ai (eO uN) (aw (CalX.no uZ) hr (ac (aa 0) (ac (au (aa 1) (aa 4)) (ac (aa 2) ah))))))))))),λds R h=>?_])
 .obtain⟨_,_,_,_,_,rfl,_⟩:=h;rfl
 .obtain⟨p,d,x,y,n,rfl,hd,ok,hn,KH,o_,hy,hR⟩:=h;obtain⟨w,h,s,fs,rfl,_⟩:=id hd;refine#[#[Kd,Kd],by rw[bC];lia,λk ys=>ys=rowD p x y k,rfl,?_,?_]
  .rintro k v ys hk hl rfl;obtain⟨gV,rfl⟩:=bx hk;obtain⟨b0,b6⟩:=Pat.show_le ok.wf (by have:=ok.deep;lia) (x+(k:Int)) y;unfold aI at KH o_;exact#[p,.obj "Pattern" fs,x+(k:Int),y,rfl,hd,ok,λ_=>#[_,#[Kj,kU b0 b6],uv p x y k],λz=>z #[#[Kd,Kd],hy]]
  .rintro ys hl rfl;rw[bC,G2];obtain⟨ys,e1,e2,e3⟩:=uw p x y hn;refine#[ys,e1,e2,?_];rw[e3];exact hR
abbrev jx(V:Bx):Prop:=V.D 10 "field_rows" oh CD
def Fd(T:V.T "field_rows" iV oh)(uA:V.m "range")(JS:gp V)(uM:V.a "Pattern" "shifts"):jx V:=by
 refine Tx.okDW T DK (λds R h=>?_) (λf cdv A outer s H E J hr=>#[_,((ar (ay (gR rfl (compScope (by change bO _ (ao iV) ["pattern"] _=true;decide+kernel)) uA (ai (eM uM (aa 0)) ag) (λcl s0 H0 fp=>(aw JS hr (ac (aa 0) (ac ag (ac (aa 1) (ac (ai (eM uM (aa 0)) ag) ah)))))))))),λds R h=>?_])
 .obtain⟨_,_,rfl,_⟩:=h;rfl
 .obtain⟨p,d,rfl,hd,ok,hR⟩:=h;obtain⟨w,h,s,fs,rfl,e1,e2,hp⟩:=id hd;have F:=hp.toFam;have sm:=ok.fits.small F;have wh:w*h<=720:=by
   obtain⟨w',h',s',f',hb⟩:=ok.fits;obtain⟨rfl,rfl,_⟩:=F.uniq f';exact hb
  refine#[rfl,_,e2,_,rfl,#[Kd,Kd],by rw[bC];lia,λk ys=>ys=(FN k).map λ(y:Nat)=>D.str (aB p 0 (y:Int) w.toNat),rfl,?_,?_]
  .rintro k v ys hk hl rfl;obtain⟨gV,rfl⟩:=bx hk;refine#[rfl,_,e2,_,rfl,p,.obj "Pattern" fs,0,k,w.toNat,by rw[Gi Kd],hd,ok,Kd,#[Kd,Kd],#[Kd,Kd],#[Kd,Kd],?_];show _=HU _ (FN (k+1));rw[GT,Gr];rfl
  .rintro ys hl rfl;rw[bC];exact hR w h s F wh sm.2.1 sm.2.2.2.1
abbrev C_round_row(V:Bx):Prop:=V.D 2 "round_row" oj CF
def Fe(T:V.T "round_row" oi oj)(uY:fz V):C_round_row V:=by
 refine Tx.okDW T sc_round_row (λds R h=>?_) (λf cdv A outer s H E J hr=>⟨_,((aj (aq 4 sc_round_row.nd (aw uY hr (ac (aa 0) (ac (aa 2) (ac (aa 3) ah)))))
   (aj (aq 5 sc_round_row.nd (ai (aa 1) (ai (aa 4) ag)))
   (ar (ay (au (cH (aa 5) (cG (ai (aa 4) ag)) cF) (cH (aa 5) cF (cG (ai (aa 4) ag))))))))),λds R h=>?_⟩)
 .obtain⟨_,_,_,_,_,_,rfl,_⟩:=h;rfl
 .obtain⟨p,w,h,s,x,y,rfl,F,w7,h7,hR⟩:=h;have f:=F.f;have y0:=Gp y (show h≠0 by have:=f.h0;lia);have y1:=Gq y f.h0;refine#[λd=>d=.tup [.int (hmX w h s x y),.int (y%h)],#[w,h,s,x,y,rfl,f.w0,f.h0,Kd,f.s0,by have:=f.sw;lia,rfl],?_];rintro _ rfl;k_places;refine#[λd=>d=.str (aB p 0 (y%h) w.toNat),#[_,rfl,_,?_,rfl],?_]
  .have e:y%h=(((y%h).toNat:Nat):Int):=by lia
   rw[e];exact bF (by rw[FT,Gv Kd];simp)
  rintro _ rfl;k_places;have l:=ii p 0 (y%h) w.toNat;refine#[_,rfl,Kd,_,rfl,Kd,?_];have e:=va f.w0 f.h0 (λ_ _ q=>F.keeps q) x y;refine#[?_,?_]
  .rw[<-bi,<-bi,<-F8,<-bI,e,cK];simp;lia
  .rw[e];exact hR
abbrev pK(V:Bx):Prop:=V.D 1 "count_sign" om C3
def Ff(T:V.T "count_sign" ol om)(uB:V.m "len"):pK V:=by
 refine Tx.okDW T DL (λds R h=>?_) (λf cdv A outer s H E J hr=>#[_,((ar (ay (au (aA (aN (aa 2) (bH uB (ac (aa 0) ah))) (sX (aa 0) (ac (aa 1) ah))) (sX (cH (aa 0) cF (cG (az (aa 2) (bH uB (ac (aa 0) ah))))) (ac (aa 1) ah)))))),λds R h=>?_])
 .obtain⟨_,_,_,_,_,_,rfl,_⟩:=h;rfl
 .obtain⟨p,x,y,v,m,w,rfl,ok,v0,v6,w0,w7,m0,m1,kw,hR⟩:=h;have l:=ii p x y w;have q0:0<=m/(w:Int):=HV m0 Kd;have q1:m/(w:Int)<=m:=Ir _ m0;have r0:=Gp m (show(w:Int)≠0 by lia);have r1:=Gq m (show 0<(w:Int)by lia);have er:m%(w:Int)=(((m%(w:Int)).toNat:Nat):Int):=by lia
  have e2:Txt.slice (aB p x y w) s_ (be (m%(w:Int)))=aB p x y (m%(w:Int)).toNat:=by
   rw[er,C1 p x y Kd];rfl
  refine#[Kd,#[by rw[l];lia,by rw[l];lia],.inl #[by rw[l];lia,by rw[l];lia],Kd,by rw[l];lia,Kd,?_];show R (.int (m/((aB p x y w).length:Int)*occC (aB p x y w) (bo v)+occC (Txt.slice (aB p x y w) s_ (be (m%((aB p x y w).length:Int)))) (bo v)));rw[l,e2,vg ok x y v0 v6,vg ok x y v0 v6];have KN:∀k:Nat,(λk:Nat=>p.show (x+k) y) (k+w)=(λk:Nat=>p.show (x+k) y) k:=λk=>by
   have:=kw (x+k) y;rw[GZ]at this;show p.show (x+((k+w:Nat):Int)) y=p.show (x+(k:Int)) y;rw[<-this,Hd,Hs]
  have:=CY (f:=λk:Nat=>p.show (x+k) y) w0 KN v m.toNat;have d1:m/(w:Int)=((m.toNat/w:Nat):Int):=by rw[Int.natCast_ediv,Gi m0]
  have d2:(m%(w:Int)).toNat=m.toNat%w:=by
   have:m%(w:Int)=((m.toNat%w:Nat):Int):=by rw[Jo,Gi m0]
   lia
  rw[d1,d2,this];exact hR
abbrev pL(V:Bx):Prop:=V.X 11 "count_all" oq Db
def Fg(T:V.T "count_all" iW oq)(A':V.m "max")(uA:V.m "range")(uU:V.m "min")(A_:V.m "enumerate")(KA:jv V)(K7:jx V)(K8:C_round_row V)(N9:pK V)(uN:V.gs "SIGNS" ".123456")(uM:V.a "Pattern" "shifts"):pL V:=by
  refine Tx.okXW T sc_count_all (λds R RX h=>?_) (λf cdv A outer s H E J hr hx=>⟨_,((aj (rK (fS KA hx hr (ac (aa 1) (ac (aa 2) ah))))
      (aj (rK (fS KA hx hr (ac (aa 3) (ac (aa 4) ah))))
      (aj (aq 5 sc_count_all.nd (eM uM (aa 0)))
      (aj (aq 6 sc_count_all.nd (aw K7 hr (ac (aa 0) ah)))
      (aj (aq 7 sc_count_all.nd (gM rfl A' (ac (au (aX (aa 3) (aa 1)) ag) (ac ag ah))))
      (aj (aq 8 sc_count_all.nd (aA (ai (aa 5) ag) (ai (aa 5) ag)))
      (aj (AH 9 rfl (compScope (by change bO _ (ao iW) ["pattern","left","top","right","bottom","family","rows","many","again","counts","y","times","row","hue","sign"] _=true;decide+kernel)) sc_count_all.nd (eO uN) (λcl s0 H0 fp=>ag))
      (aj (kr 10 PassesOwn.leaving rfl sc_count_all.nd uA (aa 2) (ki rfl uU (ac (au (aa 4) ag) (ac (au (aa 2) (aa 8)) ah))) (aj (aq 11 sc_count_all.nd (au (aN (aX (aa 4) (aa 10)) (aa 8)) ag))
        (aj (aq 12 sc_count_all.nd (aw K8 hr (ac (aa 5) (ac (aa 6) (ac (aa 1) (ac (aa 10) ah))))))
        (ar (AO PassesOwn.leaving rfl A_ (eO uN) (dg_cons 13 sc_count_all.nd (dg_cons 14 sc_count_all.nd dM)) (ar (gS 9 (au (bU 9 (aa 13)) (aA (aa 11) (aw N9 hr (ac (aa 12) (ac (aa 14) (ac (aa 7) ah)))))) (aa 13))))))))
      (dh 9 (ar (ay (aa 9))))))))))))),λds R RX e_ h=>?_⟩)
  . obtain⟨_,_,_,_,_,_,rfl,_⟩:=h;rfl
  . obtain⟨p,d,left,top,right,a9,rfl,hd,ok,hR,hX⟩:=h;obtain⟨w,h,s,fs,rfl,e1,e2,hp⟩:=id hd;have F:=hp.toFam;have sm:=ok.fits.small F;refine#[left,top,rfl,λn1=>?_,λn1=>by rw[e_];exact hX λz=>n1 #[z.1,z.2.1]];refine#[right,a9,rfl,λn2=>?_,λn2=>by rw[e_];exact hX λz=>n2 #[z.2.2.1,z.2.2.2]];have hR:=hR #[n1.1,n1.2,n2.1,n2.2];unfold aI at n1 n2;refine#[λd=>d=.tup [.int w,.int h,.int s],#[rfl,_,e2,rfl],?_];rintro _ rfl;k_places;refine#[λd=>d=bu p w h/\w*h<=720,#[p,_,rfl,hd,ok,λw' h' s' F' hb _ _=>by obtain⟨rfl,rfl,rfl⟩:=F.uniq F';exact#[rfl,hb]],?_];rintro _⟨rfl,hb⟩;k_places;refine#[λd=>d=.int ((right-left+1).toNat:Nat),congrArg D.int (Da _),?_];rintro _ rfl;k_places;have Q7:0<w*h:=F7 F.f.w0 F.f.h0;refine#[λd=>d=.int (w*h),#[_,rfl,_,rfl,.inl #[Kd,Kd],rfl],?_];rintro _ rfl;k_places;generalize hm:(right-left+1).toNat=m at*;generalize hn:(a9-top+1).toNat=n at*;generalize hN:(w*h).toNat=N at*;refine#[Kl,Kl,λk ys=>ys=Gy k (D.int 0),rfl,?_,?_]
    . rintro k v ys hk hl rfl;show _=Gy (k+1) _;rw[List.replicate_succ']
    rintro ys hl rfl;have wN:w*h=(N:Int):=Kd
    have s9:=C7 (top:=top) hn wN;have RH:=vh n1.1 n2.1 hm;have RI:=vh n1.2 n2.2 hn;refine#[C8 #[n1.2.1,n1.2.2] #[n2.2.1,n2.2.2] Q7 hb,λk z=>∃m6 w9 w_ m4 m5,z=[be (.obj "Pattern" fs),be (.int left),be (.int top),be (.int right),be (.int a9),be (.tup [.int w,.int h,.int s]),be (bu p w h),be (.int m),be (.int (w*h)),be (.own ((FN 7).map λ(v:Nat)=>D.int (cu p left top m n N k v))),m6,w9,w_,m4,m5],#[s_,s_,s_,s_,s_,?_],?_,?_]
    . have e7:(cn (".123456":E_)).length=7:=by decide+kernel
      rw[e7];rfl
    . rintro k v z hk⟨m6,w9,w_,m4,m5,rfl⟩;k_places;obtain⟨gV,rfl⟩:=range2_int hk;rw[s9]at gV;refine#[λd=>d=.int (((n:Int)-1-k)/N+1),#[#[Kd,Kd],?_],?_]
      . rw[wN];congr 3;exact C9 hn gV
      rintro _ rfl;k_places;refine#[λd=>d=.str (aB p left (top+k) w.toNat),#[p,w,h,s,left,top+k,rfl,F,sm.2.1,sm.2.2.2.1,rfl],?_];rintro _ rfl;k_places;refine#[Kl,λi z=>∃m4 m5,z=[be (.obj "Pattern" fs),be (.int left),be (.int top),be (.int right),be (.int a9),be (.tup [.int w,.int h,.int s]),be (bu p w h),be (.int m),be (.int (w*h)),be (.own ((FN 7).map λ(v:Nat)=>D.int (if v<i then cu p left top m n N (k+1) v else cu p left top m n N k v))),be (.int (top+k)),be (.int (((n:Int)-1-k)/N+1)),be (.str (aB p left (top+k) w.toNat)),m4,m5],#[_,_,rfl],?_,?_]
      . rintro i v z hi⟨m4,m5,rfl⟩;k_places;rw[C6]at hi;have i7:i<7:=by simpa using(FZ.mp hi).1
        have ev:v=.str #[[bo (i:Int)].toArray]:=by
          rw[FT,Gv i7]at hi;exact(Option.some.inj hi).symm
        subst ev;have ci:=ve (λk'=>p.show (left+k') (top+k)) i m;have tq:0<=((n:Int)-1-k)/N/\((n:Int)-1-k)/N<=(n:Int)-1-k:=#[HV Kd Kd,Ir _ Kd];refine#[_,bF (by rw[FT,Gv i7];rfl),p,left,top+k,i,m,w.toNat,rfl,ok,Kd,Kd,Kd,Kd,Kd,Kd,by rw[Gi Kd];exact F.across,?_];refine#[.inl #[Kd,Kd],i,?_,?_]
        . unfold ixN;rw[if_pos Kd,if_pos Ou];simp
        refine#[be (.int i),be (.str #[[bo (i:Int)].toArray]),?_];rw[G2,if_neg (GO i)];have e:cu p left top m n N k i+(((n:Int)-1-k)/N+1)*cntN (λk'=>p.show (left+k') (top+k)) i m=cu p left top m n N (k+1) i:=rfl;rw[e];have q:=C5 (n:=7) (i:=i) (λ(v:Nat)=>D.int (if v<i then cu p left top m n N (k+1) v else cu p left top m n N k v)) (λ(v:Nat)=>D.int (if v<i+1 then cu p left top m n N (k+1) v else cu p left top m n N k v)) (λv hv ne=>by
          by_cases c:v<i
          . rw[if_pos c,if_pos Kd]
          . rw[if_neg c,if_neg Kd])
        rw[if_pos (show i<i+1 by lia)]at q;rw[q];rfl
      . rintro z⟨m4,m5,rfl⟩;k_places;refine#[be (.int (top+k)),be (.int (((n:Int)-1-k)/N+1)),be (.str (aB p left (top+k) w.toNat)),m4,m5,?_];have:∀v∈FN 7,D.int (if v<(cn (".123456":E_)).length then cu p left top m n N (k+1) v else cu p left top m n N k v)=D.int (cu p left top m n N (k+1) v):=λv hv=>by
          rw[if_pos (by  have e7:(cn (".123456":E_)).length=7:=by decide+kernel
                         rw[e7];simpa using hv)]
        rw[HA this]
    . rintro z⟨m6,w9,w_,m4,m5,rfl⟩;k_places;have e:((FN ((if top+w*h<a9+1 then top+w*h else a9+1)-top).toNat).map λ(k:Nat)=>D.int (top+(k:Int))).length=min n N:=by simp[s9]
      rw[e];have fold:∀v:Nat,cu p left top m n N (min n N) v=cC p v left top m n:=λv=>C4 Kd (by rw[<-wN];exact F.down) v left top m n;simp only[fold];have e2:((FN 7).map λ(v:Nat)=>D.int (cC p v left top m n))=(dY p left top m n).map D.int:=by unfold dY;rw[Hr];rfl
      rw[e2];exact hR
abbrev pM(V:Bx):Prop:=V.X 12 "count_hue" ou vi
def Fh(T:V.T "count_hue" ot ou)(uB:V.m "len")(N_:pL V):pM V:=by
 refine Tx.okXW T sc_count_hue (λds R RX h=>?_) (λf cdv A outer s H E J hr hx=>⟨_,((aj (aq 6 sc_count_hue.nd (fS N_ hx hr (ac (aa 0) (ac (aa 2) (ac (aa 3) (ac (aa 4) (ac (aa 5) ah)))))))
   (ar (ay (yy (AR qv jJ rB jV ag (aa 1) (bH uB (ac (aa 6) ah))) (ai (aa 6) (aa 1)) ag))))),λds R RX e_ h=>?_⟩)
 .obtain⟨_,_,_,_,_,_,_,rfl,_⟩:=h;rfl
 .obtain⟨p,d,hue,left,top,right,a9,rfl,hd,ok,h0,h6,hR,hX⟩:=h;obtain⟨w,h,s,fs,rfl,e1,e2,hp⟩:=id hd;refine#[λx=>(aI left/\aI top/\aI right/\aI a9)/\x=.lst ((dY p left top (right-left+1).toNat (a9-top+1).toNat).map D.int),#[p,_,left,top,right,a9,rfl,hd,ok,λn=>#[n,rfl],λn=>by rw[e_];exact hX n],?_];rintro _⟨n,rfl⟩;k_places;have l7:((dY p left top (right-left+1).toNat (a9-top+1).toNat).map D.int).length=7:=by simp[dY]
  refine#[_,rfl,λ_=>ite2 (λ_=>?_) (λc=>absurd (decide_eq_true (by rw[l7];lia)) c),λc=>absurd h0 (of_decide_eq_false c)];have e:hue=((hue.toNat:Nat):Int):=Kd
  refine#[.int (cC p hue left top (right-left+1).toNat (a9-top+1).toNat),?_,hR n];rw[e];exact bF (by unfold dY;rw[Hr,FT,Gv Kd];rfl)
def Fi:SpD:=λds R=>∃(p:Pat) (d:D) (kind x y v:Int),ds=[d,.lst (p.leaves.map Leaf.D),.int kind,.int x,.int y,.int v]/\aO p d/\p.Ok/\(-1000000000000<=x/\x<=999999999981)/\(-1000000000000<=y/\y<=999999999981)/\0<=v/\v<5040/\R (.bl true)
abbrev pN(V:Bx):Prop:=V.D 13 "_law_spot_asked" ow Fi
def Fj(T:V.T "_law_spot_asked" iX ow)(uA:V.m "range")(uJ:V.m "isinstance")(uI:V.m "str")(uD:V.m "int")(uZ:gm V)(uW:gj V)(KC:jw V)(JS:gp V)(Oa:pM V):pN V:=by
 refine Tx.okDW T sc__law_spot_asked (λds R h=>?_) (λf cdv A outer s H E J hr=>⟨_,((aj (aT (bp (aa 2) ag) (aj (aq 6 sc__law_spot_asked.nd (aw (CalX.no uZ) hr (ac (aa 0) (ac (aa 3) (ac (aa 4) ah)))))
    (ar (ay (cR (aw KC hr (ac (aa 6) ah)) (cQ (cv (aa 6) (aw uW hr (ac (aa 1) (ac (aa 3) (ac (aa 4) ah)))))))))) aM)
   (aj (aT (bp (aa 2) ag) (aj (aq 6 sc__law_spot_asked.nd (aw JS hr (ac (aa 0) (ac (aa 3) (ac (aa 4) (ac (au ag (az (aa 5) ag)) ah))))))
    (aj (km 7 rfl (compScope (by change bO _ (ao iX) ["_law_made","_law_leaves","_law_kind","_law_x","_law_y","_law_value","_law_found","_law_due","_law_hue","_law_j","_law_i"] _=true;decide+kernel)) sc__law_spot_asked.nd uA (au ag (az (aa 5) ag)) (λcl s0 H0 fp=>(ai aC (aw uW hr (ac (aa 1) (ac (au (aa 3) (aa 11)) (ac (aa 4) ah)))))))
    (ar (ay (cR (df uJ uI (aa 6) PyProof.Rows.boot_str kit_str) (cQ (cv (aa 6) (gN (aa 7))))))))) aM)
   (aj (aq 7 sc__law_spot_asked.nd ag)
   (aj (aq 8 sc__law_spot_asked.nd (az (aa 5) ag))
   (aj (kr 9 PassesOwn.never rfl sc__law_spot_asked.nd uA (aa 4) (au (au (aa 4) ag) (az (aN (aa 5) ag) ag)) (ar (kr 10 PassesOwn.never rfl sc__law_spot_asked.nd uA (aa 3) (au (au (aa 3) ag) (az (aN (aa 5) ag) ag)) (ar (aq 7 sc__law_spot_asked.nd (au (aa 7) (fO uD (ac (cv (aw uW hr (ac (aa 1) (ac (aa 10) (ac (aa 9) ah)))) (aa 8)) ah))))))))
   (aj (aq 6 sc__law_spot_asked.nd (aw (CalX.no Oa) hr (ac (aa 0) (ac (aa 8) (ac (aa 3) (ac (aa 4) (ac (au (aa 3) (az (aN (aa 5) ag) ag)) (ac (au (aa 4) (az (aN (aa 5) ag) ag)) ah))))))))
   (ar (ay (cR (aw KC hr (ac (aa 6) ah)) (cQ (cv (aa 6) (aa 7))))))))))))),λds R h=>?_⟩)
 .obtain⟨_,_,_,_,_,_,rfl,_⟩:=h;rfl
 .obtain⟨p,d,kind,x,y,v,rfl,hd,ok,hx,hy,v0,v5,hR⟩:=h;obtain⟨wd,d7,sd,fs,rfl,q1,q2,fam⟩:=hd;have hd:aO p (.obj "Pattern" fs):=#[wd,d7,sd,fs,rfl,q1,q2,fam];have dp:=ok.deep;have lo:=Pat.leaf_ok ok.wf (show p.depth<=40 by lia);have sl:=λx y=>Pat.show_leaves ok.wf (show p.depth<=40 by lia) x y;refine ite2 (λ_=>?_) λ_=>ite2 (λ_=>?_) λ_=>?_
  .refine#[λd=>d=.int (p.show x y),Cu (x:=x) (y:=y) (R:=λd=>d=_) hd ok #[hx.1,Kd] #[hy.1,Kd] rfl,?_];rintro _ rfl;k_places;refine#[_,rfl,p.leaves,x,y,rfl,lo,?_];rw[sl];show R (.bl (decide (_=_)));rw[decide_eq_true rfl];exact hR
  .obtain⟨n,en,n1,n2⟩:∃n:Nat,1+v%20=(n:Int)/\1<=n/\n<=20:=#[(1+v%20).toNat,Kd,Kd,Kd];refine#[λd=>d=.str (aB p x y n),#[Kj,p,_,x,y,n,by rw[<-en],hd,ok,Kd,#[hx.1,Kd],#[Kd,Kd],#[hy.1,Kd],rfl],?_];rintro _ rfl;k_places;refine#[λd=>d=.lst (rowD p x y n),#[Kj,?_],?_]
   .refine#[#[Kd,Kd],by rw[bC];lia,λk ys=>ys=rowD p x y k,rfl,?_,?_]
    .rintro k u ys hk hl rfl;obtain⟨gV,rfl⟩:=bx hk;obtain⟨b0,b6⟩:=Pat.show_le ok.wf Kd (x+(k:Int)) y;refine#[p.leaves,x+k,y,rfl,lo,?_];rw[sl];exact#[_,#[Kj,kU b0 b6],uv p x y k]
    .rintro ys hl rfl;rw[bC,en,G2]
   rintro _ rfl;k_places;obtain⟨ys,e1,e2,e3⟩:=uw p x y (show n<=1000 by lia);refine#[ys,e1,e2,?_];rw[e3];show R (.bl (decide (_=_)));rw[decide_eq_true rfl];exact hR
  refine#[λd=>d=.int 0,rfl,?_];rintro _ rfl;k_places;refine#[λd=>d=.int (v%7),#[Kj,rfl],?_];rintro _ rfl;k_places;obtain⟨m,em,m1,m2⟩:∃m:Nat,v/42%6=(m:Int)-1/\1<=m/\m<=6:=#[(1+v/42%6).toNat,Kd,Kd,Kd];obtain⟨n,en,n1,n2⟩:∃n:Nat,v/7%6=(n:Int)-1/\1<=n/\n<=6:=#[(1+v/7%6).toNat,Kd,Kd,Kd];have ey:(y+1+v/7%6-y).toNat=n:=Kd
  have ex:(x+1+v/42%6-x).toNat=m:=Kd
  refine#[Kj,Kj,#[Kd,Kd,Kd,Kd],λk z=>∃o9 m6,z=[be (.obj "Pattern" fs),be (.lst (p.leaves.map Leaf.D)),be (.int kind),be (.int x),be (.int y),be (.int v),s_,be (.int (cC p (v%7) x y m k)),be (.int (v%7)),o9,m6],#[_,_,rfl],?_,?_]
  .rintro k u z hk⟨o9,m6,rfl⟩;k_places;obtain⟨gV,rfl⟩:=range2_int hk;refine#[Kj,Kj,#[Kd,Kd,Kd,Kd],λi z=>∃m6,z=[be (.obj "Pattern" fs),be (.lst (p.leaves.map Leaf.D)),be (.int kind),be (.int x),be (.int y),be (.int v),s_,be (.int (cC p (v%7) x y m k+cntN (λc=>p.show (x+c) (y+k)) (v%7) i)),be (.int (v%7)),be (.int (y+k)),m6],#[_,by rw[show cntN (λc=>p.show (x+c) (y+k)) (v%7) 0=0 from rfl,GZ]],?_,?_]
   .rintro i u z hi⟨m6,rfl⟩;k_places;obtain⟨s9,rfl⟩:=range2_int hi;refine#[λd=>d=.int (cC p (v%7) x y m k+cntN (λc=>p.show (x+c) (y+k)) (v%7) (i+1)),#[p.leaves,x+i,y+k,rfl,lo,?_],?_]
    .rw[sl];show D.int (_+if decide (_=_)=true then 1 else 0)=D.int (_+(_+if _ then 1 else 0));simp only[decide_eq_true_eq,Hs];rfl
    rintro _ rfl;k_places;exact#[_,rfl]
   .rintro z⟨m6,rfl⟩;k_places;refine#[be (.int (y+k)),m6,?_];have e:((FN (x+1+v/42%6-x).toNat).map λ(k:Nat)=>D.int (x+(k:Int))).length=m:=by simp[ex]
    rw[e];rfl
  .rintro z⟨o9,m6,rfl⟩;k_places;have e:((FN (y+1+v/7%6-y).toNat).map λ(k:Nat)=>D.int (y+(k:Int))).length=n:=by simp[ey]
   rw[e];refine#[λd=>d=.int (cC p (v%7) x y m n),#[Kj,Kj,Kj,Kj,Dc (R:=λd=>d=.int (cC p (v%7) x y m n)) hd ok Kd Kd #[#[hx.1,Kd],#[hy.1,Kd],#[Kd,Kd],#[Kd,Kd]] ?_],?_]
   .rw[show(x+v/42%6-x+1).toNat=m by lia,show(y+v/7%6-y+1).toNat=n by lia]
   rintro _ rfl;k_places;refine#[_,rfl,?_];show R (.bl (decide (_=_)));rw[decide_eq_true rfl];exact hR
abbrev gq(V:Bx):Prop:=V.D 2 "_law_numbers" oz CO
def Fk(T:V.T "_law_numbers" oy oz)(uB:V.m "len")(uJ:V.m "isinstance")(B_:V.m "tuple")(uA:V.m "range")(KC:jw V):gq V:=by
 refine Tx.okDW T sc__law_numbers (λds R h=>?_) (λf cdv A outer s H E J hr=>⟨_,((aj (aT (de (db (cE (bN (df uJ B_ (aa 0) PyProof.Rows.boot_tuple kit_tuple))) (dI (bT (bH uB (ac (aa 0) ah)) (bH uB (ac (aa 1) ah)))))) (ar (ay ce)) aM)
   (aj (bK 2 PassesOwn.never rfl sc__law_numbers.nd uA (bH uB (ac (aa 1) ah)) (ar (aT (de (db (cE (bN (aw KC hr (ac (ai (aa 0) (aa 2)) ah)))) (dI (bT (ai (aa 0) (aa 2)) (ai (aa 1) (aa 2)))))) (ar (ay ce)) aM)))
   (ar (ay ce))))),λds R h=>?_⟩)
 .obtain⟨xs,rfl,_⟩:=h;rfl
 .obtain⟨xs,rfl,xl,hR⟩:=h;refine ite2 (λc=>absurd c Ld) λ_=>?_;refine#[#[KK,by rw[FP];omega],λk z=>∃o,z=[be (.tup (xs.map D.int)),be (.tup (xs.map D.int)),o],#[_,rfl],?_,?_]
  .rintro k v z hk⟨o,rfl⟩;k_places;obtain⟨gV,rfl⟩:=bx hk;rw[FP]at gV;have JT:k<xs.length:=by omega
   have ak:atI (xs.map D.int) (k:Int)=be (.int xs[k]):=bF (by rw[FT,F9 JT];rfl);exact#[_,ak,_,rfl,_,ak,_,ak,ite2 (λc=>absurd c Ld) λ_=>#[_,rfl]]
  .rintro z⟨o,rfl⟩;k_places;exact hR
abbrev jy(V:Bx):Prop:=V.D 1 "measures" oA CH
def Fl(T:V.T "measures" iY oA)(uA:V.m "range"):jy V:=by
 refine Tx.okDW T DM (λds R h=>?_) (λf cdv A outer s H E J hr=>#[_,((ar (ay (AG rfl (compScope (by change bO _ (ao iY) ["number"] _=true;decide+kernel)) uA ag (au (aa 0) ag) (λcl s0 H0 fp=>(bp (az (aa 0) (aa 1)) ag)) (λcl s0 H0 fp=>(aa 1)))))),λds R h=>?_])
 .obtain⟨_,rfl,_⟩:=h;rfl
 .obtain⟨n,rfl,n0,n1,hR⟩:=h;refine#[#[Kd,Kd,Kd,Kd],Ou,λk ys=>∃ns:List Int,ys=ns.map D.int/\ns.length<=k/\∀m,m∈ns↔1<=m/\m<=k/\n%m=0,#[[],rfl,FM _,λm=>Ou],?_,?_]
  .rintro k v ys hk⟨ns,rfl,hl,hm⟩;k_places;obtain⟨gV,rfl⟩:=range2_int hk;refine#[Kd,?_];refine okF (λc=>?_) (λc=>?_)
   .have c':=of_decide_eq_true c;refine#[ns++[1+(k:Int)],Ld,Ou,λm=>?_];rw[Gk,hm,FO];constructor
    .rintro(q|rfl)
     .lia
     .exact#[Kd,Kd,c']
    .rintro⟨a,b,c⟩;by_cases e:m=1+(k:Int)
     .exact .inr e
     .exact .inl #[a,Kd,c]
   .have c':=of_decide_eq_false c;refine#[ns,rfl,Kd,λm=>?_];rw[hm];constructor
    .rintro⟨a,b,c⟩;exact#[a,Kd,c]
    .rintro⟨a,b,c⟩;refine#[a,?_,c];by_cases e:m=1+(k:Int)
     .subst e;exact absurd c c'
     .lia
  .rintro ys⟨ns,rfl,hl,hm⟩;k_places;have e:((FN (n+1-1).toNat).map λk=>D.int (1+((k:Nat):Int))).length=n.toNat:=by simp
   rw[e]at hl hm;exact hR ns Kd λm=>by rw[hm];lia
abbrev jz(V:Bx):Prop:=V.D 3 "changes_nothing" oC CI
def Fn(T:V.T "changes_nothing" oB oC)(A_:V.m "enumerate")(K8:C_round_row V):jz V:=by
 refine Tx.okDW T sc_changes_nothing (λds R h=>?_) (λf cdv A outer s H E J hr=>⟨_,((aj (AN PassesOwn.never rfl A_ (aa 1) (dg_cons 4 sc_changes_nothing.nd (dg_cons 5 sc_changes_nothing.nd dM)) (ar (aT (bT (aw K8 hr (ac (aa 0) (ac (aa 1) (ac (aa 2) (ac (au (aa 3) (aa 4)) ah))))) (aa 5)) (ar (ay ce)) aM)))
   (ar (ay ce)))),λds R h=>?_⟩)
 .obtain⟨_,_,_,_,_,_,rfl,_⟩:=h;rfl
 .obtain⟨p,w,h,s,x,y,rfl,ok,F,w7,h7,hR⟩:=h;have e0:∀k:Nat,k<h.toNat->((FN h.toNat).map λ(y:Nat)=>D.str (aB p 0 (y:Int) w.toNat))[k]?=be (.str (aB p 0 (k:Int) w.toNat)):=λk hk=>by simp[hk]
  refine#[λk z=>∃o1 o2,z=[be (.tup [.int w,.int h,.int s]),be (bu p w h),be (.int x),be (.int y),o1,o2]/\∀j:Nat,j<k->aB p x (y+j) w.toNat=aB p 0 j w.toNat,#[_,_,rfl,λj hj=>absurd hj (GU j)],?_,?_]
  .rintro k v z hk⟨o1,o2,rfl,hj⟩;k_places;have gV:k<h.toNat:=by simpa using(FZ.mp hk).1
   rw[e0 k gV]at hk;cases hk;refine#[p,w,h,s,x,y+k,rfl,F,w7,h7,ite2 (λc=>?_) (λc=>?_)]
   .refine hR false ?_;have c':¬aB p x (y+k) w.toNat=aB p 0 k w.toNat:=λz=>by simp[z]at c
    rw[<-ij ok F.k];exact#[(λz=>nomatch z),λz=>absurd (z k gV) c']
   .have c':aB p x (y+k) w.toNat=aB p 0 k w.toNat:=by simpa using c
    refine#[_,_,rfl,λj NM=>?_];by_cases e:j=k
    .subst e;exact c'
    .exact hj j Kd
  .rintro z⟨o1,o2,rfl,hj⟩;k_places;rw[show((FN h.toNat).map λ(y:Nat)=>D.str (aB p 0 (y:Int) w.toNat)).length=h.toNat by simp]at hj;exact hR true ((ij ok F.k x y).mp hj|>λz=>#[λ_=>z,λ_=>rfl])
abbrev pO(V:Bx):Prop:=V.D 4 "least_width" oE CJ
def Fo(T:V.T "least_width" iZ oE)(uU:V.m "min")(K9:jy V)(K':jz V):pO V:=by
 refine Tx.okDW T DN (λds R h=>?_) (λf cdv A outer s H E J hr=>#[_,((ar (ay (sW rfl uU (ac (sU rfl (compScope (by change bO _ (ao iZ) ["family","rows"] _=true;decide+kernel)) (aw K9 hr (ac (ai (aa 0) ag) ah)) (λcl s0 H0 fp=>(bN (aw K' hr (ac (aa 0) (ac (aa 1) (ac (aa 2) (ac ag ah))))))) (λcl s0 H0 fp=>(aa 2))) ah))))),λds R h=>?_])
 .obtain⟨_,_,_,_,rfl,_⟩:=h;rfl
 .obtain⟨p,w,h,s,rfl,ok,F,w7,h7,hR⟩:=h;have w0:=F.f.w0;refine#[_,rfl,w,rfl,w0,Kd,λns hl hm=>#[Ou,λk ys=>∃ms:List Int,ys=ms.map D.int/\∀m,m∈ms↔(∃j:Nat,j<k/\ns[j]?=be m)/\p.Keeps m 0,#[[],rfl,λm=>Ld],?_,?_]]
  .rintro k v ys hk⟨ms,rfl,y7⟩;k_places;obtain⟨m,em,rfl⟩:∃m,ns[k]?=be m/\v=.int m:=by
    rw[FT]at hk;cases q:ns[k]? with
    |none=>rw[q]at hk;cases hk
    |some m=>rw[q]at hk;cases hk;exact#[m,rfl,rfl]
   refine#[p,w,h,s,m,0,rfl,ok,F,w7,h7,λb hb=>okF (λc=>?_) (λc=>?_)]
   .refine#[ms++[m],Ld,λm'=>?_];rw[Gk,y7,FO];constructor
    .rintro(⟨⟨j,h1,h2⟩,h3⟩|rfl)
     .exact#[#[j,Kd,h2],h3]
     .exact#[#[k,Kd,em],hb.mp c]
    .rintro⟨⟨j,h1,h2⟩,h3⟩;by_cases e:j=k
     .subst e;rw[em]at h2;cases h2;exact .inr rfl
     .exact .inl #[#[j,Kd,h2],h3]
   .refine#[ms,rfl,λm'=>?_];rw[y7];constructor
    .rintro⟨⟨j,h1,h2⟩,h3⟩;exact#[#[j,Kd,h2],h3]
    .rintro⟨⟨j,h1,h2⟩,h3⟩;by_cases e:j=k
     .subst e;rw[em]at h2;cases h2;rw[hb.mpr h3]at c;cases c
     .exact#[#[j,Kd,h2],h3]
  .rintro ys⟨ms,rfl,y7⟩;k_places;rw[FP]at y7;have t9:∀m,m∈ms↔(1<=m/\m<=w/\w%m=0)/\p.Keeps m 0:=λm=>by
    rw[y7,<-hm,JD];constructor
    .rintro⟨⟨j,_,h2⟩,h3⟩;exact#[#[j,h2],h3]
    .rintro⟨⟨j,h2⟩,h3⟩;exact#[#[j,(FZ.mp h2).1,h2],h3]
   have hw:w∈ms:=(t9 w).mpr #[#[Kd,Kd,Int.emod_self],F.keeps (InF.one w h s)];refine#[ms,rfl,JE hw,λm Ob KD=>hR m ?_];obtain⟨⟨a,b,c⟩,d⟩:=(t9 m).mp Ob;exact#[a,b,c,d,λd' h1 h2 h3 h4=>KD d' ((t9 d').mpr #[#[h1,h2,h3],h4])]
abbrev pP(V:Bx):Prop:=V.D 4 "slant_at" oG CK
def Fp(T:V.T "slant_at" oF oG)(uA:V.m "range")(K':jz V):pP V:=by
 refine Tx.okDW T sc_slant_at (λds R h=>?_) (λf cdv A outer s H E J hr=>⟨_,((aj (bK 4 PassesOwn.never rfl sc_slant_at.nd uA (aa 2) (ar (aT (bN (aw K' hr (ac (aa 0) (ac (aa 1) (ac (aa 4) (ac (aa 3) ah)))))) (ar (ay (aa 4))) aM)))
   (ar (ay bG)))),λds R h=>?_⟩)
 .obtain⟨_,_,_,_,_,_,rfl,_⟩:=h;rfl
 .obtain⟨p,w,h,s,m,y,rfl,ok,F,w7,h7,m0,m7,hR,hN⟩:=h;refine#[#[Kd,Kd],λk z=>∃o1,z=[be (.tup [.int w,.int h,.int s]),be (bu p w h),be (.int m),be (.int y),o1]/\∀u,0<=u->u<(k:Int)->¬p.Keeps u y,#[_,rfl,λu a b=>Kd],?_,?_]
  .rintro k v z hk⟨o1,rfl,hj⟩;k_places;obtain⟨gV,rfl⟩:=bx hk;refine#[p,w,h,s,k,y,rfl,ok,F,w7,h7,λb hb=>ite2 (λc=>?_) (λc=>?_)]
   .exact hR k Kd Kd (hb.mp c) hj
   .refine#[_,rfl,λu a b'=>?_];by_cases e:u=k
    .subst e;exact λz=>c (hb.mpr z)
    .exact hj u a Kd
  .rintro z⟨o1,rfl,hj⟩;k_places;rw[bC]at hj;exact hN λt a b=>hj t a Kd
abbrev gu(V:Bx):Prop:=V.D 11 "least_shifts" oH CM
def Fq(T:V.T "least_shifts" ja oH)(uU:V.m "min")(K7:jx V)(Oc:pO V)(K9:jy V)(Mx:pP V)(uM:V.a "Pattern" "shifts"):gu V:=by
 refine Tx.okDW T sc_least_shifts (λds R h=>?_) (λf cdv A outer s H E J hr=>⟨_,((aj (aq 1 sc_least_shifts.nd (eM uM (aa 0)))
   (aj (aq 2 sc_least_shifts.nd (aw K7 hr (ac (aa 0) ah)))
   (aj (aq 3 sc_least_shifts.nd (aw Oc hr (ac (aa 1) (ac (aa 2) ah))))
   (aj (aq 4 sc_least_shifts.nd (sW rfl uU (ac (sU rfl (compScope (by change bO _ (ao ja) ["pattern","family","rows","width","height"] _=true;decide+kernel)) (aw K9 hr (ac (ai (aa 1) ag) ah)) (λcl s0 H0 fp=>(rJ (aw Mx hr (ac (aa 1) (ac (aa 2) (ac (aa 3) (ac (aa 5) ah))))) bG)) (λcl s0 H0 fp=>(aa 5))) ah)))
   (ar (ay (aK (ac (aa 3) (ac (aa 4) (ac (aw Mx hr (ac (aa 1) (ac (aa 2) (ac (aa 3) (ac (aa 4) ah))))) ah))))))))))),λds R h=>?_⟩)
 .obtain⟨_,_,rfl,_⟩:=h;rfl
 .obtain⟨p,d,rfl,hd,ok,hR⟩:=h;obtain⟨w,h,s,fs,rfl,e1,e2,hp⟩:=id hd;have F:=hp.toFam;have sm:=ok.fits.small F;refine#[λd=>d=.tup [.int w,.int h,.int s],#[rfl,_,e2,rfl],?_];rintro _ rfl;k_places;refine#[λd=>d=bu p w h/\w*h<=720,#[p,_,rfl,hd,ok,λw' h' s' F' hb _ _=>?_],?_]
  .obtain⟨rfl,rfl,rfl⟩:=F.uniq F';exact#[rfl,hb]
  rintro _⟨rfl,hb⟩;k_places;obtain⟨w',h',s',L,d1,d2,Pe,Pf,Kx⟩:=Pat.least_ex F.k;have w0:=L.f.w0;have h0:=L.f.h0;refine#[λd=>d=.int w',#[p,w,h,s,rfl,ok,F,sm.2.1,sm.2.2.2.1,λm lw=>by rw[lw.eq F L]],?_];rintro _ rfl;k_places;refine#[λd=>d=.int h',#[_,rfl,h,rfl,sm.2.2.1,Kd,λns hl hm=>#[Ou,λk ys=>∃ms:List Int,ys=ms.map D.int/\∀m,m∈ms↔(∃j:Nat,j<k/\ns[j]?=be m)/\∃t,p.Keeps t m,#[[],rfl,λm=>Ld],?_,?_]],?_]
  .rintro k v ys hk⟨ms,rfl,y7⟩;k_places;obtain⟨m,em,rfl⟩:∃m,ns[k]?=be m/\v=.int m:=by
    rw[FT]at hk;cases q:ns[k]? with
    |none=>rw[q]at hk;cases hk
    |some m=>rw[q]at hk;cases hk;exact#[m,rfl,rfl]
   have Q8:(∃t,p.Keeps t m)->∃zs:List Int,ms.map D.int++[D.int m]=zs.map D.int/\∀m,m∈zs↔(∃j:Nat,j<k+1/\ns[j]?=be m)/\∃t,p.Keeps t m:=λc=>by
    refine#[ms++[m],Ld,λm'=>?_];rw[Gk,y7,FO];constructor
    .rintro(⟨⟨j,h1,h2⟩,h3⟩|rfl)
     .exact#[#[j,Kd,h2],h3]
     .exact#[#[k,Kd,em],c]
    .rintro⟨⟨j,h1,h2⟩,h3⟩;by_cases e:j=k
     .subst e;rw[em]at h2;cases h2;exact .inr rfl
     .exact .inl #[#[j,Kd,h2],h3]
   refine#[p,w,h,s,w',m,rfl,ok,F,sm.2.1,sm.2.2.2.1,Kd,Kd,λt _ _ kt _=>Q8 #[t,kt],λno=>?_];show ∃zs:List Int,ms.map D.int=zs.map D.int/\∀m,m∈zs↔(∃j:Nat,j<k+1/\ns[j]?=be m)/\∃t,p.Keeps t m;refine#[ms,rfl,λm'=>?_];rw[y7];constructor
   .rintro⟨⟨j,h1,h2⟩,h3⟩;exact#[#[j,Kd,h2],h3]
   .rintro⟨⟨j,h1,h2⟩,h3⟩;by_cases e:j=k
    .subst e;rw[em]at h2;cases h2;obtain⟨t,kt⟩:=h3;exact absurd (L.row kt) (no _ (Gp _ Kd) (Gq _ w0))
    .exact#[#[j,Kd,h2],h3]
  .rintro ys⟨ms,rfl,y7⟩;k_places;rw[FP]at y7;have t9:∀m,m∈ms↔(1<=m/\m<=h/\h%m=0)/\∃t,p.Keeps t m:=λm=>by
    rw[y7,<-hm,JD];constructor
    .rintro⟨⟨j,_,h2⟩,h3⟩;exact#[#[j,h2],h3]
    .rintro⟨⟨j,h2⟩,h3⟩;exact#[#[j,(FZ.mp h2).1,h2],h3]
   have hh:h'∈ms:=(t9 h').mpr #[#[Kd,Kx,Int.emod_eq_zero_of_dvd d2],s',(L.lat _ _).mp (InF.two _ _ _)];refine#[ms,rfl,JE hh,λm Ob KD=>?_];obtain⟨⟨a,b,c⟩,t,kt⟩:=(t9 m).mp Ob;have h1:=(L.down kt Kd).1;have h2:=KD h' hh;show D.int m=D.int h';rw[show m=h' by lia]
  rintro _ rfl;k_places;refine#[p,w,h,s,w',h',rfl,ok,F,sm.2.1,sm.2.2.2.1,Kd,Kd,λt a b kt _=>#[by show(3:Nat)<=1000;decide,?_],λno=>absurd ((L.lat _ _).mp (InF.two _ _ _)) (no s' L.f.s0 L.f.sw)];rw[L.slant a b kt];exact hR w' h' s' L Kd Kd Kd
def Fs:SpD:=λds R=>∃(p:Pat) (w h s:Int),ds=[fY p w h s,.tup [.int w,.int h,.int s],bu p w h]/\0<=h/\h<=720/\R (.bl true)
abbrev pQ(V:Bx):Prop:=V.D 3 "_law_form_is" oJ Fs
def Ft(T:V.T "_law_form_is" oI oJ)(uB:V.m "len")(uJ:V.m "isinstance")(B_:V.m "tuple")(uA:V.m "range")(uI:V.m "str")(C_:gq V):pQ V:=by
 refine Tx.okDW T sc__law_form_is (λds R h=>?_) (λf cdv A outer s H E J hr=>⟨_,((aj (aT (de (db (cE (bN (df uJ B_ (aa 0) PyProof.Rows.boot_tuple kit_tuple))) (db (bT (bH uB (ac (aa 0) ah)) ag) (dI (cE (bN (aw C_ hr (ac (cH (aa 0) cF (cG ag)) (ac (aa 1) ah))))))))) (ar (ay ce)) aM)
   (aj (aT (de (db (cE (bN (df uJ B_ (ai (aa 0) ag) PyProof.Rows.boot_tuple kit_tuple))) (dI (bT (bH uB (ac (ai (aa 0) ag) ah)) (bH uB (ac (aa 2) ah)))))) (ar (ay ce)) aM)
   (aj (bK 3 PassesOwn.never rfl sc__law_form_is.nd uA (bH uB (ac (aa 2) ah)) (ar (aT (de (db (cE (bN (df uJ uI (ai (ai (aa 0) ag) (aa 3)) PyProof.Rows.boot_str kit_str))) (dI (bT (ai (ai (aa 0) ag) (aa 3)) (ai (aa 2) (aa 3)))))) (ar (ay ce)) aM)))
   (ar (ay ce)))))),λds R h=>?_⟩)
 .obtain⟨_,_,_,_,rfl,_⟩:=h;rfl
 .obtain⟨p,w,h,s,rfl,h0,h7,hR⟩:=h;refine#[by show¬(0=0/\3=4);decide,[w,h,s],rfl,by show(3:Nat)<=1000;decide,?_];refine ite2 (λc=>absurd c Ld) λ_=>?_;refine#[_,rfl,_,rfl,ite2 (λc=>absurd c Ld) λ_=>?_];refine#[#[by rw[FP,GY];lia,by rw[FP,GY];lia],λk z=>∃o,z=[be (fY p w h s),be (.tup [.int w,.int h,.int s]),be (bu p w h),o],#[_,rfl],?_,?_]
  .rintro k v z hk⟨o,rfl⟩;k_places;obtain⟨gV,rfl⟩:=bx hk;rw[FP,GY]at gV;have ak:=Dd (p:=p) (w:=w) (h:=h) (k:=k) Kd Kd;exact#[_,rfl,_,ak,_,rfl,_,ak,_,ak,ite2 (λc=>absurd c Ld) λ_=>#[_,rfl]]
  .rintro z⟨o,rfl⟩;k_places;exact hR
abbrev jA(V:Bx):Prop:=V.D 12 "least_form" oK CN
def Fu(T:V.T "least_form" jb oK)(uA:V.m "range")(B_:V.m "tuple")(D':gu V)(JS:gp V):jA V:=by
 refine Tx.okDW T sc_least_form (λds R h=>?_) (λf cdv A outer s H E J hr=>⟨_,((aj (aq 1 sc_least_form.nd (aw D' hr (ac (aa 0) ah)))
   (aj (km 2 rfl (compScope (by change bO _ (ao jb) ["pattern","family","rows"] _=true;decide+kernel)) sc_least_form.nd uA (ai (aa 1) ag) (λcl s0 H0 fp=>(aw JS hr (ac (aa 0) (ac ag (ac (aa 3) (ac (ai (aa 1) ag) ah)))))))
   (ar (ay (aK (ac (ai (aa 1) ag) (ac (ai (aa 1) ag) (ac (ai (aa 1) ag) (ac (AL B_ (ac (aa 2) ah)) ah)))))))))),λds R h=>?_⟩)
 .obtain⟨_,_,rfl,_⟩:=h;rfl
 .obtain⟨p,d,rfl,hd,ok,hR⟩:=h;obtain⟨w0,h0,s0,fs,rfl,e1,e2,hp⟩:=id hd;refine#[λd=>∃w h s,d=.tup [.int w,.int h,.int s]/\p.Least w h s/\w*h<=720/\w<=720/\h<=720,#[p,_,rfl,hd,ok,λw h s L a b c=>#[w,h,s,rfl,L,a,b,c]],?_];rintro _⟨w,h,s,rfl,L,hb,w7,h7⟩;k_places;have w0:=L.f.w0;have h0:=L.f.h0;refine#[λd=>d=bu p w h,#[_,rfl,#[Kd,Kd],by rw[bC];lia,λk ys=>ys=(FN k).map λ(y:Nat)=>D.str (aB p 0 (y:Int) w.toNat),rfl,?_,?_],?_]
  .rintro k v ys hk hl rfl;obtain⟨gV,rfl⟩:=bx hk;refine#[_,rfl,p,.obj "Pattern" fs,0,k,w.toNat,by rw[Gi Kd],hd,ok,Kd,#[Kd,Kd],#[Kd,Kd],#[Kd,Kd],?_];show _=HU _ (FN (k+1));rw[GT,Gr];rfl
  .rintro ys hl rfl;rw[bC];rfl
  rintro _ rfl;k_places;exact#[_,rfl,_,rfl,_,rfl,by show(4:Nat)<=1000;decide,hR w h s L hb w7 h7]
def Fv:SpD:=λds R=>∃(p q:Pat) (d e:D),ds=[d,e]/\aO p d/\aO q e/\p.Ok/\q.Ok/\∀b:Bool,(b=true↔∀x y,p.show x y=q.show x y)->R (.bl b)
abbrev jB(V:Bx):Prop:=V.D 13 "one_pattern" oN Fv
def Fw(T:V.T "one_pattern" oM oN)(KE:jA V):jB V:=by
 refine Tx.okDW T DO (λds R h=>?_) (λf cdv A outer s H E J hr=>#[_,((ar (ay (tm (gD hr) (aw KE hr (ac (aa 0) ah)) (aw KE hr (ac (aa 1) ah)))))),λds R h=>?_])
 .obtain⟨_,_,_,_,rfl,_⟩:=h;rfl
 .obtain⟨p,q,d,e,rfl,hd,he,g_,d5,hR⟩:=h;obtain⟨wd,d7,sd,fs,rfl,q1,q2,fam⟩:=hd;have hd:aO p (.obj "Pattern" fs):=#[wd,d7,sd,fs,rfl,q1,q2,fam];obtain⟨JU,o7,JV,i9,rfl,q3,q4,j_⟩:=he;have he:aO q (.obj "Pattern" i9):=#[JU,o7,JV,i9,rfl,q3,q4,j_];refine#[p,_,rfl,hd,g_,λw h s L _ _ _=>#[q,_,rfl,he,d5,λw' h' s' L' _ _ _=>?_]];rw[vt,vt];refine#[?_,hR _ (DU g_ d5 L L')];have e2:∀a b:List E_,sh2 (.tup (a.map D.str)) (.tup (b.map D.str))=true:=λa b=>by
   show(false||(_&&_))=true;rw[vq,vq];rfl
  show(true&&(true&&(true&&(sh2 _ _&&true))))=true;rw[e2];rfl
def Fx:SpX:=λds R RX=>∃(p q:Pat) (d e:D),ds=[d,e]/\aO p d/\aO q e/\p.Ok/\q.Ok/\∀w h s,ComF p q w h s->(w*h<=720->R (.tup [.int w,.int h,.int s]))/\(720<w*h->RX "TooGreat" [])
abbrev pR(V:Bx):Prop:=V.X 12 "common_field" oP Fx
def Fy(T:V.T "common_field" oO oP)(J9:gl V)(D':gu V)(K5:V.gi "MOST" 720)(Od:V.n "TooGreat"):pR V:=by
 refine Tx.okXW T sc_common_field (λds R RX h=>?_) (λf cdv A outer s H E J hr hx=>⟨_,((aj (aq 2 sc_common_field.nd (aw J9 hr (ac (aw D' hr (ac (aa 0) ah)) (ac (aw D' hr (ac (aa 1) ah)) ah))))
   (aj (aT (jZ (aA (ai (aa 2) ag) (ai (aa 2) ag)) (eN K5)) (ar (so Od hx rfl (ac aC ah))) aM)
   (ar (ay (aa 2)))))),λds R RX e_ h=>?_⟩)
 .obtain⟨_,_,_,_,rfl,_⟩:=h;rfl
 .obtain⟨p,q,d,e,rfl,hd,he,g_,d5,hR⟩:=h;obtain⟨wd,d7,sd,fs,rfl,q1,q2,fam⟩:=hd;have hd:aO p (.obj "Pattern" fs):=#[wd,d7,sd,fs,rfl,q1,q2,fam];obtain⟨JU,o7,JV,i9,rfl,q3,q4,j_⟩:=he;have he:aO q (.obj "Pattern" i9):=#[JU,o7,JV,i9,rfl,q3,q4,j_];refine#[λx=>∃w h s,x=.tup [.int w,.int h,.int s]/\ComF p q w h s/\w*h<=518400,#[p,_,rfl,hd,g_,λw1 h1 s1 L1 Q9 a1 b1=>#[q,_,rfl,he,d5,λw2 h2 s2 L2 Mz a2 b2=>#[w1,h1,s1,w2,h2,s2,rfl,L1.f.w0,KK,L1.f.h0,KK,L1.f.s0,L1.f.sw,L2.f.w0,KK,L2.f.h0,KK,L2.f.s0,L2.f.sw,λw h s A M=>#[w,h,s,rfl,ComF.of L1 L2 M,M.le2 L1.f L2.f Q9 Mz]]]],?_];rintro _⟨w,h,s,rfl,C,wh⟩;k_places;have pl:=cr C.f.w0 C.f.h0;have w0:=C.f.w0;refine#[_,rfl,_,rfl,.inl #[KK,KK],ite2 (λc=>?_) (λc=>?_)]
  .have c':=of_decide_eq_true c;refine#[by show(1:Nat)<=1000;decide,?_];rw[e_];exact(hR w h s C).2 c'
  .have c':¬(720<w*h):=λz=>c (decide_eq_true z);exact(hR w h s C).1 KK
def Fz:SpD:=λds R=>∃(p q:Pat) (d e:D) (w h:Int),ds=[d,e,.int w,.int h]/\aO p d/\aO q e/\p.Ok/\q.Ok/\0<=w/\w<=720/\0<=h/\h<=720/\((∀x y:Int,0<=x->x<w->0<=y->y<h->p.show x y=q.show x y)->R .non)/\∀x y:Int,0<=x->x<w->0<=y->y<h->p.show x y≠q.show x y->(∀x' y':Int,0<=x'->x'<w->0<=y'->(y'<y\/(y'=y/\x'<x))->p.show x' y'=q.show x' y')->R (.tup [.int x,.int y])
abbrev pS(V:Bx):Prop:=V.D 9 "first_unlike" oR Fz
def FA(T:V.T "first_unlike" oQ oR)(uA:V.m "range")(uZ:gm V):pS V:=by
 refine Tx.okDW T sc_first_unlike (λds R h=>?_) (λf cdv A outer s H E J hr=>⟨_,((aj (bK 4 PassesOwn.never rfl sc_first_unlike.nd uA (aa 3) (ar (bK 5 PassesOwn.never rfl sc_first_unlike.nd uA (aa 2) (ar (aT (bT (aw (CalX.no uZ) hr (ac (aa 0) (ac (aa 5) (ac (aa 4) ah)))) (aw (CalX.no uZ) hr (ac (aa 1) (ac (aa 5) (ac (aa 4) ah))))) (ar (ay (aK (ac (aa 5) (ac (aa 4) ah))))) aM)))))
   (ar (ay bG)))),λds R h=>?_⟩)
 .obtain⟨_,_,_,_,_,_,rfl,_⟩:=h;rfl
 .obtain⟨p,q,d,e,w,h,rfl,hd,he,g_,d5,w0,w7,h0,h7,hN,hS⟩:=h;obtain⟨wd,d7,sd,fs,rfl,q1,q2,fam⟩:=hd;have hd:aO p (.obj "Pattern" fs):=#[wd,d7,sd,fs,rfl,q1,q2,fam];obtain⟨JU,o7,JV,i9,rfl,q3,q4,j_⟩:=he;have he:aO q (.obj "Pattern" i9):=#[JU,o7,JV,i9,rfl,q3,q4,j_];refine#[#[KK,KK],λk z=>∃o4 o5,z=[be (.obj "Pattern" fs),be (.obj "Pattern" i9),be (.int w),be (.int h),o4,o5]/\∀x y:Int,0<=x->x<w->0<=y->y<k->p.show x y=q.show x y,#[_,_,rfl,λx y _ _ a b=>KK],?_,?_]
  .rintro k v z hk⟨o4,o5,rfl,hj⟩;k_places;obtain⟨gV,rfl⟩:=bx hk;refine#[#[KK,KK],λi z=>∃o5,z=[be (.obj "Pattern" fs),be (.obj "Pattern" i9),be (.int w),be (.int h),be (.int k),o5]/\∀x:Int,0<=x->x<i->p.show x k=q.show x k,#[_,rfl,λx a b=>KK],?_,?_]
   .rintro i v z hi⟨o5,rfl,f8⟩;k_places;obtain⟨s9,rfl⟩:=bx hi;have nn:aI (i:Int)/\aI (k:Int):=#[#[KK,KK],KK,KK];refine#[p,_,i,k,rfl,hd,g_,λ_=>#[q,_,i,k,rfl,he,d5,λ_=>?_,λn=>n nn],λn=>n nn];refine ite2 (λc=>?_) (λc=>?_)
    .refine#[by show(2:Nat)<=1000;decide,hS i k KK KK KK KK (λz=>by simp[z]at c) λx' y' a b c d=>?_];rcases d with d|⟨rfl,d⟩
     .exact hj x' y' a b c KK
     .exact f8 x' a KK
    .have c':p.show i k=q.show i k:=by simpa using c
     refine#[_,rfl,λx a b=>?_];by_cases e:x=i
     .rw[e];exact c'
     .exact f8 x a KK
   .rintro z⟨o5,rfl,f8⟩;k_places;rw[bC]at f8;refine#[_,_,rfl,λx y a b c d=>?_];by_cases e:y=k
    .rw[e];exact f8 x a KK
    .exact hj x y a b c KK
  .rintro z⟨o4,o5,rfl,hj⟩;k_places;rw[bC]at hj;exact hN λx y a b c d=>hj x y a b c KK
def gv:SpX:=λds R RX=>∃(p q:Pat) (d e:D),ds=[d,e]/\aO p d/\aO q e/\p.Ok/\q.Ok/\∀w h s,ComF p q w h s->(720<w*h->RX "TooGreat" [])/\(w*h<=720->((∀x y:Int,p.show x y=q.show x y)->R .non)/\∀x y:Int,0<=x->x<w->0<=y->y<h->p.show x y≠q.show x y->(∀x' y':Int,0<=x'->x'<w->0<=y'->(y'<y\/(y'=y/\x'<x))->p.show x' y'=q.show x' y')->R (.tup [.int x,.int y]))
abbrev jC(V:Bx):Prop:=V.X 13 "first_parting" oU gv
def FB(T:V.T "first_parting" oS oU)(Oe:pR V)(Of:pS V):jC V:=by
 refine Tx.okXW T sc_first_parting (λds R RX h=>?_) (λf cdv A outer s H E J hr hx=>⟨_,((aj (aq 2 sc_first_parting.nd (fS Oe hx hr (ac (aa 0) (ac (aa 1) ah))))
   (ar (ay (aw Of hr (ac (aa 0) (ac (aa 1) (ac (ai (aa 2) ag) (ac (ai (aa 2) ag) ah))))))))),λds R RX e_ h=>?_⟩)
 .obtain⟨_,_,_,_,rfl,_⟩:=h;rfl
 .obtain⟨p,q,d,e,rfl,hd,he,g_,d5,hR⟩:=h;obtain⟨wd,d7,sd,fs,rfl,q1,q2,fam⟩:=hd;have hd:aO p (.obj "Pattern" fs):=#[wd,d7,sd,fs,rfl,q1,q2,fam];obtain⟨JU,o7,JV,i9,rfl,q3,q4,j_⟩:=he;have he:aO q (.obj "Pattern" i9):=#[JU,o7,JV,i9,rfl,q3,q4,j_];refine#[λx=>∃w h s,x=.tup [.int w,.int h,.int s]/\ComF p q w h s/\w*h<=720,#[p,q,_,_,rfl,hd,he,g_,d5,λw h s C=>#[λwh=>#[w,h,s,rfl,C,wh],λwh=>by rw[e_];exact(hR w h s C).1 wh]],?_];rintro _⟨w,h,s,rfl,C,wh⟩;k_places;have pl:=cr C.f.w0 C.f.h0;have w0:=C.f.w0;have h0:=C.f.h0;obtain⟨r1,r2⟩:=(hR w h s C).2 wh;exact#[_,rfl,_,rfl,p,q,_,_,w,h,rfl,hd,he,g_,d5,KK,KK,KK,KK,λe=>r1 λx y=>C.all e x y,r2]
def FC:SpD:=λds R=>∃(p q:Pat) (d e t b:D),ds=[d,e,t,b]/\aO p d/\aO q e/\p.Ok/\q.Ok/\Due p q t b/\R (.bl true)
abbrev vz(V:Bx):Prop:=V.Ek ["MotifError","WrongSign","OneLine","TooGreat","TooFar"]
abbrev pT(V:Bx):Prop:=V.D 14 "_law_both_asked" oW FC
def FD(T:V.T "_law_both_asked" oV oW)(uJ:V.m "isinstance")(K6:V.m "bool")(K_:jB V)(La:jC V)(C_:gq V)(ek:vz V):pT V:=by
 refine Tx.okDW T sc__law_both_asked (λds R h=>?_) (λf cdv A outer s H E J hr=>⟨_,((aj (aq 4 sc__law_both_asked.nd (aw K_ hr (ac (aa 0) (ac (aa 1) ah))))
   (aj (aT (de (db (cE (bN (df uJ K6 (aa 4) PyProof.Rows.boot_bool kit_bool))) (dI (bT (aa 4) (jY (aa 2) bG))))) (ar (ay ce)) aM)
   (aj (aq 5 sc__law_both_asked.nd bG)
   (aj (zK (λpn xe J hp hx=>(ar (aq 5 sc__law_both_asked.nd (fS La hx hr (ac (aa 0) (ac (aa 1) ah)))))) (zw ek (λe=>(ar (aq 5 sc__law_both_asked.nd (aK (ac aC ah))))) zv))
   (aj (aT (gJ (aa 3) bG) (ar (ay (tm (gD hr) (aa 5) (aK (ac aC ah))))) aM)
   (aj (aT (gJ (aa 2) bG) (ar (ay (jY (aa 5) bG))) aM)
   (ar (ay (aw C_ hr (ac (aa 5) (ac (aa 2) ah)))))))))))),λds R h=>?_⟩)
 .obtain⟨_,_,_,_,_,_,rfl,_⟩:=h;rfl
 .obtain⟨p,q,d,e,t,b,rfl,hd,he,g_,d5,du,hR⟩:=h;obtain⟨wd,d7,sd,fs,rfl,q1,q2,fam⟩:=hd;have hd:aO p (.obj "Pattern" fs):=#[wd,d7,sd,fs,rfl,q1,q2,fam];obtain⟨JU,o7,JV,i9,rfl,q3,q4,j_⟩:=he;have he:aO q (.obj "Pattern" i9):=#[JU,o7,JV,i9,rfl,q3,q4,j_];refine#[λx=>∃b:Bool,x=.bl b/\(b=true↔∀x y,p.show x y=q.show x y),#[p,q,_,_,rfl,hd,he,g_,d5,λb hb=>#[b,rfl,hb]],?_];rintro _⟨u,rfl,hu⟩;k_places;have fp:∀(R:D->Prop) (RX:E_->List (E_×D)->Prop),(b=.non->RX "TooGreat" [])->(b≠.non->R t)->gv [.obj "Pattern" fs,.obj "Pattern" i9] R RX:=λR RX hx hy=>by
   refine#[p,q,_,_,rfl,hd,he,g_,d5,λw' h' s' C=>?_];cases du with
   |big c b n=>
    obtain⟨rfl,rfl,rfl⟩:=C.uniq c;exact#[λ_=>hx rfl,λz=>absurd z Kd]
   |same c b e=>
    obtain⟨rfl,rfl,rfl⟩:=C.uniq c;exact#[λz=>absurd z Kd,λ_=>#[λ_=>hy (λz=>nomatch z),λx y _ _ _ _ ne _=>absurd (e x y) ne]]
   |part c b f=>
    obtain⟨rfl,rfl,rfl⟩:=C.uniq c;refine#[λz=>absurd z Kd,λ_=>#[λe=>absurd (e _ _) f.ne,λx y a b c d ne bf=>?_]];obtain⟨rfl,rfl⟩:=f.uniq #[a,b,c,d,ne,bf];exact hy λz=>nomatch z
  cases du with
  |big c b n=>
   obtain rfl:u=false:=by cases u with|false=>rfl|true=>exact absurd (hu.mp rfl _ _) n
   refine#[λx=>x=.non,rfl,?_];rintro _ rfl;k_places;refine#[λz x m8=>z=[be (.obj "Pattern" fs),be (.obj "Pattern" i9),be (.tup [.int 0,.int 0]),be .non,be (.bl false),be .non]/\x="TooGreat",λJ' hJ=>#[λ_=>False,?_,λ_ z=>z.elim],?_]
   .show gv [.obj "Pattern" fs,.obj "Pattern" i9] (λ_=>False) (J'.RX _);rw[hJ];exact fp _ _ (λ_=>#[rfl,rfl]) λz=>absurd rfl z
   rintro z x m8⟨rfl,rfl⟩;k_places;refine#[#[Kj,Kj],?_];rw[if_pos Kl];refine#[λx=>x=.tup [.str "great"],#[by show(1:Nat)<=1000;decide,rfl],?_];rintro _ rfl;k_places;exact#[by show(1:Nat)<=1000;decide,rfl,hR]
  |same c b e=>
   obtain rfl:u=true:=hu.mpr e;refine#[λx=>x=.non,rfl,?_];rintro _ rfl;k_places;refine#[λ_ _ _=>False,λJ' hJ=>#[λx=>x=.non,?_,?_],λ_ _ _ z=>z.elim]
   .show gv [.obj "Pattern" fs,.obj "Pattern" i9] (λx=>x=.non) (J'.RX _);rw[hJ];exact fp _ _ (λz=>nomatch z) λ_=>rfl
   rintro _ rfl;k_places;exact hR
  |@part w h s X Y c b f=>
   obtain rfl:u=false:=by cases u with|false=>rfl|true=>exact absurd (hu.mp rfl _ _) f.ne
   refine#[λx=>x=.non,rfl,?_];rintro _ rfl;k_places;refine#[λ_ _ _=>False,λJ' hJ=>#[λx=>x=.tup [.int X,.int Y],?_,?_],λ_ _ _ z=>z.elim]
   .show gv [.obj "Pattern" fs,.obj "Pattern" i9] (λx=>x=.tup [.int X,.int Y]) (J'.RX _);rw[hJ];exact fp _ _ (λz=>nomatch z) λ_=>rfl
   rintro _ rfl;k_places;exact#[[_,_],rfl,by show(2:Nat)<=1000;decide,hR]
def FE{fa:KF}{fd:R4}(F:Fun V.K "law" "law" dD fa fd)(uA:V.m "range")(uB:V.m "len")(uU:V.m "min")(MB:pk V)(uX:jd V)(Og:pp V)(KZ:ji V)(Oh:pr V)(MC:pw V)(KY:jh V)(Oi:pz V)(MD:pI V)(JN:gh V)(MF:pJ V)(Oj:pN V)(C_:gq V)(D':gu V)(Ol:pQ V)(KE:jA V)(Om:pT V)(La:jC V)(K_:jB V)(uM:V.a "Pattern" "shifts")(K3:V.a "Pattern" "text"):FnOk V.P V.w V.K V.mg V.base (Exc.CX1 V.P V.w) 19 fa fd oX (lSp V.K eJ):=by
  refine Fun.okDW F sc_law (λds R h=>?_) (λcdv A outer s H E J hr=>⟨_,((aj (fM 1 sc_law.nd (ac (aw MB hr (ac (aa 0) (ac ag ah))) (ac (aw MB hr (ac (aa 0) (ac ag ah))) ah)))
      (aj (cx (bp (az (aw uX hr (ac (aa 0) (ac ag ah))) ag) ag) (aj (aq 2 sc_law.nd (aN (aw uX hr (ac (aa 0) (ac ag ah))) ag))
        (ar (gS 1 (aw Og hr (ac (bU 1 ag) (ac (aN (aa 2) ag) (ac (ai aC (az (aa 2) ag)) ah)))) ag))) aM)
      (dh 1 (aj (aq 3 sc_law.nd (zi rfl (compScope Km) (aa 1) (λcl s0 H0 fp=>(aw KZ hr (ac (ai (aa 16) ag) ah)))))
      (aj (aq 4 sc_law.nd (gR rfl (compScope Km) uA ag (λcl s0 H0 fp=>(aw Oh hr (ac (aw MC hr (ac (ai (ai (aa 1) (aa 16)) ag) (ac (ai (aa 3) (aa 16)) ah))) (ac (ai (aa 3) (aa 16)) ah))))))
      (aj (km 5 rfl (compScope Km) sc_law.nd uA ag (λcl s0 H0 fp=>(aw MC hr (ac (ai (ai (aa 1) (aa 16)) ag) (ac (ai (aa 4) (aa 16)) ah)))))
      (aj (aq 6 sc_law.nd (aw KY hr (ac (ai (aa 4) ag) (ac (ai (aa 4) ag) ah))))
      (aj (aq 7 sc_law.nd (aK (ac ag (ac ag ah))))
      (aj (cx (rJ (aa 6) bG) (ar (aq 7 sc_law.nd (aw Oi hr (ac (ai (ai (aa 1) ag) ag) (ac (ai (ai (aa 1) ag) ag) (ac (aa 6) ah)))))) aM)
      (aj (De 8 rfl (compScope Km) sc_law.nd (aa 1) (λcl s0 H0 fp=>(aw (CalX.no MD) hr (ac (ai (aa 16) ag) ah))))
      (aj (aq 9 sc_law.nd (aw JN hr (ac (aa 0) (ac ag (ac (au ag (az (aw uX hr (ac (aa 0) (ac ag ah))) ag)) ah)))))
      (aj (bK 10 PassesOwn.never rfl sc_law.nd uA (bH uB (ac (aa 9) ah)) (aj (aq 11 sc_law.nd (az (ai (aa 9) (aa 10)) ag))
        (aj (aq 12 sc_law.nd (az (aN (ai (aa 9) (aa 10)) ag) ag))
        (aj (aq 13 sc_law.nd (ki rfl uU (ac (aw MF hr (ac (aw uX hr (ac (aa 0) (ac (au ag (aa 10)) ah))) ah)) (ac (aX (cY ag ag) ag) ah))))
        (aj (aq 14 sc_law.nd (ki rfl uU (ac (aw MF hr (ac (aw uX hr (ac (aa 0) (ac (aX ag (aa 10)) ah))) ah)) (ac (aX (cY ag ag) ag) ah))))
        (aj (cx (dH (aa 12) ag) (ar (aq 15 sc_law.nd (aw Oj hr (ac (bU 8 (aa 11)) (ac (ai (ai (aa 1) (aa 11)) ag) (ac (aa 12) (ac (aa 13) (ac (aa 14) (ac (aN (ai (aa 9) (aa 10)) ag) ah))))))))) (ar (cx (bp (aa 12) ag) (ar (aq 15 sc_law.nd (aw C_ hr (ac (aw D' hr (ac (bU 8 (aa 11)) ah)) (ac (ai (aa 4) (aa 11)) ah))))) (ar (cx (bp (aa 12) ag) (ar (aq 15 sc_law.nd (aw Ol hr (ac (aw KE hr (ac (bU 8 (aa 11)) ah)) (ac (ai (aa 4) (aa 11)) (ac (ai (aa 5) (aa 11)) ah)))))) (ar (cx (bp (aa 12) ag) (ar (aq 15 sc_law.nd (aw Om hr (ac (bU 8 (aa 11)) (ac (bU 8 (aX ag (aa 11))) (ac (aa 7) (ac (aa 6) ah))))))) (aj (gS 8 (aw (CalX.no MD) hr (ac (ai (ai (aa 1) (aa 11)) ag) ah)) (aa 11))
             (ar (aq 15 sc_law.nd (cR (cv (eM K3 (bU 8 (aa 11))) (ai (ai (aa 1) (aa 11)) ag)) (cQ (aw C_ hr (ac (eM uM (bU 8 (aa 11))) (ac (ai (aa 3) (aa 11)) ah)))))))))))))))
        (ar (aT (cE (bN (aa 15))) (ar (ay ce)) aM))))))))
      (ar (ay (cR (AT (aw K_ hr (ac (bU 8 ag) (ac (bU 8 ag) ah))) ce) (cQ (jY (aw (CalX.no La) hr (ac (bU 8 ag) (ac (bU 8 ag) ah))) bG)))))))))))))))))),λds R h=>?_⟩)
  . obtain⟨ns,rfl,_⟩:=h;rfl
  . obtain⟨ns,rfl,hl,hR⟩:=h;refine#[ns,3,rfl,Kj,λp g_=>#[ns,23,rfl,Kj,λq d5=>#[by show(2:Nat)<=1000;decide,?_]]];refine#[λz=>∃(P:Nat->Pat) (o:Option D),z=[be (.rol (ns.map D.int)),be (.own [(P 0).D,(P 1).D]),o,s_,s_,s_,s_,s_,s_,s_,s_,s_,s_,s_,s_,s_]/\∀k,(P k).Ok,#[ns,0,rfl,Kj,Kj,ite2 (λ_=>?_) λ_=>#[λk=>if k=0 then p else q,_,rfl,λk=>by dsimp only;split<;>assumption]],?_]
    . refine#[λd=>d=.int (cell ns 0/2),#[ns,0,rfl,Kj,Kj,rfl],?_];rintro _ rfl;k_places;obtain⟨c,hc,L8⟩:=DV (cell ns 0/2);exact#[_,rfl,#[Kj,Kj],Kj,c,#[Kj,hc],p,_,c,rfl,g_,L8,λq d5=>#[1,rfl,λk=>if k=0 then p else q,_,rfl,λk=>by dsimp only;split<;>assumption]]
    clear g_ d5 p q;rintro _⟨P,o2,rfl,ok⟩;k_places;refine#[λx=>∃f:Nat->D,x=.lst [f 0,f 1]/\∀k,k<2->FamD (P k) (f k),#[by show(2:Nat)<=100000;decide,λk ys=>Upto (λk=>FamD (P k)) ys,Upto.nil,λk x ys hk hy h=>?_,λys hy h=>?_],?_]
    . obtain⟨gV,rfl⟩:=two_at (λk=>(P k).D) hk;refine#[_,rfl,?_];exact CP (R:=λy=>Upto (λk=>FamD (P k)) (ys++[y])) (ok k) λw h' s F a b c=>h.next hy #[w,h',s,rfl,F,a,b,c]
    . obtain⟨f,rfl,hf⟩:=h.two hy;exact#[f,rfl,hf]
    rintro _⟨f,rfl,hf⟩;k_places;refine#[λx=>∃l:Nat->D,x=.lst [l 0,l 1]/\∀k,k<2->vb (P k) (l k),#[#[Kj,Kj],Kj,λk ys=>Upto (λk=>vb (P k)) ys,Upto.nil,λk x ys hk hy h=>?_,λys hy h=>?_],?_]
    . obtain⟨gV,rfl⟩:=bx hk;have JT:k<2:=by lia
      obtain⟨w,h',s,e,F,wh,w7,h7⟩:=hf k JT;have ef:=at2 f JT;rw[e]at ef;exact#[_,at2 (λk=>(P k).D) JT,_,rfl,_,ef,P k,w,h',s,rfl,(ok k).wf,(ok k).deep,F.f.w0,w7,F.f.h0,h7,_,ef,P k,w,h',s,rfl,ok k,F.k,w7,h7,λw' O3 s' L a b c=>h.next hy #[w',O3,s',rfl,L,Kd,Kd,Kd]]
    . obtain⟨l,rfl,hl⟩:=h.two hy;exact#[l,rfl,hl]
    rintro _⟨l,rfl,Kg⟩;k_places;refine#[λx=>∃n:Nat->D,x=.lst [n 0,n 1]/\∀k,k<2->LnD (P k) (l k) (n k),#[#[Kj,Kj],Kj,λk ys=>Upto (λk=>LnD (P k) (l k)) ys,Upto.nil,λk x ys hk hy h=>?_,λys hy h=>?_],?_]
    . obtain⟨gV,rfl⟩:=bx hk;have JT:k<2:=by lia
      obtain⟨w,h',s,e,L,wh,w7,h7⟩:=Kg k JT;have ef:=at2 l JT;rw[e]at ef;exact#[_,at2 (λk=>(P k).D) JT,_,rfl,_,ef,P k,w,h',s,rfl,(ok k).wf,(ok k).deep,L.f.w0,w7,L.f.h0,h7,h.next hy #[w,h',s,e,rfl,L,wh,w7,h7]]
    . obtain⟨n,rfl,hn⟩:=h.two hy;exact#[n,rfl,hn]
    rintro _⟨n,rfl,hn⟩;k_places;clear Kg;obtain⟨w,h,s,el,en,L,wh,w7,h7⟩:=hn 0 Kj;obtain⟨w',h',s',Q_,Qr,L',RJ,RK,RL⟩:=hn 1 Kj;have pl:=cr L.f.w0 L.f.h0;have Ra:=cr L'.f.w0 L'.f.h0;refine#[λx=>(∃w h s,x=.tup [.int w,.int h,.int s]/\ComF (P 0) (P 1) w h s/\w*h<=720)\/(x=.non/\∃w h s,ComF (P 0) (P 1) w h s/\720<w*h),#[_,rfl,_,rfl,w,h,s,w',h',s',by rw[el,Q_],#[L.f.w0,Kd,L.f.h0,Kd,L.f.s0,L.f.sw],#[L'.f.w0,Kd,L'.f.h0,Kd,L'.f.s0,L'.f.sw],λw2 h2 s2 A M=>#[λwh=>.inl #[w2,h2,s2,rfl,ComF.of L L' M,wh],λbig=>.inr #[rfl,w2,h2,s2,ComF.of L L' M,big]]],?_];rintro b hb;refine#[λd=>d=.tup [.int 0,.int 0],#[by show(2:Nat)<=1000;decide,rfl],?_];rintro _ rfl;k_places;refine#[λz=>∃t,z=[be (.rol (ns.map D.int)),be (.lst [(P 0).D,(P 1).D]),o2,be (.lst [f 0,f 1]),be (.lst [l 0,l 1]),be (.lst [n 0,n 1]),be b,be t,s_,s_,s_,s_,s_,s_,s_,s_]/\Due (P 0) (P 1) t b,?_,?_]
    . rcases hb with⟨w2,h2,s2,rfl,C,Mz⟩|⟨rfl,w2,h2,s2,C,big⟩
      . have RN:=cr C.f.w0 C.f.h0;refine#[λt=>Due (P 0) (P 1) t (.tup [.int w2,.int h2,.int s2]),#[_,rfl,_,rfl,_,rfl,_,rfl,P 0,P 1,w2,h2,s2,rfl,ok 0,ok 1,C.f.w0,Kd,C.f.h0,Kd,λe=>.same C Mz (C.all e),λx y a b c d ne bf=>.part C Mz #[a,b,c,d,ne,bf]],λt ht=>#[t,rfl,ht]]
      . by_cases e:∀x y,(P 0).show x y=(P 1).show x y
        . have kk:∀X Y,(P 1).Keeps X Y↔(P 0).Keeps X Y:=λX Y=>by
            unfold Pat.Keeps;simp only[e]
          obtain⟨rfl,rfl,_⟩:=L.uniq #[C.f,λx y=>(C.lat x y).trans #[λz=>z.1,λz=>#[z,(kk x y).mpr z]]];lia
        . obtain⟨x,e⟩:=Classical.not_forall.mp e;obtain⟨y,e⟩:=Classical.not_forall.mp e;exact#[_,rfl,.big C big e]
    clear hb pl Ra;rintro _⟨t,rfl,On⟩;k_places;refine#[by show(2:Nat)<=100000;decide,λk ys=>Upto (λk=>aO (P k)) ys,Upto.nil,λk x ys hk hy h=>?_,λms hm um=>?_]
    . obtain⟨gV,rfl⟩:=two_at (λk=>(P k).D) hk;exact#[_,rfl,ut (ok k) λd hd=>h.next hy hd]
    replace hm:ms.length=2:=hm;obtain⟨m,em,m1,m2⟩:∃m:Nat,1+cell ns 2%20=(m:Int)/\1<=m/\m<=20:=#[(1+cell ns 2%20).toNat,Kd,Kd,Kd];refine#[λx=>∃xs:List Int,x=.lst (xs.map D.int)/\xs.length<=20/\Drawn xs,#[ns,2,rfl,Kj,Kj,ns,1,m,by rw[<-em],Kj,Kd,λxs a b=>#[xs,rfl,Kd,b]],?_];rintro _⟨xs,rfl,RO,dr⟩;k_places;refine#[#[by rw[FP];lia,by rw[FP];lia],λk z=>∃ms m6 w9 w_ m4 m5 Kw,z=[be (.rol (ns.map D.int)),be (.lst [(P 0).D,(P 1).D]),o2,be (.lst [f 0,f 1]),be (.lst [l 0,l 1]),be (.lst [n 0,n 1]),be b,be t,be (.own ms),be (.lst (xs.map D.int)),m6,w9,w_,m4,m5,Kw]/\ms.length=2/\Upto (λk=>aO (P k)) ms,#[ms,_,_,_,_,_,_,rfl,hm,um],?_,?_]
    . clear hm um ms;rintro i v z hi⟨ms,m6,w9,w_,m4,m5,Kw,rfl,hm,um⟩;k_places;obtain⟨s9,rfl⟩:=bx hi;rw[FP]at s9;have ax:atI (xs.map D.int) (i:Int)=be (.int (cell xs i)):=kN Kd Kd;obtain⟨v0,v5⟩:=dr.at i;generalize cell xs i=v at ax v0 v5;refine#[λx=>x=.int (v%2),#[_,ax,Kj,rfl],?_];rintro _ rfl;k_places;refine#[λx=>x=.int (v/2%7),#[_,ax,#[Kj,Kj],Kj,rfl],?_];rintro _ rfl;k_places;obtain⟨k,ek,k2⟩:∃k:Nat,v%2=(k:Int)/\k<2:=#[(v%2).toNat,Kd,Kd];rw[ek];generalize v/2%7=kd;have co:∀c:Int,-1000000000000<=c->c<=1000000000000->-1000000000000<=(if 999999999981<c then 999999999981 else c)/\(if 999999999981<c then 999999999981 else c)<=999999999981:=λc a b=>by split<;>lia
      refine#[λx=>∃X:Int,x=.int X/\-1000000000000<=X/\X<=999999999981,#[ns,_,rfl,Kd,_,rfl,λc a b=>?_],?_]
      . exact#[#[Kj,Kj,Kj],_,rfl,co c a b]
      rintro _⟨X,rfl,hX⟩;k_places;refine#[λx=>∃X:Int,x=.int X/\-1000000000000<=X/\X<=999999999981,#[ns,_,rfl,Kd,_,rfl,λc a b=>?_],?_]
      . exact#[#[Kj,Kj,Kj],_,rfl,co c a b]
      rintro _⟨Y,rfl,hY⟩;k_places;obtain⟨d,ad,hd⟩:=um.at2 hm k2;have aP:=at2 (λk=>(P k).D) k2;have al:=at2 l k2;obtain⟨w,h,s,el,en,L,-,-,h7⟩:=hn k k2;obtain⟨G,hG⟩:∃G:SD->Prop,G=(λz=>∃ms,z=[be (.rol (ns.map D.int)),be (.lst [(P 0).D,(P 1).D]),o2,be (.lst [f 0,f 1]),be (.lst [l 0,l 1]),be (.lst [n 0,n 1]),be b,be t,be (.own ms),be (.lst (xs.map D.int)),be (.int i),be (.int k),be (.int kd),be (.int X),be (.int Y),be (.bl true)]/\ms.length=2/\Upto (λk=>aO (P k)) ms):=#[_,rfl];have tr:∀x,x=D.bl true->G [be (.rol (ns.map D.int)),be (.lst [(P 0).D,(P 1).D]),o2,be (.lst [f 0,f 1]),be (.lst [l 0,l 1]),be (.lst [n 0,n 1]),be b,be t,be (.own ms),be (.lst (xs.map D.int)),be (.int i),be (.int k),be (.int kd),be (.int X),be (.int Y),be x]:=λx e=>by rw[hG,e];exact#[ms,rfl,hm,um]
      refine#[G,ite2 (λ_=>#[λx=>x=.bl true,#[d,ad,_,aP,_,rfl,_,ax,#[Kj,Kj],P k,d,kd,X,Y,_,rfl,hd,ok k,hX,hY,Kd,Kd,rfl],tr]) λ_=>#[G,ite2 (λ_=>#[λx=>x=.bl true,#[d,ad,P k,d,rfl,hd,ok k,λw' h' s' L' _ _ _=>?_],tr]) λ_=>#[G,ite2 (λ_=>#[λx=>x=.bl true,#[d,ad,P k,d,rfl,hd,ok k,λw' h' s' L' _ _ _=>?_],tr]) λ_=>#[G,ite2 (λ_=>#[λx=>x=.bl true,?_,tr]) λ_=>?_,λ_ h=>h],λ_ h=>h],λ_ h=>h],?_]
      . obtain⟨rfl,rfl,rfl⟩:=L.uniq L';exact#[_,al,[w,h,s],by rw[el];rfl,by show(3:Nat)<=1000;decide,rfl]
      . obtain⟨rfl,rfl,rfl⟩:=L.uniq L';exact#[_,al,_,at2 n k2,P k,w,h,s,by rw[el,en],by have:=L.f.h0;lia,h7,rfl]
      . obtain⟨e,ae,he⟩:=um.at2 hm (k:=1-k) Kd;rw[show((1-k:Nat):Int)=1-(k:Int)by lia]at ae;have du:Due (P k) (P (1-k)) t b:=by
          rcases(Kd:k=0\/k=1)with rfl|rfl
          . exact On
          . exact On.symm
        clear tr hG;cases On<;>exact#[d,ad,e,ae,P k,P (1-k),d,e,_,_,rfl,hd,he,ok _,ok _,du,rfl]
      . refine#[_,aP,_,rfl,ut (ok k) ?_];rintro _⟨wd,d7,sd,fs,rfl,e1,e2,fam⟩;k_places;have is:aO (P k) (.obj "Pattern" fs):=#[wd,d7,sd,fs,rfl,e1,e2,fam];obtain⟨w2,h2,s2,ef,F,-⟩:=hf k k2;obtain⟨rfl,rfl,rfl⟩:=fam.toFam.uniq F;have af:=at2 f k2;have am:atI (ms.set k (.obj "Pattern" fs)) (k:Int)=be (.obj "Pattern" fs):=bF (by rw[Gx Kd]);refine#[k,by rw[hm];rcases(Kd:k=0\/k=1)with rfl|rfl<;>rfl,λx=>x=.bl true,#[_,am,rfl,_,e1,_,aP,_,rfl,?_],?_]
        . refine ite2 (λ_=>#[_,am,rfl,_,e2,_,af,[wd,d7,sd],by rw[ef];rfl,by show(3:Nat)<=1000;decide,rfl]) λc=>absurd (decide_eq_true rfl) c
        . rintro _ rfl;k_places;rw[hG];exact#[_,rfl,by rw[GC];exact hm,um.set is]
      . rw[hG];rintro _⟨ms,rfl,hm,um⟩;k_places;exact#[ms,_,_,_,_,_,_,rfl,hm,um]
    . rintro z⟨ms,m6,w9,w_,m4,m5,Kw,rfl,hm,um⟩;k_places;obtain⟨d,ad,hd⟩:=um.at2 hm (k:=0) Kj;obtain⟨e,ae,he⟩:=um.at2 hm (k:=1) Kj;refine#[d,ad,d,ad,P 0,P 0,d,d,rfl,hd,hd,ok 0,ok 0,λb hb=>?_];obtain rfl:b=true:=hb.mpr λ_ _=>rfl;refine#[e,ae,e,ae,P 1,P 1,e,e,rfl,he,he,ok 1,ok 1,λw2 h2 s2 C=>?_];obtain⟨rfl,rfl,_⟩:=L'.uniq #[C.f,λx y=>(C.lat x y).trans #[λz=>z.1,λz=>#[z,z]]];exact#[λz=>Kd,λ_=>#[λ_=>hR,λx y _ _ _ _ ne _=>absurd rfl ne]]
end
abbrev FF:P3:=bt (top 2) 0
abbrev FG:P3:=bt (top 3) 0
local macro_rules | `(tactic| walk_at "b1") => `(tactic| exact AE λ_ _ _ _ _ _ _ => rfl)
local macro_rules | `(tactic| walk_at "b2") => `(tactic| exact bind2 λ_ _ _ _ _ _ _ _ => rfl)
local macro_rules | `(tactic| walk_at "b3") => `(tactic| exact bind3 λ_ _ _ _ _ _ _ _ _ => rfl)
local macro_rules | `(tactic| walk_at "b4") => `(tactic| exact bind4 λ_ _ _ _ _ _ _ _ _ _ => rfl)
local macro_rules | `(tactic| walk_at "b5") => `(tactic| exact bind5 λ_ _ _ _ _ _ _ _ _ _ _ => rfl)
local macro_rules | `(tactic| walk_at "b6") => `(tactic| exact bind6 λ_ _ _ _ _ _ _ _ _ _ _ _ => rfl)
structure TopIn(K:Ex):Prop where
 uHF:FnIn K "_law_at" kX
 uHC:FnIn K "_law_draws" kZ
 uHJ:FnIn K "_law_lines" lh
 uGN:FnIn K "_law_shift_pair" lp
 uJV:FnIn K "_law_motif_text" lu
 uEM:FnIn K "_law_motif" ly
 uFT:FnIn K "_law_wrapped" im
 uJZ:FnIn K "_law_gcd" lD
 uGL:FnIn K "_law_on" lG
 uEV:FnIn K "_law_leaf_family" lJ
 uJL:FnIn K "_law_in_family" lL
 uHD:FnIn K "_law_both" lN
 uEP:FnIn K "_law_family" lQ
 uIE:FnIn K "_law_over" lU
 uIX:FnIn K "_law_pattern" lW
 uFQ:FnIn K "_law_respelled" lY
 uEQ:FnIn K "_law_keeps" ma
 uHQ:FnIn K "_law_least" mf
 uJU:FnIn K "_law_leaf_shows" mj
 uIN:FnIn K "_law_shows" mn
 uHU:FnIn K "_law_table" io
 uFZ:FnIn K "_law_unlike" mv
 uJT:FnIn K "line_from" mF
 uFX:FnIn K "lines_from" mH
 uFI:FnIn K "number_from" mJ
 uFP:FnIn K "shift_from" mL
 uJB:FnIn K "levelled" mN
 uIM:FnIn K "spread" mQ
 uGM:FnIn K "home" mU
 uJP:FnIn K "hues_by_home" mW
 uHP:FnIn K "motif_from" nh
 uJX:FnIn K "over_from" ip
 uEN:FnIn K "shifted_from" iq
 uGE:FnIn K "rehue_from" ir
 uEY:FnIn K "form_from" iu
 uHS:FnIn K "measure" nH
 uGC:FnIn K "met" nJ
 uGY:FnIn K "mirrored" nM
 uFS:FnIn K "turned" nO
 uEJ:FnIn K "read" nQ
 uIY:FnIn K "_law_coordinate" nS
 uET:FnIn K "refuse_far" nV
 uEH:FnIn K "cell_at" nX
 uHV:FnIn K "_law_whole" nZ
 uJO:FnIn K "row_from" iU
 uHH:FnIn K "field_rows" iV
 uJG:FnIn K "round_row" oi
 uIQ:FnIn K "count_sign" ol
 uHA:FnIn K "count_all" iW
 uFG:FnIn K "count_hue" ot
 uJK:FnIn K "_law_spot_asked" iX
 uFN:FnIn K "_law_numbers" oy
 uHB:FnIn K "measures" iY
 uGK:FnIn K "changes_nothing" oB
 uEX:FnIn K "least_width" iZ
 uFA:FnIn K "slant_at" oF
 uFO:FnIn K "least_shifts" ja
 uFV:FnIn K "_law_form_is" oI
 uGH:FnIn K "least_form" jb
 uFH:FnIn K "one_pattern" oM
 uIZ:FnIn K "common_field" oO
 uGR:FnIn K "first_unlike" oQ
 uFB:FnIn K "first_parting" oS
 uHK:FnIn K "_law_both_asked" oV
 uGD:FnIn K "law" dD
 uJN:NnIn K "len"
 uJW:NnIn K "range"
 uJD:NnIn K "int"
 uGU:NnIn K "str"
 uEK:NnIn K "list"
 uIO:NnIn K "abs"
 uHY:NnIn K "max"
 uIC:NnIn K "enumerate"
 uEI:NnIn K "isinstance"
 uIG:NnIn K "bool"
 uHN:NnIn K "min"
 uHR:NnIn K "tuple"
 uCG:ClIn K "Reading"
 uBQ:ClIn K "Motif"
 uCM:ClIn K "Mirror"
 uDF:ClIn K "Turn"
 uBX:ClIn K "Over"
 uBU:ClIn K "Shifted"
 uBN:ClIn K "Rehue"
 uCV:ClIn K "Pattern"
 uHI:InIn K "Motif" "Motif.__init__" mZ
 uHZ:InIn K "Mirror" "Mirror.__init__" nq
 uIL:InIn K "Turn" "Turn.__init__" nu
 uIK:InIn K "Over" "Over.__init__" nw
 uIP:InIn K "Shifted" "Shifted.__init__" nz
 uGA:InIn K "Rehue" "Rehue.__init__" nB
 uGJ:InIn K "Reading" "Reading.__init__" nD
 uHX:InIn K "Pattern" "Pattern.__init__" nF
 uJC:MtIn K "Reading" "may_take" "Reading.may_take" mz
 uJJ:MtIn K "Reading" "take" "Reading.take" mC
 uGX:MtIn K "Motif" "family" "Motif.family" iy
 uJY:MtIn K "Over" "family" "Over.family" iz
 uKA:MtIn K "Shifted" "family" "Shifted.family" iB
 uFF:MtIn K "Mirror" "family" "Mirror.family" iD
 uJA:MtIn K "Turn" "family" "Turn.family" iF
 uIJ:MtIn K "Rehue" "family" "Rehue.family" iH
 uIH:MtIn K "Motif" "shows" "Motif.shows" iJ
 uIR:MtIn K "Over" "shows" "Over.shows" iK
 uJI:MtIn K "Shifted" "shows" "Shifted.shows" iM
 uHL:MtIn K "Mirror" "shows" "Mirror.shows" iO
 uFE:MtIn K "Turn" "shows" "Turn.shows" iQ
 uHE:MtIn K "Rehue" "shows" "Rehue.shows" iS
 uIW:NoIn K "Reading" "text"
 uHT:NoIn K "Reading" "place"
 uJH:NoIn K "Motif" "place"
 uIB:NoIn K "Motif" "shifts"
 uIA:NoIn K "Motif" "hues"
 uGQ:NoIn K "Mirror" "form"
 uEO:NoIn K "Turn" "form"
 uFU:NoIn K "Over" "above"
 uII:NoIn K "Over" "below"
 uFD:NoIn K "Shifted" "form"
 uHW:NoIn K "Shifted" "x"
 uGT:NoIn K "Shifted" "y"
 uEG:NoIn K "Rehue" "form"
 uER:NoIn K "Rehue" "old"
 uIT:NoIn K "Rehue" "new"
 uGG:NoIn K "Pattern" "text"
 uIV:NoIn K "Pattern" "shifts"
 uEU:NoIn K "Pattern" "form"
 uFY:CsIn K "SIGNS" ".123456"
 uGO:CiIn K "LONGEST" 8
 uJS:CiIn K "DEEP" 5
 uFJ:CiIn K "MOST" 720
 uEW:CiIn K "FAR" 1000000000000
 eb:EbIn K
 uFR:E1In K "WrongSign" "WrongSign.__init__" FF
 uFW:E1In K "OneLine" "OneLine.__init__" FG
 uEC:E0In K "TooGreat"
 uDZ:E0In K "TooFar"
 uEZ:EmIn K "MotifError" "MotifError"
 uES:EmIn K "MotifError" "WrongSign"
 uJQ:EmIn K "MotifError" "OneLine"
 uHM:EmIn K "MotifError" "TooGreat"
 uGI:EmIn K "MotifError" "TooFar"
 uGP:EmIn K "WrongSign" "MotifError"
 uJE:EmIn K "WrongSign" "WrongSign"
 uHO:EmIn K "WrongSign" "OneLine"
 uGS:EmIn K "WrongSign" "TooGreat"
 uFC:EmIn K "WrongSign" "TooFar"
 uIS:EmIn K "OneLine" "MotifError"
 uID:EmIn K "OneLine" "WrongSign"
 uGW:EmIn K "OneLine" "OneLine"
 uJR:EmIn K "OneLine" "TooGreat"
 uGF:EmIn K "OneLine" "TooFar"
 uKB:EmIn K "TooGreat" "MotifError"
 uGZ:EmIn K "TooGreat" "WrongSign"
 uJM:EmIn K "TooGreat" "OneLine"
 uIF:EmIn K "TooGreat" "TooGreat"
 uIU:EmIn K "TooGreat" "TooFar"
 uFK:EmIn K "TooFar" "MotifError"
 uFL:EmIn K "TooFar" "WrongSign"
 uFM:EmIn K "TooFar" "OneLine"
 uJF:EmIn K "TooFar" "TooGreat"
 uGB:EmIn K "TooFar" "TooFar"
def FH{V:Bx}{h:RW}(t:TopIn V.K)(X:V.K.In h)(G:h.Ns Pi V.mg){fa:KF}{fd:R4}(F:Fun V.K "law" "law" dD fa fd):FnOk V.P V.w V.K V.mg V.base (Exc.CX1 V.P V.w) 19 fa fd oX (lSp V.K eJ):=by
 have uB:=mg_none_of X G t.uJN;have uA:=mg_none_of X G t.uJW;have uD:=mg_none_of X G t.uJD;have uI:=mg_none_of X G t.uGU;have KP:=mg_none_of X G t.uEK;have uO:=mg_none_of X G t.uIO;have A':=mg_none_of X G t.uHY;have A_:=mg_none_of X G t.uIC;have uJ:=mg_none_of X G t.uEI;have K6:=mg_none_of X G t.uIG;have uU:=mg_none_of X G t.uHN;have B_:=mg_none_of X G t.uHR;have J3:=t.uCG.a t.uIW;have uL:=t.uCG.a t.uHT;have NY:=t.uBQ.a t.uJH;have uK:=t.uBQ.a t.uIB;have J4:=t.uBQ.a t.uIA;have uQ:=t.uCM.a t.uGQ;have uP:=t.uDF.a t.uEO;have uR:=t.uBX.a t.uFU;have uT:=t.uBX.a t.uII;have uS:=t.uBU.a t.uFD;have J5:=t.uBU.a t.uHW;have J6:=t.uBU.a t.uGT;have uV:=t.uBN.a t.uEG;have J7:=t.uBN.a t.uER;have J8:=t.uBN.a t.uIT;have K3:=t.uCV.a t.uGG;have uM:=t.uCV.a t.uIV;have K4:=t.uCV.a t.uEU;have uN:=t.uFY.g X G;have Mu:=t.uGO.g X G;have LR:=t.uJS.g X G;have K5:=t.uFJ.g X G;have N7:=t.uEW.g X G;have Od:=t.uEC.k t.eb X G;have N8:=t.uDZ.k t.eb X G;have ek:vz V:=AF #[(let ⟨C,N,bm,k,_⟩:=t.eb.k X G;#[C,N,bm,k]),(t.uFR.c t.eb X G),(t.uFW.c t.eb X G),(let ⟨C,N,bm,k,_⟩:=t.uEC.k t.eb X G;#[C,N,bm,k]),(let ⟨C,N,bm,k,_⟩:=t.uDZ.k t.eb X G;#[C,N,bm,k]),trivial] #[#[t.uEZ,t.uES,t.uJQ,t.uHM,t.uGI,trivial],#[t.uGP,t.uJE,t.uHO,t.uGS,t.uFC,trivial],#[t.uIS,t.uID,t.uGW,t.uJR,t.uGF,trivial],#[t.uKB,t.uGZ,t.uJM,t.uIF,t.uIU,trivial],#[t.uFK,t.uFL,t.uFM,t.uJF,t.uGB,trivial],trivial];have uX:jd V:=DX (t.uHF.tx X G Lr) uB;have JN:gh V:=DY (t.uHC.tx X G M6) uA uX;have ND:oY V:=DZ (t.uHJ.tx X G L_) uA uB;have NE:oZ V:=D0 (t.uGN.tx X G L_) uD;have NF:pd V:=D1 (t.uJV.tx X G M6) uI;have Mp:pe V:=D2 (t.uEM.tx X G Lr) JN ND NE NF;have Mq:pf V:=D3 (t.uFT.tx X G Lr) uI KP uD;have KU:je V:=D4 (t.uJZ.tx X G Lr) uO;have KW:jg V:=D5 (t.uGL.tx X G OA);have Mo:ph V:=D6 (t.uEV.tx X G L_) uO KU KW;have NK:pi V:=D7 (t.uJL.tx X G M6);have KY:jh V:=D8 (t.uHD.tx X G Lr) KU NK;have KZ:ji V:=D9 (t.uEP.tx X G L_) Mo KY;have Mr:pj V:=Ea (t.uIE.tx X G Lr) A' KZ;have MB:pk V:=Eb (t.uIX.tx X G Lr) uA JN Mp Mq Mr;have Og:pp V:=Ed (t.uFQ.tx X G M6) uB KP;have Ms:pq V:=Ee (t.uEQ.tx X G OA) uA;have Oh:pr V:=Ef (t.uHQ.tx X G Lr) Ms;have NV:pv V:=Eg (t.uJU.tx X G M6) uA uB uD KW;have uW:gj V:=Eh (t.uIN.tx X G M6) NV;have MC:pw V:=Ei (t.uHU.tx X G Lr) uA uW;have Oi:pz V:=El (t.uFZ.tx X G M6) uA uW;have uG:dE V:=Em (t.uJC.txm t.uCG Lr) uB J3 uL;have uC:cP V:=En (t.uJJ.txm t.uCG Lr) uG;have Mt:pA V:=Eo (t.uJT.tx X G M6) uA uN uC uG;have NZ:pB V:=Ep (t.uFX.tx X G L_) uB Mt Mu uG;have Mw:pC V:=Er (t.uFI.tx X G L_) uD uG uC;have JR:gk V:=Es (t.uFP.tx X G L_) Mw uC;have K1:jj V:=Et (t.uJB.tx X G Lr);have K2:jk V:=Eu (t.uIM.tx X G Lr) uO K1;have uY:fz V:=Ev (t.uGM.tx X G M6);have NX:pD V:=Ew (t.uJP.tx X G Lr) A_ uY uN;have N0:pE V:=Ey (t.uHI.txi X G (by walk_at "b5")) K2 NX NY uK J4;have LQ:jl V:=Ez (t.uHP.tx X G L_) NZ JR uL N0 uC;have LS:jn V:=EA (t.uHZ.txi X G Lr) uQ;have LU:jp V:=EB (t.uIL.txi X G Lr) uP;have LN:jq V:=EC (t.uIK.txi X G M6) uR uT;have LO:jr V:=EE (t.uIP.txi X G OA) uS J5 J6;have LP:js V:=EF (t.uGA.txi X G OA) uV J7 J8;have uH:vw V:=EK (t.uJX.tx X G Lr) (t.uEN.tx X G Lr) (t.uGE.tx X G Lr) (t.uEY.tx X G Lr) LN uC JR LO uD LP LQ LR LS LU uG 6;have N5:pF V:=EL (t.uGJ.txi X G Lr) J3 uL;have N6:pG V:=EM (t.uHX.txi X G OA) K3 uM K4;have LW:pH V:=EN (t.uHS.tx X G Lr) K1;have J9:gl V:=EO (t.uGC.tx X G Lr) LW;have LY:jt V:=EQ (t.uGY.tx X G L_);have LZ:ju V:=ER (t.uFS.tx X G L_) K2;have uF:vx V:=EY (t.uGX.txm t.uBQ L_) (t.uJY.txm t.uBX L_) (t.uKA.txm t.uBU L_) (t.uFF.txm t.uCM L_) (t.uJA.txm t.uDF L_) (t.uIJ.txm t.uBN L_) uK J9 uR uT uS LY uQ LZ uP uV 6;have MD:pI V:=EZ (t.uEJ.tx X G L_) uB uH K5 uL N5 N6 uF;have MF:pJ V:=E1 (t.uIY.tx X G L_);have KA:jv V:=E2 (t.uET.tx X G Lr) A' uO N7 N8;have uE:vy V:=E8 (t.uIH.txm t.uBQ M6) (t.uIR.txm t.uBX M6) (t.uJI.txm t.uBU M6) (t.uHL.txm t.uCM M6) (t.uFE.txm t.uDF M6) (t.uHE.txm t.uBN M6) uY J4 uK uR uT uS J6 J5 uQ uP uV J7 J8 6;have uZ:gm V:=E9 (t.uEH.tx X G M6) KA K4 uE;have KC:jw V:=Fb (t.uHV.tx X G L_) uJ K6 uD;have JS:gp V:=Fc (t.uJO.tx X G OA) uA uZ uN;have K7:jx V:=Fd (t.uHH.tx X G L_) uA JS uM;have K8:C_round_row V:=Fe (t.uJG.tx X G OA) uY;have N9:pK V:=Ff (t.uIQ.tx X G M6) uB;have N_:pL V:=Fg (t.uHA.tx X G (by walk_at "b5")) A' uA uU A_ KA K7 K8 N9 uN uM;have Oa:pM V:=Fh (t.uFG.tx X G (by walk_at "b6")) uB N_;have Oj:pN V:=Fj (t.uJK.tx X G (by walk_at "b6")) uA uJ uI uD uZ uW KC JS Oa;have C_:gq V:=Fk (t.uFN.tx X G Lr) uB uJ B_ uA KC;have K9:jy V:=Fl (t.uHB.tx X G L_) uA;have K':jz V:=Fn (t.uGK.tx X G OA) A_ K8;have Oc:pO V:=Fo (t.uEX.tx X G Lr) uU K9 K';have Mx:pP V:=Fp (t.uFA.tx X G OA) uA K';have D':gu V:=Fq (t.uFO.tx X G L_) uU K7 Oc K9 Mx uM;have Ol:pQ V:=Ft (t.uFV.tx X G M6) uB uJ B_ uA uI C_;have KE:jA V:=Fu (t.uGH.tx X G L_) uA B_ D' JS;have K_:jB V:=Fw (t.uFH.tx X G Lr) KE;have Oe:pR V:=Fy (t.uIZ.tx X G Lr) J9 D' K5 Od;have Of:pS V:=FA (t.uGR.tx X G OA) uA uZ;have La:jC V:=FB (t.uFB.tx X G Lr) Oe Of;have Om:pT V:=FD (t.uHK.tx X G OA) uJ K6 K_ La C_ ek;exact FE F uA uB uU MB uX Og KZ Oh MC KY Oi MD JN MF Oj C_ D' Ol KE Om La K_ uM K3
def all_mk{l:HZ}{w:RU}{K:Ex}{h:RW}{mg:E_->Option KB}{fa:KF}(X:K.In h)(G:h.Ns Pi mg)(Nr:mg "law"=be (.ref fa))(t:TopIn K):
  ∃fd:R4,(∀(s:KM) (v:KB),S2 s fd #[[v],[]] [("_law_script",v)])/\∀base:RW,K.In base->base.Ns Pi mg->FnOk l.prog w K mg base (Exc.CX1 l.prog w) 19 fa fd ["_law_script"] (lSp K eJ):=by
 obtain⟨fd,b,F⟩:=t.uGD.law X G Nr (λ_ _ _ _ _ _ _=>rfl);exact#[fd,b,λbase _ _=>FH (V:=#[l.prog,w,K,mg,base]) t X G F]
def law_walk{l:HZ}{q:RQ}{j3:List E_}{XP:(E_->Option KB)->RW->Prop}{YP:RU->RW->Prop}{d:DefRec}{K:Params->Ex}(hn:l.most=be 63)(Li:d.params.defaults=[])
  (hY:∀(w:RU) (h:RW),YP w h->(K w.params).In h)
  (F:∀(w:RU) (mg:E_->Option KB) (fa:KF) (h:RW),(K w.params).In h->h.Ns Pi mg->mg d.name=be (.ref fa)->
   ∃fd:R4,(∀(s:KM) (u:KB),S2 s fd #[[u],[]] [("_law_script",u)])/\∀base:RW,(K w.params).In base->base.Ns Pi mg->FnOk l.prog w (K w.params) mg base (Exc.CX1 l.prog w) 19 fa fd ["_law_script"] (lSp (K w.params) eJ)):
  ID q j3 XP YP l.row.toRowW d [] (λf vs=>PySem.call f vs):=
 L2.walk_of (n:=63) (k:=19) (x:="_law_script") (CX:=λw=>Exc.CX1 l.prog w) (sp:=λw=>lSp (K w.params) eJ) hn Kj Li #[rfl,Kj,Kj] hY F (λ_ _ a ns hl _ hS=>yM hl hS) λ_ _ _ _ _ h=>by obtain⟨_,_,_,_,_,_,_,_,_,_,_,_,_,_,_,z⟩:=h;exact z
end My
open PySem PySem.W PyProof.Rows
set_option maxRecDepth 100000 in
set_option maxHeartbeats 0 in
theorem PySem.Challenge.cw_motiffield_k46_whole_house_holds : PySem.Challenge.rw_motiffield_k46_whole_house.Holds := by
  w_on;o_law;k_head;(case hw =>w_witness2)
  k_fill
  refine My.law_walk (l :=PySem.Challenge.rw_motiffield_k46_whole_house) rfl rfl (λw h Y =>kIn_of Y) ?F
  case F =>
    intro w mg fa h KX G l5;refine My.all_mk KX G l5 ?_;constructor
    all_goals first|((with_reducible refine' My.fnIn_mk ?a ?l ?c ?k);(case a =>k_is);(case l =>k_is);(case c =>k_is);(case k =>k_is))|((with_reducible refine' My.nnIn_mk ?a);(case a =>k_is))|((with_reducible refine' My.noIn_mk ?a ?b);(case a =>k_is);(case b =>k_is))|((with_reducible refine' My.mtIn_mk ?a ?b ?i ?l ?c ?k);(case a =>k_is);(case b =>k_is);(case i =>k_is);(case l =>k_is);(case c =>k_is);(case k =>k_is))|((with_reducible refine' My.inIn_mk ?a ?mk ?b ?i ?kp ?l ?c ?k);(case a =>k_is);(case mk =>k_is);(case b =>k_is);(case i =>k_is);(case kp =>k_is);(case l =>k_is);(case c =>k_is);(case k =>k_is))|((with_reducible refine' My.clIn_mk ?a ?pg ?hd ?po ?sa ?ha ?hn ?ht ?hm);(case a =>k_is);(case pg =>k_is);(case hd =>k_is);(case po =>k_is);(case sa =>k_is);(case ha =>k_is);(case hn =>k_is);(case ht =>k_is);(case hm =>k_is))|((with_reducible refine' My.ciIn_mk ?a);(case a =>k_is))|((with_reducible refine' My.csIn_mk ?a);(case a =>k_is))|((with_reducible refine' My.ebIn_mk ?a ?kp ?o ?nk ?al ?ni);(case a =>k_is);(case kp =>k_is);(case o =>k_is);(case nk =>k_is);(case al =>rfl);(case ni =>k_is))|((with_reducible refine' My.e0In_mk ?b ?a ?kp ?o ?nk ?al ?ni);(case b =>k_is);(case a =>k_is);(case kp =>k_is);(case o =>k_is);(case nk =>k_is);(case al =>rfl);(case ni =>k_is))|((with_reducible refine' My.e1In_mk ?b ?a ?kp ?o ?j ?i ?l ?c ?k);(case b =>k_is);(case a =>k_is);(case kp =>k_is);(case o =>k_is);(case j =>k_is);(case i =>k_is);(case l =>k_is);(case c =>k_is);(case k =>k_is))|((with_reducible refine' My.emIn_mkT ?e ?a ?c ?d);(case e =>decide);(case a =>k_is);(case c =>k_is);(case d =>k_is))|((with_reducible refine' My.emIn_mkF ?e ?a ?c ?d);(case e =>decide);(case a =>k_is);(case c =>k_is);(case d =>k_is))
end
