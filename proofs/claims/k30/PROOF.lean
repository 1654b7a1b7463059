import PyProof.Rows.All
import Wide.All
import OpenK.AllK
import Wide.FinOn
import Lean
import PyProof.EqAt
import PyProof.EqKinds
import PyProof.TupleCall
import PySem.Challenge.RW_motiffield_k30_change
set_option compiler.extract_closed false
set_option Elab.async false
set_option linter.all false
set_option maxRecDepth 100000
set_option maxHeartbeats 4000000
local macro_rules|`(command|def $x:declId $s:optDeclSig $v:declVal)=>`(command|noncomputable def $x:declId $s:optDeclSig $v:declVal)
local macro_rules|`(command|abbrev $x:declId $s:optDeclSig $v:declVal)=>`(command|noncomputable abbrev $x:declId $s:optDeclSig $v:declVal)
local macro_rules|`(#[$x,*])=>`(⟨$x,*⟩)
theorem v4{p:Prop}(h:p:=by lia):p:=h
theorem KK{p:Prop}(h:p:=by decide+kernel):p:=h
theorem Mx{p:Prop}(h:p:=by decide):p:=h
theorem MD{p:Prop}(h:p:=by omega):p:=h
theorem MF{p:Prop}(h:p:=by simp):p:=h
theorem NF{p:Prop}(h:p:=by k_memK):p:=h
theorem NO{p:Prop}(h:p:=by walk_at "b2"):p:=h
theorem NQ{p:Prop}(h:p:=by cases q:cd.mro with|nil=>rw[q]at hm;simp[excMro]at hm|cons _ _=>rfl):p:=h
theorem NW{p:Prop}(h:p:=by grind):p:=h
theorem OL{p:Prop}(h:p:=by walk_at "b1"):p:=h
theorem Pw{p:Prop}(h:p:=by cases d<;>first|exact#[_,rfl,h]|exact False.elim h):p:=h
theorem QG{p:Prop}(h:p:=by show(2:Nat)<=1000;decide):p:=h
theorem RI{p:Prop}(h:p:=by walk_at "b3"):p:=h
theorem RS{p:Prop}(h:p:=by intro x no;cases x<;>first|rfl|cases no):p:=h
theorem R1{p:Prop}(h:p:=by show(1:Nat)<=1000;decide):p:=h
theorem Ty{p:Prop}(h:p:=by show(1:Nat)<1000;decide):p:=h
theorem UC{p:Prop}(h:p:=by rw[<-hY];rfl):p:=h
theorem UD{p:Prop}(h:p:=by simp;lia):p:=h
theorem WF{p:Prop}(h:p:=by unfold mroIn;rw[hc,IK,if_neg (by rw[ne];decide),exc_has KK hm]):p:=h
open PySem renaming Str->Ms
open Option renaming some->be,none->LH
open PySem renaming Value->Os,wpAny_bind->Pi,Shared->P3,mainGlobals->SB,wpAny_pure->SL,model->SZ,Expr->U6,Stmt->U7,Program->U8,wpAny->U9,starEach->U',World->U_,Around->Va,assignEach->Vb,attributeBase->Vc,eval->Vd,FuncData->Ve,Pos->Vf,wpAny_Call_Name_kw->Vg,wpAny_holding->Vi,wpAny_newObj_type->Vj,wpAny_mono->Vk,swapsWith->Vl,compareOp->Vm,Obj->Vn,bootBuiltins->Vo,wpAny_loadPart_at->Vp,excClassObj->Vq,binaryOp->Vr,PassesOwn->Vs,wpAny_passesOwn->Vt,behindInMarks->Vu,holding->Vv,wpAny_call->Vw,sysModules->Vx,codeAny_call_builtin->Vy,backTo->Vz,Scope->VA,wpAny_standAt->VB,swapsWithSole->VC,swappedStores->VD,ExceptHandler->VE,wpAny_getItem_str_slice->VF,keywordEach->VG,codeAny_mono->VH,plainObj_wpAny_Assign_Attribute->VI,assign->VJ,wpAny_field->VL,sliceBounds->VM,bindArgs->VN,NameKind->VO,wpAny_execs_nil->VP,wpAny_isSubtype_exc->VQ,standAt->VR,Env->VS,ClassData->VT,wpAny_truthy_bool->VU,wpAny_pyIter_enum->VV,wpAny_of_eq->VW,sizeLine_eq->VX,tupleKind->VZ,noteFrame->V0,backToKw->V1,rawInt->V2,isInstance->V3,BindsTo->V4,post_val_or_str->V5,letOwnedTupleGo->V6,wpAny_setField->V7,wpAny_loadPart->V8,onTheHeap->V9,getMethod->V',codeAny->V_,Keyword->Wa,cLine->Wb,wpAny_assign_Name->Wd,callerA->We,wpAny_lookBehind->Wg,setFlight->Wh,pastItsLine_dict->Wi,IsPart->Wj,atKey->Wk,valueAt->Wl,getItem->Wm,wpAny_letOwnedTupleGo_enum->Wn,handleBy->Wo,dictSetDefault->Wp,call_meets->Wq,bindName->Wr,Operator->Ws,wpAny_comprehension_free->Wt,wpAny_attempt->Wu,assignInOrder->Wv,bindL->Ww,bindC->Wx,wpAny_nsSet1->Wy,setItem->WA,seqIndex_neg->WB,leaving->WC,getAttr->WD,codeAny_compStart_list->WE,call_meetsIn->WG,Sem->WH,codeAny_handlers_test->WJ,wpAny_newFunctionEnv->WK,seqIndex_of->WL,callWith->WM,Model->WN,GenState->WO,wpAny_handleBy_cons->WQ,wpAny_call_exc_subT->WR,wpAny_rule->WS,wpAny_entryPlaceOf->WT,wpAny_Name->WU,typeIs_str->WV,tupleKind_room_in1->WW,builtinsNs->WX,wpAny_frameOf_fun->WY,setAttr->WZ,release->W0,relabel->W1,foldedSetIterable->W2,Tok->W4,CmpOp->W5
open PyProof.Rows renaming envOfC->Vh,AllBare->VY,assignInOrder_cons->Wc,subscriptTail_builtinR->Wz,IntsAre->WI,assignInOrder_nil->W3
open PySem.W renaming Frag->Ex,findIn->HR,mroIn->IB,specialIn->IN,takesIn->Jn,typeIn->JP,clsIn->JX,OpenLaw->Kc,handedIn->KD,WalkO->KH
open List renaming mem_singleton->HN,mem_cons->HQ,range->HS,mem_cons_of_mem->HU,length_map->HV,mem_cons_self->HW,length_cons->HX,size_toArray->H8,getElem?_map->H9,getElem?_eq_some_iff->Ia,length_append->Ic,getElem?_set_ne->Ie,lookup_cons->Ig,getElem?_eq_getElem->Ih,set_cons_succ->Ij,map_cons->Ik,set_cons_zero->Il,mem_append_right->Ip,mem_map->Ir,getElem_mem->Iv,mem_append->Iw,append_nil->Iz,map_append->IA,getElem?_append_left->IE,getElem?_eq_none->IF,getElem?_set_self->IG,replicate->IH,length_set->II,all_cons->IJ,getD->IL,all_eq_true->IQ,append_assoc->IU,getElem?_range->IV,nodup_cons->IY,getElem?_append_right->IZ,lookup->Jc,length_drop->Je,getElem?_set->Jf,drop->Jg,take_of_length_le->Jh,drop_eq_getElem_cons->Jk,mem_append_left->Jl,map_nil->Jo,find?_cons->Jp,ext_getElem?->Jq,nodup_append->Js,not_mem_nil->Jy,length->JB,length_take->JC,mem_of_getElem?->JD,range_succ->JE,map_congr_left->JF,map_map->JH,filterMap_cons->JM,any_cons->JR,length_singleton->JS,map->JV,eq_nil_of_length_eq_zero->JY,findIdx_cons->JZ,take_length->J2,drop_zero->J5,countP_cons->J7,of_mem_zip->J9,getElem?_replicate->Ka,getElem?_take_of_lt->Kb,contains_cons->Kd,forIn_cons->Ke,length_range->Kt,drop_of_length_le->Kv,mem_of_mem_drop->Ky,drop_eq_nil_of_le->Kz,mem_filter->KB,mem_filterMap->KC,filterMap_map->KF,nodup_nil->KL,take_succ->KP,dropLast_cons₂->KR,getElem?_drop->Lj,map_take->Lo,take_range->Lp,set_append_left->Lq,set_append_right->Lr,mem_or_eq_of_mem_set->Ls,map_set->Lu,take_append_drop->Lv,drop_length->Lw
open Nat renaming le_refl->HP,ne_of_lt->HY,le_trans->HZ,lt_of_lt_of_le->Im,zero_le->Iq,ne_of_gt->IW,pow_succ->Ja,lt_irrefl->Jb,le_succ->Jd,lt_or_ge->Jr,mul_le_mul->Jt,pow_le_pow_right->Jv,min_eq_left->JA,succ_mul->JG,not_lt_zero->JI,le_of_lt->JL,le_of_eq->JQ,le_of_not_lt->JT,add_le_add->J0,pow_pos->J4,min_eq_right->J6,lt_succ_of_lt->Kf,add_comm->Kp,zero_add->Ku,sub_zero->Kw,lt_succ_self->KE,lt_of_le_of_lt->KI,lt_trans->KJ,log2_lt->KM,add_sub_add_right->KO,succ_ne_self->KS,mul_le_mul_right->KY,le_max_left->K5,le_max_right->K6,pow_add->K7,add_sub_cancel->Ld,mod_eq_of_lt->Lk,mul_succ->Ln
open Bool renaming false_ne_true->Ib,and_eq_true->Io,eq_false_iff->Iy,eq_iff_iff->JO,or_true->JU
open Int renaming mul_pos->Ii,mul_comm->Iu,mul_le_mul_of_nonneg_right->Ix,mul_ediv_cancel->IC,toNat_of_nonneg->ID,le_trans->IM,toNat_natCast->IP,natAbs_mul->IR,emod_nonneg->IS,emod_lt_of_pos->IT,emod_def->Ji,mul_nonpos_of_nonpos_of_nonneg->Jj,eq_of_mul_eq_mul_right->Ju,emod_add_mul_ediv->Jw,zero_add->Jz,natCast_add->JJ,add_zero->JK,dvd_mul_of_dvd_right->J1,mul_neg->J3,ediv_nonneg->J8,natAbs_add_le->Kh,mul_nonneg->Ki,fmod_eq_zero_of_dvd->Kj,natCast_mul->Kk,neg_mul->Kl,natAbs_neg->Km,eq_of_mul_eq_mul_left->Kn,dvd_add->Ko,mul_eq_zero->Kq,sub_mul->Kr,add_mul->Ks,add_assoc->Kx,ediv_le_self->KA,natAbs_eq_zero->KN,fmod_nonneg_of_pos->KU,fmod_lt_of_pos->KW,natAbs_sub_le->KZ,mul_emod_left->K0,mul_le_mul_of_nonneg_left->K1,le_natAbs->K2,ofNat_le->K3,dvd_mul_of_dvd_left->K4,mul_fdiv_cancel_of_fmod_eq_zero->K8,dvd_antisymm->K9,zero_mul->La,sub_self->Lb,add_mul_emod_self_right->Lf,add_mul_ediv_right->Lg,dvd_add_left->Lh,dvd_mul_right->Li,natCast_emod->Ll,ediv_eq_zero_of_lt->Lm
open Option renaming bind_some->IK,getD_none->KG
open Array renaming length_toList->JN,getElem?_eq_some_iff->JW,all_toList->Kg,getElem?_eq_getElem->KQ,toList_inj->Le
open PySem.W (InitBack any_some callWith_K callWith_K0 cellsFrom_some cls_value codeIn codeRec_of emptyDict eq_bytes findCls findObj_own fnOf get_value hasDictIn hideAll hideAll_get hideAll_none hideAll_size instObj isFn isNs_of_in kIn_of keepIn ki_setAt ki_setBack kia_one kitCls kitOne kitx_bool kitx_dict kitx_float kitx_int kitx_list kitx_none kitx_own kitx_str kitx_tuple kun_itemsOf len_bytes lookIn make_core makesIn makes_of methodCall_KW methodObj method_cls method_fn mg_none_of mg_of ne_bytes nsIn nsMap_none_of_in nsOkIn of_hideAll osa_open plainGet plainGet_of plainOver readsIn tailIn tail_of_in takerIn truthy_bytes)
def qZ0(_:0=0:=by rfl):=0
nonrec def zA0:=qZ0._auto_1
def qZ1(_:0=0:=by decide):=0
nonrec def zA1:=qZ1._auto_1
def qZ2(_:0=0:=by first|exact .inl rfl|exact .inr rfl|assumption):=0
nonrec def zA2:=qZ2._auto_1
def qZ3(_:0=0:=by exact λ_=>rfl):=0
nonrec def zA3:=qZ3._auto_1
def qZ4(_:0=0:=by first|exact Or.inl rfl|exact Or.inr rfl):=0
nonrec def zA4:=qZ4._auto_1
def qZ5(_:0=0:=by first|exact Or.inl rfl|exact Or.inr (Or.inl rfl)|exact Or.inr (Or.inr rfl)):=0
nonrec def zA5:=qZ5._auto_1
def qZ6(_:0=0:=by exact λ_ _=>rfl):=0
nonrec def zA6:=qZ6._auto_1
def qZ7(_:0=0:=by intros;rfl):=0
nonrec def zA7:=qZ7._auto_1
namespace PySem.W.Fast
def tw14866730488696275479:=Nat
def tw2539040704895236468:=Nat
def tw17658661137364969432:=Nat
def tw13298680936039860125:=Nat
def tw3350749700684677:=Nat
def tw91694224126249865:=Nat
def tw174875594673957636:=Nat
def tw795276670029332669:=Nat
def tw9034626785418926564:=Nat
def tw1923942648646003324:=Nat
def tw7535796968605059685:=Nat
def tw17310688793776175111:=Nat
def tw17744619273275147648:=Nat
def tw5337405636513875365:=Nat
def tw7750179797823247744:=Nat
def tw168453002034033016:=Nat
def tw514635332892388524:=Nat
def tw2510768831606586655:=Nat
def tw14554074618894165961:=Nat
def tw16629591752472717490:=Nat
def tw14405960008838019305:=Nat
def tw6255607003502717785:=Nat
def tw1080584021178100701:=Nat
def tw6646226848676522319:=Nat
def tw11950847900556869835:=Nat
def tw7935805621297792973:=Nat
def tw9329217636268948722:=Nat
def tw10472106152070324395:=Nat
def tw10858763047713081165:=Nat
def tw6714497927097119844:=Nat
def tw8920911069668344032:=Nat
def tw18431333042036673038:=Nat
def tw7873341965353149300:=Nat
def tw16779081152652086559:=Nat
def tw887235677994525445:=Nat
def tw3223841824586070482:=Nat
def tw8265373580025002716:=Nat
def tw10655607043349266066:=Nat
def tw1553309934912948166:=Nat
def tw6319268264387146488:=Nat
def tw2442358231629266917:=Nat
def tw13813624370779184083:=Nat
def tw9569844788723719906:=Nat
def tw6600705257482906954:=Nat
def tw9068598624939018076:=Nat
def tw17383421605314322212:=Nat
def tw476681436579724492:=Nat
def tw18180409944162389495:=Nat
def tw8827697919616901861:=Nat
def tw9819290518838673305:=Nat
def tw12176519952321031220:=Nat
def tw6664522289682015063:=Nat
def tw5007733261011067867:=Nat
def tw15278932425275271148:=Nat
def tw15881199503573847099:=Nat
def tw10327100304771884510:=Nat
def tw18381225710558274172:=Nat
def tw14469092176665359515:=Nat
def tw8956527102600364507:=Nat
def tw11233653476101840165:=Nat
def tw7748574323838705916:=Nat
def tw3145287764038314948:=Nat
def tw1328879246953457620:=Nat
def tw983179437953822022:=Nat
def tw2117487343535942112:=Nat
def tw14629048517338188644:=Nat
def tw6453739218631655207:=Nat
def tw11963277978826895710:=Nat
def tw17676687208438325171:=Nat
def tw5064620641875318708:=Nat
def tw10617542240790332532:=Nat
def tw18328001995493955187:=Nat
def tw7381189298730751893:=Nat
def tw13326101451716159077:=Nat
def tw4162329806888649972:=Nat
def tw14383496395908160003:=Nat
def tw14032272797341399285:=Nat
def tw599689470728738107:=Nat
def tw5274811412951376156:=Nat
def tw13427292019780524305:=Nat
def tw1326307830942671087:=Nat
def tw16431105771837221545:=Nat
def tw17856189433009987345:=Nat
def tw2815060168859289859:=Nat
def tw15205937440252244458:=Nat
def tw11285912987840828313:=Nat
def tw6032373697047057331:=Nat
def tw3221990303329856615:=Nat
def tw5485859164906760797:=Nat
def tw8913236817328089488:=Nat
def tw523146445359802181:=Nat
def tw7272031027499230045:=Nat
def tw8742566459804130704:=Nat
def tw10005941713360687757:=Nat
def tw222264925782218485:=Nat
def tw13591560131901294674:=Nat
def tw758780651121135216:=Nat
def tw1301179569103055586:=Nat
def tw2653283341724110338:=Nat
def tw2361633289259902753:=Nat
def tw3567820935448266087:=Nat
def tw85872089363580582:=Nat
def tw423513806296687274:=Nat
def tw11292167215850298766:=Nat
def tw3833021065154233113:=Nat
def tw5705146588018431841:=Nat
def tw3352399150692450843:=Nat
def tw4901886877759204040:=Nat
def tw4905473048347846795:=Nat
def tw11042238970856701728:=Nat
def tw4081165995651871872:=Nat
def tw5162867232151729547:=Nat
def tw7006014296107271424:=Nat
def tw6944765923486221916:=Nat
def tw329433025688207063:=Nat
def tw7348046785477799696:=Nat
def tw9451474850999772436:=Nat
def tw15913118262001971538:=Nat
def tw13797181710635774764:=Nat
def tw2520354410680859213:=Nat
def tw11045015544920776588:=Nat
def tw7641562462425803357:=Nat
def tw6328643590620386916:=Nat
def tw3553760395324968036:=Nat
def tw17978349141454691715:=Nat
def tw10323263846716211550:=Nat
def tw16088222435552881042:=Nat
def tw16873073601124876298:=Nat
def tw2933374188934028587:=Nat
def tw7743074911243079122:=Nat
def tw12608117903578392451:=Nat
def tw11166562410820758927:=Nat
def tw8035456688175596761:=Nat
def tw10827976262503498758:=Nat
def tw2980910846279879655:=Nat
def tw4936696046115262776:=Nat
def tw4703631277909414854:=Nat
def tw9670175834128719354:=Nat
def tw18235384096877728892:=Nat
def tw12996529235830177121:=Nat
def tw12176146006875470351:=Nat
def tw64944999234865574:=Nat
def tw6663505205787569538:=Nat
def tw14131583054657818969:=Nat
def tw12237895883776853671:=Nat
def tw18409461170496613315:=Nat
def tw7545099576550204694:=Nat
def tw10650036936391176186:=Nat
def tw8074871245279248266:=Nat
def tw12133434086337148730:=Nat
def tw14517314736572381125:=Nat
def tw2101010654833759721:=Nat
def tw5493161383168046449:=Nat
def tw5653127504435765463:=Nat
def tw14953484480500766655:=Nat
def tw7941872154934271402:=Nat
def tw12576884124966709475:=Nat
def tw1872780440089023202:=Nat
def tw2367263386857425229:=Nat
def tw8548275947343175090:=Nat
def tw13468008548524087016:=Nat
def tw6284571383037611393:=Nat
def tw3186687778807464835:=Nat
def tw10753277994332324382:=Nat
def tw3858352610844886086:=Nat
def tw7485395933697846435:=Nat
def tw7041677229352125919:=Nat
def tw1535312586180835948:=Nat
def tw6006779693411290026:=Nat
def tw8949578349152237002:=Nat
def tw3650004121934915862:=Nat
def tw18007503343350257922:=Nat
def tw16786963002602703199:=Nat
def tw17109452592049994438:=Nat
def tw10007822934271964735:=Nat
def tw13219574043226871121:=Nat
def tw1910283675149765916:=Nat
def tw17634902395142342078:=Nat
def tw10275211764509448898:=Nat
def tw5014043008607559161:=Nat
def tw2629178286300190880:=Nat
def tw6103093164909262363:=Nat
def tw13095957066924615720:=Nat
def tw4462473073416919985:=Nat
def tw10471563366691596582:=Nat
def tw8951699475722413233:=Nat
def tw11699250630909049044:=Nat
def tw3118832394111474750:=Nat
def tw16217026727589419620:=Nat
def tw11446779490305167826:=Nat
def tw18386460933087251986:=Nat
def tw443511832709005408:=Nat
def tw3472670357089202340:=Nat
def tw11844386515090525213:=Nat
def tw15227094081920066397:=Nat
def tw2056191789303219516:=Nat
def tw4018981316701347703:=Nat
def tw16304153184052139262:=Nat
def tw9109684764762227525:=Nat
def tw7647684307018779669:=Nat
def tw2625247973916945076:=Nat
def tw15106046564998592071:=Nat
def tw5606287904618468733:=Nat
def tw1348921421957056942:=Nat
def tw7390754405653366661:=Nat
def tw12440598704046661767:=Nat
def tw4447707604666928474:=Nat
def tw17822550253275821327:=Nat
def tw11107540098986717798:=Nat
def tw9266033901410289102:=Nat
def tw8189532016395429814:=Nat
def tw14647300282931463363:=Nat
def tw2889133565612426423:=Nat
def tw1831631788295727132:=Nat
def tw13825749344302978011:=Nat
def tw6318006367911445253:=Nat
def tw8517693865829133187:=Nat
def tw7992586858620125244:=Nat
def tw18304727331536158325:=Nat
def tw13213162973575904747:=Nat
def tw1419530712625313601:=Nat
def tw16457696781618609377:=Nat
def tw9947144194998338949:=Nat
def tw13400180421345374014:=Nat
def tw18405872445501583786:=Nat
def tw17178209639437483327:=Nat
def tw6849068897161351775:=Nat
def tw10237981881515334203:=Nat
def tw416080534292664657:=Nat
def tw8934470815923452024:=Nat
def tw16582291840823972789:=Nat
def tw6992374773891449295:=Nat
def tw4966935215335007785:=Nat
def tw18383501711811116453:=Nat
def tw15818355480766156217:=Nat
def tw14918637074890549583:=Nat
def tw17422440009050044811:=Nat
def tw11314344018414870736:=Nat
def tw15362140401992824048:=Nat
def tw12358617415500106960:=Nat
def tw8077726680625714051:=Nat
def tw13927283853390355243:=Nat
def tw17955382831152202533:=Nat
def tw3951610906367262061:=Nat
def tw7533073994737936503:=Nat
def tw3705171601321156292:=Nat
def tw11552456289222213271:=Nat
def tw13041455367031150001:=Nat
def tw6793372965146531572:=Nat
def tw9767598684531648016:=Nat
def tw15687214063499654995:=Nat
def tw5620447737712074498:=Nat
def tw2358833799507839165:=Nat
def tw7684027990660097918:=Nat
def tw10951184782302980978:=Nat
def tw9662887798886736928:=Nat
def tw7684378531073975546:=Nat
def tw4659853680283720646:=Nat
def tw5171824233727481643:=Nat
def tw507525838753396706:=Nat
def tw7414646603903534231:=Nat
def tw6411796120034507221:=Nat
def tw3158064311788203535:=Nat
def tw955145051624951291:=Nat
def tw7920913150693889783:=Nat
def tw15635706562466835919:=Nat
def tw16750271534819376111:=Nat
def tw17210575423362707239:=Nat
def tw2182016377849148914:=Nat
def tw5872605912200690932:=Nat
def tw7379838999055765212:=Nat
def tw9210033659473968122:=Nat
def tw16743233278465797497:=Nat
def tw7788845810516481556:=Nat
def tw7734417222226100141:=Nat
def tw7796240806131780409:=Nat
def tw8615778126588208698:=Nat
def tw5519407669694094292:=Nat
def tw9279985834345123200:=Nat
def tw16811545424035433140:=Nat
def tw16458873190486822910:=Nat
def tw16080526629259780730:=Nat
def tw10373067537966984547:=Nat
def tw8206257254591562898:=Nat
def tw10371240933479965113:=Nat
def tw10589818047905421626:=Nat
def tw11381411900771609332:=Nat
def tw15560543970100914353:=Nat
def tw10253427217753911042:=Nat
def tw1603027184151783310:=Nat
def tw11369719311519442871:=Nat
def tw554459232485189434:=Nat
def tw14693283916771814820:=Nat
def tw4360650110105656930:=Nat
def tw8816662390337047705:=Nat
def tw2799737334004439971:=Nat
def tw12136665364883128827:=Nat
def tw15212794735970210968:=Nat
def tw14790552316635482458:=Nat
def tw1673219155405047883:=Nat
def tw12205771002534793938:=Nat
def tw5285356809842415864:=Nat
def tw10079812772042328183:=Nat
def tw9982427633605433175:=Nat
def tw17501503681802472391:=Nat
def tw8416999425062679894:=Nat
def tw18210086062724302140:=Nat
def tw14776235748570932309:=Nat
def tw6260163641062489909:=Nat
def tw8011692422322110132:=Nat
def tw18073060849519043080:=Nat
def tw6602528025282771970:=Nat
def tw2335533987347003414:=Nat
def tw8269180374942433296:=Nat
def tw12356482777821763674:=Nat
def tw5309011620476195568:=Nat
def tw9424634812921212296:=Nat
def tw10165914886185776940:=Nat
def tw3553593992564570585:=Nat
def tw8526643043650180657:=Nat
def tw14658669472064452562:=Nat
def tw3785015131966560217:=Nat
def tw10608091935614058800:=Nat
def tw12229098354543066250:=Nat
def tw2468360539742223455:=Nat
def tw2043747971746684531:=Nat
def tw15840869098237887961:=Nat
def tw55821302036725668:=Nat
def tw4557349349866826871:=Nat
def tw13862062998360022709:=Nat
def tw356270929362484382:=Nat
def tw3342865733205477526:=Nat
def tw14068810513163052136:=Nat
def tw5934155754588031872:=Nat
def tw2603351227804091531:=Nat
def tw925795456203741762:=Nat
def tw10381042085749064625:=Nat
def tw12678298855868646870:=Nat
def tw5037984813381664184:=Nat
def tw4258094353879008539:=Nat
def tw15031607080018647601:=Nat
def tw14609795491116386166:=Nat
def tw1929173498396157333:=Nat
end PySem.W.Fast
section
namespace L2
open PySem PySem.Spec PyProof.Rows
abbrev Key:=Sum Int Ms
def eJ:Key->Os->Bool
 |.inl k,v=>Value.isInt k v
 |.inr x,v=>Value.isStrOf x v
def keyH(w:U_):Key->Int
 |.inl k=>hashInt k
 |.inr x=>hashStr w x
def keyIs_shape:∀{k:Key} {v:Os},eJ k v=true->(∃i t,k=Sum.inl i/\v=Value.int i t)\/(∃x t,k=Sum.inr x/\v=Value.str x t)
 |.inl i,v,h=>by
  obtain⟨t,e⟩:=Value.isInt_shape (k:=i) (v:=v) h;exact .inl #[i,t,rfl,e]
 |.inr x,v,h=>by
  obtain⟨t,e⟩:=Value.isStrOf_shape (x:=x) (v:=v) h;exact .inr #[x,t,rfl,e]
def wX(i:Int)(t:W4):eJ (.inl i) (.int i t)=true:=by simp[eJ,Value.isInt]
def wY(x:Ms)(t:W4):eJ (.inr x) (.str x t)=true:=by simp[eJ,Value.isStrOf]
def wZ(a b:Int):decide ((Sum.inl a:Key)=Sum.inl b)=(a==b):=by
 by_cases e:a=b
 .subst e;simp
 .have h:¬(Sum.inl a:Key)=Sum.inl b:=λq=>e (Sum.inl.inj q);rw[decide_eq_false h];exact(beq_eq_false_iff_ne.mpr e).symm
def xa(a b:Ms):decide ((Sum.inr a:Key)=Sum.inr b)=decide (a=b):=by
 by_cases e:a=b
 .subst e;simp
 .have h:¬(Sum.inr a:Key)=Sum.inr b:=λq=>e (Sum.inr.inj q);rw[decide_eq_false h,decide_eq_false e]
def xb(a:Int)(b:Ms):decide ((Sum.inl a:Key)=Sum.inr b)=false:=decide_eq_false (λq=>nomatch q)
def xc(a:Ms)(b:Int):decide ((Sum.inr a:Key)=Sum.inl b)=false:=decide_eq_false (λq=>nomatch q)
def bN(prog:U8)(w:U_):PySem.KeyKind prog w Key where
 is:=eJ
 hash:=keyH w
 inj:=λv a b ha hb=>by
  rcases keyIs_shape ha with⟨i,t,rfl,rfl⟩|⟨x,t,rfl,rfl⟩
  .rcases keyIs_shape hb with⟨j,u,rfl,e⟩|⟨y,u,rfl,e⟩
   .injection e with e1 _;rw[e1]
   .exact nomatch e
  .rcases keyIs_shape hb with⟨j,u,rfl,e⟩|⟨y,u,rfl,e⟩
   .exact nomatch e
   .injection e with e1 _;rw[e1]
 byValue:=λk v h=>by
  rcases keyIs_shape h with⟨i,t,rfl,rfl⟩|⟨x,t,rfl,rfl⟩<;>rfl
 pyHash:=λhv h=>by
  rcases keyIs_shape hv with⟨i,t,rfl,rfl⟩|⟨x,t,rfl,rfl⟩
  .exact wpAny_pyHash_int h
  .exact wpAny_pyHash_str h
 eqBool:=λhu hv h=>by
  rcases keyIs_shape hu with⟨i,t,rfl,rfl⟩|⟨x,t,rfl,rfl⟩
  .rcases keyIs_shape hv with⟨j,u,rfl,rfl⟩|⟨y,u,rfl,rfl⟩
   .rw[wZ]at h;exact wpAny_eqBool_int h
   .rw[xb]at h;exact SeqAt.EqAt.int_str i t y u _ _ _ _ h
  .rcases keyIs_shape hv with⟨j,u,rfl,rfl⟩|⟨y,u,rfl,rfl⟩
   .rw[xc]at h;exact SeqAt.EqAt.str_int x t j u _ _ _ _ h
   .rw[xa]at h;exact wpAny_eqBool_str h
 «strs»:=λk x t v h=>by
  rcases keyIs_shape h with⟨i,u,rfl,e⟩|⟨y,u,rfl,e⟩
  .exact nomatch e
  .injection e with e1 _;subst e1;cases v<;>rfl
def mixKind_int(prog:U8)(w:U_)(i:Int)(t:W4):(bN prog w).is (.inl i) (.int i t)=true:=wX i t
def xg(prog:U8)(w:U_)(x:Ms)(t:W4):(bN prog w).is (.inr x) (.str x t)=true:=wY x t
inductive V where
 |non|bl (b:Bool)|int (i:Int)|str (x:Str)|byt (b:Array UInt8)|flt (b:UInt64)|ref (a:Addr)|ty (n:String)
 deriving DecidableEq
def RelV:V->Os->Prop
 |.non,u=>u=Value.none
 |.bl b,u=>u=Value.bool b
 |.int i,u=>∃t,u=Value.int i t
 |.str x,u=>∃t,u=Value.str x t
 |.byt b,u=>∃t,u=Value.bytes b t
 |.flt b,u=>∃t,u=Value.float b t
 |.ref a,u=>u=Value.ref a
 |.ty n,u=>u=Value.type n
abbrev Vals:List V->List Os->Prop:=Paired RelV
variable{xs:List V}{us:List Os}
def Vals.length(r:Vals xs us):xs.length=us.length:=Paired.length r
def Vals.get:∀{xs:List V} {us:List Os} {i:Nat} {x:V},Vals xs us->xs[i]?=be x->∃u,us[i]?=be u/\RelV x u
 |_,_,_,_,.nil,e=>by simp at e
 |_,_,0,_,.cons r _,e=>by simp at e;subst e;exact#[_,rfl,r]
 |_,_,i+1,x,.cons _ t,e=>by
  obtain⟨u,h1,h2⟩:=Vals.get (i:=i) (x:=x) t (by simpa using e);exact#[u,by simpa using h1,h2]
def Vals.set{x:V}{u:Os}(r:RelV x u):∀{xs:List V} {us:List Os} (i:Nat),Vals xs us->Vals (xs.set i x) (us.set i u)
 |_,_,_,.nil=>.nil
 |_,_,0,.cons _ t=>.cons r t
 |_,_,i+1,.cons q t=>.cons q (Vals.set r i t)
def Vals.append:∀{xs ys:List V} {us ws:List Os},Vals xs us->Vals ys ws->Vals (xs++ys) (us++ws):=by
 intro xs ys us ws h s;induction h with
 |nil=>exact s
 |cons r _ e=>exact .cons r e
def Vals.take:∀{xs:List V} {us:List Os} (n:Nat),Vals xs us->Vals (xs.take n) (us.take n)
 |_,_,0,_=>.nil
 |_,_,_+1,.nil=>.nil
 |_,_,n+1,.cons r t=>.cons r (Vals.take n t)
def Vals.drop:∀{xs:List V} {us:List Os} (n:Nat),Vals xs us->Vals (xs.drop n) (us.drop n)
 |_,_,0,r=>r
 |_,_,_+1,.nil=>.nil
 |_,_,n+1,.cons _ t=>Vals.drop n t
def RelO:Option V->Option Os->Prop
 |some v,be u=>RelV v u
 |none,LH=>True
 |_,_=>False
def KV{κ:Type}:List (κ×V)->List (κ×Os)->Prop:=Paired λ(p:κ×V) (q:κ×Os)=>p.1=q.1/\RelV p.2 q.2
def kV:Key->V
 |.inl i=>.int i
 |.inr x=>.str x
inductive HO where
  |lst (xs:List V)
  |tup (xs:List V)
  |dK (a9:List (Key×V))|dT (a9:List (List Key×V))
  |set (S:Int->Bool) (n:Nat)
  |ins (C dx:Addr) (fs:List (Ms×V))
  |own (x:Addr)
  |xd (fs:List (Ms×V))
  |met (f x:Addr)
  |rng (lo hi:Int)
  |frz (o:Vn) (u:HO)
  |tbl (ps:Array Os)
  |ext (φ:Heap->Prop)
abbrev Hp:=Addr->Option HO
def upd(H:Hp)(a:Addr)(o:HO):Hp:=λb=>if b=a then be o else H b
variable{H:Hp}{a:Addr}{o:HO}
def aC:upd H a o a=be o:=by unfold upd;rw[if_pos rfl]
variable{b:Addr}
def ar(h:b≠a):upd H a o b=H b:=by unfold upd;rw[if_neg h]
def xh{u:HO}(h:H a=be o)(h':H b=be u)(d:o≠u):a≠b:=by
 intro e;subst e;rw[h]at h';exact d (Option.some.inj h')
def bG(h:H a=be o)(h':H b=LH):a≠b:=by
 intro e;subst e;rw[h]at h';cases h'
section
variable (P:U8)(w:U_)
def ObjOk(H:Hp)(h:Heap)(a:Addr):HO->Prop
 |.lst xs=>xs.length<=sizeLine/\∃(its:List Os) (n:Nat),Vals xs its/\h.get? a=be {cls:=.type "list",data:=.seq its.toArray n}
 |.tup xs=>xs.length<=sizeLine/\∃its:List Os,Vals xs its/\IsTup h a its.toArray
 |.dK a9=>a9.length<=sizeLine/\(a==Vx)=false/\∃vs,KV a9 vs/\h.DictOf (bN P w) a vs
 | .dT a9=>a9.length<=sizeLine/\(a==Vx)=false/\∃xs:List (List Key×Addr×Os),
   Paired (λ(p:List Key×V) (q:List Key×Addr×Os)=>p.1=q.1/\H q.2.1=be (.tup (p.1.map kV))/\RelV p.2 q.2.2) a9 xs/\
   ∃o es ep,h.get? a=be o/\o.ExactDict/\o.data=.dict es ep/\es.toList=xs.map (entryOfKey (VZ (bN P w)))/\(xs.map (·.1)).Nodup
 |.set S n=>h.SetOf (intKind P w) a S n
 | .ins C dx fs=>H dx=be (.own a)/\fs.length<=1000/\dx≠a/\h.get? a=be (instObj C dx)/\
   ∃mA,h.Ns1 dx mA/\(∀f,RelO (fs.lookup f) (mA f))/\PySem.Within mA (fs.map (·.1))
 |.own _=>∃o,h.get? a=be o
 |.xd fs=>∃mA,h.Ns1 a mA/\∀f,RelO (fs.lookup f) (mA f)
 |.rng lo hi=>∃t u v,h.get? a=be {cls:=.type "range",data:=.fields [.int lo t,.int hi u,.int 1 v].toArray}
 |.frz o u=>h.get? a=be o/\ObjOk H h a u
 |.tbl ps=>h.get? a=be {cls:=.none,data:=.fields ps}
 |.met f x=>h.get? a=be (methodObj (.ref f) (.ref x))
 |.ext φ=>φ h/\(∃o,h.get? a=be o)/\∀h1 h2:Heap,φ h1->(∀o,h1.get? a=be o->h2.get? a=be o)->φ h2
def HOk(H:Hp)(h:Heap):Prop:=∀a o,H a=be o->ObjOk P w H h a o
end
section
variable {P:U8}{w:U_}{H H':Hp}{h h':Heap}{a:Addr}{o:HO}
def ObjOk.lt(x:ObjOk P w H h a o):a<h.objs.size:=by
 cases o with
 |lst xs=>obtain⟨_,_,_,_,e⟩:=x;exact Heap.lt_size e
 |tup xs=>obtain⟨_,_,_,p⟩:=x;exact p.lt
 |dK a9=>obtain⟨_,_,_,_,o,_,_,e,_⟩:=x;exact Heap.lt_size e
 |dT a9=>obtain⟨_,_,_,_,o,_,_,e,_⟩:=x;exact Heap.lt_size e
 |set S n=>obtain⟨o,_,_,_,e,_⟩:=x;exact Heap.lt_size e
 |ins C dx fs=>obtain⟨_,_,_,e,_⟩:=x;exact Heap.lt_size e
 |own y=>obtain⟨_,e⟩:=x;exact Heap.lt_size e
 |xd fs=>obtain⟨_,⟨_,_,_,e,_⟩,_⟩:=x;exact Heap.lt_size e
 |rng lo hi=>obtain⟨_,_,_,e⟩:=x;exact Heap.lt_size e
 |frz ob u=>obtain⟨e,_⟩:=x;exact Heap.lt_size e
 |tbl ps=>exact Heap.lt_size (show h.get? a=be _ from x)
 |met f y=>exact Heap.lt_size (show h.get? a=be _ from x)
 |ext φ=>obtain⟨_,⟨_,e⟩,_⟩:=x;exact Heap.lt_size e
def Paired.mapP{α β:Type}{F G:α->β->Prop}:∀{l₁:List α} {l₂:List β},Paired F l₁ l₂->(∀a b,F a b->G a b)->Paired G l₁ l₂:=by
 intro l₁ l₂ h f;induction h with
 |nil=>exact .nil
 |cons r _ e=>exact .cons (f _ _ r) e
def ObjOk.stay(x:ObjOk P w H h a o)(k:∀b u,(b=a\/H b=be (.own a))->h.get? b=be u->h'.get? b=be u)
  (ho:∀b,H b=be (.own a)->H' b=be (.own a)) (ht:∀b xs,H b=be (.tup xs)->H' b=be (.tup xs)):ObjOk P w H' h' a o:=by
 induction o with
 |lst xs=>obtain⟨z,its,n,r,e⟩:=x;exact#[z,its,n,r,k _ _ (.inl rfl) e]
 |tup xs=>obtain⟨z,its,r,ob,e,c⟩:=x;exact#[z,its,r,ob,k _ _ (.inl rfl) e,c]
 |dK a9=>obtain⟨z,y,vs,r,ob,es,ep,e,c⟩:=x;exact#[z,y,vs,r,ob,es,ep,k _ _ (.inl rfl) e,c]
 |dT a9=>
  obtain⟨z,y,xs,r,ob,es,ep,e,c⟩:=x;exact#[z,y,xs,Paired.mapP r λp q z=>#[z.1,ht _ _ z.2.1,z.2.2],ob,es,ep,k _ _ (.inl rfl) e,c]
 |set S n=>obtain⟨ob,es,ep,t,e,c⟩:=x;exact#[ob,es,ep,t,k _ _ (.inl rfl) e,c]
 |ins C dx fs=>
  obtain⟨d,z,ne,e,mA,⟨od,es,ep,e2,c⟩,r⟩:=x;exact#[ho _ d,z,ne,k _ _ (.inl rfl) e,mA,#[od,es,ep,k _ _ (.inr d) e2,c],r]
 |own y=>obtain⟨ob,e⟩:=x;exact#[ob,k _ _ (.inl rfl) e]
 |xd fs=>obtain⟨mA,⟨od,es,ep,e,c⟩,r⟩:=x;exact#[mA,#[od,es,ep,k _ _ (.inl rfl) e,c],r]
 |rng lo hi=>obtain⟨t,u,v,e⟩:=x;exact#[t,u,v,k _ _ (.inl rfl) e]
 |frz ob u ih=>obtain⟨e,q⟩:=x;exact#[k _ _ (.inl rfl) e,ih q]
 |tbl ps=>
  have e:h.get? a=be {cls:=.none,data:=.fields ps}:=x;show h'.get? a=be {cls:=.none,data:=.fields ps};exact k a _ (.inl rfl) e
 |met f y=>
  have e:h.get? a=be (methodObj (.ref f) (.ref y)):=x;show h'.get? a=be (methodObj (.ref f) (.ref y));exact k a _ (.inl rfl) e
 |ext φ=>obtain⟨p,⟨o,e⟩,st⟩:=x;exact#[st _ _ p λo q=>k _ _ (.inl rfl) q,#[o,k _ _ (.inl rfl) e],st]
def HOk.lt(x:HOk P w H h)(e:H a=be o):a<h.objs.size:=(x a o e).lt
def HOk.fresh(x:HOk P w H h)(e:h.objs.size<=a):H a=none:=by
 cases q:H a with
 |none=>rfl
 |some u=>exact absurd (Im (x.lt q) e) (Jb _)
def HOk.kept(x:HOk P w H h)(k:∀b u,h.get? b=be u->h'.get? b=be u):HOk P w H h':=λa o e=>
 (x a o e).stay (λb u _ q=>k b u q) (λ_ q=>q) λ_ _ q=>q
def HOk.laid(x:HOk P w H h)(k:∀b u,h.get? b=be u->h'.get? b=be u)(hp:h.objs.size<=a)(new:ObjOk P w (upd H a o) h' a o):HOk P w (upd H a o) h':=λb u e=>by
 have hn:=x.fresh hp;by_cases hb:b=a
 .subst hb;rw[aC]at e;cases e;exact new
 .rw[ar hb]at e;exact(x b u e).stay (λc v _ q=>k c v q) (λc q=>by rw[ar (bG q hn)];exact q) λc xs q=>by rw[ar (bG q hn)];exact q
end
def Rd(H:Hp)(a:Addr)(u:HO):Prop:=H a=be u\/∃o,H a=be (.frz o u)
variable{P:U8}{w:U_}{h:Heap}
def Rd.ok{u:HO}(r:Rd H a u)(x:HOk P w H h):ObjOk P w H h a u:=by
 rcases r with r|⟨o,r⟩
 .exact x a u r
 .obtain⟨_,q⟩:=x a _ r;exact q
def Mut:Option HO->Prop
 |some (.lst _)=>True
 |some (.dK _)=>True
 |some (.dT _)=>True
 |some (.set _ _)=>True
 |some (.ins _ _ _)=>True
 |some (.ext _)=>True
 |_=>False
section
variable {P:U8}{w:U_}{H:Hp}{h h':Heap}{x e:Addr}{o':HO}
def HOk.write(ok:HOk P w H h)(mu:Mut (H x))(he:e=x\/H e=be (.own x))(k:∀b u,b≠e->h.get? b=be u->h'.get? b=be u)(H_:∃u,h'.get? e=be u)
  (new:ObjOk P w (upd H x o') h' x o'):HOk P w (upd H x o') h':=λb u q=>by
 have nown:∀c y,H c=be (.own y)->c≠x:=λc y r z=>by subst z;rw[r]at mu;exact mu
 have Pb:∀c xs,H c=be (.tup xs)->c≠x:=λc xs r z=>by subst z;rw[r]at mu;exact mu
 by_cases hb:b=x
 .subst hb;rw[aC]at q;cases q;exact new
 .rw[ar hb]at q;by_cases Mo:b=e
  .have q':H b=be (.own x):=by
    rcases he with z|z
    .exact absurd (Mo.trans z) hb
    .rw[Mo];exact z
   rw[q]at q';cases q';obtain⟨v,hv⟩:=H_;exact#[v,by rw[Mo];exact hv]
  .refine(ok b u q).stay (λc v hc r=>k c v ?_ r) (λc r=>by rw[ar (nown c b r)];exact r) λc xs r=>by rw[ar (Pb c xs r)];exact r
   rcases hc with rfl|hc
   .exact Mo
   .rintro rfl;rcases he with z|z
    .exact nown c b hc z
    .rw[hc]at z;cases z;exact hb rfl
end
structure Un(fs ex:List Addr)(H H':Hp)(h h':Heap):Prop where
 keep:∀b o,h.get? b=be o->H b=LH->b∉fs->b∉ex->h'.get? b=be o
 slot:∀b o,h.get? b=be o->H b=LH->b∈fs->b∉ex->∃sl,h'.get? b=be {o with slots:=sl}
 free:∀b o,h.get? b=be o->H b=LH->b∉ex->H' b=LH
 there:∀b o,h.get? b=be o->b∉ex->∃o',h'.get? b=be o'
 tups:∀b xs,H b=be (.tup xs)->H' b=be (.tup xs)
 frzs:∀b o u,H b=be (.frz o u)->H' b=be (.frz o u)
 tbls:∀b ps,H b=be (.tbl ps)->∃more,H' b=be (.tbl (ps++more))
section
variable {fs l9 ex RD:List Addr}{H H1 H2:Hp}{h h1 h2 h':Heap}{a x e:Addr}{o:HO}
def Un.any(u:Un fs ex H H1 h h1){b:Addr}{ob:Vn}(q:h.get? b=be ob)(n:H b=LH)(hx:b∉ex):∃sl,h1.get? b=be {ob with slots:=sl}:=by
 by_cases hb:b∈fs
 .exact u.slot b ob q n hb hx
 .exact#[ob.slots,u.keep b ob q n hb hx]
def Un.kept(k:∀b u,h.get? b=be u->h'.get? b=be u):Un fs ex H H h h':=
 #[λb ob q _ _ _=>k b ob q,λb ob q _ _ _=>#[ob.slots,k b ob q],λ_ _ _ n _=>n,λb ob q _=>#[ob,k b ob q],λ_ _ q=>q,λ_ _ _ q=>q,λ_ ps q=>#[[].toArray,by rw[q];simp]]
def Un.refl:Un fs ex H H h h:=Un.kept λ_ _ q=>q
def Un.laid(k:∀b u,h.get? b=be u->h'.get? b=be u)(hp:h.objs.size<=a)(hn:H a=LH):Un fs ex H (upd H a o) h h' where
 keep:=λb u q _ _ _=>k b u q
 slot:=λb u q _ _ _=>#[u.slots,k b u q]
 free:=λb u q n _=>by rw[ar (HY (Im (Heap.lt_size q) hp))];exact n
 there:=λb u q _=>#[u,k b u q]
 tups:=λb xs q=>by rw[ar (bG q hn)];exact q
 frzs:=λb u xs q=>by rw[ar (bG q hn)];exact q
 tbls:=λb ps q=>#[[].toArray,by rw[ar (bG q hn),q];simp]
def Un.write(mu:Mut (H x))(he:e=x\/H e=be (.own x))(k:∀b u,b≠e->h.get? b=be u->h'.get? b=be u)(H_:∃u,h'.get? e=be u):Un fs ex H (upd H x o) h h':=by
 have hx:∀b,H b=LH->b≠x:=λb n z=>by subst z;rw[n]at mu;exact mu
 have hb:∀b,H b=LH->b≠e:=λb n z=>by
  subst z;rcases he with r|r
  .exact hx b n r
  .rw[n]at r;cases r
 have hm:∀b u,H b=be u->¬Mut (be u)->b≠x:=λb u q nm z=>by subst z;rw[q]at mu;exact nm mu
 refine⟨λb u q n _ _=>k b u (hb b n) q,λb u q n _ _=>#[u.slots,k b u (hb b n) q],λb u q n _=>by rw[ar (hx b n)];exact n,λb u q _=>?_,
  λb xs q=>by rw[ar (hm b _ q λz=>z)];exact q,λb u xs q=>by rw[ar (hm b _ q λz=>z)];exact q,λb ps q=>#[[].toArray,by rw[ar (hm b _ q λz=>z),q];simp]⟩
 by_cases Mo:b=e
 .subst Mo;exact H_
 .exact#[u,k b u Mo q]
end
def trk(h:Heap)(H:Hp):List Addr:=(HS h.objs.size).filter λa=>(H a).isSome
def hidT(h:Heap)(H:Hp):Heap:=hideAll h (trk h H)
def xi(h:Heap)(H:Hp):(hidT h H).objs.size=h.objs.size:=hideAll_size _ _
def xj{o:Vn}(e:h.get? b=be o)(n:H b=LH):(hidT h H).get? b=be o:=
 hideAll_get _ e λhm=>by
  have q:(H b).isSome=true:=(KB.mp hm).2;rw[n]at q;simp at q
def xk{o:Vn}(e:(hidT h H).get? b=be o):h.get? b=be o/\H b=none:=by
 have e':h.get? b=be o:=of_hideAll (trk h H) e;refine#[e',?_];cases q:H b with
 |none=>rfl
 |some x=>
  have hm:b∈trk h H:=KB.mpr #[List.mem_range.mpr (Heap.lt_size e'),by simp[q]];have z:(hidT h H).get? b=none:=hideAll_none (trk h H) hm;rw[z]at e;cases e
structure Mod(K:Ex)(mg:Str->Option Os)(base:Heap):Prop where
 kin:K.In base
 glob:base.Ns SB mg
 blt:∃mb,base.Ns WX mb/\∀x:Ms,x≠"__name__"->mb x=Vo x
 nolimit:base.NoLimit
structure Cx where
 prog:U8
 w:U_
 K:Ex
 mg:Ms->Option Os
 base:Heap
 A:Va
 N:List Ms
 s₀:P3
 H₀:Hp
 env:VS
 outer:List VS
 stack:List VS
 ex:List Addr
 fn:Ms->Bool
 calm:Bool
 pn:List (Addr×Vn)
 xe:Os->P3->Prop
abbrev zSE(X:Cx)(e:U6)(es:List U6):Prop:=U' (e::es) X.env=(false,Vd e X.env)::U' es X.env
abbrev zPL(X:Cx)(p:Vf)(es:List U6):Prop:=(Vz p (U' es X.env)).any (·.1)=false
abbrev zHF(X:Cx)(p:Vf)(es:List U6):Prop:=((Vz p (U' es X.env)).all (λx=>!x.1)&&(V1 p (VG [] X.env)).all (λx=>x.1.isSome)&&decide (es.length+([]:List Wa).length+(if([]:List Wa).isEmpty then 0 else 1)<30))=true
abbrev zFN(X:Cx)(x:Ms):Prop:=X.fn x=true\/X.env.scope.names.lookup x=be .local
abbrev zND(x:Ms):Prop:=(x==("__debug__":Ms))=false
abbrev zNC(x:Ms):Prop:=(x==("__classdict__":Ms))=false
abbrev zFS(X:Cx)(e:U6)(y:Os):Prop:=W2 e X.env y=pure y
def frs(l:List VS):List Addr:=l.filterMap (·.frame)
abbrev Cx.fs(X:Cx):List Addr:=frs X.outer
def Vis(sc:VA)(x:Ms):Prop:=sc.names.lookup x=be .local\/sc.names.lookup x=be .cell\/sc.names.lookup x=be .free
def Loc(sc:VA)(x:Ms):Prop:=sc.names.lookup x=be .local\/sc.names.lookup x=be .cell
def Look(env:VS)(h:Heap)(m:Ms->Option Os)(x:Ms)(u:Os):Prop:=
 (env.kindOf x=be .local/\m x=be u)\/((env.kindOf x=be .cell\/env.kindOf x=be .free)/\∃c,env.cells.lookup x=be c/\h.IsCell c (be u))
structure Cx.Ok(X:Cx):Prop where
 mod:Mod X.K X.mg X.base
 kind:X.env.scope.kind=.function
 glob:X.env.globals=SB
 blt:X.env.builtins=WX
 above:X.s₀.heap.objs.size<=X.env.locals
 inj:∀x y c,X.env.cells.lookup x=be c->X.env.cells.lookup y=be c->x=y
 has:∀x,(X.env.kindOf x=be .cell\/X.env.kindOf x=be .free)->∃c,X.env.cells.lookup x=be c
 cab:∀x c,X.fn x=true->X.env.cells.lookup x=be c->X.s₀.heap.objs.size<=c
 hd:X.calm=true->X.A.handled=LH
 frames:X.A.frames=be X.stack
 stk:X.stack=X.outer\/(X.stack=X.env::X.outer/\X.env.frame=be X.env.locals)
 exf:∀b∈X.ex,b≠X.env.locals/\∀x c,X.env.cells.lookup x=be c->c≠b
 bs:∀b o,X.base.get? b=be o->X.s₀.heap.get? b=be o/\X.H₀ b=LH
 bsz:X.base.objs.size<=X.s₀.heap.objs.size
 noex:∀b o,X.base.get? b=be o->b∉X.ex
 exfs:∀b∈X.ex,b∉X.fs
 funs:X.s₀.heap.FunFrames X.base X.outer
 frf:∀b∈X.fs,X.H₀ b=LH
structure Inv(X:Cx)(pins:List (Addr×Vn))(σ:List (Option V))(H:Hp)(s:P3):Prop where
 ok:X.Ok
 os:s.os=X.s₀.os
 bare:VY s.gens
 base:Un X.fs X.ex X.H₀ H X.s₀.heap s.heap
 loc:∃m,s.heap.Ns X.env.locals m/\∀(i:Nat) (x:Ms) (v:V),X.N[i]?=be x->σ[i]?=be (be v)->Vis X.env.scope x->∃u,RelV v u/\Look X.env s.heap m x u
 cell:∀x c,X.env.cells.lookup x=be c->∃v,s.heap.IsCell c v
 free:H X.env.locals=LH
 freeC:∀x c,X.env.cells.lookup x=be c->H c=LH
 pin:∀p∈X.pn++pins,s.heap.get? p.1=be p.2/\H p.1=LH/\p.1≠X.env.locals/\p.1∉X.fs/\∀v,p.2.data≠.cell v
 hok:HOk X.prog X.w H s.heap
 len:σ.length=X.N.length
section
variable {X:Cx}{pins:List (Addr×Vn)}{σ:List (Option V)}{H H':Hp}{s:P3}{h':Heap}
def Cx.Ok.nofr(ok:X.Ok){b:Addr}{o:Vn}(e:X.base.get? b=be o):b∉X.fs:=λhb=>by
 have:=(ok.funs.mem hb).1;rw[e]at this;cases this
def Inv.bs(I:Inv X pins σ H s):∀b o,X.base.get? b=be o->s.heap.get? b=be o/\H b=none:=λb o e=>
 #[I.base.keep b o (I.ok.bs b o e).1 (I.ok.bs b o e).2 (I.ok.nofr e) (I.ok.noex b o e),I.base.free b o (I.ok.bs b o e).1 (I.ok.bs b o e).2 (I.ok.noex b o e)]
def Inv.bk(I:Inv X pins σ H s):∀b o,X.base.get? b=be o->s.heap.get? b=be o:=λb o e=>(I.bs b o e).1
def Inv.mod(I:Inv X pins σ H s):Mod X.K X.mg X.base:=I.ok.mod
def Inv.kIn(I:Inv X pins σ H s):X.K.In s.heap:=I.ok.mod.kin.keeps I.bk
def Inv.lt(I:Inv X pins σ H s):X.env.locals<s.heap.objs.size:=let ⟨_,hn,_⟩:=I.loc;hn.lt
def Inv.sz(I:Inv X pins σ H s):X.s₀.heap.objs.size<=s.heap.objs.size:=HZ I.ok.above (JL I.lt)
def Inv.nofs(I:Inv X pins σ H s){a:Addr}(h:s.heap.objs.size<=a):a∉X.fs:=λhb=>by
 obtain⟨_,o,ho,_⟩:=I.ok.funs.mem hb;exact absurd (Im (Heap.lt_size ho) (HZ I.sz h)) (Jb _)
def Inv.cne(I:Inv X pins σ H s):∀x c,X.env.cells.lookup x=be c->c≠X.env.locals:=λx c e z=>by
 obtain⟨v,o,ho,hd⟩:=I.cell x c e;obtain⟨m,⟨o',es,ep,Mp,e_,_⟩,_⟩:=I.loc;rw[z,Mp]at ho;cases ho;rw[e_]at hd;cases hd
def Inv.funs(I:Inv X pins σ H s):s.heap.FunFrames X.base X.outer:=by
 have all:∀(l:List VS),(∀b∈frs l,b∈X.fs)->X.s₀.heap.FunFrames X.base l->s.heap.FunFrames X.base l:=by
  intro l;induction l with
  |nil=>intro _ _;trivial
  |cons env r ih=>
   intro hs hl;obtain⟨hk,⟨L,o,hf,hn,ho,hd⟩,hr⟩:=hl;have hL:L∈X.fs:=hs L (by unfold frs;rw[JM,hf];exact HW);obtain⟨sl,e⟩:=I.base.slot L o ho (I.ok.frf L hL) hL λz=>I.ok.exfs L z hL;exact#[hk,#[L,_,hf,hn,e,hd],ih (λb hb=>hs b (by unfold frs;rw[JM,hf];exact HU _ hb)) hr]
 exact all X.outer (λ_ hb=>hb) I.ok.funs
def Inv.stack(I:Inv X pins σ H s):s.heap.FunFrames X.base X.stack:=by
 rcases I.ok.stk with e|⟨e,hf⟩
 .rw[e];exact I.funs
 .rw[e];obtain⟨m,hn,_⟩:=I.loc;refine .cons (by rw[I.ok.kind];decide) hf hn ?_ I.funs;exact Heap.get?_none_of_le (HZ I.ok.bsz I.ok.above)
def Inv.stkSub(I:Inv X pins σ H s):∀b∈frs X.stack,b∈X.env.locals::X.fs:=λb hb=>by
 rcases I.ok.stk with e|⟨e,hf⟩
 .rw[e]at hb;exact HU _ hb
 .rw[e]at hb;unfold frs at hb;rw[JM,hf]at hb;exact hb
def Inv.stkFree(I:Inv X pins σ H s):∀b∈frs X.stack,H b=none:=λb hb=>by
 rcases HQ.mp (I.stkSub b hb)with e|hb
 .rw[e];exact I.free
 .obtain⟨_,o,ho,_⟩:=I.ok.funs.mem hb;exact I.base.free b o ho (I.ok.frf b hb) λz=>I.ok.exfs b z hb
variable{g':Array WO}{ch:List Addr}
def Inv.step{t':Nat}{d':Drawn}(I:Inv X pins σ H s)
  (I_:∀b∈ch,(b∈X.ex\/X.s₀.heap.objs.size<=b)/\b≠X.env.locals/\(∀x c,X.env.cells.lookup x=be c->c≠b)/\∀p∈X.pn++pins,p.1≠b)
  (keep:∀b o,b≠X.env.locals->b∉X.fs->b∉ch->s.heap.get? b=be o->H b=LH->h'.get? b=be o)
  (slot:∀b o,b≠X.env.locals->b∈X.fs->b∉ch->s.heap.get? b=be o->H b=LH->∃sl,h'.get? b=be {o with slots:=sl}) (free:∀b o,b∉ch->s.heap.get? b=be o->H b=LH->H' b=LH)
  (there:∀b o,b∉ch->s.heap.get? b=be o->∃o',h'.get? b=be o')
  (tups:∀b xs,H b=be (.tup xs)->H' b=be (.tup xs)) (frzs:∀b o u,H b=be (.frz o u)->H' b=be (.frz o u)) (tbls:∀b ps,H b=be (.tbl ps)->∃more,H' b=be (.tbl (ps++more)))
  (ns:∀m,s.heap.Ns X.env.locals m->h'.Ns X.env.locals m) (hok:HOk X.prog X.w H' h') (hg:VY g'):
  Inv X pins σ H' {s with heap:=h',gens:=g',drawn:=d',toks:=t'}:=by
 have RE:∀b o,X.s₀.heap.get? b=be o->b≠X.env.locals:=λb o e=>HY (Im (Heap.lt_size e) I.ok.above);have OE:∀b o,X.s₀.heap.get? b=be o->b∉X.ex->b∉ch:=λb o e hx hb=>by
  rcases(I_ b hb).1 with z|z
  .exact hx z
  .exact absurd (Im (Heap.lt_size e) z) (Jb _)
 have m5:∀x c,X.env.cells.lookup x=be c->∀v,s.heap.IsCell c v->h'.IsCell c v:=λx c e v ⟨o,ho,hd⟩=>by
  have NC:c∉ch:=λz=>(I_ c z).2.2.1 x c e rfl;by_cases hc:c∈X.fs
  .obtain⟨sl,q⟩:=slot c o (I.cne x c e) hc NC ho (I.freeC x c e);exact#[_,q,hd]
  .exact#[o,keep c o (I.cne x c e) hc NC ho (I.freeC x c e),hd]
 refine#[I.ok,I.os,hg,#[λb o e n hb hx=>?_,λb o e n hb hx=>?_,λb o e n hx=>?_,λb o e hx=>?_,λb xs e=>tups b xs (I.base.tups b xs e),λb o xs e=>frzs b o xs (I.base.frzs b o xs e),λb ps e=>?_],?_,λx c e=>?_,?_,λx c e=>?_,λp hp=>?_,hok,I.len]
 .exact keep b o (RE b o e) hb (OE b o e hx) (I.base.keep b o e n hb hx) (I.base.free b o e n hx)
 .obtain⟨sl,e1⟩:=I.base.slot b o e n hb hx;obtain⟨m6,e2⟩:=slot b _ (RE b o e) hb (OE b o e hx) e1 (I.base.free b o e n hx);exact#[m6,e2]
 .obtain⟨o',e1⟩:=I.base.there b o e hx;exact free b o' (OE b o e hx) e1 (I.base.free b o e n hx)
 .obtain⟨o',e1⟩:=I.base.there b o e hx;exact there b o' (OE b o e hx) e1
 .obtain⟨m1,e1⟩:=I.base.tbls b ps e;obtain⟨m2,e2⟩:=tbls b _ e1;exact#[m1++m2,by rw[e2,Array.append_assoc]]
 .obtain⟨m,hn,hl⟩:=I.loc;refine#[m,ns m hn,λi x v e1 e2 e3=>?_];obtain⟨u,r,l⟩:=hl i x v e1 e2 e3;refine#[u,r,?_];rcases l with l|⟨k,c,e,z⟩
  .exact .inl l
  .exact .inr #[k,c,e,m5 x c e _ z]
 .obtain⟨v,z⟩:=I.cell x c e;exact#[v,m5 x c e v z]
 .obtain⟨m,⟨o,_,_,ho,_⟩,_⟩:=I.loc;exact free _ o (λz=>(I_ _ z).2.1 rfl) ho I.free
 .obtain⟨v,o,ho,hd⟩:=I.cell x c e;exact free c o (λz=>(I_ c z).2.2.1 x c e rfl) ho (I.freeC x c e)
 .obtain⟨e,n,ne,nf,d⟩:=I.pin p hp;have NC:p.1∉ch:=λz=>(I_ p.1 z).2.2.2 p hp rfl;exact#[keep p.1 p.2 ne nf NC e n,free p.1 p.2 NC e n,ne,nf,d]
def Inv.un{t':Nat}(I:Inv X pins σ H s)(u:Un X.fs [] H H' s.heap h')(hok:HOk X.prog X.w H' h'):Inv X pins σ H' {s with heap:=h',toks:=t'}:=by
 obtain⟨m,⟨o,es,ep,ho,r⟩,_⟩:=id I.loc;obtain⟨sl,hL⟩:=u.any ho I.free MF;exact I.step (g':=s.gens) (d':=s.drawn) (ch:=[]) (λ_ z=>nomatch z) (λb o _ hb _ e n=>u.keep b o e n hb MF) (λb o _ hb _ e n=>u.slot b o e n hb MF) (λb o _ e n=>u.free b o e n MF) (λb o _ e=>u.there b o e MF) u.tups u.frzs u.tbls (λm' hm=>by
  obtain⟨o',Pc,Pd,Mp,r'⟩:=hm;rw[ho]at Mp;cases Mp;exact#[_,Pc,Pd,hL,r']) hok I.bare
def Inv.call{t':Nat}{d':Drawn}(I:Inv X pins σ H s)(u:Un (frs X.stack) ch H H' s.heap h')(hok:HOk X.prog X.w H' h')(hg:VY g')
  (I_:∀b∈ch,(b∈X.ex\/X.s₀.heap.objs.size<=b)/\b≠X.env.locals/\(∀x c,X.env.cells.lookup x=be c->c≠b)/\∀p∈X.pn++pins,p.1≠b):
  Inv X pins σ H' {s with heap:=h',gens:=g',drawn:=d',toks:=t'}:=by
 obtain⟨m,⟨o,es,ep,ho,r⟩,_⟩:=id I.loc;obtain⟨sl,hL⟩:=u.any ho I.free λz=>(I_ _ z).2.1 rfl;exact I.step (ch:=ch) I_ (λb o hL hb hc e n=>u.keep b o e n (λz=>(HQ.mp (I.stkSub b z)).elim hL hb) hc) (λb o _ _ hc e n=>u.any e n hc) (λb o hc e n=>u.free b o e n hc) (λb o hc e=>u.there b o e hc) u.tups u.frzs u.tbls (λm' hm=>by
  obtain⟨o',Pc,Pd,Mp,r'⟩:=hm;rw[ho]at Mp;cases Mp;exact#[_,Pc,Pd,hL,r']) hok hg
def Inv.turned{t':Nat}{it:Addr}(I:Inv X pins σ H s)(k:∀b o,b≠it->s.heap.get? b=be o->h'.get? b=be o)(hn:H it=LH)(hL:it≠X.env.locals)
  (h1:it∈X.ex\/X.s₀.heap.objs.size<=it) (h2:∀x c,X.env.cells.lookup x=be c->c≠it) (h3:∀p∈X.pn++pins,p.1≠it):Inv X pins σ H {s with heap:=h',toks:=t'}:=by
 have Mq:∀b u,H b=be u->b≠it:=λb u e z=>by rw[z,hn]at e;cases e
 refine I.step (g':=s.gens) (d':=s.drawn) (ch:=[it]) (λb hb=>?_) (λb o _ _ hc e _=>k b o (λz=>hc (by simp[z])) e) (λb o _ _ hc e _=>#[o.slots,k b o (λz=>hc (by simp[z])) e]) (λ_ _ _ _ n=>n)
  (λb o hc e=>#[o,k b o (λz=>hc (by simp[z])) e]) (λ_ _ e=>e) (λ_ _ _ e=>e) (λb ps e=>#[[].toArray,by rw[e];simp]) (λm hm=>?_) (λb u e=>?_) I.bare
 .have e:b=it:=by simpa using hb
  subst e;exact#[h1,hL,h2,h3]
 .obtain⟨o,es,ep,ho,r⟩:=hm;exact#[o,es,ep,k _ o (Ne.symm hL) ho,r]
 .refine(I.hok b u e).stay (λc v hc q=>k c v ?_ q) (λ_ q=>q) λ_ _ q=>q;rcases hc with z|z
  .rw[z];exact Mq b u e
  .exact Mq c _ z
def Inv.tok(I:Inv X pins σ H s)(t:Nat):Inv X pins σ H {s with toks:=t}:=I.un (h':=s.heap) (t':=t) Un.refl I.hok
def Inv.kept{t':Nat}(I:Inv X pins σ H s)(k:∀b u,s.heap.get? b=be u->h'.get? b=be u):Inv X pins σ H {s with heap:=h',toks:=t'}:=I.un (Un.kept k) (I.hok.kept k)
def Inv.laid{a:Addr}{o:HO}{t':Nat}(I:Inv X pins σ H s)(k:∀b u,s.heap.get? b=be u->h'.get? b=be u)(hp:s.heap.objs.size<=a)(new:ObjOk X.prog X.w (upd H a o) h' a o):
  Inv X pins σ (upd H a o) {s with heap:=h',toks:=t'}:=I.un (Un.laid k hp (I.hok.fresh hp)) (I.hok.laid k hp new)
def Inv.write{x e:Addr}{o:HO}{t':Nat}(I:Inv X pins σ H s)(mu:Mut (H x))(he:e=x\/H e=be (.own x))(k:∀b u,b≠e->s.heap.get? b=be u->h'.get? b=be u)(H_:∃u,h'.get? e=be u)
  (new:ObjOk X.prog X.w (upd H x o) h' x o):Inv X pins σ (upd H x o) {s with heap:=h',toks:=t'}:=I.un (Un.write mu he k H_) (I.hok.write mu he k H_ new)
def Inv.pins_of{L_:List (Addr×Vn)}(I:Inv X pins σ H s)(h:∀p∈L_,s.heap.get? p.1=be p.2/\H p.1=LH/\p.1≠X.env.locals/\p.1∉X.fs/\∀v,p.2.data≠.cell v):Inv X L_ σ H s:=
 #[I.ok,I.os,I.bare,I.base,I.loc,I.cell,I.free,I.freeC,λp hp=>(Iw.mp hp).elim (λz=>I.pin p (Jl _ z)) (h p),I.hok,I.len]
variable{x:Ms}{i:Nat}
def jW{N:List Ms}(hN:N.Nodup){j:Nat}(a:N[i]?=be x)(b:N[j]?=be x):i=j:=by
 obtain⟨h1,e1⟩:=Ia.mp a;obtain⟨h2,e2⟩:=Ia.mp b;exact(List.getElem_inj hN).mp (e1.trans e2.symm)
variable{E:Os->P3->Prop}{Q:Unit->P3->Prop}
def qU{M:WN}{A:Va}{v:V}{u:Os}(I:Inv X pins σ H s)(hN:X.N.Nodup)(hi:X.N[i]?=be x)(hx:Loc X.env.scope x)(r:RelV v u)
  (h:∀s',Inv X pins (σ.set i (be v)) H s'->(∃a,Heap.SameBut a s.heap s'.heap/\(a=X.env.locals\/X.env.cells.lookup x=be a))->Q () s') (hf:autoParam (zFN X x) zA2):U9 M A (storeName X.env x u) Q E s:=by
 obtain⟨m,hn,hl⟩:=id I.loc;have x9:(X.env.scope.kind== .class||(X.env.scope.kind== .module&&X.env.locals !=X.env.globals))=false:=by rw[I.ok.kind];rfl
 have hiσ:i<σ.length:=by rw[I.len];exact(Ia.mp hi).1
 have cne:=I.cne;have gt:∀{a:Addr} {h':Heap},(∃o,s.heap.get? a=be o/\H a=LH)->Heap.SameBut a s.heap h'->HOk X.prog X.w H h':=λ{a h'} ha hs b ob e=>by
  obtain⟨_,_,k9⟩:=ha;refine(I.hok b ob e).stay (λc w' hc q=>(hs.2 c ?_).trans q) (λ_ q=>q) λ_ _ q=>q;rintro rfl;rcases hc with rfl|hc
  .rw[k9]at e;cases e
  .rw[k9]at hc;cases hc
 rcases hx with hk|hk
 .refine wpAny_storeName_local hk hn (λh' gV hs=>?_) x9;obtain⟨oL,_,_,RF,_⟩:=id hn;refine h _ #[I.ok,I.os,I.bare,#[λb o e n hb hx=>?_,λb o e n hb hx=>?_,I.base.free,λb o e hx=>?_,I.base.tups,I.base.frzs,I.base.tbls],#[_,gV,λj y v' e1 e2 e3=>?_],λy c e=>?_,I.free,I.freeC,λp hp=>?_,gt #[oL,RF,I.free] hs,by simpa using I.len] #[_,hs,.inl rfl]
  .exact(hs.2 b (HY (Im (Heap.lt_size e) I.ok.above))).trans (I.base.keep b o e n hb hx)
  .obtain⟨sl,e1⟩:=I.base.slot b o e n hb hx;exact#[sl,(hs.2 b (HY (Im (Heap.lt_size e) I.ok.above))).trans e1]
  .obtain⟨o',e1⟩:=I.base.there b o e hx;exact#[o',(hs.2 b (HY (Im (Heap.lt_size e) I.ok.above))).trans e1]
  .by_cases hj:j=i
   .subst hj;rw[hi]at e1;cases e1;rw[IG hiσ]at e2;cases e2;exact#[u,r,.inl #[hk,MF]]
   .rw[Ie (Ne.symm hj)]at e2;obtain⟨u',r',q⟩:=hl j y v' e1 e2 e3;refine#[u',r',?_];rcases q with⟨k,e⟩|⟨k,c,e,z⟩
    .refine .inl #[k,?_];have:y≠x:=λe=>hj (jW hN e1 (e ▸ hi));simp[this,e]
    .exact .inr #[k,c,e,z.sameBut hs (cne y c e)]
  .obtain⟨w',z⟩:=I.cell y c e;exact#[w',z.sameBut hs (cne y c e)]
  .obtain⟨e,n,ne,nf,d⟩:=I.pin p hp;exact#[(hs.2 p.1 ne).trans e,n,ne,nf,d]
 .have ND:X.fn x=true:=by
   rcases hf with z|z
   .exact z
   .rw[z]at hk;cases hk
  obtain⟨c,hc⟩:=I.ok.has x (.inl hk);obtain⟨w',z⟩:=I.cell x c hc;refine wpAny_storeName_cell I.ok.kind hk hc z (λh' J_ hs=>?_);obtain⟨oc,RG,Pe⟩:=id z;refine h {s with heap:=h'} #[I.ok,I.os,I.bare,#[λb o e n hb hx=>?_,λb o e n hb hx=>?_,I.base.free,λb o e hx=>?_,I.base.tups,I.base.frzs,I.base.tbls],#[m,hn.sameBut hs (Ne.symm (cne x c hc)),λj y v' e1 e2 e3=>?_],λy c' e=>?_,I.free,I.freeC,λp hp=>?_,gt #[oc,RG,I.freeC x c hc] hs,by simpa using I.len] #[c,hs,.inr hc]
  .exact(hs.2 b (HY (Im (Heap.lt_size e) (I.ok.cab x c ND hc)))).trans (I.base.keep b o e n hb hx)
  .obtain⟨sl,e1⟩:=I.base.slot b o e n hb hx;exact#[sl,(hs.2 b (HY (Im (Heap.lt_size e) (I.ok.cab x c ND hc)))).trans e1]
  .obtain⟨o',e1⟩:=I.base.there b o e hx;exact#[o',(hs.2 b (HY (Im (Heap.lt_size e) (I.ok.cab x c ND hc)))).trans e1]
  .by_cases hj:j=i
   .subst hj;rw[hi]at e1;cases e1;rw[IG hiσ]at e2;cases e2;exact#[u,r,.inr #[.inl hk,c,hc,J_]]
   .rw[Ie (Ne.symm hj)]at e2;obtain⟨u',r',q⟩:=hl j y v' e1 e2 e3;refine#[u',r',?_];rcases q with q|⟨k,c',e,z'⟩
    .exact .inl q
    .refine .inr #[k,c',e,z'.sameBut hs ?_];rintro rfl;exact hj (jW hN e1 (I.ok.inj _ _ _ e hc ▸ hi))
  .by_cases RH:c'=c
   .subst RH;exact#[_,J_]
   .obtain⟨w2,z2⟩:=I.cell y c' e;exact#[w2,z2.sameBut hs RH]
  .obtain⟨e,n,ne,nf,d⟩:=I.pin p hp;refine#[(hs.2 p.1 ?_).trans e,n,ne,nf,d];intro q;rw[q,RG]at e;have q':oc=p.2:=Option.some.inj e;exact d w' (by rw[<-q'];exact Pe)
def eK{M:WN}{A:Va}{v:V}{u:Os}(I:Inv X pins σ H s)(hN:X.N.Nodup)(hi:X.N[i]?=be x)(hx:Loc X.env.scope x)(r:RelV v u)
  (h:∀s',Inv X pins (σ.set i (be v)) H s'->Q () s') (hf:autoParam (zFN X x) zA2):U9 M A (storeName X.env x u) Q E s:=
 qU I hN hi hx r (λs' I' _=>h s' I') hf
def Inv.call'{s':P3}(I:Inv X pins σ H s)(ho:s'.os=s.os)(u:Un (frs X.stack) ch H H' s.heap s'.heap)(hok:HOk X.prog X.w H' s'.heap)(hg:VY s'.gens)
  (I_:∀b∈ch,(b∈X.ex\/X.s₀.heap.objs.size<=b)/\b≠X.env.locals/\(∀x c,X.env.cells.lookup x=be c->c≠b)/\∀p∈X.pn++pins,p.1≠b):Inv X pins σ H' s':=by
 obtain⟨h',g',d',t',o'⟩:=s';have e:o'=s.os:=ho;subst e;exact I.call (g':=g') (t':=t') (d':=d') u hok hg I_
end
abbrev XK:=Os->Option Addr->Hp->Prop
abbrev St:=List (Option V)
abbrev VK:=V->Hp->Prop
abbrev TE:=St->Hp->VK->Prop
abbrev TT:=St->Hp->(Bool->Hp->Prop)->Prop
abbrev TA:=St->Hp->(List V->Hp->Prop)->Prop
structure Ends where
 nx:St->Hp->Prop
 rt:VK
 bk:St->Hp->Prop:=λ_ _=>False
 ct:St->Hp->Prop:=λ_ _=>False
abbrev TS:=Ends->St->Hp->Prop
def EP(X:Cx)(pins:List (Addr×Vn))(σ:St)(Q:VK)(u:Os)(s':P3):Prop:=∃v H',Inv X pins σ H' s'/\RelV v u/\Q v H'
def TP(X:Cx)(pins:List (Addr×Vn))(σ:St)(Q:Bool->Hp->Prop)(b:Bool)(s':P3):Prop:=∃H',Inv X pins σ H' s'/\Q b H'
def AP(X:Cx)(pins:List (Addr×Vn))(σ:St)(Q:List V->Hp->Prop)(us:List Os)(s':P3):Prop:=∃vs H',Inv X pins σ H' s'/\Vals vs us/\Q vs H'
def SP(X:Cx)(pins:List (Addr×Vn))(D:Ends)(f:Flow)(s':P3):Prop:=
 match f with
 |.next=>∃σ' H',Inv X pins σ' H' s'/\D.nx σ' H'
 |.brk=>∃σ' H',Inv X pins σ' H' s'/\D.bk σ' H'
 |.cont=>∃σ' H',Inv X pins σ' H' s'/\D.ct σ' H'
 |.ret u=>∃v σ' H',Inv X pins σ' H' s'/\RelV v u/\D.rt v H'
def PE(X:Cx)(e:U6)(t:TE):Prop:=
 ∀(pins:List (Addr×Vn)) (s:P3) (σ:St) (H:Hp) (Q:VK),Inv X pins σ H s->t σ H Q->U9 (SZ X.prog X.w) X.A (Vd e X.env) (EP X pins σ Q) X.xe s
def PT(X:Cx)(e:U6)(t:TT):Prop:=
 ∀(pins:List (Addr×Vn)) (s:P3) (σ:St) (H:Hp) (Q:Bool->Hp->Prop),Inv X pins σ H s->t σ H Q->U9 (SZ X.prog X.w) X.A (isTrue e X.env (Vd e X.env)) (TP X pins σ Q) X.xe s
def PW(X:Cx)(e:U6)(t:TT):Prop:=
 ∀(f7:WH Os) (pins:List (Addr×Vn)) (s:P3) (σ:St) (H:Hp) (Q:Bool->Hp->Prop),Inv X pins σ H s->t σ H Q->U9 (SZ X.prog X.w) X.A (isTrue e X.env f7) (TP X pins σ Q) X.xe s
variable{X:Cx}
def PW.pt{e:U6}{t:TT}(h:PW X e t):PT X e t:=h _
def PA(X:Cx)(es:List U6)(t:TA):Prop:=
 ∀(pos:Vf) (pins:List (Addr×Vn)) (s:P3) (σ:St) (H:Hp) (Q:List V->Hp->Prop),Inv X pins σ H s->t σ H Q->U9 (SZ X.prog X.w) X.A (spliced (Vz pos (U' es X.env))) (AP X pins σ Q) X.xe s
def PS(X:Cx)(st:U7)(t:TS):Prop:=
 ∀(pins:List (Addr×Vn)) (s:P3) (σ:St) (H:Hp) (D:Ends),Inv X pins σ H s->t D σ H->U9 (SZ X.prog X.w) X.A (exec st X.env) (SP X pins D) X.xe s
def PSs(X:Cx)(st:List U7)(t:TS):Prop:=
 ∀(pins:List (Addr×Vn)) (s:P3) (σ:St) (H:Hp) (D:Ends),Inv X pins σ H s->t D σ H->U9 (SZ X.prog X.w) X.A (execs st X.env) (SP X pins D) X.xe s
variable{A:Va}{E:Os->P3->Prop}{s:P3}
def thn{α:Type}{t:WH α}{Q Q':α->P3->Prop}{M:WN}(h:U9 M A t Q E s)(hQ:∀a s,Q a s->Q' a s):U9 M A t Q' E s:=Vk h hQ λ_ _ x=>x
section
variable {X:Cx}
def tVar(i:Nat):TE:=λσ H Q=>∃v,σ[i]?=be (be v)/\Q v H
def tC(v:V):TE:=λ_ H Q=>Q v H
variable{x:Ms}{pos:Vf}
def cS{i:Nat}(hN:X.N[i]?=be x)(hv:Vis X.env.scope x)(hd:autoParam (zND x) zA1)(g5:autoParam (zNC x) zA1):PE X (.Name x pos) (tVar i):=by
 intro pins s σ H Q I h;obtain⟨v,e,h⟩:=h;obtain⟨m,hn,hl⟩:=I.loc;obtain⟨u,r,l⟩:=hl i x v hN e hv;have d_:EP X pins σ Q u s:=#[v,H,I,r,h];rcases l with⟨hk,hm⟩|⟨hk,c,hc,m8⟩
 .exact WU (wpAny_loadName_local I.ok.kind hk hn hm d_) hd
 .rcases hk with hk|hk
  .exact WU (wpAny_loadName_cell I.ok.kind hk hc m8 d_) hd
  .exact WU (wpAny_loadName_free I.ok.kind hk hc m8 d_ g5) hd
def xm{i j pos}:PE X (.Constant (.int i) j pos) (tC (.int i)):=λ_ _ _ H _ I h=>wpAny_Constant_int #[.int i,H,I.tok _,#[_,rfl],h]
def xn{b j pos}:PE X (.Constant (.bool b) j pos) (tC (.bl b)):=λ_ _ _ H _ I h=>Constant_bool #[.bl b,H,I,rfl,h]
def xo{j pos}:PE X (.Constant .none j pos) (tC .non):=λ_ _ _ H _ I h=>Constant_none #[.non,H,I,rfl,h]
def qV{x j pos}:PE X (.Constant (.str x) j pos) (tC (.str x)):=λ_ _ _ H _ I h=>Calls.Constant_str #[.str x,H,I.tok _,#[_,rfl],h]
def Gl(X:Cx)(x:Ms):Prop:=X.env.kindOf x=be .globalImplicit
variable{E Q:Os->P3->Prop}{pins:List (Addr×Vn)}{u:Os}
def cz{s:P3}{σ:St}{H:Hp}(I:Inv X pins σ H s)(hg:Gl X x)(hm:X.mg x=be u)(h:Q u s)
  (hd:autoParam (zND x) zA1):U9 (SZ X.prog X.w) X.A (Vd (.Name x pos) X.env) Q E s:=
 Calls.Name_function_global I.ok.kind hg (Calls.loadGlobal_global (by rw[I.ok.glob];exact I.mod.glob.keeps I.bk) hm h) hd
def dP{s:P3}{σ:St}{H:Hp}(I:Inv X pins σ H s)(hg:Gl X x)(hm:X.mg x=LH)(hv:Vo x=be u)(h:Q u s)
  (hn:autoParam (x≠"__name__") zA1) (hd:autoParam (zND x) zA1):U9 (SZ X.prog X.w) X.A (Vd (.Name x pos) X.env) Q E s:=by
 obtain⟨mb,h1,h2⟩:=I.mod.blt;exact Calls.Name_function_global I.ok.kind hg (Calls.loadGlobal_builtin (by rw[I.ok.glob];exact I.mod.glob.keeps I.bk) hm (by rw[I.ok.blt];exact h1.keeps I.bk) ((h2 x hn).trans hv) h) hd
def qW{v:V}(hg:Gl X x)(hm:X.mg x=be u)(r:RelV v u)(hd:autoParam (zND x) zA1):PE X (.Name x pos) (tC v):=
 λ_ _ _ H _ I h=>cz I hg hm #[v,H,I,r,h] hd
def jX{v:V}(hg:Gl X x)(hm:X.mg x=LH)(hv:Vo x=be u)(r:RelV v u)(hn:autoParam (x≠"__name__") zA1)(hd:autoParam (zND x) zA1):PE X (.Name x pos) (tC v):=
 λ_ _ _ H _ I h=>dP I hg hm hv #[v,H,I,r,h] hn hd
variable {a b:U6}{ta tb:TE}{pos:Vf}
variable {tA LD:TT}{rest:List U6}
def tAnd(t u:TT):TT:=λσ H Q=>t σ H λc H1=>if c=true then u σ H1 Q else Q false H1
def tOr(t u:TT):TT:=λσ H Q=>t σ H λc H1=>if c=true then Q true H1 else u σ H1 Q
def tNot(t:TT):TT:=λσ H Q=>t σ H λc H1=>Q (!c) H1
def qX(ha:PT X a tA):PW X (.BoolOp .And [a] pos) tA:=by
 intro wh pins s σ H Q I h;refine isTrue_and (thn (ha pins s σ H Q I h) λc s1 e=>?_);cases c with
 |true=>exact isTrue_and_nil e
 |false=>exact e
def qY(ha:PT X a tA):PW X (.BoolOp .Or [a] pos) tA:=by
 intro wh pins s σ H Q I h;refine isTrue_or (thn (ha pins s σ H Q I h) λc s1 e=>?_);cases c with
 |false=>exact isTrue_or_nil e
 |true=>exact e
def qZ(ha:PT X a tA)(hb:PW X (.BoolOp .And (b::rest) pos) LD):PW X (.BoolOp .And (a::b::rest) pos) (tAnd tA LD):=by
 intro wh pins s σ H Q I h;refine isTrue_and (thn (ha pins s σ H _ I h) λc s1 b9=>?_);obtain⟨H1,I1,q1⟩:=b9;cases c with
 |true=>exact hb wh pins s1 σ H1 Q I1 q1
 |false=>exact#[H1,I1,q1]
def ra(ha:PT X a tA)(hb:PW X (.BoolOp .Or (b::rest) pos) LD):PW X (.BoolOp .Or (a::b::rest) pos) (tOr tA LD):=by
 intro wh pins s σ H Q I h;refine isTrue_or (thn (ha pins s σ H _ I h) λc s1 b9=>?_);obtain⟨H1,I1,q1⟩:=b9;cases c with
 |true=>exact#[H1,I1,q1]
 |false=>exact hb wh pins s1 σ H1 Q I1 q1
def rb(ha:PT X a tA):PT X (.UnaryOp .Not a pos) (tNot tA):=by
 intro pins s σ H Q I h;exact isTrue_not (ha pins s σ H (λc H1=>Q (!c) H1) I h)
def xp(ta tb:TE):TE:=λσ H Q=>ta σ H λx H1=>∃c,x=.bl c/\if c=true then tb σ H1 Q else Q (.bl false) H1
def xq(ta:TE):TE:=λσ H Q=>ta σ H λx H1=>∃c,x=.bl c/\Q (.bl (!c)) H1
def xr{op}{t:TE}(h:PE X a t):PE X (.BoolOp op [a] pos) t:=λpins s σ H Q I hw=>BoolOp_one (h pins s σ H Q I hw)
def xt(ha:PE X a ta)(hb:PE X (.BoolOp .And (b::rest) pos) tb):PE X (.BoolOp .And (a::b::rest) pos) (xp ta tb):=by
 intro pins s σ H Q I h;refine BoolOp_and (thn (ha pins s σ H _ I h) λv s1 b9=>?_);obtain⟨x,H1,I1,r1,q1⟩:=b9;obtain⟨c,rfl,q1⟩:=q1;cases r1;refine VU ?_;cases c with
 |true=>exact hb pins s1 σ H1 Q I1 q1
 |false=>exact#[.bl false,H1,I1,rfl,q1]
def xu(ha:PE X a ta):PE X (.UnaryOp .Not a pos) (xq ta):=by
 intro pins s σ H Q I h;refine UnaryOp_ (thn (ha pins s σ H _ I h) λv s1 b9=>?_);obtain⟨x,H1,I1,r1,q1⟩:=b9;obtain⟨c,rfl,q1⟩:=q1;cases r1;exact not_of (VU #[.bl (!c),H1,I1,rfl,q1])
def tIf(t:TT)(ta tb:TE):TE:=λσ H Q=>t σ H λc H1=>if c=true then ta σ H1 Q else tb σ H1 Q
def xx{c:U6}(hc:PT X c tA)(ha:PE X a ta)(hb:PE X b tb):PE X (.IfExp c a b pos) (tIf tA ta tb):=by
 intro pins s σ H Q I h;refine wpAny_IfExp (thn (hc pins s σ H _ I h) λd s1 b9=>?_);obtain⟨H1,I1,q1⟩:=b9;cases d with
 |true=>exact ha pins s1 σ H1 Q I1 q1
 |false=>exact hb pins s1 σ H1 Q I1 q1
end
def SqL(K:Ex)(H:Hp)(a:Addr)(xs:List V):Prop:=
 Rd H a (.lst xs)\/
  ∃(o:Vn) (its:Array Os) (n:Nat),K.lookup a=be o/\o.cls=.type "list"/\o.dict=LH/\o.data=.seq its n/\its.size<=sizeLine/\Vals xs its.toList
def SqT(K:Ex)(H:Hp)(a:Addr)(xs:List V):Prop:=
 Rd H a (.tup xs)\/
  ∃(o:Vn) (its:Array Os) (n:Nat),K.lookup a=be o/\o.cls=.type "tuple"/\o.data=.seq its n/\its.size<=sizeLine/\Vals xs its.toList
def absV:Os->Option V
 |.none=>be .non
 |.bool b=>be (.bl b)
 |.int i _=>be (.int i)
 |.str x _=>be (.str x)
 |.bytes b _=>be (.byt b)
 |.float b _=>be (.flt b)
 |.ref a=>be (.ref a)
 |.type n=>be (.ty n)
 |_=>LH
variable{u:Os}
def RelV.abs{x:V}(r:RelV x u):absV u=be x:=by
 cases x with
 |non=>cases r;rfl
 |bl _=>cases r;rfl
 |int _=>obtain⟨t,rfl⟩:=r;rfl
 |str _=>obtain⟨t,rfl⟩:=r;rfl
 |byt _=>obtain⟨t,rfl⟩:=r;rfl
 |flt _=>obtain⟨t,rfl⟩:=r;rfl
 |ref _=>cases r;rfl
 |ty _=>cases r;rfl
def RelV.inj{x y:V}(r:RelV x u)(q:RelV y u):x=y:=Option.some.inj (r.abs.symm.trans q.abs)
def Vals.inj:∀{xs ys:List V} {us:List Os},Vals xs us->Vals ys us->xs=ys:=by
 intro xs ys us h;induction h generalizing ys with
 |nil=>intro g;cases g;rfl
 |cons r _ e=>
  intro g;cases g with
  |cons r' t'=>rw[r.inj r',e t']
section
variable {X:Cx}{pins:List (Addr×Vn)}{σ:St}{H:Hp}{s:P3}{a:Addr}{xs ys:List V}
def SqL.of{K:Ex}(h:H a=be (.lst xs)):SqL K H a xs:=.inl (.inl h)
def SqT.of{K:Ex}(h:H a=be (.tup xs)):SqT K H a xs:=.inl (.inl h)
def Inv.list(I:Inv X pins σ H s)(h:SqL X.K H a xs):∃its:List Os,Vals xs its/\PlainL s.heap a its.toArray/\xs.length<=sizeLine:=by
 rcases h with h|⟨o,its,n,hk,hc,hd,hs,hz,r⟩
 .obtain⟨z,its,n,r,e⟩:=h.ok I.hok;exact#[its,r,#[_,n,e,rfl,rfl,rfl],z]
 .refine#[its.toList,r,#[o,n,I.kIn a o hk,hc,hd,by simpa using hs],?_];have e:=r.length;simp only[JN]at e;lia
def Inv.tuple(I:Inv X pins σ H s)(h:SqT X.K H a xs):∃its:List Os,Vals xs its/\IsTup s.heap a its.toArray/\xs.length<=sizeLine:=by
 rcases h with h|⟨o,its,n,hk,hc,hs,hz,r⟩
 .obtain⟨z,its,r,p⟩:=h.ok I.hok;exact#[its,r,p,z]
 .refine#[its.toList,r,#[o,I.kIn a o hk,hc,n,by simpa using hs],?_];have e:=r.length;simp only[JN]at e;lia
def Inv.list_inj(I:Inv X pins σ H s)(h:SqL X.K H a xs)(h':SqL X.K H a ys):xs=ys:=by
 obtain⟨its,r,⟨o,n,e,_,_,d⟩,_⟩:=I.list h;obtain⟨its',r',⟨o',n',e',_,_,d'⟩,_⟩:=I.list h';rw[e]at e';cases e';rw[d]at d';injection d' with d1 _;have:its=its':=by simpa using congrArg Array.toList d1
 subst this;exact r.inj r'
end
abbrev Cx.wish(X:Cx)(E:Os->P3->Prop):Cx:={X with xe:=E}
abbrev Cx.nox(X:Cx):Cx:=X.wish λ_ _=>False
def Cx.Ok.wish(ok:X.Ok)(E:Os->P3->Prop):(X.wish E).Ok:=
 #[ok.mod,ok.kind,ok.glob,ok.blt,ok.above,ok.inj,ok.has,ok.cab,ok.hd,ok.frames,ok.stk,ok.exf,ok.bs,ok.bsz,ok.noex,ok.exfs,ok.funs,ok.frf]
def Cx.Ok.unwish(ok:(X.wish E).Ok):X.Ok:=
 #[ok.mod,ok.kind,ok.glob,ok.blt,ok.above,ok.inj,ok.has,ok.cab,ok.hd,ok.frames,ok.stk,ok.exf,ok.bs,ok.bsz,ok.noex,ok.exfs,ok.funs,ok.frf]
section
variable {X:Cx}{pins:List (Addr×Vn)}{σ:St}{H:Hp}{s:P3}{E:Os->P3->Prop}
def Inv.wish(I:Inv X pins σ H s)(E:Os->P3->Prop):Inv (X.wish E) pins σ H s:=#[I.ok.wish E,I.os,I.bare,I.base,I.loc,I.cell,I.free,I.freeC,I.pin,I.hok,I.len]
def Inv.unwish(I:Inv (X.wish E) pins σ H s):Inv X pins σ H s:=#[I.ok.unwish,I.os,I.bare,I.base,I.loc,I.cell,I.free,I.freeC,I.pin,I.hok,I.len]
def SP.unwish{D:Ends}{f:Flow}{s':P3}(h:SP (X.wish E) pins D f s'):SP X pins D f s':=by
 cases f with
 |next=>obtain⟨σ',H',I,q⟩:=h;exact#[σ',H',I.unwish,q]
 |brk=>obtain⟨σ',H',I,q⟩:=h;exact#[σ',H',I.unwish,q]
 |cont=>obtain⟨σ',H',I,q⟩:=h;exact#[σ',H',I.unwish,q]
 |ret u=>obtain⟨v,σ',H',I,r,q⟩:=h;exact#[v,σ',H',I.unwish,r,q]
def PSs.nox{st:List U7}{t:TS}(h:PSs X.nox st t):PSs X st t:=λpins s σ H D I hw=>
 Vk (h pins s σ H D (I.wish _) hw) (λ_ _ q=>q.unwish) λ_ _ z=>False.elim z
end
section
variable {X:Cx}{st:U7}{rest:List U7}{t u:TS}{e:U6}{te:TE}{pos:Vf}
def xy:TS:=λD σ H=>D.nx σ H
def tSeq(t u:TS):TS:=λD σ H=>t {D with nx:=u D} σ H
def pss_nil:PSs X [] xy:=λ_ _ σ H _ I h=>VP #[σ,H,I,h]
def eL(h1:PS X st t)(h2:PSs X rest u):PSs X (st::rest) (tSeq t u):=by
 intro pins s σ H D I h;refine wpAny_execs_cons (thn (h1 pins s σ H {D with nx:=u D} I h) λf s1 q=>?_);cases f with
 |next=>
  obtain⟨σ',H',I',q⟩:=q;exact h2 pins s1 σ' H' D I' q
 |ret v=>exact q
 |brk=>exact q
 |cont=>exact q
def rg(h1:PS X st t):PSs X [st] t:=by
 intro pins s σ H D I h;refine wpAny_execs_cons (thn (h1 pins s σ H D I h) λf s1 q=>?_);cases f with
 |next=>exact VP q
 |ret v=>exact q
 |brk=>exact q
 |cont=>exact q
def Inv.quiet{pins:List (Addr×Vn)}{σ:St}{H:Hp}{s:P3}(I:Inv X pins σ H s):interactive X.env=false:=by simp[interactive,I.ok.kind]
def xz(te:TE):TS:=λD σ H=>te σ H λ_ H1=>D.nx σ H1
def jY(he:PE X e te)(hs:autoParam (Vl e LH pos.line X.env=pure false) zA0):PS X (.Expr e pos) (xz te):=by
 intro pins s σ H D I h;exact wpAny_Expr_any (thn (he pins s σ H _ I h) λv s1 ⟨x,H1,I1,r1,q1⟩=>#[σ,H1,I1,q1]) I.quiet hs
def tRet(te:TE):TS:=λD σ H=>te σ H D.rt
def rh(he:PE X e te):PS X (.Return (be e) pos) (tRet te):=by
 intro pins s σ H D I h;exact wpAny_Return_some (thn (he pins s σ H _ I h) λv s1 ⟨x,H1,I1,r1,q1⟩=>#[x,σ,H1,I1,r1,q1])
def tIfS(c:TT)(t u:TS):TS:=λD σ H=>c σ H λb H1=>if b=true then t D σ H1 else u D σ H1
def rj{c:U6}{a b:List U7}{tc:TT}(hc:PT X c tc)(ha:PSs X a t)(hb:PSs X b u):PS X (.If c a b pos) (tIfS tc t u):=by
 intro pins s σ H D I h;refine wpAny_If (thn (hc pins s σ H _ I h) λd s1 b9=>?_);obtain⟨H1,I1,q1⟩:=b9;cases d with
 |true=>exact ha pins s1 σ H1 D I1 q1
 |false=>exact hb pins s1 σ H1 D I1 q1
def xA:TS:=λ_ _ _=>False
def ps_never:PS X st xA:=λ_ _ _ _ _ _ h=>h.elim
end
abbrev TG:=V->St->Hp->(St->Hp->Prop)->Prop
abbrev TGs:=List V->St->Hp->(St->Hp->Prop)->Prop
def PG(X:Cx)(g8:U6)(t:TG):Prop:=
 ∀(pins:List (Addr×Vn)) (s:P3) (σ:St) (H:Hp) (v:V) (u:Os) (Q:St->Hp->Prop),Inv X pins σ H s->RelV v u->t v σ H Q->
  U9 (SZ X.prog X.w) X.A (VJ g8 X.env u) (λ_ s'=>∃σ' H',Inv X pins σ' H' s'/\Q σ' H') X.xe s
def PGs(X:Cx)(ts:List U6)(t:TGs):Prop:=
 ∀(pins:List (Addr×Vn)) (s:P3) (σ:St) (H:Hp) (vs:List V) (us:List Os) (Q:St->Hp->Prop),Inv X pins σ H s->Vals vs us->t vs σ H Q->
  U9 (SZ X.prog X.w) X.A (Wv ((Vb ts X.env).map (·.2)) us) (λ_ s'=>∃σ' H',Inv X pins σ' H' s'/\Q σ' H') X.xe s
abbrev TSet:=V->V->V->Hp->(Hp->Prop)->Prop
def PSet(X:Cx)(t:TSet):Prop:=
 ∀(pins:List (Addr×Vn)) (s:P3) (σ:St) (H:Hp) (o i v:V) (ov iv u:Os) (Q:Hp->Prop),Inv X pins σ H s->RelV o ov->RelV i iv->RelV v u->t o i v H Q->
  U9 (SZ X.prog X.w) X.A (WA ov iv u) (λ_ s'=>∃H',Inv X pins σ H' s'/\Q H') X.xe s
abbrev TIp:=V->V->Hp->VK->Prop
def PIp(X:Cx)(op:Ws)(t:TIp):Prop:=
 ∀(pins:List (Addr×Vn)) (s:P3) (σ:St) (H:Hp) (x y:V) (v u:Os) (Q:VK),Inv X pins σ H s->RelV x v->RelV y u->t x y H Q->
  U9 (SZ X.prog X.w) X.A (inplaceOp op v u) (EP X pins σ Q) X.xe s
section
variable {X:Cx}{pos:Vf}
def fQ(i:Nat):TG:=λv σ H Q=>Q (σ.set i (be v)) H
variable{i:Nat}{x:Ms}
def eN(hN:X.N.Nodup)(hi:X.N[i]?=be x)(hx:Loc X.env.scope x)(hf:autoParam (zFN X x) zA2):PG X (.Name x pos) (fQ i):=by
 intro pins s σ H v u Q I r h;exact Wd (eK I hN hi hx r (λs' I'=>#[_,H,I',h]) hf)
def gNil:TGs:=λvs σ H Q=>vs=[]/\Q σ H
def xB(t:TG)(u:TGs):TGs:=λvs σ H Q=>∃v r,vs=v::r/\t v σ H λσ' H'=>u r σ' H' Q
def xC:PGs X [] gNil:=by
 intro pins s σ H vs us Q I r h;obtain⟨e,h⟩:=h;subst e;cases r;exact W3 #[σ,H,I,h]
variable{e:U6}{es:List U6}
def xD{t:TG}{u:TGs}(h1:PG X e t)(h2:PGs X es u)
  (hs:autoParam ((Vb (e::es) X.env).map (·.2)=VJ e X.env::(Vb es X.env).map (·.2)) zA0):PGs X (e::es) (xB t u):=by
 intro pins s σ H vs us Q I r h;obtain⟨v,vr,e1,h⟩:=h;subst e1;cases r with
 |cons r rr=>
  rw[hs];refine Wc (thn (h1 pins s σ H _ _ _ I r h) λ_ s1 b9=>?_);obtain⟨σ1,H1,I1,q1⟩:=b9;exact h2 pins s1 σ1 H1 _ _ Q I1 rr q1
def gTup(K:Ex)(n:Nat)(t:TGs):TG:=λv σ H Q=>∃a xs,v=.ref a/\SqT K H a xs/\xs.length=n/\t xs σ H Q
def gL{k:Nat}{t:TGs}{n:Nat}(hc:X.calm=true)(h:PGs X es t)
  (hn:autoParam ((Vb es X.env).length=n) zA0) (l5:autoParam ((Vb es X.env).findIdx? (·.1)=none) zA0):PG X (.Tuple es k pos) (gTup X.K n t):=by
 intro pins s σ H v u Q I r hw;obtain⟨a,xs,e1,hq,hl,hw⟩:=hw;subst e1;cases r;obtain⟨its,rv,ht,hz⟩:=I.tuple hq;refine assign_Tuple_tuple (I.ok.hd hc) ht (by simp[hn,<-hl,rv.length]) l5 λh' hx=>?_;have I1:Inv X pins σ H {s with heap:=h'}:=I.kept (t':=s.toks) λb o e=>hx b o (HY (Heap.lt_size e)) e;exact h pins _ σ H xs _ Q I1 (by simpa using rv) hw
def gSub(to ti:TE)(t:TSet):TG:=λv σ H Q=>to σ H λo H1=>ti σ H1 λi H2=>t o i v H2 λH3=>Q σ H3
def xE{o i:U6}{to ti:TE}{t:TSet}(ho:PE X o to)(hi:PE X i ti)(hs:PSet X t)
  (ha:∀v,VJ (.Subscript o i pos) X.env v=(do
   let ov <-Vv [v] (Vd o X.env)
   let iv <-Vv [v,ov] (Vd i X.env)
   VR pos
   Vv [v,ov,iv] (WA ov iv v)
   W0 [v,ov,iv] []):=by intro _;rfl):PG X (.Subscript o i pos) (gSub to ti t):=by
 intro pins s σ H v u Q I r h;rw[ha];refine Pi (Vi (thn (ho pins s σ H _ I h) λov s1 b9=>?_));obtain⟨x,H1,I1,r1,q1⟩:=b9;refine Pi (Vi (thn (hi pins s1 σ H1 _ I1 q1) λiv s2 b9=>?_));obtain⟨y,H2,I2,r2,q2⟩:=b9;refine Pi (VB (Pi (Vi (thn (hs pins s2 σ H2 x y v ov iv u _ I2 r1 r2 r q2) λ_ s3 b9=>?_))));obtain⟨H3,I3,q3⟩:=b9;exact wpAny_release #[σ,H3,I3,q3]
def tAsg(te:TE)(g:TG):TS:=λD σ H=>te σ H λx H1=>g x σ H1 D.nx
variable{te:TE}
def gM{tg:U6}{g:TG}(he:PE X e te)(hg:PG X tg g)(hs:autoParam (VC [tg] e pos.line X.env=pure false) zA0)(hw:autoParam (VD [tg] e X.env=pure none) zA0)
  (h1:autoParam ((Vb [tg] X.env).map (·.2)=[VJ tg X.env]) zA0):PS X (.Assign [tg] e pos) (tAsg te g):=by
 intro pins s σ H D I h;refine wpAny_Assign_stores (thn (he pins s σ H _ I h) λv s1 hh=>?_) hs hw;obtain⟨x,H1,I1,r1,q1⟩:=hh;rw[h1];exact thn (hg pins s1 σ H1 x v _ I1 r1 q1) λ_ s2 q=>q
def gN{c7:Vf}(hN:X.N.Nodup)(hi:X.N[i]?=be x)(hx:Loc X.env.scope x)(he:PE X e te)(hs:autoParam (Vl e (be (.Name x c7)) pos.line X.env=pure false) zA0)(hf:autoParam (zFN X x) zA2):
  PS X (.Assign [.Name x c7] e pos) (tAsg te (fQ i)):=by
 intro pins s σ H D I h;refine wpAny_Assign_Name (thn (he pins s σ H _ I h) λv s1 hh=>?_) hs;obtain⟨y,H1,I1,r1,q1⟩:=hh;exact eK I1 hN hi hx r1 (λs2 I2=>#[_,H1,I2,q1]) hf
def tPar(i j:Nat)(ta:TA):TS:=λD σ H=>ta σ H λvs H1=>∃v w,vs=[v,w]/\D.nx ((σ.set i (be v)).set j (be w)) H1
def xF{j:Nat}{y:Ms}{a b:U6}{ta:TA}{px py pt:Vf}{kt k2 Mr}(hc:X.calm=true)(hN:X.N.Nodup)(hi:X.N[i]?=be x)(hj:X.N[j]?=be y)(Pf:i≠j)
  (hx:X.env.scope.names.lookup x=be .local) (hy:X.env.scope.names.lookup y=be .local) (ha:PA X [a,b] ta)
  (hw:VD [.Tuple [.Name x px,.Name y py] kt pt] (.Tuple [a,b] k2 Mr) X.env=pure (be [x,y]))
  (hs:autoParam (VC [.Tuple [.Name x px,.Name y py] kt pt] (.Tuple [a,b] k2 Mr) pos.line X.env=pure false) zA0):
  PS X (.Assign [.Tuple [.Name x px,.Name y py] kt pt] (.Tuple [a,b] k2 Mr) pos) (tPar i j ta):=by
 intro pins s σ H D I h;rw[exec_Assign_arm];refine Pi (VB ?_);rw[hs];refine Pi (SL ?_);rw[if_neg Mx];refine Pi (Tuple_ (thn (ha _ pins s σ H _ I h) λus s1 b9=>?_));obtain⟨vs,H1,I1,r1,q1⟩:=b9;obtain⟨v,w,e1,q1⟩:=q1;subst e1;obtain⟨u1,u2,rfl,rv,i6⟩:∃u1 u2,us=[u1,u2]/\RelV v u1/\RelV w u2:=by
  cases r1 with
  |cons p q=>
   cases q with
   |cons p' q'=>
    cases q';exact#[_,_,rfl,p,p']
 refine Vj ?_ (by show 2<=sizeLine;decide);have I2:Inv X pins σ H1 {s1 with heap:=s1.heap.push {cls:=.type "tuple",data:=.seq [u1,u2].toArray} }:=I1.kept (t':=s1.toks) λb o e=>Heap.get?_push_of_some _ e;rw[hw];refine Pi (SL ?_);show U9 (SZ X.prog X.w) X.A (do rule "assign.swapped-stores";let items <-unpackItems (.ref s1.heap.objs.size) 2 LH;Wv [λv=>Wr X.env y v,λv=>Wr X.env x v] items.reverse;pure Flow.next) _ _ _;refine Pi (WS (Pi (unpackItems_tuple (items:=[u1,u2].toArray) (I.ok.hd hc) (IsTup.new s1.heap _) λh' f8=>?_)));have I3:=I2.kept (h':=h') (t':=s1.toks) λb o e=>f8 b o (HY (Heap.lt_size e)) e;show U9 _ _ (Wv [λv=>Wr X.env y v,λv=>Wr X.env x v] [u2,u1]>>=λ_=>pure Flow.next) _ _ _;refine Pi (Wc (wpAny_bindName (eK I3 hN hj (.inl hy) i6 (λs2 I4=>?_) (.inr hy))));refine Wc (wpAny_bindName (eK I4 hN hi (.inl hx) rv (λs3 I5=>W3 (SL ?_)) (.inr hx)));rw[List.set_comm _ _ (Ne.symm Pf)]at I5;exact#[_,H1,I5,q1]
def xG(to ti te:TE)(LF:V->V->Hp->VK->Prop)(OF:TIp)(LG:TSet):TS:=λD σ H=>to σ H λo H1=>ti σ H1 λi H2=>LF o i H2 λx H3=>te σ H3 λy H4=>OF x y H4 λz H5=>LG o i z H5 λH6=>D.nx σ H6
def PGet(X:Cx)(t:V->V->Hp->VK->Prop):Prop:=
 ∀(pins:List (Addr×Vn)) (s:P3) (σ:St) (H:Hp) (o i:V) (ov iv:Os) (Q:VK),Inv X pins σ H s->RelV o ov->RelV i iv->t o i H Q->
  U9 (SZ X.prog X.w) X.A (Wm ov iv) (EP X pins σ Q) X.xe s
def xH{o i:U6}{to ti:TE}{LF:V->V->Hp->VK->Prop}{OF:TIp}{LG:TSet}{op:Ws}{NE:Vf}(ho:PE X o to)(hi:PE X i ti)(hg:PGet X LF)(he:PE X e te)(hp:PIp X op OF)(hs:PSet X LG)
  (ha:autoParam (∀ov iv new,augStore i ov iv new=(do Vv [new,ov,iv] (WA ov iv new);W0 [new,ov,iv] [];pure .next)) zA7):PS X (.AugAssign (.Subscript o i NE) op e pos) (xG to ti te LF OF LG):=by
 intro pins s σ H D I h;refine wpAny_AugAssign_SubscriptAny (thn (ho pins s σ H _ I h) λov s1 hh=>?_) ha;obtain⟨x1,H1,I1,r1,q1⟩:=hh;refine thn (hi pins s1 σ H1 _ I1 q1) λiv s2 b9=>?_;obtain⟨x2,H2,I2,r2,q2⟩:=b9;refine thn (hg pins s2 σ H2 x1 x2 ov iv _ I2 r1 r2 q2) λd8 s3 b9=>?_;obtain⟨x3,H3,I3,r3,q3⟩:=b9;refine thn (he pins s3 σ H3 _ I3 q3) λv s4 b9=>?_;obtain⟨x4,H4,I4,r4,q4⟩:=b9;refine thn (hp pins s4 σ H4 x3 x4 d8 v _ I4 r3 r4 q4) λnew s5 b9=>?_;obtain⟨x5,H5,I5,r5,q5⟩:=b9;exact thn (hs pins s5 σ H5 x1 x2 x5 ov iv new _ I5 r1 r2 r5 q5) λ_ s6 ⟨H6,I6,q6⟩=>#[σ,H6,I6,q6]
def ipI(f:Int->Int->Int):TIp:=λx y H Q=>∃i j,x=.int i/\y=.int j/\Q (.int (f i j)) H
def xI:PIp X .Add (ipI λi j=>i+j):=by
 intro pins s σ H x y v u Q I r1 r2 h;obtain⟨i,j,e1,e2,q⟩:=h;subst e1;subst e2;obtain⟨t,rfl⟩:=r1;obtain⟨t',rfl⟩:=r2;exact iadd_int #[.int _,H,I.tok _,#[_,rfl],q]
def xJ(c:TT)(tb:TS):TS:=λD σ H=>∃W:Nat->St->Hp->Prop,(∃m,W m σ H)/\∀m σ H,W m σ H->
 c σ H λb H1=>if b=true then ∃N:St->Hp->Prop,(∀σ' H',N σ' H'->∃m',m'<m/\W m' σ' H')/\tb {D with nx:=N,ct:=N,bk:=D.nx} σ H1 else D.nx σ H1
def rk{c:U6}{body:List U7}{tc:TT}{tb:TS}(hp:Vs (SZ X.prog X.w) X.A X.env X.xe)(hc:PT X c tc)(hb:PSs X body tb):PS X (.While c body [] pos) (xJ tc tb):=by
 intro pins s σ H D I h;obtain⟨W,⟨m0,w0⟩,c8⟩:=h;refine wpAny_While (codeAny_whileLoop (λn s'=>∃σ' H',Inv X pins σ' H' s'/\W n σ' H') ?_ m0 #[σ,H,I,w0]);rintro n s1⟨σ1,H1,I1,w1⟩;refine Vt hp (thn (hc pins s1 σ1 H1 _ I1 (c8 n σ1 H1 w1)) λb s2 b9=>?_);obtain⟨H2,I2,q2⟩:=b9;cases b with
 |true=>
  obtain⟨N,hN,q2⟩:=q2;rw[if_pos rfl];refine Vt hp (thn (hb pins s2 σ1 H2 _ I2 q2) λf s3 q3=>?_);cases f with
  |next=>
   obtain⟨σ3,H3,I3,n3⟩:=q3;obtain⟨m',hm,w3⟩:=hN σ3 H3 n3;exact#[m',hm,σ3,H3,I3,w3]
  |cont=>
   obtain⟨σ3,H3,I3,n3⟩:=q3;obtain⟨m',hm,w3⟩:=hN σ3 H3 n3;exact#[m',hm,σ3,H3,I3,w3]
  |brk=>exact q3
  |ret v=>exact q3
 |false=>
  rw[if_neg Ib];exact VP #[σ1,H2,I2,q2]
end
structure It where
 go:Nat->Hp->Prop
 yld:Nat->Hp->V->Hp->Prop
 stop:Nat->Hp->Prop
def FpOk(X:Cx)(pins:List (Addr×Vn))(H:Hp)(b:Addr):Prop:=
 H b=LH/\b≠X.env.locals/\b∉X.fs/\(b∈X.ex\/X.s₀.heap.objs.size<=b)/\(∀x c,X.env.cells.lookup x=be c->c≠b)/\∀p∈X.pn++pins,p.1≠b
variable{σ:St}
def Inv.fpOk{pins:List (Addr×Vn)}{H':Hp}(I:Inv X pins σ H s)(hb:s.heap.objs.size<=b)(hn:H' b=LH):FpOk X pins H' b:=by
 refine#[hn,IW (Im I.lt hb),I.nofs hb,.inr (HZ I.sz hb),λx c e z=>?_,λp hp z=>?_]
 .obtain⟨v,q⟩:=I.cell x c e;exact absurd (Im q.lt (by rw[z];exact hb)) (Jb _)
 .exact absurd (Im (Heap.lt_size (I.pin p hp).1) (by rw[z];exact hb)) (Jb _)
structure Turn(P:U8)(w:U_)(K:Ex)(tg:U6)(J:It)(fp:List Addr)(it:Addr)(tn:Nat->Heap->Prop):Prop where
 mem:it∈fp
 obj:∀i h,tn i h->∀b∈fp,∃o,h.get? b=be o/\∀v,o.data≠.cell v
 keep:∀i h h',tn i h->(∀b∈fp,∀o,h.get? b=be o->h'.get? b=be o)->tn i h'
 item:∀(X:Cx),X.prog=P->X.w=w->X.K=K->X.calm=true->∀(i:Nat) (pins:List (Addr×Vn)) (s:P3) (σ:St) (H:Hp) (E:Os->P3->Prop),Inv X pins σ H s->(∀b∈fp,FpOk X pins H b)->tn i s.heap->J.go i H->
  U9 (SZ P w) X.A (pyNext (.ref it)) (λr s1=>∃u,r=be u/\
   U9 (SZ P w) X.A (V6 tg (.ref it) u) (λ_ s2=>∃x H',Inv X pins σ H' s2/\RelV x u/\J.yld i H x H'/\tn (i+1) s2.heap/\∀b∈fp,H' b=LH) E s1) E s
 done:∀(X:Cx),X.prog=P->X.w=w->X.K=K->X.calm=true->∀(i:Nat) (pins:List (Addr×Vn)) (s:P3) (σ:St) (H:Hp) (E:Os->P3->Prop),Inv X pins σ H s->(∀b∈fp,FpOk X pins H b)->tn i s.heap->J.stop i H->
  U9 (SZ P w) X.A (pyNext (.ref it)) (λr s1=>r=LH/\Inv X pins σ H s1) E s
 self:∀(A:Va) (i:Nat) (s:P3) (Q:Os->P3->Prop) (E:Os->P3->Prop),tn i s.heap->Q (.ref it) s->U9 (SZ P w) A (pyIter (.ref it)) Q E s
abbrev TI:=St->Hp->(It->Hp->Prop)->Prop
def PIE(X:Cx)(pins:List (Addr×Vn))(σ:St)(tg:U6)(R:It->Hp->Prop)(OG:Os)(s2:P3):Prop:=
 ∃(it:Addr) (fp:List Addr) (tn:Nat->Heap->Prop) (J:It) (H':Hp),OG=.ref it/\Inv X pins σ H' s2/\Turn X.prog X.w X.K tg J fp it tn/\tn 0 s2.heap/\(∀b∈fp,FpOk X pins H' b)/\R J H'
def PI(X:Cx)(tg iter:U6)(wi:TI):Prop:=
 ∀(pins:List (Addr×Vn)) (s:P3) (σ:St) (H:Hp) (R:It->Hp->Prop),Inv X pins σ H s->wi σ H R->
  U9 (SZ X.prog X.w) X.A (Vd iter X.env) (λv s1=>U9 (SZ X.prog X.w) X.A (pyIter v) (PIE X pins σ tg R) X.xe s1) X.xe s
variable{tg:U6}
def jZ{M:WN}{it:Addr}{o:Vn}{n:String}{vs:Array Os}{Q:Unit->P3->Prop}(ho:s.heap.get? it=be o)(hc:o.cls=.type n)(hd:o.data=.fields vs)
    (hn:["enumerate","zip","dict_itemiterator","dict_reverseitemiterator","odict_iterator","itertools.zip_longest","itertools.pairwise"].contains n=false) (hQ:Q () s):U9 M A (V6 tg (.ref it) u) Q E s:=by
  unfold V6;cases tg<;>first
    |exact SL hQ
    |(cases u<;>first
        |exact SL hQ
        |( refine Pi (wpAny_load ho ?_)
           rw[hc,hd];show U9 M A (if(["enumerate","zip","dict_itemiterator","dict_reverseitemiterator","odict_iterator","itertools.zip_longest","itertools.pairwise"].contains n&&vs[0]?==be (V2 _))=true then _ else _) Q E s;rw[if_neg (by intro h;rw[hn,Bool.false_and]at h;cases h)];exact SL hQ))
def Itl(K:Ex)(a:Addr):It:=
 #[λi H=>∃xs x,SqL K H a xs/\xs[i]?=be x,λi H x H'=>H'=H/\∀xs,SqL K H a xs->xs[i]?=be x,λi H=>∃xs,SqL K H a xs/\xs.length<=i]
def Itr(lo:Int)(n:Nat):It:=#[λi _=>i<n,λi H x H'=>H'=H/\x=.int (lo+i),λi _=>n<=i]
variable{K:Ex}
def xK(a it:Addr):Turn P w K tg (Itl K a) [it] it (λi h=>h.IsListIter it a i) where
 mem:=MF
 obj:=λi h st b hb=>by
  have e:b=it:=by simpa using hb
  subst e;obtain⟨o,e,c,d⟩:=st;exact#[o,e,λv z=>by rw[d]at z;cases z]
 keep:=λi h h' st k=>st.at λo e=>k it MF o e
 item:=by
  intro X hP hw hK hc i pins s σ H E I hf st hg;subst hP hw hK;obtain⟨xs,x,hq,hx⟩:=hg;obtain⟨its,rv,p,hz⟩:=I.list hq;obtain⟨u,hu,ru⟩:=rv.get hx;obtain⟨f0,f1,f2,f3,f4,f5⟩:=hf it MF;refine wpAny_pyNext_list_item st p.isList (x:=u) (by simpa using hu) λh' v3 sb=>?_;have I1:Inv X pins σ H {s with heap:=h'}:=I.turned (t':=s.toks) (λb o hb e=>(sb.2 b hb).trans e) f0 f1 f3 f4 f5;obtain⟨o,e,c,d⟩:=id v3;exact#[u,rfl,jZ (s:={s with heap:=h'}) e c d Mx #[x,H,I1,ru,#[rfl,λys hy=>by rw[I.list_inj hy hq];exact hx],v3,λb hb=>(hf b hb).1]]
 done:=by
  intro X hP hw hK hc i pins s σ H E I hf st hg;subst hP hw hK;obtain⟨xs,hq,hx⟩:=hg;obtain⟨its,rv,p,hz⟩:=I.list hq;obtain⟨f0,f1,f2,f3,f4,f5⟩:=hf it MF;have hl:=rv.length;exact wpAny_pyNext_list_end (I.ok.hd hc) st p.isList UD λh' eb=>#[rfl,I.turned (t':=s.toks) (λb o hb e=>eb b o hb e) f0 f1 f3 f4 f5]
 self:=λ_ _ _ _ _ st h=>wpAny_pyIter_listiter st h
def xL(it:Addr)(lo:Int)(n:Nat):Turn P w K tg (Itr lo n) [it] it (λi h=>IsRangeIter h it (lo+(i:Nat)*1) ((n:Int)-(i:Nat)) 1) where
 mem:=MF
 obj:=λi h st b hb=>by
  have e:b=it:=by simpa using hb
  subst e;exact⟨_,st,λv z=>by
   have z':Data.fields _=Data.cell v:=z;cases z'⟩
 keep:=λi h h' st k=>k it MF _ st
 item:=by
  intro X hP hw hK hc i pins s σ H E I hf st hg;subst hP hw hK;obtain⟨f0,f1,f2,f3,f4,f5⟩:=hf it MF;have W:=Walks.range (prog:=X.prog) (w:=X.w) (I.ok.hd hc) it lo 1 n;refine W.item i s _ _ hg st λv h' tk hv v3 kk=>?_;obtain⟨t,rfl⟩:=hv;have I1:Inv X pins σ H {s with heap:=h',toks:=tk}:=I.turned (λb o hb e=>kk b o (by simpa using hb) e) f0 f1 f3 f4 f5;refine#[_,rfl,jZ (s:={s with heap:=h',toks:=tk}) (n:="range_iterator") v3 rfl rfl Mx #[.int (lo+i),H,I1,#[t,?_],#[rfl,rfl],v3,λb hb=>(hf b hb).1]];rw[Int.mul_one]
 done:=by
  intro X hP hw hK hc i pins s σ H E I hf st hg;subst hP hw hK;obtain⟨f0,f1,f2,f3,f4,f5⟩:=hf it MF;exact wpAny_pyNext_range_end (I.ok.hd hc) st (by have:n<=i:=hg;lia) λh' eb=>#[rfl,I.turned (t':=s.toks) (λb o hb e=>eb b o hb e) f0 f1 f3 f4 f5]
 self:=λ_ _ _ _ _ st h=>wpAny_pyIter_rangeiter st h
section
variable {X:Cx}{tg:U6}
def rl(K:Ex)(tl:TE):TI:=λσ H R=>tl σ H λx H1=>∃a,x=.ref a/\(∃xs,SqL K H1 a xs)/\R (Itl K a) H1
def rn{l:U6}{tl:TE}(hl:PE X l tl):PI X tg l (rl X.K tl):=by
 intro pins s σ H R I h;refine thn (hl pins s σ H _ I h) λv s1 b9=>?_;obtain⟨x,H1,I1,r1,q1⟩:=b9;obtain⟨a,e,⟨xs,hq⟩,q⟩:=q1;subst e;cases r1;obtain⟨its,rv,p,hz⟩:=I1.list hq;refine wpAny_pyIter_list p.isList ?_;refine#[s1.heap.objs.size,[s1.heap.objs.size],_,_,H1,rfl,I1.kept (t':=s1.toks) λb o e=>Heap.get?_push_of_some _ e,xK a _,#[_,Heap.get?_push_size _ rfl,rfl,rfl],λb hb=>?_,q];have e:b=s1.heap.objs.size:=by simpa using hb
 subst e;exact I1.fpOk (HP _) (I1.hok.fresh (HP _))
variable{pins:List (Addr×Vn)}{σ:St}{H:Hp}{s:P3}
def rq{R:It->Hp->Prop}{E:Os->P3->Prop}{lo hi:Int}{t u v:W4}{tk:Nat}(I:Inv X pins σ H s)(h1:-(2^62)<=lo)(h2:lo<2^62)(h3:-(2^62)<=hi)(h4:hi<2^62)
  (q:R (Itr lo (hi-lo).toNat) H):U9 (SZ X.prog X.w) X.A (pyIter (.ref s.heap.objs.size)) (PIE X pins σ tg R) E {s with heap:=s.heap.push {cls:=.type "range",data:=.fields [.int lo t,.int hi u,.int 1 v].toArray},toks:=tk}:=by
 refine wpAny_pyIter_range (IsRange.new ..) (small_one h1 h2 h3 h4) ?_;have I1:Inv X pins σ H {s with heap:=s.heap.push {cls:=.type "range",data:=.fields [.int lo t,.int hi u,.int 1 v].toArray},toks:=tk}:=I.kept λb o e=>Heap.get?_push_of_some _ e;refine⟨(s.heap.push {cls:=.type "range",data:=.fields [.int lo t,.int hi u,.int 1 v].toArray}).objs.size,[(s.heap.push {cls:=.type "range",data:=.fields [.int lo t,.int hi u,.int 1 v].toArray}).objs.size],_,_,H,rfl,
  I1.kept (t':=tk) λb o e=>Heap.get?_push_of_some _ e,xL _ lo (hi-lo).toNat,?_,λb hb=>?_,q⟩
 .have e1:lo+((0:Nat):Int)*1=lo:=by simp
  have e2:(((hi-lo).toNat:Nat):Int)-((0:Nat):Int)=Builtin.Range.rangeSize lo hi 1:=by rw[rangeSize_one];split<;>lia
  show IsRangeIter _ _ (lo+((0:Nat):Int)*1) ((((hi-lo).toNat:Nat):Int)-((0:Nat):Int)) 1;rw[e1,e2];exact Heap.get?_push_size _ rfl
 .have e:b=(s.heap.push {cls:=.type "range",data:=.fields [.int lo t,.int hi u,.int 1 v].toArray}).objs.size:=by simpa using hb
  subst e;exact I1.fpOk (HP _) (I1.hok.fresh (HP _))
def rA(ta:TA):TI:=λσ H R=>ta σ H λvs H1=>∃j:Int,vs=[.int j]/\-(2^62)<=j/\j<2^62/\R (Itr 0 j.toNat) H1
def xM(ta:TA):TI:=λσ H R=>ta σ H λvs H1=>∃i j:Int,vs=[.int i,.int j]/\(-(2^62)<=i/\i<2^62/\-(2^62)<=j/\j<2^62)/\R (Itr i (j-i).toNat) H1
variable{pos:Vf}
def kd{a:U6}{ta:TA}{p:Vf}(hg:Gl X "range")(hm:X.mg "range"=LH)(ha:PA X [a] ta)(hs:autoParam (U' [a] X.env=[(false,Vd a X.env)]) zA0):PI X tg (.Call (.Name "range" p) [a] [] pos) (rA ta):=by
 intro pins s σ H R I h;refine Call_ (dP I hg hm boot_range (PyProof.Rows.callWith_type1 (thn (ha pos pins s σ H _ I h) λus s1 hh=>?_) hs rfl));obtain⟨vs,H1,I1,r1,q1⟩:=hh;obtain⟨j,e,q1,q2,q⟩:=q1;subst e;cases r1 with
 |cons r rr=>
  cases rr;obtain⟨t,rfl⟩:=r;exact call_range_1 (rq I1 v4 v4 q1 q2 (by simpa using q))
def xN{a b:U6}{ta:TA}{p:Vf}(hg:Gl X "range")(hm:X.mg "range"=LH)(ha:PA X [a,b] ta)(hs:autoParam (U' [a,b] X.env=[(false,Vd a X.env),(false,Vd b X.env)]) zA0)(i_:autoParam (U' [b] X.env=[(false,Vd b X.env)]) zA0):
  PI X tg (.Call (.Name "range" p) [a,b] [] pos) (xM ta):=by
 intro pins s σ H R I h;refine Call_ (dP I hg hm boot_range (PyProof.Rows.callWith_type1 (thn (ha pos pins s σ H _ I h) λus s1 hh=>?_) (by rw[hs,i_]) (by rw[i_];rfl)));obtain⟨vs,H1,I1,r1,q1⟩:=hh;obtain⟨i,j,e,⟨q1,q2,q3,q4⟩,q⟩:=q1;subst e;cases r1 with
 |cons r rr=>
  cases rr with
  |cons r' rr=>
   cases rr;obtain⟨t,rfl⟩:=r;obtain⟨t',rfl⟩:=r';exact call_range_2 (rq I1 q1 q2 q3 q4 q)
def tFor(wi:TI)(g:TG)(tb:TS):TS:=λD σ H=>wi σ H λJ H1=>∃W:Nat->Nat->St->Hp->Prop,(∃m,W 0 m σ H1)/\∀i m σ H,W i m σ H->
 (J.stop i H/\D.nx σ H)\/(J.go i H/\∃N:St->Hp->Prop,(∀σ' H',N σ' H'->∃m',m'<m/\W (i+1) m' σ' H')/\∀x H',J.yld i H x H'->g x σ H' λσ2 H2=>tb {D with nx:=N,ct:=N,bk:=D.nx} σ2 H2)
def gO(fp:List Addr)(h:Heap):List (Addr×Vn):=fp.filterMap λb=>(h.get? b).map λo=>(b,o)
variable{fp:List Addr}
def eO{h:Heap}{b:Addr}{o:Vn}(hb:b∈fp)(e:h.get? b=be o):(b,o)∈gO fp h:=KC.mpr #[b,hb,by rw[e];rfl]
def xO{h:Heap}{p:Addr×Vn}(hp:p∈gO fp h):p.1∈fp/\h.get? p.1=be p.2:=by
 obtain⟨b,hb,e⟩:=KC.mp hp;cases q:h.get? b with
 |none=>rw[q]at e;cases e
 |some o=>
  rw[q]at e;have e':(b,o)=p:=Option.some.inj e;subst e';exact#[hb,q]
def Inv.pinned(I:Inv X pins σ H s)(hf:∀b∈fp,FpOk X pins H b)(ho:∀b∈fp,∃o,s.heap.get? b=be o/\∀v,o.data≠.cell v):Inv X (pins++gO fp s.heap) σ H s:=
 I.pins_of λp hp=>(Iw.mp hp).elim (λz=>I.pin p (Ip _ z)) λz=>by
  obtain⟨hb,e⟩:=xO z;obtain⟨f0,f1,f2,_⟩:=hf p.1 hb;obtain⟨o,e',d⟩:=ho p.1 hb;rw[e]at e';cases e';exact#[e,f0,f1,f2,d]
def Inv.unpinned{pl:List (Addr×Vn)}(I:Inv X (pins++pl) σ H s):Inv X pins σ H s:=I.pins_of λp hp=>I.pin p (Ip _ (Jl _ hp))
def db{iter:U6}{body:List U7}{wi:TI}{g:TG}{tb:TS}(hp:Vs (SZ X.prog X.w) X.A X.env X.xe)(hc:X.calm=true)(hi:PI X tg iter wi)(hg:PG X tg g)(hb:PSs X body tb)
  (hs:∀x,W2 iter X.env x=pure x:=by intro _;rfl):PS X (.For tg iter body [] pos) (tFor wi g tb):=by
 intro pins s σ H D I h;refine wpAny_For (thn (hi pins s σ H _ I h) λv s1 h1=>thn h1 λOG s2 h2=>?_) hs;obtain⟨it,fp,tn,J,H2,e,I2,T,r_,f2,W,⟨m0,w0⟩,c8⟩:=h2;subst e;have n_:∀{H':Hp},(∀b∈fp,H' b=LH)->∀b∈fp,FpOk X pins H' b:=λhn b hb=>#[hn b hb,(f2 b hb).2];refine codeAny_forLoop_any (λn s'=>∃i σ' H',Inv X pins σ' H' s'/\tn i s'.heap/\(∀b∈fp,H' b=LH)/\W i n σ' H') ?_ m0 #[0,σ,H2,I2,r_,λb hb=>(f2 b hb).1,w0];rintro n s3⟨i,σ3,H3,I3,K',RJ,w3⟩;rcases c8 i n σ3 H3 w3 with⟨stop,qn⟩|⟨go,N,hN,step⟩
 .refine Vt hp (thn (T.done X rfl rfl rfl hc i pins s3 σ3 H3 X.xe I3 (n_ RJ) K' stop) λr s4 b9=>?_);obtain⟨hr,I4⟩:=b9;subst hr;exact VP #[σ3,H3,I4,qn]
 .refine Vt hp (thn (T.item X rfl rfl rfl hc i pins s3 σ3 H3 X.xe I3 (n_ RJ) K' go) λr s4 b9=>?_);obtain⟨u,hr,h4⟩:=b9;subst hr;refine Vt hp (thn h4 λ_ s5 b9=>?_);obtain⟨x,H5,I5,r5,y5,LI,Pg⟩:=b9;have SJ:=I5.pinned (n_ Pg) (T.obj _ _ LI);refine Vt hp (thn (hg _ s5 σ3 H5 x u _ SJ r5 (step x H5 y5)) λ_ s6 b9=>?_);obtain⟨σ6,H6,I6,q6⟩:=b9;refine Vt hp (thn (hb _ s6 σ6 H6 _ I6 q6) λf s7 q7=>?_);have again:∀{σ7:St} {H7:Hp},Inv X (pins++gO fp s5.heap) σ7 H7 s7->N σ7 H7->∃m,m<n/\∃i σ' H',Inv X pins σ' H' s7/\tn i s7.heap/\(∀b∈fp,H' b=LH)/\W i m σ' H':=λ{σ7 H7} I7 n7=>by
   obtain⟨m',hm,w7⟩:=hN σ7 H7 n7;refine#[m',hm,i+1,σ7,H7,I7.unpinned,T.keep _ _ _ LI λb hb o e=>(I7.pin (b,o) (Ip _ (Ip _ (eO hb e)))).1,λb hb=>?_,w7];obtain⟨o,e,d⟩:=T.obj _ _ LI b hb;exact(I7.pin (b,o) (Ip _ (Ip _ (eO hb e)))).2.1
  cases f with
  |next=>obtain⟨σ7,H7,I7,n7⟩:=q7;exact again I7 n7
  |cont=>obtain⟨σ7,H7,I7,n7⟩:=q7;exact again I7 n7
  |brk=>obtain⟨σ7,H7,I7,q7⟩:=q7;exact#[σ7,H7,I7.unpinned,q7]
  |ret v=>obtain⟨x7,σ7,H7,I7,r7,q7⟩:=q7;exact#[x7,σ7,H7,I7.unpinned,r7,q7]
end
def rB{g:TG}{tb:TS}{D:Ends}(Pv:Nat->St->Hp->Prop)(h0:Pv 0 σ H)(hl:∀i σ H,i<=xs.length->Pv i σ H->SqL K H a xs)
  (hs:∀i x σ H,xs[i]?=be x->Pv i σ H->g x σ H λσ2 H2=>tb {D with nx:=Pv (i+1),ct:=Pv (i+1),bk:=D.nx} σ2 H2) (hd:∀σ H,Pv xs.length σ H->D.nx σ H):
  ∃W:Nat->Nat->St->Hp->Prop,(∃m,W 0 m σ H)/\∀i m σ H,W i m σ H->
   ((Itl K a).stop i H/\D.nx σ H)\/((Itl K a).go i H/\∃N:St->Hp->Prop,(∀σ' H',N σ' H'->∃m',m'<m/\W (i+1) m' σ' H')/\∀x H',(Itl K a).yld i H x H'->g x σ H' λσ2 H2=>tb {D with nx:=N,ct:=N,bk:=D.nx} σ2 H2):=by
 refine#[λi m σ H=>m=xs.length-i/\i<=xs.length/\Pv i σ H,#[xs.length,MF,Iq _,h0],?_];rintro i m σ H ⟨rfl,hi,p⟩;have q:=hl i σ H hi p;by_cases f9:i<xs.length
 .refine .inr #[#[xs,xs[i],q,by simp[f9]],Pv (i+1),λσ' H' p'=>#[xs.length-(i+1),v4,rfl,f9,p'],λx H' y=>?_];obtain⟨e,y⟩:=y;subst e;exact hs i x σ _ (y xs q) p
 .have e:i=xs.length:=by lia
  subst e;exact .inl #[#[xs,q,HP _],hd σ H p]
def ke{lo:Int}{n:Nat}{g:TG}{tb:TS}{D:Ends}(Pv:Nat->St->Hp->Prop)(h0:Pv 0 σ H)
  (hs:∀i σ H,i<n->Pv i σ H->g (.int (lo+i)) σ H λσ2 H2=>tb {D with nx:=Pv (i+1),ct:=Pv (i+1),bk:=D.nx} σ2 H2) (hd:∀σ H,Pv n σ H->D.nx σ H):
  ∃W:Nat->Nat->St->Hp->Prop,(∃m,W 0 m σ H)/\∀i m σ H,W i m σ H->
   ((Itr lo n).stop i H/\D.nx σ H)\/((Itr lo n).go i H/\∃N:St->Hp->Prop,(∀σ' H',N σ' H'->∃m',m'<m/\W (i+1) m' σ' H')/\∀x H',(Itr lo n).yld i H x H'->g x σ H' λσ2 H2=>tb {D with nx:=N,ct:=N,bk:=D.nx} σ2 H2):=by
 refine#[λi m σ H=>m=n-i/\i<=n/\Pv i σ H,#[n,MF,Iq _,h0],?_];rintro i m σ H ⟨rfl,hi,p⟩;by_cases f9:i<n
 .refine .inr #[f9,Pv (i+1),λσ' H' p'=>#[n-(i+1),v4,rfl,f9,p'],λx H' y=>?_];obtain⟨e,y⟩:=y;subst e y;exact hs i σ _ f9 p
 .have e:i=n:=by lia
  subst e;exact .inl #[HP _,hd σ H p]
abbrev R2:=V->V->Hp->VK->Prop
def OpR(X:Cx)(f:Os->Os->WH Os)(r:R2):Prop:=
 ∀(pins:List (Addr×Vn)) (s:P3) (σ:St) (H:Hp) (x y:V) (v u:Os) (Q:VK),Inv X pins σ H s->RelV x v->RelV y u->r x y H Q->
  U9 (SZ X.prog X.w) X.A (f v u) (EP X pins σ Q) X.xe s
def UnR(X:Cx)(f:Os->WH Os)(r:V->Hp->VK->Prop):Prop:=
 ∀(pins:List (Addr×Vn)) (s:P3) (σ:St) (H:Hp) (x:V) (v:Os) (Q:VK),Inv X pins σ H s->RelV x v->r x H Q->
  U9 (SZ X.prog X.w) X.A (f v) (EP X pins σ Q) X.xe s
def bH(X:Cx)(f:Os)(r:List V->Hp->VK->Prop):Prop:=
 ∀(pins:List (Addr×Vn)) (s:P3) (σ:St) (H:Hp) (xs:List V) (us:List Os) (Q:VK),Inv X pins σ H s->Vals xs us->r xs H Q->
  U9 (SZ X.prog X.w) X.A (call f us) (EP X pins σ Q) X.xe s
def TruR(X:Cx)(r:V->Hp->(Bool->Hp->Prop)->Prop):Prop:=
 ∀(pins:List (Addr×Vn)) (s:P3) (σ:St) (H:Hp) (x:V) (v:Os) (Q:Bool->Hp->Prop),Inv X pins σ H s->RelV x v->r x H Q->
  U9 (SZ X.prog X.w) X.A (truthy v) (TP X pins σ Q) X.xe s
def tOp(r:R2)(ta tb:TE):TE:=λσ H Q=>ta σ H λx H1=>tb σ H1 λy H2=>r x y H2 Q
def tUn(r:V->Hp->VK->Prop)(ta:TE):TE:=λσ H Q=>ta σ H λx H1=>r x H1 Q
def rI(C:Int->Int->Prop)(g:Int->Int->V):R2:=λx y H Q=>∃i j,x=.int i/\y=.int j/\C i j/\Q (g i j) H
def rI0(g:Int->Int->V):R2:=λx y H Q=>∃i j,x=.int i/\y=.int j/\Q (g i j) H
def rU(g:Int->V):V->Hp->VK->Prop:=λx H Q=>∃i,x=.int i/\Q (g i) H
section
variable {X:Cx}{a b c:U6}{ta tb tc:TE}{pos:Vf}
variable{f:Os->Os->WH Os}
def binT(ha:PE X a ta)(hb:PE X b tb){pins:List (Addr×Vn)}{s:P3}{σ:St}{H:Hp}{R:V->V->Hp->Prop}(I:Inv X pins σ H s)
  (h:ta σ H λx H1=>tb σ H1 λy H2=>R x y H2) {Q:Os->P3->Prop} 
  (hf:∀v u s2 x y H2,Inv X pins σ H2 s2->RelV x v->RelV y u->R x y H2->U9 (SZ X.prog X.w) X.A (f v u) Q X.xe s2):
  U9 (SZ X.prog X.w) X.A (Vd a X.env) (λv s₁=>U9 (SZ X.prog X.w) X.A (Vd b X.env) (λu s₂=>U9 (SZ X.prog X.w) X.A (f v u) Q X.xe s₂) X.xe s₁) X.xe s:=by
 refine thn (ha pins s σ H _ I h) λv s1 b9=>?_;obtain⟨x,H1,I1,r1,q1⟩:=b9;refine thn (hb pins s1 σ H1 _ I1 q1) λu s2 b9=>?_;obtain⟨y,H2,I2,r2,q2⟩:=b9;exact hf v u s2 x y H2 I2 r1 r2 q2
def kg{op:Ws}{r:R2}(ho:OpR X (Vr op) r)(ha:PE X a ta)(hb:PE X b tb):PE X (.BinOp a op b pos) (tOp r ta tb):=by
 intro pins s σ H Q I h;exact wpAny_BinOp (binT ha hb I h λv u s2 x y H2 I2 rx ry q=>ho pins s2 σ H2 x y v u Q I2 rx ry q)
def xP{op:UnaryOp}{r:V->Hp->VK->Prop}(ho:UnR X (unaryOp op) r)(ha:PE X a ta):PE X (.UnaryOp op a pos) (tUn r ta):=by
 intro pins s σ H Q I h;exact UnaryOp_ (thn (ha pins s σ H _ I h) λv s1 ⟨x,H1,I1,r1,q1⟩=>ho pins s1 σ H1 x v Q I1 r1 q1)
variable{g:Int->Int->Int}
def opI{C:Int->Int->Prop}
  (rule:∀(i j:Int) (t u:W4) (s:P3) (Q:Os->P3->Prop) (E:Os->P3->Prop),C i j->Q (.int (g i j) s.toks) {s with toks:=s.toks+1}->U9 (SZ X.prog X.w) X.A (f (.int i t) (.int j u)) Q E s):
  OpR X f (rI C λi j=>.int (g i j)):=by
 intro pins s σ H x y v u Q I rx ry h;obtain⟨i,j,rfl,rfl,hc,q⟩:=h;obtain⟨t,rfl⟩:=rx;obtain⟨t',rfl⟩:=ry;exact rule i j t t' s _ _ hc #[.int (g i j),H,I.tok _,#[_,rfl],q]
def opI0
  (rule:∀(i j:Int) (t u:W4) (s:P3) (Q:Os->P3->Prop) (E:Os->P3->Prop),Q (.int (g i j) s.toks) {s with toks:=s.toks+1}->U9 (SZ X.prog X.w) X.A (f (.int i t) (.int j u)) Q E s):
  OpR X f (rI0 λi j=>.int (g i j)):=by
 intro pins s σ H x y v u Q I rx ry h;obtain⟨i,j,rfl,rfl,q⟩:=h;obtain⟨t,rfl⟩:=rx;obtain⟨t',rfl⟩:=ry;exact rule i j t t' s _ _ #[.int (g i j),H,I.tok _,#[_,rfl],q]
def opB0{g:Int->Int->Bool}
  (rule:∀(i j:Int) (t u:W4) (s:P3) (Q:Os->P3->Prop) (E:Os->P3->Prop),Q (.bool (g i j)) s->U9 (SZ X.prog X.w) X.A (f (.int i t) (.int j u)) Q E s):
  OpR X f (rI0 λi j=>.bl (g i j)):=by
 intro pins s σ H x y v u Q I rx ry h;obtain⟨i,j,rfl,rfl,q⟩:=h;obtain⟨t,rfl⟩:=rx;obtain⟨t',rfl⟩:=ry;exact rule i j t t' s _ _ #[.bl (g i j),H,I,rfl,q]
def CDiv(i j:Int):Prop:=0<j/\j<1073741824
def CMul(i j:Int):Prop:=(-(2^64)<i/\i<2^64)\/(-(2^64)<j/\j<2^64)
def CMul.ok{i j:Int}(h:CMul i j):IntMulOk i j:=by
 rcases h with⟨h1,h2⟩|⟨h1,h2⟩
 .exact .of_left (intBits_le_64 h1 h2)
 .exact .of_right (intBits_le_64 h1 h2)
def xQ:OpR X (Vr .Add) (rI0 λi j=>.int (i+j)):=opI0 λ_ _ _ _ _ _ _ q=>add_int q
def rC:OpR X (Vr .Sub) (rI0 λi j=>.int (i-j)):=opI0 λ_ _ _ _ _ _ _ q=>sub_int q
def xR:OpR X (Vr .Mult) (rI CMul λi j=>.int (i*j)):=opI λ_ _ _ _ _ _ _ hc q=>mul_int q hc.ok
def xS:OpR X (Vr .FloorDiv) (rI CDiv λi j=>.int (i/j)):=opI λi j _ _ _ _ _ hc q=>by
 have h1:(0:Int)<j:=hc.1;have h2:j<1073741824:=hc.2;exact floordiv_int v4 (by rw[Int.fdiv_eq_ediv_of_nonneg i v4];exact q) (.inl (PyProof.noPylong_small v4))
def xT:OpR X (Vr .Mod) (rI (λ_ j=>0<j) λi j=>.int (i%j)):=opI λi j _ _ _ _ _ hc q=>by
 have h1:(0:Int)<j:=hc;exact mod_int' v4 (by rw[Int.fmod_eq_emod_of_nonneg i v4];exact q)
def xU:OpR X (Vr .Mod) (rI (λ_ j=>j≠0) λi j=>.int (i.fmod j)):=opI λ_ _ _ _ _ _ _ hc q=>mod_int' hc q
def unI{f:Os->WH Os}{g:Int->Int}
  (rule:∀(i:Int) (t:W4) (s:P3) (Q:Os->P3->Prop) (E:Os->P3->Prop),Q (.int (g i) s.toks) {s with toks:=s.toks+1}->U9 (SZ X.prog X.w) X.A (f (.int i t)) Q E s):
  UnR X f (rU λi=>.int (g i)):=by
 intro pins s σ H x v Q I rx h;obtain⟨i,rfl,q⟩:=h;obtain⟨t,rfl⟩:=rx;exact rule i t s _ _ #[.int (g i),H,I.tok _,#[_,rfl],q]
def xV:UnR X (unaryOp .USub) (rU λi=>.int (-i)):=unI λ_ _ _ _ _ q=>neg_int q
end
def scal:V->V->Bool
 |.non,.non=>true|.non,.int _=>true|.int _,.non=>true|.non,.bl _=>true|.bl _,.non=>true|.non,.str _=>true|.str _,.non=>true
 |.int _,.int _=>true|.bl _,.bl _=>true|.str _,.str _=>true|.byt _,.byt _=>true
 |.int _,.str _=>true|.str _,.int _=>true|.bl _,.str _=>true|.str _,.bl _=>true
 |_,_=>false
def rEq:R2:=λx y H Q=>scal x y=true/\Q (.bl (decide (x=y))) H
def rNe:R2:=λx y H Q=>scal x y=true/\Q (.bl (!decide (x=y))) H
def rD{i j:Int}:decide (V.int i=V.int j)=(i==j):=by
 rw[JO];simp
def rE{i j:Bool}:decide (V.bl i=V.bl j)=(i==j):=by
 rw[JO];simp
def rF{i j:Ms}:decide (V.str i=V.str j)=(i==j):=by
 rw[JO];simp
def rG{i j:Array UInt8}:decide (V.byt i=V.byt j)=(i.toList==j.toList):=by
 rw[JO];cases i;cases j;simp
section
variable {X:Cx}{a b c:U6}{ta tb tc:TE}{pos:Vf}
def aQ{pins:List (Addr×Vn)}{σ:St}{H:Hp}{s:P3}{Q:VK}{k k':Bool}(I:Inv X pins σ H s)(q:Q (.bl k) H)(e:k=k'):EP X pins σ Q (.bool k') s:=by
 subst e;exact#[.bl k,H,I,rfl,q]
def kh:OpR X (Vm .Eq) rEq:=by
 intro pins s σ H x y v u Q I rx ry h;obtain⟨hs,q⟩:=h;cases x with
 |non=>
  cases rx;cases y with
  |non=>cases ry;exact PySem.EqNone.eq_none_none (aQ I q MF)
  |bl j=>cases ry;exact PySem.EqNone.eq_none_bool (aQ I q MF)
  |int j=>obtain⟨t',rfl⟩:=ry;exact PySem.EqNone.eq_none_int (aQ I q MF)
  |str j=>obtain⟨t',rfl⟩:=ry;exact PySem.EqNone.eq_none_str (aQ I q MF)
  |_=>exact absurd (show false=true from hs) Ib
 |bl i=>
  cases rx;cases y with
  |non=>cases ry;exact PySem.EqNone.eq_bool_none (aQ I q MF)
  |bl j=>cases ry;exact eq_bool (aQ I q rE)
  |str j=>obtain⟨t',rfl⟩:=ry;exact PySem.EqMixed.eq_bool_str (aQ I q MF)
  |_=>exact absurd (show false=true from hs) Ib
 |int i=>
  obtain⟨t,rfl⟩:=rx;cases y with
  |non=>cases ry;exact PySem.EqNone.eq_int_none (aQ I q MF)
  |int j=>obtain⟨t',rfl⟩:=ry;exact eq_int (aQ I q rD)
  |str j=>obtain⟨t',rfl⟩:=ry;exact PySem.EqMixed.eq_int_str (aQ I q MF)
  |_=>exact absurd (show false=true from hs) Ib
 |str i=>
  obtain⟨t,rfl⟩:=rx;cases y with
  |non=>cases ry;exact PySem.EqNone.eq_str_none (aQ I q MF)
  |bl j=>cases ry;exact PySem.EqMixed.eq_str_bool (aQ I q MF)
  |int j=>obtain⟨t',rfl⟩:=ry;exact PySem.EqMixed.eq_str_int (aQ I q MF)
  |str j=>obtain⟨t',rfl⟩:=ry;exact eq_str (aQ I q rF)
  |_=>exact absurd (show false=true from hs) Ib
 |byt i=>
  obtain⟨t,rfl⟩:=rx;cases y with
  |byt j=>obtain⟨t',rfl⟩:=ry;exact eq_bytes (aQ I q rG)
  |_=>exact absurd (show false=true from hs) Ib
 |_=>cases y<;>exact absurd (show false=true from hs) Ib
def rH:OpR X (Vm .NotEq) rNe:=by
 intro pins s σ H x y v u Q I rx ry h;obtain⟨hs,q⟩:=h;cases x with
 |non=>
  cases rx;cases y with
  |non=>cases ry;exact PySem.EqNone.ne_none_none (aQ I q MF)
  |bl j=>cases ry;exact PySem.EqNone.ne_none_bool (aQ I q MF)
  |int j=>obtain⟨t',rfl⟩:=ry;exact PySem.EqNone.ne_none_int (aQ I q MF)
  |str j=>obtain⟨t',rfl⟩:=ry;exact PySem.EqNone.ne_none_str (aQ I q MF)
  |_=>exact absurd (show false=true from hs) Ib
 |bl i=>
  cases rx;cases y with
  |non=>cases ry;exact PySem.EqNone.ne_bool_none (aQ I q MF)
  |bl j=>cases ry;exact ne_bool (aQ I q (congrArg not rE))
  |str j=>obtain⟨t',rfl⟩:=ry;exact PySem.EqMixed.ne_bool_str (aQ I q MF)
  |_=>exact absurd (show false=true from hs) Ib
 |int i=>
  obtain⟨t,rfl⟩:=rx;cases y with
  |non=>cases ry;exact PySem.EqNone.ne_int_none (aQ I q MF)
  |int j=>obtain⟨t',rfl⟩:=ry;exact ne_int (aQ I q (congrArg not rD))
  |str j=>obtain⟨t',rfl⟩:=ry;exact PySem.EqMixed.ne_int_str (aQ I q MF)
  |_=>exact absurd (show false=true from hs) Ib
 |str i=>
  obtain⟨t,rfl⟩:=rx;cases y with
  |non=>cases ry;exact PySem.EqNone.ne_str_none (aQ I q MF)
  |bl j=>cases ry;exact PySem.EqMixed.ne_str_bool (aQ I q MF)
  |int j=>obtain⟨t',rfl⟩:=ry;exact PySem.EqMixed.ne_str_int (aQ I q MF)
  |str j=>obtain⟨t',rfl⟩:=ry;exact ne_str (aQ I q (congrArg not rF))
  |_=>exact absurd (show false=true from hs) Ib
 |byt i=>
  obtain⟨t,rfl⟩:=rx;cases y with
  |byt j=>obtain⟨t',rfl⟩:=ry;exact ne_bytes (aQ I q (congrArg not rG))
  |_=>exact absurd (show false=true from hs) Ib
 |_=>cases y<;>exact absurd (show false=true from hs) Ib
def rJ:OpR X (Vm .Lt) (rI0 λi j=>.bl (decide (i<j))):=opB0 λ_ _ _ _ _ _ _ q=>lt_int q
def xW:OpR X (Vm .LtE) (rI0 λi j=>.bl (decide (i<=j))):=opB0 λ_ _ _ _ _ _ _ q=>le_int q
def rK:OpR X (Vm .Gt) (rI0 λi j=>.bl (decide (j<i))):=opB0 λ_ _ _ _ _ _ _ q=>gt_int q
def xX:OpR X (Vm .GtE) (rI0 λi j=>.bl (decide (j<=i))):=opB0 λ_ _ _ _ _ _ _ q=>ge_int q
def rL:OpR X (Vm .Is) (λx y H Q=>y=.non/\Q (.bl (decide (x=.non))) H):=by
 intro pins s σ H x y v u Q I rx ry h;obtain⟨rfl,q⟩:=h;cases ry;refine is_none_gen (aQ I q ?_);cases x<;>first
  |(cases rx;rfl)
  |(obtain⟨t,rfl⟩:=rx;rfl)
def xY:OpR X (Vm .IsNot) (λx y H Q=>y=.non/\Q (.bl (!decide (x=.non))) H):=by
 intro pins s σ H x y v u Q I rx ry h;obtain⟨rfl,q⟩:=h;cases ry;refine isnot_none_gen (aQ I q ?_);cases x<;>first
  |(cases rx;rfl)
  |(obtain⟨t,rfl⟩:=rx;rfl)
variable{r:R2}
def OpR.or{f:Os->Os->WH Os}{r':R2}(h:OpR X f r)(h':OpR X f r'):OpR X f (λx y H Q=>r x y H Q\/r' x y H Q):=by
 intro pins s σ H x y v u Q I rx ry q;rcases q with q|q
 .exact h pins s σ H x y v u Q I rx ry q
 .exact h' pins s σ H x y v u Q I rx ry q
variable{op:W5}
def nomark(b:U6)(h:autoParam (op≠.In) zA1)(h2:autoParam (op≠.NotIn) zA1):Vu op b=false:=by
 have e1:(op==CmpOp.In)=false:=by cases op<;>first|rfl|exact absurd rfl h
 have e2:(op==CmpOp.NotIn)=false:=by cases op<;>first|rfl|exact absurd rfl h2
 cases b<;>simp[Vu,e1,e2]
def xZ(ho:OpR X (Vm op) r)(ha:PE X a ta)(hb:PE X b tb)(hm:Vu op b=false):PE X (.Compare a [op] [b] pos) (tOp r ta tb):=by
 intro pins s σ H Q I h;exact wpAny_Compare1 (binT ha hb I h λv u s2 x y H2 I2 rx ry q=>ho pins s2 σ H2 x y v u Q I2 rx ry q) hm
def ya(t:TE):TT:=λσ H Q=>t σ H λx H'=>∃k,x=.bl k/\Q k H'
def rM(ho:OpR X (Vm op) r)(ha:PE X a ta)(hb:PE X b tb)(hm:Vu op b=false):PT X (.Compare a [op] [b] pos) (ya (tOp r ta tb)):=by
 intro pins s σ H Q I h;refine wpAny_isTrue_Compare1 (thn (ha pins s σ H _ I h) λv s1 ⟨x,H1,I1,r1,q1⟩=>thn (hb pins s1 σ H1 _ I1 q1) λu s2 ⟨y,H2,I2,r2,q2⟩=>
  thn (ho pins s2 σ H2 x y v u _ I2 r1 r2 q2) λc s3 hh=>?_) hm
 obtain⟨z,H3,I3,r3,k,e,q3⟩:=hh;subst e;cases r3;exact VU #[H3,I3,q3]
def TruV(K:Ex)(x:V)(H:Hp)(k:Bool):Prop:=
 match x with
 |.non=>k=false
 |.bl b=>k=b
 |.int i=>k=(i !=0)
 |.str y=>y.length<=sizeLine/\k=((y.length:Int) !=0)
 |.byt y=>y.size<=sizeLine/\k=((y.size:Int) !=0)
 |.ref p=>(∃xs,SqL K H p xs/\k=!xs.isEmpty)\/(∃xs,SqT K H p xs/\k=!xs.isEmpty)\/∃a9,H p=be (.dK a9)/\k=!a9.isEmpty
 |_=>False
def yb{κ:Type}{a9:List (κ×V)}{vs:List (κ×Os)}(r:KV a9 vs):(!vs.isEmpty)=!a9.isEmpty:=by
 cases r<;>rfl
def isEmpty_of{xs:List V}{its:List Os}(r:Vals xs its):(!its.toArray.isEmpty)=!xs.isEmpty:=by
 cases r<;>simp
def line63:(sizeLine:Nat)<2^63:=by rw[VX];decide
def yc:TruR X (λx H Q=>∃k,TruV X.K x H k/\Q k H):=by
 intro pins s σ H x v Q I rx h;obtain⟨k,e,q⟩:=h;have hl:=line63;have hs:sizeLine=16777216:=VX;cases x with
 |non=>
  cases rx;have e':k=false:=e;subst e';exact truthy_none #[H,I,q]
 |bl b=>
  cases rx;have e':k=b:=e;subst e';exact VU #[H,I,q]
 |int i=>
  obtain⟨t,rfl⟩:=rx;have e':k=(i !=0):=e;subst e';exact PySem.P.truthy_int #[H,I,q]
 |str y=>
  obtain⟨t,rfl⟩:=rx;obtain⟨hy,e'⟩:y.length<=sizeLine/\k=((y.length:Int) !=0):=e;subst e';exact PySem.P.truthy_str v4 #[H,I.tok _,q]
 |byt y=>
  obtain⟨t,rfl⟩:=rx;obtain⟨hy,e'⟩:y.size<=sizeLine/\k=((y.size:Int) !=0):=e;subst e';exact truthy_bytes v4 #[H,I.tok _,q]
 |ref p=>
  cases rx;have e':(∃xs,SqL X.K H p xs/\k=!xs.isEmpty)\/(∃xs,SqT X.K H p xs/\k=!xs.isEmpty)\/∃a9,H p=be (.dK a9)/\k=!a9.isEmpty:=e;rcases e' with⟨xs,hx,e'⟩|⟨xs,hx,e'⟩|⟨a9,hx,e'⟩
  .subst e';obtain⟨its,r,pl,hz⟩:=I.list hx;have b8:=r.length;exact wpAny_truthy_list pl.isList (by simp only[H8];lia) #[H,I.tok _,by rw[isEmpty_of r];exact q]
  .subst e';obtain⟨its,r,pl,hz⟩:=I.tuple hx;have b8:=r.length;exact truthy_tuple pl (by simp only[H8];lia) #[H,I.tok _,by rw[isEmpty_of r];exact q]
  .subst e';obtain⟨hz,hS,vs,r,m⟩:a9.length<=sizeLine/\(p==Vx)=false/\∃vs,KV a9 vs/\s.heap.DictOf (bN X.prog X.w) p vs:=I.hok p _ hx;have b8:a9.length=vs.length:=Paired.length r;exact wpAny_truthy_dict hS m v4 #[H,I.tok _,by rw[yb r];exact q]
 |_=>exact(show False from e).elim
def rN(ha:PE X a ta)(he:∀f7,isTrue a X.env f7=(do let v <-f7;VR a.pos;Vv [v] (truthy v))):
  PT X a (λσ H Q=>ta σ H λx H'=>∃k,TruV X.K x H' k/\Q k H'):=by
 intro pins s σ H Q I h;exact isTrue_plain (thn (ha pins s σ H _ I h) λv s1 ⟨x,H1,I1,r1,q1⟩=>yc pins s1 σ H1 x v Q I1 r1 q1) (he _)
def yd:OpR X (Vr .Add) (λx y H Q=>∃i j,x=.str i/\y=.str j/\i.length+j.length<=sizeLine/\Q (.str (i++j)) H):=by
 intro pins s σ H x y v u Q I rx ry h;obtain⟨i,j,rfl,rfl,hz,q⟩:=h;obtain⟨t,rfl⟩:=rx;obtain⟨t',rfl⟩:=ry;exact add_str (λt' tk=>#[.str (i++j),H,I.tok _,#[_,rfl],q]) hz
variable{us:List Os}
def ce{x:V}(r:Vals [x] us):∃u,us=[u]/\RelV x u:=by
 cases r with
 |cons r1 r2=>cases r2;exact#[_,rfl,r1]
def eQ{x y:V}(r:Vals [x,y] us):∃u w',us=[u,w']/\RelV x u/\RelV y w':=by
 cases r with
 |cons r1 r2=>
  cases r2 with
  |cons r3 r4=>cases r4;exact#[_,_,rfl,r1,r3]
def ye:bH X (.builtin "abs") (λxs H Q=>∃i,xs=[.int i]/\Q (.int (if i<0 then -i else i)) H):=by
 intro pins s σ H xs us Q I r h;obtain⟨i,rfl,q⟩:=h;obtain⟨u,rfl,t,rfl⟩:=ce r;exact call_abs_int λu tk=>#[.int (if i<0 then -i else i),H,I.tok _,#[_,rfl],q]
def yf(hc:X.calm=true):bH X (.builtin "max") (λxs H Q=>∃i j,xs=[.int i,.int j]/\Q (.int (if j>i then j else i)) H):=by
 intro pins s σ H xs us Q I r h;obtain⟨i,j,rfl,q⟩:=h;obtain⟨u,w',rfl,⟨t,rfl⟩,⟨t',rfl⟩⟩:=eQ r;refine max_two_ints (I.ok.hd hc) λh' tk k=>#[_,H,I.kept k,?_,q];by_cases hj:j>i
 .rw[if_pos hj,if_pos hj];exact#[_,rfl]
 .rw[if_neg hj,if_neg hj];exact#[_,rfl]
def yg(hc:X.calm=true):bH X (.builtin "min") (λxs H Q=>∃i j,xs=[.int i,.int j]/\Q (.int (if j<i then j else i)) H):=by
 intro pins s σ H xs us Q I r h;obtain⟨i,j,rfl,q⟩:=h;obtain⟨u,w',rfl,⟨t,rfl⟩,⟨t',rfl⟩⟩:=eQ r;refine min_two_ints (I.ok.hd hc) λh' tk k=>#[_,H,I.kept k,?_,q];by_cases hj:j<i
 .rw[if_pos hj,if_pos hj];exact#[_,rfl]
 .rw[if_neg hj,if_neg hj];exact#[_,rfl]
def yh:bH X (.type "int") (λxs H Q=>(∃i,xs=[.int i]/\Q (.int i) H)\/∃k,xs=[.bl k]/\Q (.int (if k then 1 else 0)) H):=by
 intro pins s σ H xs us Q I r h;rcases h with⟨i,rfl,q⟩|⟨k,rfl,q⟩
 .obtain⟨u,rfl,t,rfl⟩:=ce r;exact call_int_int #[.int i,H,I,#[_,rfl],q]
 .obtain⟨u,rfl,r1⟩:=ce r;cases r1;exact call_int_bool #[.int (if k then 1 else 0),H,I.tok _,#[_,rfl],q]
def yi:bH X (.type "str") (λxs H Q=>∃i,xs=[.int i]/\i.natAbs.log2<1920/\Q (.str (toString i)) H):=by
 intro pins s σ H xs us Q I r h;obtain⟨i,rfl,hz,q⟩:=h;obtain⟨u,rfl,t,rfl⟩:=ce r;exact PySem.P.str_of_int hz #[.str _,H,I.tok _,#[_,rfl],q]
def LenV(K:Ex)(x:V)(H:Hp)(n:Nat):Prop:=
 match x with
 |.str y=>y.length<=sizeLine/\n=y.length
 |.byt y=>y.size<=sizeLine/\n=y.size
 |.ref p=>(∃xs,SqL K H p xs/\n=xs.length)\/∃xs,SqT K H p xs/\n=xs.length
 |_=>False
def ki:bH X (.builtin "len") (λxs H Q=>∃x n,xs=[x]/\LenV X.K x H n/\Q (.int n) H):=by
 intro pins s σ H xs us Q I r h;obtain⟨x,n,rfl,e,q⟩:=h;obtain⟨u,rfl,rx⟩:=ce r;have hl:=line63;have hs:sizeLine=16777216:=VX;cases x with
 |str y=>
  obtain⟨t,rfl⟩:=rx;obtain⟨hy,e'⟩:y.length<=sizeLine/\n=y.length:=e;subst e';exact len_str v4 #[.int _,H,I.tok _,#[_,rfl],q]
 |byt y=>
  obtain⟨t,rfl⟩:=rx;obtain⟨hy,e'⟩:y.size<=sizeLine/\n=y.size:=e;subst e';exact len_bytes v4 #[.int _,H,I.tok _,#[_,rfl],q]
 |ref p=>
  cases rx;have e':(∃xs,SqL X.K H p xs/\n=xs.length)\/∃xs,SqT X.K H p xs/\n=xs.length:=e;rcases e' with⟨xs,hx,e'⟩|⟨xs,hx,e'⟩
  .subst e';obtain⟨its,r',pl,hz⟩:=I.list hx;have b8:=r'.length;exact Calls.call_len_list pl.isList (by simp only[H8];lia) #[.int xs.length,H,I.tok _,#[_,by simp only[H8];rw[b8]],q]
  .subst e';obtain⟨its,r',pl,hz⟩:=I.tuple hx;have b8:=r'.length;exact len_tuple pl (by simp only[H8];lia) #[.int xs.length,H,I.tok _,#[_,by simp only[H8];rw[b8]],q]
 |_=>exact(show False from e).elim
end
structure ObjM(h:Heap)(x dx C:Addr)(mA:Str->Option Os):Prop where
 obj:h.get? x=be (instObj C dx)
 ns:h.Ns1 dx mA
 ne:dx≠x
variable{mA:Ms->Option Os}
def kj{dx:Addr}(n:h.Ns1 dx mA):∃od,h.get? dx=be od/\∀name,lookIn name od=be (mA name):=by
 obtain⟨o,es,ep,ho,hd,hk,_,hm⟩:=n;refine#[o,ho,λname=>?_];have e:=hm name;unfold nsFind findBy at e;rw[<-Array.find?_toList]at e;unfold lookIn;rw[hd];dsimp only;split
 .rename_i y q;rw[q]at e;exact congrArg be e
 .rename_i q;rw[q]at e;have a:es.toList.any (·.refKey)=false:=by
   rw[List.any_eq_false];intro y hy;obtain⟨z,t,o6⟩:=hk y (Array.mem_toList_iff.mp hy);simp[DictEntry.refKey,o6]
  have a':¬es.toList.any (·.refKey)=true:=by rw[a];exact Ib
  rw[if_neg a'];exact congrArg be e
variable{C:Addr}
def ObjM.look{x dx:Addr}(I:ObjM h x dx C mA):∃od,PySem.W.InstAt h x (instObj C dx) C (be od)/\∀name,lookIn name od=be (mA name):=
 let ⟨od,ho,hl⟩:=kj I.ns
 #[od,#[I.obj,rfl,rfl,ho],hl]
section
variable {prog:U8}{w:U_}{A:Va}{E:Os->P3->Prop}{s:P3}{K:Ex}{x dx C f:Addr}{mA:Ms->Option Os}{name:Ms}{v:Os}
def yj{x_:Bool}{Q:Os->P3->Prop}(X:K.In s.heap)(I:ObjM s.heap x dx C mA)(hg:plainGet K C name=true)(hh:hasDictIn K C=true)
  (ha:HR K (.ref C) name=be LH) (hv:mA name=be v) (SK:KD v=true) (h:Q v {s with toks:=s.toks+1}):
  U9 (SZ prog w) A (WD (.ref x) name x_) Q E s:=by
 obtain⟨od,J,hl⟩:=I.look;exact get_value X J (plainGet_of hg).1 (findObj_own hh ha rfl (by rw[hl,hv])) SK h
def yk{pl:WH Bool}{Q:Os×List Os->P3->Prop}(X:K.In s.heap)(I:ObjM s.heap x dx C mA)(hg:plainGet K C name=true)
  (hf:HR K (.ref C) name=be (be (.ref f))) (ht:isFn K (.ref f)=true) (hv:mA name=LH) (h:Q (.ref f,[.ref x]) s):
  U9 (SZ prog w) A (V' (.ref x) name pl) Q E s:=by
 obtain⟨od,J,hl⟩:=I.look;exact method_fn X J (plainGet_of hg).1 (plainGet_of hg).2 hf (beq_iff_eq.mp ht) (by show(lookIn name od).map (·.isSome)=be false;rw[hl,hv];rfl) h
def yl{ns:List Ms}{Q:Unit->P3->Prop}(X:K.In s.heap)(I:ObjM s.heap x dx C mA)
  (hs:HR K (.ref C) "__setattr__"=be (be (.builtin "object.__setattr__"))) (hp:plainOver K C=true) (ht:takerIn K C name=be LH) (hh:hasDictIn K C=true)
  (hw:PySem.Within mA ns) (j9:ns.length<=sizeLine)
  (h:∀h',ObjM h' x dx C (λy=>if y=name then be v else mA y)->Heap.SameBut dx s.heap h'->Q () {s with heap:=h',toks:=s.toks+2}):
  U9 (SZ prog w) A (WZ (.ref x) name v) Q E s:=by
 obtain⟨od,J,hl⟩:=I.look;refine PySem.W.set_plain X J hs (osa_open (s:={s with toks:=s.toks+1}) (r:=LH) X J hp ht λb=>?_);obtain⟨cd,hc,e_⟩:=any_some hh;have hx:s.heap.get? x=be #[.ref C,be dx,.plain,[].toArray]:=I.obj;refine Pi (SL (Pi (Pi (V8 hx (Pi (PySem.W.Looks.here (s:={s with toks:=s.toks+1}) (PySem.W.looks_clsIn X hc) ?_))))));rw[e_];refine SL (a:=be dx) (Pi (SL (Pi ?_)));refine Wy (s:={s with toks:=s.toks+1}) I.ns λh' Mt i_=>?_;obtain⟨oD,RK,RL,NG,NH,NI⟩:=Mt.count (PySem.Within.cons name v hw);refine Pi (Wg NG (by rw[NH];exact Wi (HZ NI (by rw[HX];lia))) ?_);exact SL (h _ #[(i_.2 _ (Ne.symm I.ne)).trans I.obj,Mt,I.ne] i_)
def ym{R:Result->P3->Prop}{vs:List Os}{kw:List (Ms×Os)}(X:K.In s.heap)(hm:makesIn K C=true)
  (hi:HR K (.ref C) "__init__"=be (be (.ref f))) (hf:JP K (.ref f)=be (.type "function"))
  (h:V_ (SZ prog w) (A.under (.builtin "type.__call__" #[.ref C::vs,kw])) (.call (.ref f) #[.ref (s.heap.objs.size+1)::vs,kw]) (InitBack (s.heap.objs.size+1) R)
   {s with heap:=(s.heap.push emptyDict).push (instObj C s.heap.objs.size)}):
  V_ (SZ prog w) A (.call (.ref C) #[vs,kw]) R s:=by
 obtain⟨hh,g,d,t,os⟩:=s;exact make_core (makes_of X hm) (PySem.W.looks_findIn X hi) (λself=>PySem.W.bind_fn X self hf) (.inl rfl) h
end
def putF(f:Ms)(v:V):List (Ms×V)->List (Ms×V)
 |[]=>[(f,v)]
 |(g,x)::r=>if g=f then(g,v)::r else(g,x)::putF f v r
def rO(f g:Ms)(v:V):∀fs:List (Ms×V),(putF f v fs).lookup g=if g=f then be v else fs.lookup g
 |[]=>by
  show Jc g [(f,v)]=_;by_cases h:g=f
  .have hb:(g==f)=true:=beq_iff_eq.mpr h;simp only[Jc,hb,if_pos h]
  .have hb:(g==f)=false:=beq_eq_false_iff_ne.mpr h;simp only[Jc,hb,if_neg h]
 |(k,x)::r=>by
  have ih:=rO f g v r;rw[show putF f v ((k,x)::r)=(if k=f then(k,v)::r else(k,x)::putF f v r)from rfl];by_cases hk:k=f
  .rw[if_pos hk];by_cases h:g=k
   .have hb:(g==k)=true:=beq_iff_eq.mpr h;simp only[Jc,hb,if_pos (h.trans hk)]
   .have hb:(g==k)=false:=beq_eq_false_iff_ne.mpr h;simp only[Jc,hb,if_neg (λe:g=f=>h (e.trans hk.symm))]
  .rw[if_neg hk];by_cases h:g=k
   .have hb:(g==k)=true:=beq_iff_eq.mpr h;simp only[Jc,hb,if_neg (λe:g=f=>hk (h.symm.trans e))]
   .have hb:(g==k)=false:=beq_eq_false_iff_ne.mpr h;simp only[Jc,hb];exact ih
def km(f:Ms)(v:V):∀fs:List (Ms×V),f∈(putF f v fs).map (·.1)/\∀g,g∈fs.map (·.1)->g∈(putF f v fs).map (·.1)
 |[]=>#[by simp[putF],λg h=>by simp at h]
 |(k,x)::r=>by
  obtain⟨i1,i2⟩:=km f v r;rw[show putF f v ((k,x)::r)=(if k=f then(k,v)::r else(k,x)::putF f v r)from rfl];by_cases hk:k=f
  .rw[if_pos hk];subst hk;exact#[MF,λg h=>by simpa using h]
  .rw[if_neg hk];refine#[?_,λg h=>?_]
   .rw[Ik];exact HU _ i1
   .rw[Ik]at h ⊢;rcases HQ.mp h with e|e
    .exact HQ.mpr (.inl e)
    .exact HU _ (i2 g e)
def rP(f:Ms)(v:V):∀fs:List (Ms×V),(putF f v fs).length<=fs.length+1
 |[]=>by simp[putF]
 |(k,x)::r=>by
  have ih:=rP f v r;rw[show putF f v ((k,x)::r)=(if k=f then(k,v)::r else(k,x)::putF f v r)from rfl];by_cases hk:k=f
  .rw[if_pos hk,HX,HX];lia
  .rw[if_neg hk,HX,HX];lia
def RelO.some_of{v:V}{o:Option Os}(r:RelO (be v) o):∃u,o=be u/\RelV v u:=by
 cases o with
 |none=>exact(show False from r).elim
 |some u=>exact#[u,rfl,r]
def RelO.none_of{o:Option Os}(r:RelO LH o):o=none:=by
 cases o with
 |none=>rfl
 |some u=>exact(show False from r).elim
def rQ{v:V}(r:RelV v u):KD u=true:=by
 cases v with
 |non=>cases(show u=Value.none from r);rfl
 |bl b=>cases(show u=Value.bool b from r);rfl
 |int i=>obtain⟨t,e⟩:=(show ∃t,u=Value.int i t from r);cases e;rfl
 |str x=>obtain⟨t,e⟩:=(show ∃t,u=Value.str x t from r);cases e;rfl
 |byt b=>obtain⟨t,e⟩:=(show ∃t,u=Value.bytes b t from r);cases e;rfl
 |flt b=>obtain⟨t,e⟩:=(show ∃t,u=Value.float b t from r);cases e;rfl
 |ref a=>cases(show u=Value.ref a from r);rfl
 |ty n=>cases(show u=Value.type n from r);rfl
section
variable {P:U8}{w:U_}{H H':Hp}{h h':Heap}{a C dx:Addr}{fs l9:List (Ms×V)}
def gP(hok:HOk P w H h)(e:H a=be (.ins C dx fs)):∃mA,ObjM h a dx C mA/\(∀f,RelO (fs.lookup f) (mA f))/\PySem.Within mA (fs.map (·.1))/\fs.length<=1000/\H dx=be (.own a):=by
 obtain⟨d,z,ne,ob,mA,n,r,q⟩:=(show ObjOk P w H h a (.ins C dx fs)from hok a _ e);exact#[mA,#[ob,n,ne],r,q,z,d]
end
structure Cls(K:Ex)(C:Addr):Prop where
 pg:plainGet K C Str.empty=true
 hd:hasDictIn K C=true
 po:plainOver K C=true
 sa:HR K (.ref C) "__setattr__"=be (be (.builtin "object.__setattr__"))
def Cls.get(c:Cls K C)(f:Ms):plainGet K C f=true:=c.pg
def NoAttr(K:Ex)(C:Addr)(f:Ms):Prop:=HR K (.ref C) f=be LH
def NoAttr.taker{f:Ms}(n:NoAttr K C f):takerIn K C f=be none:=by
 unfold takerIn;rw[show HR K (.ref C) f=be LH from n];rfl
structure Meth(K:Ex)(C:Addr)(m:Str)(f:Addr):Prop where
 at_:HR K (.ref C) m=be (be (.ref f))
 fn:isFn K (.ref f)=true
 kp:keepIn K (.ref f)=true
section
variable {X:Cx}{pins:List (Addr×Vn)}{σ:St}{H:Hp}{s:P3}{a C dx:Addr}{fs:List (Ms×V)}{f:Ms}{v:V}{A:Va}{E:Os->P3->Prop}
variable{Q:Os->P3->Prop}
def yn{b:Bool}(I:Inv X pins σ H s)(e:H a=be (.ins C dx fs))(c:Cls X.K C)(n:NoAttr X.K C f)(l:fs.lookup f=be v)
  (h:∀u s',Inv X pins σ H s'->RelV v u->Q u s'):U9 (SZ X.prog X.w) A (WD (.ref a) f b) Q E s:=by
 obtain⟨mA,O,r,_,_,_⟩:=gP I.hok e;obtain⟨u,hu,ru⟩:=RelO.some_of (v:=v) (o:=mA f) (by rw[<-l];exact r f);exact yj I.kIn O (c.get f) c.hd n hu (rQ ru) (h u _ (I.tok _) ru)
def ko{m:Ms}{g:Addr}{pl:WH Bool}{Q:Os×List Os->P3->Prop}(I:Inv X pins σ H s)(e:H a=be (.ins C dx fs))(c:Cls X.K C)(k:Meth X.K C m g)(l:fs.lookup m=LH)
  (h:Q (.ref g,[.ref a]) s):U9 (SZ X.prog X.w) A (V' (.ref a) m pl) Q E s:=by
 obtain⟨mA,O,r,_,_,_⟩:=gP I.hok e;have hn:mA m=none:=RelO.none_of (by rw[<-l];exact r m);exact yk I.kIn O (c.get m) k.at_ k.fn hn h
def yo{y:V}{u:Os}{Q:Unit->P3->Prop}(I:Inv X pins σ H s)(e:H a=be (.ins C dx fs))(c:Cls X.K C)(n:NoAttr X.K C f)(hl:fs.length<1000)(ry:RelV y u)
  (h:∀s',Inv X pins σ (upd H a (.ins C dx (putF f y fs))) s'->Q () s'):U9 (SZ X.prog X.w) A (WZ (.ref a) f u) Q E s:=by
 obtain⟨mA,O,r,wi,_,ho⟩:=gP I.hok e;have hz:(fs.map (·.1)).length<=sizeLine:=by rw[HV,VX];lia
 refine yl I.kIn O c.sa c.po n.taker c.hd wi hz λh' O' sb=>h _ ?_;have hd:∃o,h'.get? dx=be o:=let ⟨o,_,_,e',_⟩:=O'.ns;#[o,e']
 refine I.write (x:=a) (e:=dx) (by rw[e];exact True.intro) (.inr ho) (λb q hb z=>(sb.2 b hb).trans z) hd ?_;refine#[by rw[ar O.ne];exact ho,?_,O.ne,O'.obj,_,O'.ns,λg=>?_,λg hg=>?_]
 .have:=rP f y fs;lia
 .show RelO ((putF f y fs).lookup g) (if g=f then be u else mA g);rw[rO];by_cases q:g=f
  .rw[if_pos q,if_pos q];exact ry
  .rw[if_neg q,if_neg q];exact r g
 .by_cases q:g=f
  .rw[q];exact(km f y fs).1
  .refine(km f y fs).2 g (wi g λz=>hg ?_);show(if g=f then be u else mA g)=LH;rw[if_neg q];exact z
def Inv.made(I:Inv X pins σ H s):Inv X pins σ (upd (upd H s.heap.objs.size (.own (s.heap.objs.size+1))) (s.heap.objs.size+1) (.ins C s.heap.objs.size []))
  {s with heap:=(s.heap.push emptyDict).push (instObj C s.heap.objs.size)}:=by
 have e1:(s.heap.push emptyDict).get? s.heap.objs.size=be emptyDict:=Heap.get?_push_size s.heap rfl;have e2:((s.heap.push emptyDict).push (instObj C s.heap.objs.size)).get? (s.heap.objs.size+1)=be (instObj C s.heap.objs.size):=by
  have:=Heap.get?_push_size (s.heap.push emptyDict) (o:=instObj C s.heap.objs.size) rfl;rwa [Heap.size_push]at this
 have e3:(s.heap.push emptyDict).Ns s.heap.objs.size (λ_=>LH):=#[emptyDict,[].toArray,_,e1,rfl,(λe he=>absurd he MF),λ_=>rfl];have I1:=I.laid (a:=s.heap.objs.size) (o:=.own (s.heap.objs.size+1)) (h':=s.heap.push emptyDict) (t':=s.toks) (λb u q=>Heap.get?_push_of_some _ q) (HP _) #[_,e1];refine I1.laid (a:=s.heap.objs.size+1) (o:=.ins C s.heap.objs.size []) (t':=s.toks) (λb u q=>Heap.get?_push_of_some _ q) (JQ (Heap.size_push _ _)) ?_;have ne:s.heap.objs.size≠s.heap.objs.size+1:=HY (KE _);refine#[by rw[ar ne,aC],Iq _,ne,e2,λ_=>LH,(Heap.Ns1.of_empty e3).at λo q=>Heap.get?_push_of_some _ q,λ_=>True.intro,λy hy=>absurd rfl hy]
def attr_of{prog:U8}{w:U_}{env:VS}{e:U6}{f:Ms}{pos:Vf}{s:P3}(hb:Vc e f env (Vd e env)=Vd e env)
  (h:U9 (SZ prog w) A (Vd e env) (λo s₁=>U9 (SZ prog w) A (WD o f true) Q E s₁) E s):U9 (SZ prog w) A (Vd (.Attribute e f pos) env) Q E s:=
 Attribute_any_ h (by rw[arm_eval_Attribute,hb])
end
def tFld(K:Ex)(ta:TE)(f:Ms):TE:=λσ H Q=>ta σ H λx H1=>∃a C dx fs v,x=.ref a/\H1 a=be (.ins C dx fs)/\Cls K C/\NoAttr K C f/\fs.lookup f=be v/\Q v H1
def sFld(K:Ex)(ta tv:TE)(f:Ms):TS:=λD σ H=>tv σ H λy H1=>ta σ H1 λx H2=>∃a C dx fs,x=.ref a/\H2 a=be (.ins C dx fs)/\Cls K C/\NoAttr K C f/\fs.length<1000/\
 D.nx σ (upd H2 a (.ins C dx (putF f y fs)))
section
variable {X:Cx}{o e value:U6}{f:Ms}{pos c7 NE:Vf}{ta tv:TE}
def rR(he:PE X e ta)(hb:Vc e f X.env (Vd e X.env)=Vd e X.env):PE X (.Attribute e f pos) (tFld X.K ta f):=by
 intro pins s σ H Q I h;refine attr_of hb (thn (he pins s σ H _ I h) λu s1 b9=>?_);obtain⟨x,H1,I1,rx,a,C,dx,fs,v,ex,ea,c,n,l,q⟩:=b9;subst ex;obtain rfl:u=Value.ref a:=rx;exact yn I1 ea c n l λu' s2 I2 ru=>#[v,H1,I2,ru,q]
def rS(ha:PE X o ta)(hv:PE X value tv)(hs:Vl value (be (.Attribute o f c7)) pos.line X.env=pure false):PS X (.Assign [.Attribute o f c7] value pos) (sFld X.K ta tv f):=by
 intro pins s σ H D I h;refine VI (thn (hv pins s σ H _ I h) λu s1 ⟨y,H1,I1,ry,q⟩=>thn (ha pins s1 σ H1 _ I1 q) λov s2 hh=>?_) hs;obtain⟨x,H2,I2,rx,a,C,dx,fs,ex,ea,c,n,l,q2⟩:=hh;subst ex;obtain rfl:ov=Value.ref a:=rx;exact yo I2 ea c n l ry λs3 I3=>#[σ,_,I3,q2]
end
section
variable {X:Cx}{pins:List (Addr×Vn)}{σ:St}{H:Hp}{s:P3}{A:Va}{E:Os->P3->Prop}{Q:Os->P3->Prop}{c:Os}{b:Bool}
inductive TyOf(K:Ex)(H:Hp):V->Os->Prop where
 |non:TyOf K H .non (.type "NoneType")
 |bl (x:Bool):TyOf K H (.bl x) (.type "bool")
 |int (i:Int):TyOf K H (.int i) (.type "int")
 |str (x:Str):TyOf K H (.str x) (.type "str")
 |flt (x:UInt64):TyOf K H (.flt x) (.type "float")
 |lst {a:Addr} {xs:List V} (e:H a=some (.lst xs)):TyOf K H (.ref a) (.type "list")
 |frz {a:Addr} {o:Vn} {xs:List V} (e:H a=some (.frz o (.lst xs))):TyOf K H (.ref a) (.type "list")
 |tup {a:Addr} {xs:List V} (e:H a=some (.tup xs)):TyOf K H (.ref a) (.type "tuple")
 |dK {a:Addr} {a9:List (Key×V)} (e:H a=some (.dK a9)):TyOf K H (.ref a) (.type "dict")
 |dT {a:Addr} {a9:List (List Key×V)} (e:H a=some (.dT a9)):TyOf K H (.ref a) (.type "dict")
 |ins {a C dx:Addr} {fs:List (Str×V)} (e:H a=some (.ins C dx fs)) (cl:Cls K C) (ha:HR K (.ref C) "__class__"=some (some (.builtin "object.__class__")))
   (hn:IN K (.builtin "object.__class__") "__get__"=be (be (.builtin "getset_descriptor.__get__"))) (htk:Jn K (.builtin "object.__class__")=be true)
   (hm:IB K C (.type "object")=be true):TyOf K H (.ref a) (.ref C)
def yp{x:V}{u t:Os}(I:Inv X pins σ H s)(rx:RelV x u)(ty:TyOf X.K H x t)(e:kitOne X.K t c=be b)(h:∀tk,Q (.bool b) {s with toks:=tk}):
  U9 (SZ X.prog X.w) A (call (.builtin "isinstance") [u,c]) Q E s:=by
 cases ty with
 |non=>cases(show u=Value.none from rx);exact kia_one kitx_none I.kIn True.intro e (λz=>nomatch z) h
 |bl y=>cases(show u=Value.bool y from rx);exact kia_one kitx_bool I.kIn True.intro e (λz=>nomatch z) h
 |int i=>obtain⟨t,q⟩:=(show ∃t,u=Value.int i t from rx);cases q;exact kia_one kitx_int I.kIn True.intro e (λz=>nomatch z) h
 |str y=>obtain⟨t,q⟩:=(show ∃t,u=Value.str y t from rx);cases q;exact kia_one kitx_str I.kIn True.intro e (λz=>nomatch z) h
 |flt y=>obtain⟨t,q⟩:=(show ∃t,u=Value.float y t from rx);cases q;exact kia_one kitx_float I.kIn True.intro e (λz=>nomatch z) h
 |@lst a xs ea=>
  cases(show u=Value.ref a from rx);obtain⟨_,_,n,_,h1⟩:=(show ObjOk X.prog X.w H s.heap a (.lst xs)from I.hok a _ ea);exact kia_one kitx_list I.kIn #[_,h1,rfl] e (λz=>nomatch z) h
 |@frz a ob xs ea=>
  cases(show u=Value.ref a from rx);obtain⟨_,_,_,n,_,h1⟩:=(show ObjOk X.prog X.w H s.heap a (.frz ob (.lst xs))from I.hok a _ ea);exact kia_one kitx_list I.kIn #[_,h1,rfl] e (λz=>nomatch z) h
 |@tup a xs ea=>
  cases(show u=Value.ref a from rx);obtain⟨_,_,_,p⟩:=(show ObjOk X.prog X.w H s.heap a (.tup xs)from I.hok a _ ea);obtain⟨o,h1,h2,_⟩:=p;exact kia_one kitx_tuple I.kIn #[o,h1,h2] e (λz=>nomatch z) h
 |@dK a a9 ea=>
  cases(show u=Value.ref a from rx);obtain⟨_,_,vs,_,p⟩:=(show ObjOk X.prog X.w H s.heap a (.dK a9)from I.hok a _ ea);obtain⟨o,es,ep,h1,h2,_⟩:=p;exact kia_one kitx_dict I.kIn #[o,h1,h2.1] e (λz=>nomatch z) h
 |@dT a a9 ea=>
  cases(show u=Value.ref a from rx);obtain⟨_,_,xs,_,o,es,ep,h1,h2,_⟩:=(show ObjOk X.prog X.w H s.heap a (.dT a9)from I.hok a _ ea);exact kia_one kitx_dict I.kIn #[o,h1,h2.1] e (λz=>nomatch z) h
 |@ins a C dx fs ea cl ha hn htk hm=>
  cases(show u=Value.ref a from rx);obtain⟨mA,O,_⟩:=gP I.hok ea;obtain⟨od,J,_⟩:=O.look;exact kia_one (kitx_own (cl.get _) cl.hd ha hn htk hm) I.kIn J e (λz=>nomatch z) h
end
structure Room(k:Nat)(A:Va):Prop where
 hd:A.handled=LH
 dp:A.depth+3*k+5<recursionLimit
 un:A.units+16*k+200<Wb
variable{k:Nat}
def Room.mono{j:Nat}(r:Room k A)(h:j<=k):Room j A:=#[r.hd,by have:=r.dp;lia,by have:=r.un;lia]
def Room.deeper(r:Room (k+1) A)(env:VS):Room k (A.deeper env):=
 #[r.hd,by have:=r.dp;show A.depth+1+3*k+5<_;lia,by have:=r.un;show A.units+3+16*k+200<_;lia]
variable{kw:List (Ms×Os)}
def yq:(A.under (.builtin "type.__call__" #[.ref C::us,kw])).depth=A.depth+1:=by
 first|rfl|simp[Around.under,Code.weight,Code.isCreation,Code.isGuard,Code.isCaller,Code.frames,Code.isFrame,guardIds]
def yr:(A.under (.builtin "type.__call__" #[.ref C::us,kw])).units=A.units+1:=by
 first|rfl|simp[Around.under,Code.cUnits,Code.frames,Code.isFrame]
def Room.make(r:Room (k+1) A)(C:Addr)(us:List Os)(kw:List (Ms×Os)):Room k (A.under (.builtin "type.__call__" #[.ref C::us,kw])):=
 #[r.hd,by have:=r.dp;rw[yq];lia,by have:=r.un;rw[yr];lia]
def Room.depth(r:Room k A):A.depth<recursionLimit:=by have:=r.dp;lia
def Room.units(r:Room k A):A.units+64<Wb:=by have:=r.un;lia
def tNil:TA:=λ_ H Q=>Q [] H
def rT(ta:TE)(tr:TA):TA:=λσ H Q=>ta σ H λx H1=>tr σ H1 λxs H2=>Q (x::xs) H2
section
variable {X:Cx}{e:U6}{es:List U6}{te:TE}{t:TA}{pos:Vf}
def pa_nil:PA X [] tNil:=λ_ _ _ _ H Q I h=>Calls.spliced_nil #[[],H,I,.nil,h]
def bt(ha:PE X e te)(hr:PA X es t)(hs:autoParam (zSE X e es) zA0):PA X (e::es) (rT te t):=by
 intro pos pins s σ H Q I h;rw[hs];show U9 _ _ (spliced ((false,Vd e X.env)::Vz pos (U' es X.env))) _ _ s;refine Calls.spliced_cons (thn (ha pins s σ H _ I h) λu s1 b9=>?_);obtain⟨x,H1,I1,r1,q1⟩:=b9;exact thn (hr pos pins s1 σ H1 _ I1 q1) λus s2 ⟨xs,H2,I2,r2,q2⟩=>#[x::xs,H2,I2,.cons r1 r2,q2]
def tTup(t:TA):TE:=λσ H Q=>t σ H λxs H1=>xs.length<=sizeLine/\∀p,H1 p=LH->Q (.ref p) (upd H1 p (.tup xs))
def tLst(t:TA):TE:=λσ H Q=>t σ H λxs H1=>xs.length<=sizeLine/\∀p,H1 p=LH->Q (.ref p) (upd H1 p (.lst xs))
def rV{x1}(h:PA X es t):PE X (.Tuple es x1 pos) (tTup t):=by
 intro pins s σ H Q I hq;refine wpAny_Tuple_spliced (thn (h pos pins s σ H _ I hq) λus s1 ⟨xs,H1,I1,r,z,q⟩=>#[by rw[<-r.length];exact z,?_]);have hf:H1 s1.heap.objs.size=none:=I1.hok.fresh (HP _);refine#[.ref s1.heap.objs.size,upd H1 s1.heap.objs.size (.tup xs),I1.laid (t':=s1.toks) (λb u e=>Heap.get?_push_of_some _ e) (HP _) ?_,rfl,q _ hf];exact#[z,us,r,#[_,Heap.get?_push_size _ rfl,rfl,_,rfl]]
def kq(h:PA X es t):PE X (.List es pos) (tLst t):=by
 intro pins s σ H Q I hq;refine wpAny_List_spliced (thn (h pos pins s σ H _ I hq) λus s1 ⟨xs,H1,I1,r,z,q⟩=>#[by rw[<-r.length];exact z,?_]);have hf:H1 s1.heap.objs.size=none:=I1.hok.fresh (HP _);refine#[.ref s1.heap.objs.size,upd H1 s1.heap.objs.size (.lst xs),I1.laid (t':=s1.toks) (λb u e=>Heap.get?_push_of_some _ e) (HP _) ?_,rfl,q _ hf];exact#[z,us,0,r,Heap.get?_push_size _ rfl]
end
abbrev Sp:=List V->Hp->VK->XK->Prop
abbrev CXT:=List VS->Hp->P3->XK->Os->P3->Prop
structure Env0(P:U8)(w:U_)(K:Ex)(mg:Str->Option Os)(base:Heap)(A:Va)(outer:List VS)(s:P3)(H:Hp):Prop where
 frames:A.frames=be outer
 mod:Mod K mg base
 bs:∀b o,base.get? b=be o->s.heap.get? b=be o/\H b=LH
 bsz:base.objs.size<=s.heap.objs.size
 funs:s.heap.FunFrames base outer
 frf:∀b∈frs outer,H b=LH
 hok:HOk P w H s.heap
 bare:VY s.gens
def CE(outer:List VS)(P:U8)(w:U_)(H:Hp)(s:P3)(Q:VK)(u:Os)(s':P3):Prop:=
 ∃v H',s'.os=s.os/\VY s'.gens/\Un (frs outer) [] H H' s.heap s'.heap/\HOk P w H' s'.heap/\RelV v u/\Q v H'
def CR(CX:CXT)(outer:List VS)(P:U8)(w:U_)(H:Hp)(s:P3)(Q:VK)(E:XK)(r:Result)(s':P3):Prop:=
 match r with
 |.ok (.ret u)=>CE outer P w H s Q u s'
 |.ok _=>False
 |.error e=>CX outer H s E e s'
structure FnOk(P:U8)(w:U_)(K:Ex)(mg:Str->Option Os)(base:Heap)(CX:CXT)(k:Nat)(f:Addr)(fd:Ve)(ps:List Str)(sp:Sp):Prop where
 len:∀vs H Q E,sp vs H Q E->vs.length=ps.length
 run:∀(A:Va) (outer:List VS) (s:P3) (H:Hp) (args:Args) (us:List Os) (vs:List V) (Q:VK) (E:XK),Room k A->Env0 P w K mg base A outer s H->V4 s fd args (ps.zip us)->Vals vs us->sp vs H Q E->
  V_ (SZ P w) A (.call (.ref f) args) (CR CX outer P w H s Q E) s
variable{f:Addr}{mg:Ms->Option Os}{base:Heap}{CX:CXT}{fd:Ve}{ps:List Ms}{sp:Sp}
def FnOk.mono{j:Nat}(F:FnOk P w K mg base CX j f fd ps sp)(h:j<=k):
  FnOk P w K mg base CX k f fd ps sp:=#[F.len,λA outer s H args us vs Q E hr=>F.run A outer s H args us vs Q E (hr.mono h)]
def FnOk.imp{Ma:Sp}(F:FnOk P w K mg base CX k f fd ps sp)
  (h:∀vs H Q E,Ma vs H Q E->sp vs H Q E):FnOk P w K mg base CX k f fd ps Ma:=
 #[λvs H Q E q=>F.len vs H Q E (h _ _ _ _ q),λA outer s H args us vs Q E hr he hb hv hs=>F.run A outer s H args us vs Q E hr he hb hv (h _ _ _ _ hs)]
variable{outer:List VS}
def Env0.make(e:Env0 P w K mg base A outer s H)(C:Addr)(us:List Os)(kw:List (Ms×Os)):
  Env0 P w K mg base (A.under (.builtin "type.__call__" #[.ref C::us,kw])) outer s H:=#[by first|exact e.frames|(simpa[Around.under,Code.envs,Code.isFrame,pushEnvs]using e.frames),e.mod,e.bs,e.bsz,e.funs,e.frf,e.hok,e.bare]
section
variable {X:Cx}{pins:List (Addr×Vn)}{σ:St}{H:Hp}{s s':P3}
def Inv.env0(I:Inv X pins σ H s):Env0 X.prog X.w X.K X.mg X.base X.A X.stack s H:=
 #[I.ok.frames,I.ok.mod,I.bs,HZ I.ok.bsz I.sz,I.stack,I.stkFree,I.hok,I.bare]
def Inv.after{Q:VK}{u:Os}(I:Inv X pins σ H s)(h:CE X.stack X.prog X.w H s Q u s'):EP X pins σ Q u s':=by
 obtain⟨v,H',os,bare,un,hok,r,q⟩:=h;obtain⟨hh,g,d,t,SM⟩:=s';obtain rfl:SM=s.os:=os;exact#[v,H',I.call (h':=hh) (g':=g) (d':=d) (t':=t) (ch:=[]) un hok bare (λb z=>absurd z MF),r,q]
end
def rW(sp:Sp)(ge:List V)(E:XK)(t:TA):TE:=λσ H Q=>t σ H λvs H1=>sp (vs++ge) H1 Q E
def yt(C:Addr)(sp:Sp)(ge:List V)(E:XK)(t:TA):TE:=λσ H Q=>t σ H λvs H1=>∀x dx,H1 x=LH->H1 dx=LH->dx≠x->
 sp (.ref x::(vs++ge)) (upd (upd H1 dx (.own x)) x (.ins C dx [])) (λv H2=>v=.non/\Q (.ref x) H2) E
def Binds(K:Ex)(fd:Ve)(ps:List Ms)(ds:List Os):Prop:=
 ∀(s:P3) (us:List Os),K.In s.heap->(us++ds).length=ps.length->V4 s fd #[us,[]] (ps.zip (us++ds))
def Binds.all(h:∀us:List Os,us.length=ps.length->VN fd #[us,[]]=pure (ps.zip us)):Binds K fd ps []:=λs us _ hl=>by
 rw[Iz]at hl ⊢;exact .of_eq (h us hl)
def fR(CX:CXT)(X:Cx)(E:XK):Prop:=∀(pins:List (Addr×Vn)) (σ:St) (H:Hp) (s:P3) (e:Os) (s':P3),Inv X pins σ H s->CX X.stack H s E e s'->X.xe e s'
section
variable {X:Cx}{CX:CXT}{k:Nat}{f C:Addr}{fd:Ve}{ps:List Ms}{sp:Sp}{ge:List V}{ds:List Os}{E:XK}{x m:Ms}{p pos apos:Vf}{e o:U6}{es:List U6}{ta:TE}{t:TA}
variable{pins:List (Addr×Vn)}{us:List Os}{vs:List V}
def yu{σ:St}{H:Hp}{s:P3}{Q:VK}(F:FnOk X.prog X.w X.K X.mg X.base CX k f fd ps sp)(hr:Room k X.A)(hb:Binds X.K fd ps ds)(hd:Vals ge ds)(hx:fR CX X E)
  (I:Inv X pins σ H s) (r:Vals vs us) (h:sp (vs++ge) H Q E):U9 (SZ X.prog X.w) X.A (call (.ref f) us) (EP X pins σ Q) X.xe s:=by
 have r2:Vals (vs++ge) (us++ds):=r.append hd;have hl:(us++ds).length=ps.length:=by rw[<-r2.length];exact F.len _ _ _ _ h
 refine Vw (VH (F.run X.A X.stack s H #[us,[]] (us++ds) (vs++ge) Q E hr I.env0 (hb s us I.kIn hl) r2 h) λr s' hq=>?_);cases r with
 |error e=>exact hx pins σ H s e s' I hq
 |ok fl=>
  cases fl with
  |ret u=>exact I.after hq
  |next=>exact False.elim hq
  |brk=>exact False.elim hq
  |cont=>exact False.elim hq
def yw(F:FnOk X.prog X.w X.K X.mg X.base CX k f fd ps sp)(hr:Room k X.A)(hg:Gl X x)(hm:X.mg x=be (.ref f))(hk:keepIn X.K (.ref f)=true)(hb:Binds X.K fd ps ds)(hd:Vals ge ds)(hx:fR CX X E)
  (ha:PA X (e::es) t) (c9:autoParam (zND x) zA1) (he:autoParam (zSE X e es) zA0) (c5:autoParam (zPL X pos es) zA0):
  PE X (.Call (.Name x p) (e::es) [] pos) (rW sp ge E t):=by
 intro pins s σ H Q I h;refine Vg (cz I hg hm ?_ c9);refine callWith_K (h₀:=X.base) I.ok.mod.kin hk (thn (ha pos pins s σ H _ I h) λus s1 ⟨vs,H1,I1,r,q⟩=>#[I1.kIn,?_]) he c5;exact yu F hr hb hd hx I1 r q
structure Mk(K:Ex)(C f:Addr):Prop where
 makes:makesIn K C=true
 init:HR K (.ref C) "__init__"=be (be (.ref f))
 fn:isFn K (.ref f)=true
 kp:keepIn K (.ref C)=true
def yx{σ:St}{H:Hp}{s:P3}{Q:VK}(M:Mk X.K C f)(F:FnOk X.prog X.w X.K X.mg X.base CX k f fd ps sp)(hr:Room (k+1) X.A)(hb:Binds X.K fd ps ds)(hd:Vals ge ds)
  (hx:fR CX X E) (I:Inv X pins σ H s) (r:Vals vs us)
  (h:∀x dx,H x=LH->H dx=LH->dx≠x->sp (.ref x::(vs++ge)) (upd (upd H dx (.own x)) x (.ins C dx [])) (λv H2=>v=.non/\Q (.ref x) H2) E):
  U9 (SZ X.prog X.w) X.A (call (.ref C) us) (EP X pins σ Q) X.xe s:=by
 have hq:=h (s.heap.objs.size+1) s.heap.objs.size (I.hok.fresh (Jd _)) (I.hok.fresh (HP _)) (HY (KE _));have I2:=Inv.made (C:=C) I;have r2:Vals (V.ref (s.heap.objs.size+1)::(vs++ge)) (Value.ref (s.heap.objs.size+1)::(us++ds)):=.cons rfl (r.append hd);have hl:(Value.ref (s.heap.objs.size+1)::us++ds).length=ps.length:=by
  have e:=r2.length;rw[F.len _ _ _ _ hq]at e;exact e.symm
 refine Vw (ym (f:=f) I.kIn M.makes M.init (beq_iff_eq.mp M.fn) (VH (F.run _ X.stack _ _ #[Value.ref (s.heap.objs.size+1)::us,[]] (Value.ref (s.heap.objs.size+1)::(us++ds)) _ _ E (hr.make C us [])
  (I2.env0.make C us []) (hb _ (Value.ref (s.heap.objs.size+1)::us) I2.kIn hl) r2 hq) λr s' p_=>?_))
 cases r with
 |error e=>exact hx pins σ _ _ e s' I2 p_
 |ok fl=>
  cases fl with
  |ret u=>
   obtain⟨v,H',I3,rv,ev,q3⟩:=I2.after p_;subst ev;exact#[rv,#[V.ref (s.heap.objs.size+1),H',I3,rfl,q3]]
  |next=>exact False.elim p_
  |brk=>exact False.elim p_
  |cont=>exact False.elim p_
def gQ(M:Mk X.K C f)(F:FnOk X.prog X.w X.K X.mg X.base CX k f fd ps sp)(hr:Room (k+1) X.A)(hg:Gl X x)(hm:X.mg x=be (.ref C))(hb:Binds X.K fd ps ds)(hd:Vals ge ds)(hx:fR CX X E)
  (ha:PA X (e::es) t) (c9:autoParam (zND x) zA1) (he:autoParam (zSE X e es) zA0) (c5:autoParam (zPL X pos es) zA0):
  PE X (.Call (.Name x p) (e::es) [] pos) (yt C sp ge E t):=by
 intro pins s σ H Q I h;refine Vg (cz I hg hm ?_ c9);refine callWith_K (h₀:=X.base) I.ok.mod.kin M.kp (thn (ha pos pins s σ H _ I h) λus s1 ⟨vs,H1,I1,r,q⟩=>#[I1.kIn,?_]) he c5;exact yx M F hr hb hd hx I1 r q
end
structure FnScope(N P:List Str)(sc:VA):Prop where
 kind:sc.kind=.function
 co:sc.isCoroutine=false
 gen:sc.isGenerator=false
 nd:N.Nodup
 pre:N.take P.length=P
 par:∀x∈P,sc.names.lookup x=be .local\/sc.names.lookup x=be .cell
 nofree:∀y∈sc.names,y.2≠.free
def rX{kindOf:Ms->Option VO}{x:Ms}:∀{binds:List (Ms×Os)} {m:Ms->Option Os},(∀v,(x,v)∉binds)->Ww kindOf binds m x=m x
 |[],_,_=>rfl
 |(n,v)::r,m,h=>by
  unfold Ww;rw[rX λw hw=>h w (HU _ hw)];split
  .have:x≠n:=by rintro rfl;exact h v HW
   simp[this]
  .rfl
def bindC_out{kindOf:Ms->Option VO}{x:Ms}:∀{binds:List (Ms×Os)} {m:Ms->Option Os},(∀v,(x,v)∉binds)->Wx kindOf binds m x=m x
 |[],_,_=>rfl
 |(n,v)::r,m,h=>by
  unfold Wx;rw[bindC_out λw hw=>h w (HU _ hw)];split
  .rfl
  .have:x≠n:=by rintro rfl;exact h v HW
   simp[this]
def bindL_get{kindOf:Ms->Option VO}{x:Ms}{v:Os}:∀{P:List Ms} {vs:List Os} {i:Nat} {m:Ms->Option Os},P.Nodup->P[i]?=be x->vs[i]?=be v->kindOf x=be .local->
  Ww kindOf (P.zip vs) m x=be v
 |[],_,_,_,_,h,_,_=>by simp at h
 |_::_,[],_,_,_,_,h,_=>by simp at h
 |p::P,w::vs,0,m,nd,h1,h2,hk=>by
  simp at h1 h2;subst h1;subst h2;show Ww kindOf ((p,w)::P.zip vs) m p=_;unfold Ww;rw[rX λv hv=>(IY.mp nd).1 (J9 hv).1,if_pos hk];simp
 |p::P,w::vs,i+1,m,nd,h1,h2,hk=>by
  show Ww kindOf ((p,w)::P.zip vs) m x=_;unfold Ww;exact bindL_get (i:=i) (IY.mp nd).2 (by simpa using h1) (by simpa using h2) hk
def rY{kindOf:Ms->Option VO}{x:Ms}{v:Os}:∀{P:List Ms} {vs:List Os} {i:Nat} {m:Ms->Option Os},P.Nodup->P[i]?=be x->vs[i]?=be v->kindOf x≠be .local->
  Wx kindOf (P.zip vs) m x=be v
 |[],_,_,_,_,h,_,_=>by simp at h
 |_::_,[],_,_,_,_,h,_=>by simp at h
 |p::P,w::vs,0,m,nd,h1,h2,hk=>by
  simp at h1 h2;subst h1;subst h2;show Wx kindOf ((p,w)::P.zip vs) m p=_;unfold Wx;rw[bindC_out λv hv=>(IY.mp nd).1 (J9 hv).1,if_neg hk];simp
 |p::P,w::vs,i+1,m,nd,h1,h2,hk=>by
  show Wx kindOf ((p,w)::P.zip vs) m x=_;unfold Wx;exact rY (i:=i) (IY.mp nd).2 (by simpa using h1) (by simpa using h2) hk
def start(N:List Ms)(vs:List V):St:=vs.map be++IH (N.length-vs.length) LH
def cxOf(CX:CXT)(P:U8)(w:U_)(K:Ex)(mg:Ms->Option Os)(base:Heap)(N:List Ms)(qual:Ms)(scope:VA)(f:Addr)(cd:Os)(A:Va)(outer:List VS)(s:P3)(H:Hp)(E:XK):Cx where
 prog:=P
 w:=w
 K:=K
 mg:=mg
 base:=base
 A:=A.deeper (Vh qual scope s.heap.objs.size f cd)
 N:=N
 s₀:=s
 H₀:=H
 env:=Vh qual scope s.heap.objs.size f cd
 outer:=outer
 stack:=Vh qual scope s.heap.objs.size f cd::outer
 ex:=[]
 calm:=true
 fn:=λ_=>true
 pn:=[]
 xe:=λe s'=>U9 (SZ P w) (A.deeper (Vh qual scope s.heap.objs.size f cd)) (WC (Vh qual scope s.heap.objs.size f cd) e) (λ_ Ph=>CX outer H s E e Ph) (λe' Ph=>CX outer H s E e' Ph) s'
def cell_has{sc:VA}{n:Nat}{x:Ms}(h:sc.names.lookup x=be .cell):∃c,(cellsFrom n sc.names []).lookup x=be c:=by
 have q:=cellsFrom_some sc.names n [] (.inl h);exact Option.isSome_iff_exists.mp q
variable{N:List Ms}{scope:VA}
def yy{qual:Ms}{cd:Os}{s1:P3}{E:XK}{vs:List V}
  (S:FnScope N ps scope) (hd:A.handled=LH) (e0:Env0 P w K mg base A outer s H) (hl:vs.length=ps.length) (r:Vals vs us)
  (x:InCallC s s.heap.objs.size (Ww (Vh qual scope s.heap.objs.size f cd).kindOf (ps.zip us) λ_=>LH) (cellsFrom (s.heap.objs.size+1) scope.names []) (Wx (Vh qual scope s.heap.objs.size f cd).kindOf (ps.zip us) λ_=>LH) s1):
  Inv (cxOf CX P w K mg base N qual scope f cd A outer s H E) [] (start N vs) H s1:=by
 have c5:ps.length<=N.length:=by have:=congrArg JB S.pre;rw[JC]at this;lia
 obtain⟨h1,tk,rfl,hk⟩:=x.done;have NJ:∀b:Addr,b∉(cxOf CX P w K mg base N qual scope f cd A outer s H E).ex:=λb z=>absurd (show b∈([]:List Addr)from z) MF;refine⟨#[e0.mod,S.kind,rfl,rfl,HP _,λy z c h1 h2=>?_,λy hy=>?_,λy c _ h=>?_,λ_=>hd,Around.frames_deeper e0.frames,.inr #[rfl,rfl],λb z=>absurd z (NJ b),e0.bs,e0.bsz,λb _ _=>NJ b,λb z=>absurd z (NJ b),e0.funs,e0.frf],
  rfl,e0.bare,Un.kept hk,#[_,x.toInCall.ns,λi y v h1 h2 h3=>?_],λy c h=>#[_,x.cell y c h],e0.hok.fresh (HP _),λy c h=>?_,λp hp=>absurd (show p∈([]:List (Addr×Vn))from hp) MF,e0.hok.kept hk,?_⟩
 .exact name_of_addr x.apart (PySem.mem_of_lookup h1) (PySem.mem_of_lookup h2)
 .have hy:scope.names.lookup y=be .cell\/scope.names.lookup y=be .free:=hy;rcases hy with hy|hy
  .exact cell_has hy
  .exact absurd rfl (S.nofree _ (PySem.mem_of_lookup hy))
 .exact JL (x.above y c (PySem.mem_of_lookup h))
 .have hi:i<vs.length:=by
   unfold start at h2;by_cases hi:i<vs.length
   .exact hi
   .rw[IZ (by simpa using hi)]at h2;rw[Ka]at h2;split at h2<;>cases h2
  have ha:vs[i]?=be v:=by
   unfold start at h2;rw[IE (by simpa using hi),H9]at h2;cases e:vs[i]? with
   |none=>rw[e]at h2;cases h2
   |some a=>rw[e]at h2;cases h2;rfl
  obtain⟨u,hu,rv⟩:=r.get ha;have hp:ps[i]?=be y:=by
   rw[<-S.pre,Kb v4];exact h1
  have RN:ps.Nodup:=by rw[<-S.pre];exact S.nd.sublist (List.take_sublist _ _)
  refine#[u,rv,?_];rcases S.par y (JD hp)with k|k
  .exact .inl #[k,bindL_get RN hp hu k]
  .obtain⟨c,e⟩:=cell_has (n:=s.heap.objs.size+1) k;refine .inr #[.inl k,c,e,?_];have q:=x.cell y c e;rw[rY RN hp hu (by show scope.names.lookup y≠_;rw[k];decide)]at q;exact q
 .exact e0.hok.fresh (JL (x.above y c (PySem.mem_of_lookup h)))
 .unfold start;show _=N.length;rw[Ic,HV,List.length_replicate];lia
def yz{name qual:Ms}{params:Arguments}{body:List U7}{dV kV doc pm cdv ct oc:Os}{an od:Option Addr}
  {osl:Array (Option Os)}   (lk:K.lookup f=be #[oc,od,.func (fnOf name qual params body scope dV kV doc pm an cdv ct),osl]) (g5:codeIn K cdv qual=true) (S:FnScope N ps scope)
  (len:∀vs H Q E,sp vs H Q E->vs.length=ps.length)
  (a8:∀(A:Va) (outer:List VS) (s:P3) (H:Hp) (vs:List V) (Q:VK) (E:XK),Room k (A.deeper (Vh qual scope s.heap.objs.size f cdv))->sp vs H Q E->
   ∃t,PSs (cxOf CX P w K mg base N qual scope f cdv A outer s H E) body t/\t {nx:=λ_ H'=>Q .non H',rt:=Q} (start N vs) H):
  FnOk P w K mg base CX (k+1) f (fnOf name qual params body scope dV kV doc pm an cdv ct) ps sp:=by
 refine#[len,λA outer s H args us vs Q E hr e0 hb r y7=>?_];have hl:=len _ _ _ _ y7;have KX:K.In s.heap:=e0.mod.kin.keeps λb o e=>(e0.bs b o e).1;have SN:s.heap.NoLimit:=e0.mod.nolimit.keeps λb o e=>(e0.bs b o e).1;have NK:∀y∈ps.zip us,scope.names.lookup y.1=be .local\/(scope.names.lookup y.1=be .cell/\((cellsFrom (s.heap.objs.size+1) scope.names []).lookup y.1).isSome=true):=λ⟨n,v⟩ hy=>by
  rcases S.par n (J9 hy).1 with q|q
  .exact .inl q
  .exact .inr #[q,cellsFrom_some _ _ _ (.inl q)]
 refine codeAny_call_function hr.depth (KX _ _ lk) rfl S.co S.gen rfl (codeRec_of KX g5) (hb _ _ _ _ ?_);refine wpAny_newFunctionEnv_cells S.kind NK λenv he s1 x=>?_;subst he;refine#[SN.keeps x.toInCall.keep,codeAny_func ?_];obtain⟨t,ht,hq⟩:=a8 A outer s H vs Q E (hr.deeper _) y7;have I:Inv (cxOf CX P w K mg base N qual scope f cdv A outer s H E) [] (start N vs) H s1:=yy S hr.hd e0 hl r x;refine Vk (ht [] s1 (start N vs) H _ I hq) (λfl s' hs=>?_) λe s' hs=>hs;have d_:∀{σ':St} {H':Hp} {v:V} {u:Os},Inv (cxOf CX P w K mg base N qual scope f cdv A outer s H E) [] σ' H' s'->RelV v u->Q v H'->CE outer P w H s Q u s':=
  λ{σ' H' v u} J rv q=>#[v,H',J.os,J.bare,J.base,J.hok,rv,q]
 cases fl with
 |ret u=>
  obtain⟨v,σ',H',J,rv,q⟩:=hs;exact d_ J rv q
 |next=>
  obtain⟨σ',H',J,q⟩:=hs;exact d_ (v:=V.non) (u:=Value.none) J rfl q
 |brk=>
  obtain⟨_,_,_,q⟩:=hs;exact False.elim q
 |cont=>
  obtain⟨_,_,_,q⟩:=hs;exact False.elim q
section
variable {X:Cx}{x:Ms}{p pos:Vf}{e:U6}{es:List U6}{t:TA}{id T:String}{r:List V->Hp->VK->Prop}
def tCB(r:List V->Hp->VK->Prop)(t:TA):TE:=λσ H Q=>t σ H λvs H1=>r vs H1 Q
def eU(hc:bH X (.builtin id) r)(hg:Gl X x)(hm:X.mg x=LH)(hv:Vo x=be (.builtin id))(ha:PA X (e::es) t)(hn:autoParam (x≠"__name__") zA1)(c9:autoParam (zND x) zA1)
  (he:autoParam (zSE X e es) zA0) (c5:autoParam (zPL X pos es) zA0):PE X (.Call (.Name x p) (e::es) [] pos) (tCB r t):=by
 intro pins s σ H Q I h;refine Vg (dP I hg hm hv ?_ hn c9);exact PyProof.Rows.callWith_builtin1 (thn (ha pos pins s σ H _ I h) λus s1 ⟨vs,H1,I1,r1,q1⟩=>hc pins s1 σ H1 vs us Q I1 r1 q1) he c5
def kr(hc:bH X (.type T) r)(hg:Gl X x)(hm:X.mg x=LH)(hv:Vo x=be (.type T))(ha:PA X (e::es) t)(hn:autoParam (x≠"__name__") zA1)(c9:autoParam (zND x) zA1)
  (he:autoParam (zSE X e es) zA0) (c5:autoParam (zPL X pos es) zA0):PE X (.Call (.Name x p) (e::es) [] pos) (tCB r t):=by
 intro pins s σ H Q I h;refine Vg (dP I hg hm hv ?_ hn c9);exact PyProof.Rows.callWith_type1 (thn (ha pos pins s σ H _ I h) λus s1 ⟨vs,H1,I1,r1,q1⟩=>hc pins s1 σ H1 vs us Q I1 r1 q1) he c5
end
end L2
namespace HT
open PySem PyProof.Rows
section
variable {prog:U8}{w:U_}{A:Va}{E:Os->P3->Prop}{s:P3}
variable{Q:Os->P3->Prop}
def cat_tup{t b:Addr}{vs ws:List Os}(ht:IsTup s.heap t vs.toArray)(hb:IsTup s.heap b ws.toArray)(hv:vs≠[])
  (h1:ws=[]->Q (.ref t) s) (h2:ws≠[]->Q (.ref s.heap.objs.size) {s with heap:=s.heap.push {cls:=.type "tuple",data:=.seq (vs++ws).toArray} })
  (j9:vs.length+ws.length<=sizeLine):U9 (SZ prog w) A (Vr .Add (.ref t) (.ref b)) Q E s:=by
 obtain⟨⟨cls,dd,data,sl⟩,ho,hc,n,hd⟩:=id ht;obtain⟨⟨SO,RO,data2,RP⟩,OH,RQ,n2,M6⟩:=id hb;simp only at hc hd RQ M6;subst hc hd RQ M6;have e:vs.toArray++ws.toArray=(vs++ws).toArray:=MF
 by_cases hw:ws=[]
 .exact concat_meets #[_,ho,rfl] #[_,OH,rfl] noFill_tuple_add seq_tuple_add PySem.F.slot_tuple_add PySem.F.entry_tuple_add (PySem.F.args_tuple_add_2 _ _)
   (tuple_addW1 t b vs.toArray ws.toArray n n2 dd RO sl RP (by simpa using hv) (by simp[hw])) #[ho,OH,h1 hw]
 .refine concat_meets #[_,ho,rfl] #[_,OH,rfl] noFill_tuple_add seq_tuple_add PySem.F.slot_tuple_add PySem.F.entry_tuple_add (PySem.F.args_tuple_add_2 _ _)
   (tuple_addW2 t b vs.toArray ws.toArray n n2 dd RO sl RP (by simpa using hv) (by simpa using hw) (by rw[H8,H8];exact j9)) #[ho,OH,?_]
  rw[e];exact h2 hw
def sIx(n d:Nat):Option Int->Nat
 |none=>d
 |some v=>if v<0 then(v+(n:Int)).toNat else min v.toNat n
def sIx_none(n d:Nat):sIx n d LH=d:=rfl
def sIx_nat(n d k:Nat):sIx n d (be (k:Int))=min k n:=by
 show(if(k:Int)<0 then((k:Int)+(n:Int)).toNat else min (k:Int).toNat n)=min k n;rw[if_neg v4,IP]
def sIx_le(n d:Nat)(hd:d<=n)(o:Option Int):sIx n d o<=n:=by
 cases o with
 |none=>exact hd
 |some v=>
  show(if v<0 then(v+(n:Int)).toNat else min v.toNat n)<=n;by_cases hv:v<0
  .rw[if_pos hv];lia
  .rw[if_neg hv];exact Nat.min_le_right _ _
def rZ(v:Int)(n d:Nat):(if v<0 then max (v+(n:Int)) 0 else min v (n:Int))=((sIx n d (be v):Nat):Int):=by
 show(if v<0 then max (v+(n:Int)) 0 else min v (n:Int))=(((if v<0 then(v+(n:Int)).toNat else min v.toNat n):Nat):Int);by_cases hv:v<0
 .simp only[if_pos hv];lia
 .simp only[if_neg hv];lia
def yB(lo hi:Option Int)(n:Nat):Builtin.Slice.sliceAdjust lo hi 1 (n:Int)=(((sIx n 0 lo:Nat):Int),((sIx n n hi:Nat):Int)):=by
 have h1:¬((1:Int)<0):=v4
 unfold Builtin.Slice.sliceAdjust;simp only[h1,if_false];refine Prod.ext ?_ ?_
 .cases lo with
  |none=>rfl
  |some v=>exact rZ v n 0
 .cases hi with
  |none=>rfl
  |some v=>exact rZ v n n
def yD(i j:Nat):Builtin.Slice.slicePlaces (i:Int) (j:Int) 1=j-i:=by
 unfold Builtin.Slice.slicePlaces;have h1:(1:Int)>0:=v4
 simp only[h1,if_true,Int.ediv_one];split<;>lia
def se{v:Os}{o:Option Int}{Q:Option Int->P3->Prop}(p:Wj v o)(h:Q o s):U9 (SZ prog w) A (Builtin.Slice.slicePartIndex v) Q E s:=by
 cases p with
 |none=>exact slicePart_none h
 |int i t=>exact slicePart_int h
variable{lo hi:Option Int}
def yF{sl:Addr}{vl vu:Os}{n:Nat}{Q:Int×Int×Nat->P3->Prop}(hs:s.heap.IsSliceOf sl vl vu .none)(pl:Wj vl lo)(pu:Wj vu hi)
  (h:Q (((sIx n 0 lo:Nat):Int),1,sIx n n hi-sIx n 0 lo) s):U9 (SZ prog w) A (Builtin.Slice.sliceApplied (.ref sl) (pure (n:Int))) Q E s:=by
 obtain⟨os,LJ,OI,OJ⟩:=id hs;unfold Builtin.Slice.sliceApplied Builtin.Slice.sliceFields;refine Pi (Pi (VL LJ OJ (x:=vl) rfl (Pi (VL LJ OJ (x:=vu) rfl (Pi (VL LJ OJ (x:=.none) rfl (SL ?_)))))));refine Pi (slicePart_none ?_);show U9 _ _ (if((1:Int)==0)=true then _ else _) _ _ s;rw[if_neg Mx];refine Pi (se pl (Pi (se pu (Pi (SL ?_)))));show U9 _ _ (match Builtin.Slice.sliceAdjust lo hi 1 (n:Int)with|(lo,hi)=>pure (lo,(1:Int),Builtin.Slice.slicePlaces lo hi 1)) _ _ s;rw[yB lo hi n];show U9 _ _ (pure (((sIx n 0 lo:Nat):Int),(1:Int),Builtin.Slice.slicePlaces ((sIx n 0 lo:Nat):Int) ((sIx n n hi:Nat):Int) 1)) _ _ s;rw[yD];exact SL h
def yG(xs:Array Os)(i k:Nat):((HS k).filterMap λ(m:Nat)=>xs[((i:Int)+(m:Int)*1).toNat]?).toArray=((xs.toList.drop i).take k).toArray:=by
 have e:(λ(m:Nat)=>xs[((i:Int)+(m:Int)*1).toNat]?)=λm=>xs[i+m]?:=by
  funext m;have:((i:Int)+(m:Int)*1).toNat=i+m:=v4
  rw[this]
 rw[e];have:=pick_run xs i k;rw[KF]at this;have e2:((λx=>xs[x]?) ∘ λx=>i+x)=λm=>xs[i+m]?:=rfl;rw[e2]at this;rw[this]
def getItem_tuple_cut{t sl:Addr}{items:Array Os}{vl vu:Os}(ht:IsTup s.heap t items)(hs:s.heap.IsSliceOf sl vl vu .none)(pl:Wj vl lo)(pu:Wj vu hi)
  (hw:¬(sIx items.size 0 lo=0/\sIx items.size items.size hi=items.size))
  (h:Q (.ref s.heap.objs.size) {s with heap:=s.heap.push {cls:=.type "tuple",data:=.seq ((items.toList.drop (sIx items.size 0 lo)).take (sIx items.size items.size hi-sIx items.size 0 lo)).toArray} })
  (j9:items.size<=sizeLine):U9 (SZ prog w) A (Wm (.ref t) (.ref sl)) Q E s:=by
 have j5:sizeOk (.seq ((items.toList.drop (sIx items.size 0 lo)).take (sIx items.size items.size hi-sIx items.size 0 lo)).toArray):=by
  show((items.toList.drop (sIx items.size 0 lo)).take (sIx items.size items.size hi-sIx items.size 0 lo)).toArray.size<=sizeLine;rw[H8,JC,Je,JN];lia
 have hj:sIx items.size items.size hi<=items.size:=sIx_le _ _ (HP _) hi;obtain⟨os,LJ,OI,OJ⟩:=id hs;have SQ:s.TypeIs (.ref sl) "slice":=#[os,LJ,OI];unfold Wm
 try with_reducible refine Vi ?_
 first|refine Pi (SL ?_)|skip
 refine Pi (wpAny_sequenceKey ht.typeIs Mx ?_);refine Pi (wpAny_callSpecial?_slot (name:=Str.ofString "__getitem__") ht.typeIs PyProof.Rows.slot_tuple_getitem
  (wpAny_call_entry PyProof.Rows.slot_tuple_getitem ht.typeIs entry_tuple_getitem ?_ (args_tuple_getitem _ _)))
 show U9 _ _ (Builtin.Tuple.tupleItemsOf (.ref t)>>=_) _ _ s;refine Pi (tupleItemsOf_ ht ?_);refine Pi (wpAny_typeOf SQ ?_);rw[if_pos Mx];refine Pi (yF hs pl pu ?_);have M7:¬((((sIx items.size 0 lo:Nat):Int)==0&&(1:Int)==1&&(sIx items.size items.size hi-sIx items.size 0 lo)==items.size)=true):=by
  intro q;rw[Io,Io]at q;have q1:((sIx items.size 0 lo:Nat):Int)=0:=eq_of_beq q.1.1;have q2:sIx items.size items.size hi-sIx items.size 0 lo=items.size:=eq_of_beq q.2;exact hw #[v4,v4]
 show U9 _ _ (if(((sIx items.size 0 lo:Nat):Int)==0&&(1:Int)==1&&(sIx items.size items.size hi-sIx items.size 0 lo)==items.size)=true then _ else _) _ _ s;rw[if_neg M7,yG]
 first
  |exact Pi (m:=Builtin.Tuple.tupleExact _) (Vj (SL ⟨_,rfl,SL h⟩) j5)
  |exact Pi (m:=Builtin.Tuple.tupleExact _) (Vj (Pi (SL (SL ⟨_,rfl,SL h⟩))) j5)
  |exact Pi (Pi (m:=Builtin.Tuple.tupleExact _) (Vj (SL (SL ⟨_,rfl,SL h⟩)) j5))
  |exact Pi (Pi (m:=Builtin.Tuple.tupleExact _) (Vj (SL ⟨_,rfl,SL h⟩) j5))
end
end HT
namespace L2
open PySem PySem.Spec PyProof.Rows
abbrev TO:=St->Hp->(Option Int->Hp->Prop)->Prop
def PO(X:Cx)(e:Option U6)(t:TO):Prop:=
 ∀(pins:List (Addr×Vn)) (s:P3) (σ:St) (H:Hp) (Q:Option Int->Hp->Prop),Inv X pins σ H s->t σ H Q->
  U9 (SZ X.prog X.w) X.A (evalPart e X.env) (λu s'=>∃o H',Inv X pins σ H' s'/\Wj u o/\Q o H') X.xe s
def yH:TO:=λ_ H Q=>Q LH H
def yI(t:TE):TO:=λσ H Q=>t σ H λx H1=>∃i,x=.int i/\Q (be i) H1
section
variable {X:Cx}{e:U6}{te:TE}{lo hi:Option U6}{tl th:TO}{pos p2:Vf}
def ku:PO X LH yH:=by
 intro pins s σ H Q I h;rw[evalPart_none];exact SL #[LH,H,I,.none,h]
def ky(h:PE X e te):PO X (be e) (yI te):=by
 intro pins s σ H Q I hw;rw[evalPart_some];refine thn (h pins s σ H _ I hw) λu s1 b9=>?_;obtain⟨x,H1,I1,r1,q1⟩:=b9;obtain⟨i,rfl,q⟩:=q1;obtain⟨t,rfl⟩:=r1;exact#[be i,H1,I1,.int i t,q]
def SlR(X:Cx)(r:V->Option Int->Option Int->Hp->VK->Prop):Prop:=
 ∀(pins:List (Addr×Vn)) (s:P3) (σ:St) (H:Hp) (x:V) (v vl vu:Os) (lo hi:Option Int) (sl:Addr) (Q:VK),Inv X pins σ H s->RelV x v->s.heap.IsSliceOf sl vl vu .none->Wj vl lo->Wj vu hi->r x lo hi H Q->
  ∃T id,typeLookup (.type T) "__getitem__"=pure (be (.builtin id))/\s.TypeIs v T/\U9 (SZ X.prog X.w) X.A (Wm v (.ref sl)) (EP X pins σ Q) X.xe s
variable{r:V->Option Int->Option Int->Hp->VK->Prop}
def SlR.or{r':V->Option Int->Option Int->Hp->VK->Prop}(h:SlR X r)(h':SlR X r'):SlR X (λx lo hi H Q=>r x lo hi H Q\/r' x lo hi H Q):=by
 intro pins s σ H x v vl vu lo hi sl Q I rx hs pl pu q;rcases q with q|q
 .exact h pins s σ H x v vl vu lo hi sl Q I rx hs pl pu q
 .exact h' pins s σ H x v vl vu lo hi sl Q I rx hs pl pu q
def tSl(r:V->Option Int->Option Int->Hp->VK->Prop)(te:TE)(tl th:TO):TE:=λσ H Q=>te σ H λx H1=>tl σ H1 λl H2=>th σ H2 λu H3=>r x l u H3 Q
def gR(hr:SlR X r)(he:PE X e te)(hl:PO X lo tl)(hu:PO X hi th):PE X (.Subscript e (.Slice lo hi LH p2) pos) (tSl r te tl th):=by
 intro pins s σ H Q I h;refine Subscript_ (thn (he pins s σ H _ I h) λv s1 b9=>?_);obtain⟨x,H1,I1,r1,q1⟩:=b9;refine wpAny_Slice (thn (hl pins s1 σ H1 _ I1 q1) λvl s2 ⟨l,H2,I2,pl,q2⟩=>thn (hu pins s2 σ H2 _ I2 q2) λvu s3 b9=>?_);obtain⟨u,H3,I3,pu,q3⟩:=b9;rw[evalPart_none];refine SL ?_;have I4:Inv X pins σ H3 {s3 with heap:=s3.heap.push {cls:=.type "slice",data:=.fields [vl,vu,.none].toArray} }:=I3.kept (t':=s3.toks) λb ob q=>Heap.get?_push_of_some _ q;obtain⟨T,id,hT,ht,hg⟩:=hr pins {s3 with heap:=s3.heap.push {cls:=.type "slice",data:=.fields [vl,vu,.none].toArray} } σ H3 x v vl vu l u s3.heap.objs.size Q I4 r1 (Heap.IsSliceOf.new ..) pl pu q3;show U9 (SZ X.prog X.w) X.A (subscriptTail e (.Slice lo hi LH p2) v (.ref s3.heap.objs.size)) (EP X pins σ Q) X.xe {s3 with heap:=s3.heap.push {cls:=.type "slice",data:=.fields [vl,vu,.none].toArray} };exact tail_any (ops:=[.ref s3.heap.objs.size,v]) ht hT hg (by with_unfolding_all rfl)
def cutV(xs:List V)(lo hi:Option Int):List V:=(xs.drop (HT.sIx xs.length 0 lo)).take (HT.sIx xs.length xs.length hi-HT.sIx xs.length 0 lo)
def sf(xs:List V)(lo hi:Option Int):(cutV xs lo hi).length<=xs.length:=by
 unfold cutV;rw[JC,Je];lia
def rSlT(K:Ex):V->Option Int->Option Int->Hp->VK->Prop:=λx lo hi H Q=>∃a xs,x=.ref a/\SqT K H a xs/\
 ¬(HT.sIx xs.length 0 lo=0/\HT.sIx xs.length xs.length hi=xs.length)/\∀p,H p=LH->Q (.ref p) (upd H p (.tup (cutV xs lo hi)))
def si:SlR X (rSlT X.K):=by
 intro pins s σ H x v vl vu lo hi sl Q I rx hs pl pu h;obtain⟨a,xs,rfl,hx,hw,q⟩:=h;cases rx;obtain⟨its,r,ht,hz⟩:=I.tuple hx;have b8:its.toArray.size=xs.length:=by rw[H8];exact r.length.symm
 refine#["tuple",_,PyProof.Rows.slot_tuple_getitem.lookup,ht.typeIs,?_];refine HT.getItem_tuple_cut ht hs pl pu (by rw[b8];exact hw) ?_ (by rw[b8];exact hz);rw[b8];refine#[.ref s.heap.objs.size,_,I.laid (t':=s.toks) (o:=.tup (cutV xs lo hi)) (λb ob q=>Heap.get?_push_of_some _ q) (HP _) ?_,rfl,q _ (I.hok.fresh (HP _))];exact#[HZ (sf xs lo hi) hz,_,(r.drop (HT.sIx xs.length 0 lo)).take (HT.sIx xs.length xs.length hi-HT.sIx xs.length 0 lo),IsTup.new _ _]
def sj(K:Ex):R2:=λx y H Q=>∃a b xs ys,x=.ref a/\y=.ref b/\SqT K H a xs/\SqT K H b ys/\xs≠[]/\xs.length+ys.length<=sizeLine/\
 (ys=[]->Q (.ref a) H)/\(ys≠[]->∀p,H p=LH->Q (.ref p) (upd H p (.tup (xs++ys))))
def Vals.nil_iff{xs:List V}{us:List Os}(r:Vals xs us):us=[]↔xs=[]:=by
 cases r with
 |nil=>simp
 |cons _ _=>simp
def yJ:OpR X (Vr .Add) (sj X.K):=by
 intro pins s σ H x y v u Q I rx ry h;obtain⟨a,b,xs,ys,rfl,rfl,ha,hb,hx,hz,q1,q2⟩:=h;cases rx;cases ry;obtain⟨its,r1,p1,_⟩:=I.tuple ha;obtain⟨j6,r2,p2,_⟩:=I.tuple hb;refine HT.cat_tup p1 p2 (λz=>hx (r1.nil_iff.mp z)) (λz=>#[.ref a,H,I,rfl,q1 (r2.nil_iff.mp z)]) (λz=>?_) (by rw[<-r1.length,<-r2.length];exact hz);refine#[.ref s.heap.objs.size,_,I.laid (t':=s.toks) (o:=.tup (xs++ys)) (λb ob q=>Heap.get?_push_of_some _ q) (HP _) ?_,rfl,q2 (λw=>z (r2.nil_iff.mpr w)) _ (I.hok.fresh (HP _))];exact#[by rw[Ic];exact hz,_,r1.append r2,IsTup.new _ _]
end
def ixN(n:Nat)(i:Int):Option Nat:=if 0<=i then(if i<n then be i.toNat else LH)else if -(n:Int)<=i then be (i+n).toNat else LH
def atI{α:Type}(xs:List α)(i:Int):Option α:=(ixN xs.length i).bind λj=>xs[j]?
def sk{n:Nat}{i:Int}{j:Nat}(h:ixN n i=be j):seqIndex? i n=be j/\j<n/\-(n:Int)<=i/\i<n:=by
 unfold ixN at h;by_cases h0:0<=i
 .rw[if_pos h0]at h;by_cases h1:i<n
  .rw[if_pos h1]at h;have e:i.toNat=j:=Option.some.inj h;exact#[by rw[WL h0 h1,e],v4,v4,h1]
  .rw[if_neg h1]at h;cases h
 .rw[if_neg h0]at h;by_cases h1:-(n:Int)<=i
  .rw[if_pos h1]at h;have e:(i+n).toNat=j:=Option.some.inj h;exact#[by rw[WB v4 h1,e],v4,h1,v4]
  .rw[if_neg h1]at h;cases h
def atI_get{α:Type}{xs:List α}{i:Int}{v:α}(h:atI xs i=be v):∃j,seqIndex? i xs.length=be j/\xs[j]?=be v/\j<xs.length/\-(xs.length:Int)<=i/\i<xs.length:=by
 unfold atI at h;cases e:ixN xs.length i with
 |none=>rw[e]at h;cases h
 |some j=>
  rw[e]at h;obtain⟨h1,h2,h3,h4⟩:=sk e;exact#[j,h1,h,h2,h3,h4]
def bD{α:Type}{xs:List α}{j:Nat}{v:α}(h:xs[j]?=be v):atI xs (j:Int)=be v:=by
 have hj:j<xs.length:=(Ia.mp h).1;have e:ixN xs.length (j:Int)=be j:=by
  unfold ixN;rw[if_pos v4,if_pos v4];simp
 unfold atI;rw[e];exact h
def eV(b:U6):Prop:=∀o i,subscripted b false o i=operate [o,i] (Wm o i)
def IxR(X:Cx)(r:R2):Prop:=
 ∀(value slice:U6) (pins:List (Addr×Vn)) (s:P3) (σ:St) (H:Hp) (x y:V) (v u:Os) (Q:VK),Inv X pins σ H s->RelV x v->RelV y u->r x y H Q->
  subscripted slice false v u=operate [v,u] (Wm v u)->U9 (SZ X.prog X.w) X.A (subscriptTail value slice v u) (EP X pins σ Q) X.xe s
def MtR(X:Cx)(id:String)(r:V->List V->Hp->VK->Prop):Prop:=
 ∀(pins:List (Addr×Vn)) (s:P3) (σ:St) (H:Hp) (x:V) (xs:List V) (v:Os) (us:List Os) (Q:VK),Inv X pins σ H s->RelV x v->Vals xs us->r x xs H Q->
  U9 (SZ X.prog X.w) X.A (call (.builtin id) (v::us)) (EP X pins σ Q) X.xe s
section
variable {X:Cx}{a b:U6}{ta tb:TE}{pos:Vf}
def IxR.or{r r':R2}(h:IxR X r)(h':IxR X r'):IxR X (λx y H Q=>r x y H Q\/r' x y H Q):=by
 intro value slice pins s σ H x y v u Q I rx ry q hs;rcases q with q|q
 .exact h value slice pins s σ H x y v u Q I rx ry q hs
 .exact h' value slice pins s σ H x y v u Q I rx ry q hs
def pe_ix{r:R2}(hr:IxR X r)(ha:PE X a ta)(hb:PE X b tb)(hs:eV b):PE X (.Subscript a b pos) (tOp r ta tb):=by
 intro pins s σ H Q I h;exact Subscript_ (binT ha hb I h λv u s2 x y H2 I2 rx ry q=>hr a b pins s2 σ H2 x y v u Q I2 rx ry q (hs _ _))
def rIxL(K:Ex):R2:=λx y H Q=>∃p xs i v,x=.ref p/\y=.int i/\SqL K H p xs/\atI xs i=be v/\Q v H
def rIxT(K:Ex):R2:=λx y H Q=>∃p xs i v,x=.ref p/\y=.int i/\SqT K H p xs/\atI xs i=be v/\Q v H
def rIxS:R2:=λx y H Q=>∃z i c,x=.str z/\y=.int i/\z.length<=sizeLine/\atI z.cps.toList i=be c/\Q (.str #[[c].toArray]) H
def ix_list:IxR X (rIxL X.K):=by
 intro value slice pins s σ H x y v u Q I rx ry h hs;obtain⟨p,xs,i,z,rfl,rfl,hq,he,q⟩:=h;cases rx;obtain⟨t,rfl⟩:=ry;obtain⟨its,r,pl,hz⟩:=I.list hq;obtain⟨j,h1,h2,h3,h4,h5⟩:=atI_get he;obtain⟨w,ew,i6⟩:=r.get h2;have hl:=r.length;have hn:=line63;have d_:EP X pins σ Q w s:=#[z,H,I,i6,q];by_cases h0:0<=i
 .have hj:i.toNat=j:=by
   rw[WL h0 h5]at h1;exact Option.some.inj h1
  exact item_listR pl.isList h0 v4 (by rw[hj];simpa using ew) d_ hs
 .have hj:(i+(its.toArray.size:Int)).toNat=j:=by
   rw[WB v4 h4]at h1;rw[H8,<-hl];exact Option.some.inj h1
  exact Wz (x:=w) pl.isList.typeIs slot_list_getitem.lookup
   (wpAny_getItem_list_neg (Q:=λr s'=>r=w/\EP X pins σ Q r s') pl.isList v4 (by rw[H8]<;>lia) v4 (by rw[hj];simpa using ew) #[rfl,d_]) hs
def ix_tup:IxR X (rIxT X.K):=by
 intro value slice pins s σ H x y v u Q I rx ry h hs;obtain⟨p,xs,i,z,rfl,rfl,hq,he,q⟩:=h;cases rx;obtain⟨t,rfl⟩:=ry;obtain⟨its,r,pl,hz⟩:=I.tuple hq;obtain⟨j,h1,h2,h3,h4,h5⟩:=atI_get he;obtain⟨w,ew,i6⟩:=r.get h2;have hl:=r.length;have hn:=line63;have d_:EP X pins σ Q w s:=#[z,H,I,i6,q];exact Wz (x:=w) pl.typeIs slot_tuple_getitem.lookup
  (getItem_tuple (j:=j) (Q:=λr s'=>r=w/\EP X pins σ Q r s') pl v4 v4 (by rw[H8,<-hl];exact h1) (by simpa using ew) #[rfl,d_]) hs
def yL:IxR X rIxS:=by
 intro value slice pins s σ H x y v u Q I rx ry h hs;obtain⟨z,i,c,rfl,rfl,hz,he,q⟩:=h;obtain⟨t,rfl⟩:=rx;obtain⟨t',rfl⟩:=ry;obtain⟨j,h1,h2,h3,h4,h5⟩:=atI_get he;have hl:z.cps.toList.length=z.length:=by simp[Str.length]
 rw[hl]at h1 h4 h5;have hn:=line63;exact tail_any (WV s z t) slot_str_getitem.lookup (getItem_str (c:=c) (by
  have e1:decide (i< -(2^63:Int))=false:=decide_eq_false v4;have e2:decide (i>=2^63)=false:=decide_eq_false v4;rw[e1,e2,Bool.or_false]) (by rw[h1];simpa using h2) #[.str #[[c].toArray],H,I.tok _,#[_,rfl],q]) hs
def rIx(K:Ex):R2:=λx y H Q=>rIxL K x y H Q\/rIxT K x y H Q\/rIxS x y H Q
def so:IxR X (rIx X.K):=ix_list.or (ix_tup.or yL)
def yM(its:List Os)(n j:Nat)(u:Os):Obj.mapSeq (·.setIfInBounds j u) {cls:=.type "list",data:=.seq its.toArray n}={cls:=.type "list",data:=.seq (its.set j u).toArray n}:=by
 simp[Obj.mapSeq]
def Inv.lst{pins:List (Addr×Vn)}{σ:St}{H:Hp}{s:P3}{p:Addr}{xs:List V}(I:Inv X pins σ H s)(h:H p=be (.lst xs)):
  ∃(its:List Os) (n:Nat),Vals xs its/\s.heap.get? p=be {cls:=.type "list",data:=.seq its.toArray n}/\xs.length<=sizeLine:=by
 obtain⟨z,its,n,r,e⟩:=I.hok p _ h;exact#[its,n,r,e,z]
variable{pins:List (Addr×Vn)}{s:P3}
def Inv.lstUpd{σ:St}{H:Hp}{p:Addr}{xs ys:List V}{its its':List Os}{n n':Nat}{f:Vn->Vn}(I:Inv X pins σ H s)(h:H p=be (.lst xs))
  (ho:s.heap.get? p=be {cls:=.type "list",data:=.seq its.toArray n}) (hf:f {cls:=.type "list",data:=.seq its.toArray n}={cls:=.type "list",data:=.seq its'.toArray n'}) (r:Vals ys its') (hz:ys.length<=sizeLine) (t:Nat):
  Inv X pins σ (upd H p (.lst ys)) {s with heap:=s.heap.update p f,toks:=t}:=by
 have e:(s.heap.update p f).get? p=be {cls:=.type "list",data:=.seq its'.toArray n'}:=by
  rw[Heap.get?_update_self f ho (by rw[hf]<;>rfl),hf]
 refine I.write (x:=p) (e:=p) (by rw[h];trivial) (.inl rfl) (λb u hb q=>(Heap.get?_update_other _ _ (Ne.symm hb)).trans q) #[_,e] ?_;exact#[hz,its',n',r,e]
def yO:V->V->V->Hp->(Hp->Prop)->Prop:=λo i v H Q=>∃p xs k j,o=.ref p/\i=.int k/\H p=be (.lst xs)/\ixN xs.length k=be j/\Q (upd H p (.lst (xs.set j v)))
def sq:PSet X yO:=by
 intro pins s σ H o i v ov iv u Q I ro ri rv h;obtain⟨p,xs,k,j,rfl,rfl,hp,hj,q⟩:=h;cases ro;obtain⟨t,rfl⟩:=ri;obtain⟨its,n,r,ho,hz⟩:=I.lst hp;obtain⟨h1,h2,h3,h4⟩:=sk hj;have hl:=r.length;have hn:=line63;have I':Inv X pins σ (upd H p (.lst (xs.set j v))) {s with heap:=s.heap.update p (Obj.mapSeq (·.setIfInBounds j u))}:=
  I.lstUpd hp ho (yM its n j u) (r.set rv j) (by rw[II];exact hz) s.toks
 by_cases h0:0<=k
 .have hk:k.toNat=j:=by
   rw[WL h0 h4]at h1;exact Option.some.inj h1
  exact ki_setAt ho h0 v4 (by rw[H8,<-hl];exact h4) (by rw[hk];exact#[_,I',q])
 .have hk:(k+(its.toArray.size:Int)).toNat=j:=by
   rw[WB v4 h3]at h1;rw[H8,<-hl];exact Option.some.inj h1
  exact ki_setBack ho v4 (by rw[H8,<-hl];exact h3) v4 (by rw[hk];exact#[_,I',q])
def yQ(lo hi:Option Int)(n:Nat):(VM lo hi LH n).1=((HT.sIx n 0 lo:Nat):Int)/\(VM lo hi LH n).2.1=((HT.sIx n n hi:Nat):Int)/\(VM lo hi LH n).2.2=1:=by
 refine#[?_,?_,rfl]
 .cases lo with
  |none=>simp[VM,HT.sIx]
  |some i=>
   simp only[VM,HT.sIx,KG,show(1:Int)>0 by decide,if_true];by_cases h:i<0
   .simp only[h,if_true]<;>lia
   .simp only[h,if_false]<;>lia
 .cases hi with
  |none=>simp[VM,HT.sIx]
  |some i=>
   simp only[VM,HT.sIx,KG,show(1:Int)>0 by decide,if_true];by_cases h:i<0
   .simp only[h,if_true]<;>lia
   .simp only[h,if_false]<;>lia
def yR(its:List Os)(lo hi:Option Int):slicePick its.toArray lo hi LH=((its.drop (HT.sIx its.length 0 lo)).take (HT.sIx its.length its.length hi-HT.sIx its.length 0 lo)).toArray:=by
 obtain⟨h1,h2,h3⟩:=yQ lo hi its.toArray.size;unfold slicePick;rw[h1,h2,h3];simp only[sliceRange_one,pick_run,H8]<;>rfl
def rSlL(K:Ex):V->Option Int->Option Int->Hp->VK->Prop:=λx lo hi H Q=>∃a xs,x=.ref a/\SqL K H a xs/\∀p,H p=LH->Q (.ref p) (upd H p (.lst (cutV xs lo hi)))
def gS:SlR X (rSlL X.K):=by
 intro pins s σ H x v vl vu lo hi sl Q I rx hs pl pu h;obtain⟨a,xs,rfl,hx,q⟩:=h;cases rx;obtain⟨its,r,ht,hz⟩:=I.list hx;have b8:=r.length;refine#["list",_,slot_list_getitem.lookup,ht.isList.typeIs,?_];refine wpAny_getItem_list_slice ht.isList hs pl pu .none MF ?_ (by rw[H8]<;>lia);rw[yR,<-b8];refine#[.ref s.heap.objs.size,_,I.laid (t':=s.toks) (o:=.lst (cutV xs lo hi)) (λb ob q=>Heap.get?_push_of_some _ q) (HP _) ?_,rfl,q _ (I.hok.fresh (HP _))];exact#[HZ (sf xs lo hi) hz,_,0,(r.drop (HT.sIx xs.length 0 lo)).take (HT.sIx xs.length xs.length hi-HT.sIx xs.length 0 lo),Heap.get?_push_size _ rfl]
def bw:V->Bool
 |.non=>true
 |.bl _=>true
 |.int _=>true
 |.str _=>true
 |_=>false
def eqV:V->V->Bool
 |.non,.non=>true
 |.bl a,.bl b=>a==b
 |.bl a,.int b=>(if a then 1 else 0)==b
 |.int a,.bl b=>a==(if b then 1 else 0)
 |.int a,.int b=>a==b
 |.str a,.str b=>a==b
 |_,_=>false
variable{x:V}
def eqAt_V{A:Va}{y:V}{u v:Os}(ry:RelV y u)(rx:RelV x v)(fy:bw y=true)(fx:bw x=true):SeqAt.EqAt A s u v (eqV y x):=by
 cases y with
 |non=>
  cases ry;cases x with
  |non=>cases rx;exact SeqAt.EqAt.same _
  |bl b=>cases rx;exact SeqAt.EqAt.none_bool b
  |int b=>obtain⟨t,rfl⟩:=rx;exact SeqAt.EqAt.none_int b t
  |str b=>obtain⟨t,rfl⟩:=rx;exact SeqAt.EqAt.none_str b t
  |_=>exact absurd (show false=true from fx) Ib
 |bl a=>
  cases ry;cases x with
  |non=>cases rx;exact SeqAt.EqAt.bool_none a
  |bl b=>cases rx;exact SeqAt.EqAt.bool_bool a b
  |int b=>obtain⟨t,rfl⟩:=rx;exact SeqAt.EqAt.bool_int a b t
  |str b=>obtain⟨t,rfl⟩:=rx;exact SeqAt.EqAt.bool_str a b t
  |_=>exact absurd (show false=true from fx) Ib
 |int a=>
  obtain⟨t',rfl⟩:=ry;cases x with
  |non=>cases rx;exact SeqAt.EqAt.int_none a t'
  |bl b=>cases rx;exact SeqAt.EqAt.int_bool a t' b
  |int b=>obtain⟨t,rfl⟩:=rx;exact SeqAt.EqAt.int_int a t' b t
  |str b=>obtain⟨t,rfl⟩:=rx;exact SeqAt.EqAt.int_str a t' b t
  |_=>exact absurd (show false=true from fx) Ib
 |str a=>
  obtain⟨t',rfl⟩:=ry;cases x with
  |non=>cases rx;exact SeqAt.EqAt.str_none a t'
  |bl b=>cases rx;exact SeqAt.EqAt.str_bool a t' b
  |int b=>obtain⟨t,rfl⟩:=rx;exact SeqAt.EqAt.str_int a t' b t
  |str b=>obtain⟨t,rfl⟩:=rx;exact SeqAt.EqAt.str_str a t' b t
  |_=>exact absurd (show false=true from fx) Ib
 |_=>exact absurd (show false=true from fy) Ib
def eqU(x:V)(u:Os):Bool:=match u with
 |.none=>eqV .non x
 |.bool b=>eqV (.bl b) x
 |.int i _=>eqV (.int i) x
 |.str z _=>eqV (.str z) x
 |_=>false
def gT{y:V}{u:Os}(r:RelV y u)(f:bw y=true):eqU x u=eqV y x:=by
 cases y with
 |non=>cases r;rfl
 |bl b=>cases r;rfl
 |int i=>obtain⟨t,rfl⟩:=r;rfl
 |str z=>obtain⟨t,rfl⟩:=r;rfl
 |_=>exact absurd (show false=true from f) Ib
def kz{x:V}:∀{xs:List V} {us:List Os},Vals xs us->xs.all bw=true->us.any (eqU x)=xs.any λy=>eqV y x
 |_,_,.nil,_=>rfl
 |y::xs,u::us,.cons r t,f=>by
  rw[IJ,Io]at f;rw[JR,JR,gT r f.1,kz t f.2]
def mem_eqAt{A:Va}{s:P3}{x:V}{v:Os}(rx:RelV x v)(fx:bw x=true):∀{xs:List V} {us:List Os},Vals xs us->xs.all bw=true->∀u∈us,SeqAt.EqAt A s u v (eqU x u)
 |_,_,.nil,_=>λu hu=>by cases hu
 |y::xs,u::us,.cons r t,f=>λu' hu=>by
  rw[IJ,Io]at f;rcases HQ.mp hu with rfl|hu
  .rw[gT r f.1];exact eqAt_V r rx f.1 fx
  .exact mem_eqAt rx fx t f.2 u' hu
def inV(x:V)(xs:List V):Bool:=xs.any λy=>eqV y x
def rIn(K:Ex)(neg:Bool):R2:=λx y H Q=>∃p xs,y=.ref p/\(SqL K H p xs\/SqT K H p xs)/\bw x=true/\xs.all bw=true/\Q (.bl (if neg then !inV x xs else inV x xs)) H
def yT:OpR X (Vm .NotIn) (rIn X.K true):=by
 intro pins s σ H x y v u Q I rx ry h;obtain⟨p,xs,rfl,hq,fx,fs,q⟩:=h;cases ry;rcases hq with hq|hq
 .obtain⟨its,r,pl,hz⟩:=I.list hq;refine SeqAt.notIn_listAt (eqU x) pl.isList (λw hw=>mem_eqAt rx fx r fs w (by simpa using hw)) #[.bl _,H,I,rfl,?_];rw[show its.toArray.any (eqU x)=its.any (eqU x)by simp,kz r fs];exact q
 .obtain⟨its,r,pl,hz⟩:=I.tuple hq;refine SeqAt.notIn_tupleAt (eqU x) pl (λw hw=>mem_eqAt rx fx r fs w (by simpa using hw)) #[.bl _,H,I,rfl,?_];rw[show its.toArray.any (eqU x)=its.any (eqU x)by simp,kz r fs];exact q
def yU:OpR X (Vm .NotIn) (λx y H Q=>∃i j,x=.str i/\y=.str j/\Q (.bl (!(!(Builtin.Str.occurrences j i 0 j.length 1).isEmpty))) H):=by
 intro pins s σ H x y v u Q I rx ry h;obtain⟨i,j,rfl,rfl,q⟩:=h;obtain⟨t,rfl⟩:=rx;obtain⟨t',rfl⟩:=ry;exact notIn_str #[.bl _,H,I,rfl,q]
def sr:bH X (.type "list") (λxs H Q=>∃p ys,xs=[.ref p]/\(SqL X.K H p ys\/SqT X.K H p ys)/\∀l,H l=LH->Q (.ref l) (upd H l (.lst ys))):=by
 intro pins s σ H xs us Q I r h;obtain⟨p,ys,rfl,hq,q⟩:=h;obtain⟨u,rfl,rx⟩:=ce r;cases rx;have d_:∀(its:List Os),Vals ys its->ys.length<=sizeLine->∀(h':Heap) (c':Nat),(∀b o',s.heap.get? b=be o'->h'.get? b=be o')->
   h'.get? s.heap.objs.size=be {cls:=.type "list",dict:=LH,data:=.seq its.toArray c',slots:=[].toArray}->EP X pins σ Q (.ref s.heap.objs.size) {s with heap:=h'}:=λits r' hz h' c' kp e=>
  #[.ref s.heap.objs.size,_,I.laid (t':=s.toks) kp (HP _) (show ObjOk X.prog X.w _ h' _ (.lst ys)from#[hz,its,c',r',e]),rfl,q _ (I.hok.fresh (HP _))]
 rcases hq with hq|hq
 .obtain⟨its,r',pl,hz⟩:=I.list hq;have b8:=r'.length;obtain⟨o,ho,hc,n,hd⟩:=pl.isList;exact call_list_seq p (.inl rfl) ho hc hd (λh' c' kp e=>d_ its r' hz h' c' kp e) (by simp only[H8]<;>lia)
 .obtain⟨its,r',pl,hz⟩:=I.tuple hq;have b8:=r'.length;obtain⟨o,ho,hc,n,hd⟩:=pl;exact call_list_seq p (.inr rfl) ho hc hd (λh' c' kp e=>d_ its r' hz h' c' kp e) (by simp only[H8]<;>lia)
def tyV(K:Ex)(T:String)(x:V)(H:Hp):Prop:=match x with
 |.str _=>T="str"
 |.int _=>T="int"
 | .ref p=>(T="list"/\∃xs,SqL K H p xs)\/(T="tuple"/\∃o,K.lookup p=be o/\o.cls=.type "tuple"/\o.dict=LH)\/
   (T="dict"/\((∃a9,H p=be (.dK a9))\/∃a9,H p=be (.dT a9)))\/(T="set"/\∃S n,H p=be (.set S n))
 |_=>False
def yV{σ:St}{H:Hp}{T:String}{v:Os}(I:Inv X pins σ H s)(r:RelV x v)(ty:tyV X.K T x H):
  s.TypeIs v T/\∀a,v=.ref a->∃ob,s.heap.get? a=be ob/\ob.dict=none:=by
 cases x with
 |str z=>
  obtain⟨t,rfl⟩:=r;cases(show T="str" from ty);exact#[WV s z t,λ_ e=>nomatch e]
 |int i=>
  obtain⟨t,rfl⟩:=r;cases(show T="int" from ty);exact#[typeIs_int s i t,λ_ e=>nomatch e]
 |ref p=>
  cases r;rcases ty with⟨rfl,xs,hq⟩|⟨rfl,o,hk,hc,hd⟩|⟨rfl,hk⟩|⟨rfl,S,n,hk⟩
  .obtain⟨its,_,pl,_⟩:=I.list hq;refine#[pl.isList.typeIs,λa e=>?_];cases e;obtain⟨o,n,e,c,hd,_⟩:=pl;exact#[o,e,hd]
  .refine#[#[o,I.kIn p o hk,hc],λa e=>?_];cases e;exact#[o,I.kIn _ o hk,hd]
  .have z:∃o,s.heap.get? p=be o/\o.ExactDict:=by
    rcases hk with⟨a9,hk⟩|⟨a9,hk⟩
    .obtain⟨_,_,_,_,o,_,_,e,ex,_⟩:=I.hok p _ hk;exact#[o,e,ex]
    .obtain⟨_,_,_,_,o,_,_,e,ex,_⟩:=I.hok p _ hk;exact#[o,e,ex]
   obtain⟨o,e,ex⟩:=z;refine#[#[o,e,ex.1],λa e2=>?_];cases e2;exact#[o,e,ex.2.1]
  .obtain⟨o,_,_,_,e,ex,_⟩:=I.hok p _ hk;refine#[#[o,e,ex.1],λa e2=>?_];cases e2;exact#[o,e,ex.2.1]
 |_=>exact False.elim ty
def tBM(K:Ex)(T:String)(r:V->List V->Hp->VK->Prop)(to:TE)(t:TA):TE:=λσ H Q=>to σ H λx H1=>tyV K T x H1/\t σ H1 λxs H2=>r x xs H2 Q
variable {o e:U6}{es:List U6}{to:TE}{t:TA}{name:Ms}{apos cpos:Vf}{T id:String}{r:V->List V->Hp->VK->Prop}
def df(pa:PlainAttrs T)(slot:Slot T name id)(Pj:typeOf (.builtin id)=pure (.type "method_descriptor"))(hm:MtR X id r)(ho:PE X o to)(ha:PA X (e::es) t)
  (b7:autoParam (Vc o name X.env (Vd o X.env)=Vd o X.env) zA0)
  (d6:((Vz cpos (U' (e::es) X.env)).all (λx=>!x.1)&&(V1 cpos (VG [] X.env)).all (λx=>x.1.isSome)
   && decide ((e::es).length+([]:List Wa).length+(if([]:List Wa).isEmpty then 0 else 1)<30))=true:=by rfl)
  (b_:autoParam ((apos.endLine==cpos.line)=true) zA0) (hs:autoParam (zSE X e es) zA0) (o7:autoParam (zPL X cpos es) zA0):
  PE X (.Call (.Attribute o name apos) (e::es) [] cpos) (tBM X.K T r to t):=by
 intro pins s σ H Q I h;refine wpAny_Call_method_late b7 d6 b_ rfl (thn (ho pins s σ H _ I h) λv s1 b9=>?_);obtain⟨x,H1,I1,r1,ty,q1⟩:=b9;obtain⟨h1,h2⟩:=yV I1 r1 ty;refine#[T,id,pa,slot,Pj,h1,h2,?_];have hA:=ha cpos pins s1 σ H1 _ I1 q1;rw[hs]at hA ⊢;refine Calls.callWith_builtin (by show(false||(Vz cpos (U' es X.env)).any (·.1))=false;rw[o7]<;>rfl) (Calls.evalArgs_plain ?_);exact thn hA λus s2 ⟨vs,H2,I2,r2,q2⟩=>hm pins s2 σ H2 x vs v us Q I2 r1 r2 q2
end
def MtM(X:Cx)(id:String)(r:V->List V->Hp->VK->Prop):Prop:=
 ∀(pins:List (Addr×Vn)) (s:P3) (σ:St) (H:Hp) (x:V) (xs:List V) (v:Os) (us:List Os) (Q:VK),Inv X pins σ H s->RelV x v->Vals xs us->r x xs H Q->
  U9 (SZ X.prog X.w) X.A (call (.builtin id) (v::us)) (EP X pins σ Q) X.xe s
def Vals.one:∀{x:V} {us:List Os},Vals [x] us->∃u,us=[u]/\RelV x u:=by
 intro x us h;cases h with
 |cons r h=>cases h;exact#[_,rfl,r]
def Vals.zero:∀{us:List Os},Vals [] us->us=[]
 |_,.nil=>rfl
def Vals.dropLast{xs:List V}{us:List Os}(h:Vals xs us):Vals xs.dropLast us.dropLast:=by
 induction h with
 |nil=>exact .nil
 |cons r t ih=>
  cases t with
  |nil=>exact .nil
  |cons q t'=>exact .cons r ih
section
variable {X:Cx}{pins:List (Addr×Vn)}{σ:St}{H:Hp}{s:P3}{l b:Addr}{xs ys zs:List V}
variable{its:List Os}
def Inv.lset{its':List Os}{n:Nat}{f:Array Os->Array Os}{t':Nat}(I:Inv X pins σ H s)(hH:H l=be (.lst xs))
  (e:s.heap.get? l=be {cls:=.type "list",data:=.seq its.toArray n}) (hf:f its.toArray=its'.toArray) (hv:Vals ys its') (hz:ys.length<=sizeLine):
  Inv X pins σ (upd H l (.lst ys)) {s with heap:=s.heap.update l (Obj.mapSeq f),toks:=t'}:=by
 have q:=PySem.IsL.update e f;rw[hf]at q;refine I.write (x:=l) (e:=l) (by rw[hH];exact trivial) (.inl rfl) (λb' u hb hu=>(Heap.get?_update_other s.heap (Obj.mapSeq f) (Ne.symm hb)).trans hu) #[_,q] ?_;exact#[hz,its',_,hv,q]
def Inv.lnew{t':Nat}(I:Inv X pins σ H s)(hv:Vals ys its)(hz:ys.length<=sizeLine):
  Inv X pins σ (upd H s.heap.objs.size (.lst ys)) {s with heap:=s.heap.push {cls:=.type "list",data:=.seq its.toArray},toks:=t'}:=
 I.laid (λ_ _ q=>Heap.get?_push_of_some _ q) (HP _) #[hz,its,0,hv,Heap.get?_push_size _ rfl]
def Inv.fresh(I:Inv X pins σ H s):H s.heap.objs.size=none:=I.hok.fresh (HP _)
def Inv.lstM(I:Inv X pins σ H s)(hH:H l=be (.lst xs)):xs.length<=sizeLine/\∃(its:List Os) (n:Nat),Vals xs its/\xs.length=its.length/\s.heap.get? l=be {cls:=.type "list",data:=.seq its.toArray n}:=by
 obtain⟨z,its,n,r,e⟩:=I.hok l _ hH;exact#[z,its,n,r,r.length,e]
def yY{n:Nat}(h:n<=sizeLine):Builtin.List.listTooLong n=false:=by
 unfold Builtin.List.listTooLong;exact decide_eq_false v4
end
section
variable {X:Cx}
def yZ:V->List V->Hp->VK->Prop:=λx vs H Q=>∃l xs y,x=.ref l/\vs=[y]/\H l=be (.lst xs)/\xs.length<sizeLine/\Q .non (upd H l (.lst (xs++[y])))
def kA:MtM X "list.append" yZ:=by
 intro pins s σ H x vs v us Q I rx rv h;obtain⟨l,xs,y,rfl,rfl,hH,hz,q⟩:=h;cases rx;obtain⟨u,rfl,ru⟩:=rv.one;obtain⟨z,its,n,r,hl,e⟩:=I.lstM hH;refine Wq F.slot_list_append #[_,e,rfl] F.entry_list_append (F.args_list_append_2 _ _) (PySem.list_append l its.toArray n u (by rw[H8];lia)) #[e,?_];refine#[.non,_,I.lset (its':=its++[u]) hH e MF (r.append (.cons ru .nil)) ?_,rfl,q];rw[Ic,JS];lia
def za:V->List V->Hp->VK->Prop:=λx vs H Q=>∃l b xs zs,x=.ref l/\vs=[.ref b]/\H l=be (.lst xs)/\H b=be (.lst zs)/\xs.length+zs.length<=sizeLine/\Q .non (upd H l (.lst (xs++zs)))
def HH:MtM X "list.extend" za:=by
 intro pins s σ H x vs v us Q I rx rv h;obtain⟨l,b,xs,zs,rfl,rfl,hH,hB,hz,q⟩:=h;cases rx;obtain⟨u,rfl,ru⟩:=rv.one;cases ru;obtain⟨z,its,n,r,hl,e⟩:=I.lstM hH;obtain⟨z2,j6,n2,r2,OK,e2⟩:=I.lstM hB;have j9:its.toArray.size+j6.toArray.size<=sizeLine:=by rw[H8,H8];lia
 have NL:¬(!its.toArray.isEmpty&&Builtin.List.listTooLong (its.toArray.size+j6.toArray.size))=true:=by
  rw[yY j9,Bool.and_false];exact Ib
 refine Wq F.slot_list_extend #[_,e,rfl] F.entry_list_extend (F.args_list_extend_2 _ _)
  (AutoSeq1.list_extend_list_list_0 l its.toArray n b j6.toArray n2 NL (by rw[H8];lia) v4) #[e,e2,?_]
 refine#[.non,_,I.lset (its':=its++j6) hH e MF (r.append r2) ?_,rfl,q];rw[Ic];lia
def rCat:R2:=λx y H Q=>∃l b xs zs,x=.ref l/\y=.ref b/\H l=be (.lst xs)/\H b=be (.lst zs)/\xs.length+zs.length<=sizeLine/\∀p,H p=LH->Q (.ref p) (upd H p (.lst (xs++zs)))
def ss:OpR X (Vr .Add) rCat:=by
 intro pins s σ H x y v u Q I rx ry h;obtain⟨l,b,xs,zs,rfl,rfl,hH,hB,hz,q⟩:=h;cases rx;cases ry;obtain⟨z,its,n,r,hl,e⟩:=I.lstM hH;obtain⟨z2,j6,n2,r2,OK,e2⟩:=I.lstM hB;refine PySem.P.add_list e e2 ?_ (by rw[H8,H8];lia);have ea:its.toArray++j6.toArray=(its++j6).toArray:=MF
 rw[ea];exact#[.ref _,_,I.lnew (t':=s.toks) (r.append r2) (by rw[Ic];lia),rfl,q _ I.fresh]
end
end L2
namespace RR
open PySem PySem.W PySem.Calls PyProof.Rows
variable{P:Params}
def zb{h:Heap}:∀(ns:List Int) (vs:List Os),WellAll P h vs (ns.map WData.int)->WI vs ns:=by
 intro ns;induction ns with
 |nil=>
  intro vs w;rw[Jo]at w;cases w;exact .nil
 |cons n ns ih=>
  intro vs w;rw[Ik]at w;cases w with
  |cons a b=>
   cases a;exact .cons _ _ (ih _ b)
variable{l:OpenLaw}
def zc{n:Nat}(hn:l.most=be n){h:Heap}{args:List WData}{Mu:List Os}
  (LK:l.row.toRowW.claim.pre args=true) (Pk:WellAll P h Mu args):
  ∃a vs ns,Mu=[Value.ref a]/\args=[WData.list (ns.map WData.int)]/\h.get? a=be {cls:=.type "list",data:=.seq vs.toArray}/\WI vs ns/\ns.length<=n:=by
 have SR:WShape.hasAll [] args [.list .int]=true:=(pre_splitW LK).1;have hc:l.pre.holds [] {args:=args}=true:=(pre_splitW LK).2;obtain⟨d,r,rfl,h1,h2⟩:=hasAllW_cons SR;obtain rfl:=hasAllW_nil h2;obtain⟨xs,rfl,h3⟩:=hasW_list h1;obtain⟨ns,rfl⟩:=items_int h3;have b8:ns.length<=n:=by
  unfold OpenLaw.pre at hc;have h4:(WTm.not (.lt (.lit (.int (n:Int))) (.len (.arg 0)))).holds [] {args:=[.list (ns.map .int)]}=true:=by
   have h4:=(holds_andW hc).1;rw[hn]at h4;exact h4
  have h5:=condW_of h4 (w_not (w_lt w_lit (w_len_list (w_arg rfl))));rw[HV]at h5;refine JT λq=>?_;have q':(n:Int)<((ns.length:Nat):Int):=v4
  first
   |(rw[decide_eq_true q']at h5;exact absurd h5 Mx)
   |(simp at h5;lia)
 cases Pk with
 |cons w1 w2=>
  cases w2;cases w1 with
  |list ho LL=>exact#[_,_,ns,rfl,rfl,ho,zb ns _ LL,b8]
def zd(l:OpenLaw)(args:List WData):l.row.toRowW.claim.post args (.bool true) args=true:=
 postW_of (r:=l.row.toRowW) (X:=(true==true))
  (show WShape.has [] (.bool true) .bool=true by first|rfl|decide|simp[WShape.has,WShape.arms,WShape.armsAll])
  (show(WTm.eq .res (.lit (.bool true))).value [] {args:=args,res:=be (.bool true),after:=args}=be (.bool (true==true))from w_eq_bool (w_res rfl) w_lit) rfl
def attach_call{n:Nat}{q:U8}{k_:List Ms}{XP:(Ms->Option Os)->Heap->Prop}{YP:U_->Heap->Prop}{d:DefRec}
  (hn:l.most=be n) (NM:d.params.defaults=[])
  (call:∀(w:U_) (s₀ s₁:P3) (mg mb:Ms->Option Os) (fa:Addr) (o:Vn) (pm cd doc:Os) (a:Addr) (vs:List Os) (ns:List Int),
   Ground q k_ [] XP w s₀ mg mb s₁.heap->YP w s₁.heap->
   s₁.heap.get? fa=be o->o.data=.func (docDef d.name d.params d.body d.scope pm cd doc)->s₁.heap.CodeRec cd d.name->mg d.name=be (.ref fa)->
   s₁.heap.get? a=be {cls:=.type "list",data:=.seq vs.toArray}->WI vs ns->ns.length<=n->s₁.gens=[].toArray->
   V_ (SZ l.prog w) We (.call (.ref fa) #[[.ref a],[]]) (λr s'=>r=.ok (.ret (.bool true))/\OldK s₁.heap s'.heap/\s'.os=s₁.os/\VY s'.gens) s₁):
  WalkO q k_ XP YP l.row.toRowW d [] (λf vs=>PySem.call f vs):=by
 intro w s₀ s₁ mg mb G Y fa o pm cd doc dV kV ho hd g5 hD k8 hg args Mu as LK SS UA Pk UB;obtain rfl:dV=.none:=Dflts.none hD NM;obtain rfl:kV=.none:=Dflts.noKw hD;obtain⟨a,vs,ns,rfl,rfl,Mw,y8,b8⟩:=zc hn LK Pk;refine enter_call (VH (call w s₀ s₁ mg mb fa o pm cd doc a vs ns G Y ho (fd_plain hd) g5 k8 Mw y8 b8 hg) λr s' hq=>?_);obtain⟨rfl,h2,h3,h4⟩:=hq;exact#[.inl #[.bool true,.bool true,[],rfl,λ_=>rfl,.bool true,zd l _,λ_=>#[List.Pairwise.nil,λ_ hm=>(nomatch hm)]],h2,h3,h4]
end RR
namespace L2
open PySem PySem.Spec PyProof.Rows
def su:∀{vs:List Os} {ns:List Int},WI vs ns->Vals (ns.map V.int) vs
 |_,_,.nil=>.nil
 |_,_,.cons n t h=>.cons #[t,rfl] (su h)
def Only(H:Hp):Prop:=∀b,H b=LH\/∃o xs,H b=be (.frz o (.lst xs))
variable{P:U8}{w:U_}{k:Nat}{a:Addr}
def ze{K:Ex}{mg mb:Ms->Option Os}{CX:CXT}{fa:Addr}{fd:Ve}{x:Ms}{sp:Sp}{s₁:P3}{vs:List Os}{ns:List Int}
  (KX:K.In s₁.heap) (hns:s₁.heap.Ns SB mg) (hb:s₁.heap.Ns WX mb) (SU:∀x:Ms,x≠"__name__"->mb x=Vo x) (Pl:s₁.heap.NoLimit) (hg:s₁.gens=[].toArray)
  (ha:s₁.heap.get? a=be {cls:=.type "list",data:=.seq vs.toArray}) (hi:WI vs ns) (hl:ns.length<=sizeLine) (hr:Room k We)
  (F:∀base:Heap,K.In base->base.Ns SB mg->FnOk P w K mg base CX k fa fd [x] sp) (NN:∀(s:P3) (u:Os),V4 s fd #[[u],[]] [(x,u)])
  (y7:∀H:Hp,Only H->SqL K H a (ns.map V.int)->sp [.ref a] H (λv _=>v=.bl true) λ_ _ _=>False)
  (Pm:∀H e s',CX [] H s₁ (λ_ _ _=>False) e s'->False):
  V_ (SZ P w) We (.call (.ref fa) #[[.ref a],[]]) (λr s'=>r=.ok (.ret (.bool true))/\OldK s₁.heap s'.heap/\s'.os=s₁.os/\VY s'.gens) s₁:=by
 have rv:=su hi;have Pn:=hi.length;have NP:∀H:Hp,Only H->SqL K H a (ns.map V.int)->HOk P w H s₁.heap->(∀b,H b≠LH->b=a)->(H a≠LH->K.lookup a=LH)->
   V_ (SZ P w) We (.call (.ref fa) #[[.ref a],[]]) (λr s'=>r=.ok (.ret (.bool true))/\OldK s₁.heap s'.heap/\s'.os=s₁.os/\VY s'.gens) s₁:=by
  intro H hO hS hok hA hK;have q8:∀{b:Addr} {o:Vn},s₁.heap.get? b=be o->H b=LH->(hidT s₁.heap H).get? b=be o:=λe n=>xj e n;have NJ:∀{b:Addr} {o:Vn} {es:Array DictEntry} {ep:Nat},s₁.heap.get? b=be o->o.data=.dict es ep->H b=none:=λ{b o es ep} e d=>by
   cases q:H b with
   |none=>rfl
   |some u=>
    have e':b=a:=hA b (by rw[q];simp);subst e';rw[ha]at e;cases e;have d':Data.seq vs.toArray _=Data.dict es ep:=d;cases d'
  have OM:∀{b:Addr} {m:Ms->Option Os},s₁.heap.Ns b m->(hidT s₁.heap H).Ns b m:=λ{b m} ⟨o,es,ep,e,d,r⟩=>#[o,es,ep,q8 e (NJ e d),d,r];have RT:K.In (hidT s₁.heap H):=λb o e=>q8 (KX b o e) (by
   cases q:H b with
   |none=>rfl
   |some u=>
    have e':b=a:=hA b (by rw[q];simp);subst e';rw[hK (by rw[q];simp)]at e;cases e)
  have hM:Mod K mg (hidT s₁.heap H):=#[RT,OM hns,#[mb,OM hb,SU],let ⟨mc,h1,h2⟩:=Pl;#[mc,OM h1,h2]];have e0:Env0 P w K mg (hidT s₁.heap H) We [] s₁ H:=#[rfl,hM,λb o e=>xk e,JQ (xi _ _),trivial,λb hb=>absurd (show b∈([]:List Addr)from hb) MF,hok,.of_eq hg];refine VH ((F _ RT (OM hns)).run We [] s₁ H #[[.ref a],[]] [.ref a] [.ref a] _ _ hr e0 (NN s₁ (.ref a)) (.cons rfl .nil) (y7 H hO hS)) λr s' h=>?_;cases r with
  |error e=>exact(Pm H e s' h).elim
  |ok fl=>
   cases fl with
   |next=>exact False.elim h
   |brk=>exact False.elim h
   |cont=>exact False.elim h
   |ret u=>
    obtain⟨v,H',os,bare,un,Po,r',q⟩:=h;have q':v=.bl true:=q;subst q';obtain rfl:u=Value.bool true:=r';refine#[rfl,OldK.of_keep λb o e=>?_,os,bare];cases q:H b with
    |none=>exact un.keep b o e q (by intro z;exact absurd (show b∈([]:List Addr)from z) MF) MF
    |some u=>
     rcases hO b with z|⟨ob,xs,z⟩
     .rw[q]at z;cases z
     .have z2:=un.frzs b ob _ z;obtain⟨e1,_⟩:=hok b _ z;obtain⟨e2,_⟩:=Po b _ z2;rw[e]at e1;cases e1;exact e2
 cases hk:K.lookup a with
 |some o=>
  have e:=KX a o hk;rw[ha]at e;cases e;refine NP (λ_=>LH) (λ_=>.inl rfl) (.inr #[_,vs.toArray,_,hk,rfl,rfl,rfl,by rw[H8,Pn];exact hl,by simpa using rv]) (λb u z=>by have z':(LH:Option HO)=be u:=z;cases z') (λb z=>absurd rfl z) λz=>absurd rfl z
 |none=>
  refine NP (λb=>if b=a then be (.frz {cls:=.type "list",data:=.seq vs.toArray} (.lst (ns.map V.int)))else LH) (λb=>?_) (.inl (.inr #[{cls:=.type "list",data:=.seq vs.toArray},if_pos rfl])) (λb u z=>?_) (λb z=>?_) λ_=>hk
  .by_cases hb:b=a
   .exact .inr #[_,_,if_pos hb]
   .exact .inl (if_neg hb)
  .by_cases hb:b=a
   .have z':=(if_pos hb).symm.trans z;cases z';subst hb;exact#[ha,by rw[HV];exact hl,vs,_,rv,ha]
   .have z':=(if_neg hb).symm.trans z;cases z'
  .by_cases hb:b=a
   .exact hb
   .exact absurd (if_neg hb) z
def walk_of{l:Kc}{n:Nat}{q:U8}{k_:List Ms}{XP:(Ms->Option Os)->Heap->Prop}{YP:U_->Heap->Prop}{d:DefRec}{K:Params->Ex}{CX:U_->CXT}{sp:U_->Sp}{x:Ms}
  (hn:l.most=be n) (Mt:n<=sizeLine) (NM:d.params.defaults=[]) (hr:Room k We)
  (hY:∀(w:U_) (h:Heap),YP w h->(K w.params).In h)
  (F:∀(w:U_) (mg:Ms->Option Os) (fa:Addr) (h:Heap),(K w.params).In h->h.Ns SB mg->mg d.name=be (.ref fa)->
   ∃fd:Ve,(∀(s:P3) (u:Os),V4 s fd #[[u],[]] [(x,u)])/\
    ∀base:Heap,(K w.params).In base->base.Ns SB mg->FnOk l.prog w (K w.params) mg base (CX w) k fa fd [x] (sp w))
  (y7:∀(w:U_) (H:Hp) (a:Addr) (ns:List Int),ns.length<=n->Only H->SqL (K w.params) H a (ns.map V.int)->sp w [.ref a] H (λv _=>v=.bl true) λ_ _ _=>False)
  (Pm:∀(w:U_) (H:Hp) (s:P3) (e:Os) (s':P3),CX w [] H s (λ_ _ _=>False) e s'->False):
  KH q k_ XP YP l.row.toRowW d [] (λf vs=>PySem.call f vs):=by
 refine RR.attach_call hn NM λw s₀ s₁ mg mb fa o pm cd doc a vs ns G Y ho hd g5 k8 Mw y8 b8 hg=>?_;have KX:=hY w _ Y;obtain⟨fd,hb,hF⟩:=F w mg fa _ KX G.T.g k8;exact ze KX G.T.g G.T.b G.T.builtins G.T.nolimit hg Mw y8 (HZ b8 Mt) hr hF hb (λH hO hS=>y7 w H a ns b8 hO hS) λH e s'=>Pm w H s₁ e s'
def aR(s:U7)(j:Nat):U7:=match s with
 |.ClassDef _ _ _ body _ _ _ _ _ _ _=>body.getD j (.Pass #[0,0,0,0])
 |_=>.Pass #[0,0,0,0]
def bA(s:U7):Arguments:=match s with
 |.FunctionDef _ a _ _ _ _ _ _ _ _=>a
 |_=>{posonlyargs:=[],args:=[],vararg:=LH,kwonlyargs:=[],kw_defaults:=[],kwarg:=LH,defaults:=[]}
def aK(s:U7):List U7:=match s with
 |.FunctionDef _ _ b _ _ _ _ _ _ _=>b
 |_=>[]
def ah(s:U7):VA:=match s with
 |.FunctionDef _ _ _ _ _ _ sc _ _ _=>sc
 |_=>{kind:=.function,names:=[],isGenerator:=false,isCoroutine:=false}
abbrev E0:XK:=λ_ _ _=>False
structure FunG(K:Ex)(dV:Os)(x qual:Str)(st:U7)(f:Addr)(fd:Ve):Prop where
 ex:∃(oc:Os) (od:Option Addr) (kV doc pm:Os) (an:Option Addr) (cdv ct:Os) (osl:Array (Option Os)),
  fd=fnOf x qual (bA st) (aK st) (ah st) dV kV doc pm an cdv ct/\K.lookup f=be #[oc,od,.func fd,osl]/\codeIn K cdv qual=true
 kp:keepIn K (.ref f)=true
abbrev Fun(K:Ex):Ms->Ms->U7->Addr->Ve->Prop:=FunG K .none
section
variable {P:U8}{w:U_}{K:Ex}{mg:Ms->Option Os}{base:Heap}
def Fun.binds{x qual:Ms}{st:U7}{f:Addr}{fd:Ve}{ps:List Ms}(F:Fun K x qual st f fd)
  (h:∀(kV doc pm:Os) (an:Option Addr) (cdv ct:Os) (us:List Os),us.length=ps.length->VN (fnOf x qual (bA st) (aK st) (ah st) .none kV doc pm an cdv ct) #[us,[]]=pure (ps.zip us)):Binds K fd ps []:=by
 obtain⟨oc,od,kV,doc,pm,an,cdv,ct,osl,rfl,lk,g5⟩:=F.ex;exact .all (h kV doc pm an cdv ct)
def gU{x qual:Ms}{st:U7}{f:Addr}{oc:Os}{od an:Option Addr}{osl:Array (Option Os)}{kV doc pm cdv ct:Os}(l:K.lookup f=be #[oc,od,.func (fnOf x qual (bA st) (aK st) (ah st) .none kV doc pm an cdv ct),osl])
  (c:codeIn K cdv qual=true) (k:keepIn K (.ref f)=true):Fun K x qual st f (fnOf x qual (bA st) (aK st) (ah st) .none kV doc pm an cdv ct):=#[#[oc,od,kV,doc,pm,an,cdv,ct,osl,rfl,l,c],k]
end
def gW{A:Va}(hr:Room k A):A.units+1<Wb:=KI (Nat.add_le_add_left (Mx:1<=64) _) hr.units
def zf{n:Nat}(h:n<=1000):n<sizeLine:=KI h Mx
def ite2{c A B:Prop}[Decidable c](h1:c->A)(h2:¬c->B):if c then A else B:=by
 by_cases h:c
 .rw[if_pos h];exact h1 h
 .rw[if_neg h];exact h2 h
def Same(H H':Hp):Prop:=∀b o,H b=be o->H' b=be o
def Same.refl(H:Hp):Same H H:=λ_ _ h=>h
variable{H:Hp}
def Same.trans{H1 H2:Hp}(a:Same H H1)(b:Same H1 H2):Same H H2:=λc o h=>b c o (a c o h)
variable{H':Hp}
def Same.free(e:Same H H'){l:Addr}(h:H' l=Option.none):H l=Option.none:=by
 cases q:H l with
 |none=>rfl
 |some o=>
  rw[e l o q]at h;cases h
def Same.seq{K:Ex}{xs:List V}(e:Same H H')(h:SqL K H a xs):SqL K H' a xs:=by
 rcases h with(h|⟨o,h⟩)|h
 .exact .inl (.inl (e _ _ h))
 .exact .inl (.inr #[o,e _ _ h])
 .exact .inr h
section
variable {κ:Type}[DecidableEq κ]
def valV(a9:List (κ×V))(k:κ):Option V:=(a9.find? λkv=>decide (kv.1=k)).map (·.2)
def kB{p:κ×V}{r:List (κ×V)}{k:κ}(e:p.1=k):valV (p::r) k=be p.2:=by simp[valV,Jp,e]
def kC{p:κ×V}{r:List (κ×V)}{k:κ}(e:¬p.1=k):valV (p::r) k=valV r k:=by simp[valV,Jp,e]
def RelO.getD{o:Option V}{u:Option Os}{d:V}{d':Os}(r:RelO o u)(rd:RelV d d'):RelV (o.getD d) (u.getD d'):=by
 cases o with
 |none=>cases u with
  |none=>exact rd
  |some _=>exact(show False from r).elim
 |some _=>cases u with
  |none=>exact(show False from r).elim
  |some _=>exact r
def KV.val{a9:List (κ×V)}{vs:List (κ×Os)}(r:KV a9 vs)(k:κ):RelO (valV a9 k) (Wl vs k):=by
 unfold KV at r;induction r with
 |nil=>exact True.intro
 |@cons p q ps qs h t ih=>
  obtain⟨h1,h2⟩:=h;by_cases e:p.1=k
  .have e':q.1=k:=h1.symm.trans e;have b:Wl (q::qs) k=be q.2:=by simp[Wl,Jp,e']
   rw[kB e,b];exact h2
  .have e':¬q.1=k:=λz=>e (h1.trans z);have b:Wl (q::qs) k=Wl qs k:=by simp[Wl,Jp,e']
   rw[kC e,b];exact ih
end
def sy{k:Key}{u:Os}(r:RelV (kV k) u):(bN P w).is k u=true:=by
 cases k with
 |inl i=>obtain⟨t,e⟩:=(show ∃t,u=Value.int i t from r);subst e;exact mixKind_int P w i t
 |inr x=>obtain⟨t,e⟩:=(show ∃t,u=Value.str x t from r);subst e;exact xg P w x t
def sA{P:U8}{w:U_}:∀{ks:List Key} {us:List Os},Vals (ks.map kV) us->ItemsAre (bN P w) ks us
 |[],_,r=>by rw[Jo]at r;cases r;exact .nil
 |k::ks,_,r=>by
  rw[Ik]at r;cases r with
  |cons h t=>exact .cons (sy h) (sA t)
abbrev KT(H:Hp):List (List Key×V)->List (List Key×Addr×Os)->Prop:=Paired λp q=>p.1=q.1/\H q.2.1=be (.tup (p.1.map kV))/\RelV p.2 q.2.2
variable{xs:List (List Key×Addr×Os)}{a9:List (List Key×V)}
def KT.val(r:KT H a9 xs)(k:List Key):RelO (valV a9 k) ((Wk xs k).map (·.2)):=by
 induction r with
 |nil=>exact True.intro
 |@cons p q ps qs h t ih=>
  obtain⟨h1,_,h2⟩:=h;by_cases e:p.1=k
  .have e':q.1=k:=h1.symm.trans e;have b:Wk (q::qs) k=be q.2:=by simp[Wk,Jp,e']
   rw[kB e,b];exact h2
  .have e':¬q.1=k:=λz=>e (h1.trans z);have b:Wk (q::qs) k=Wk qs k:=by simp[Wk,Jp,e']
   rw[kC e,b];exact ih
def KT.keeps(r:KT H a9 xs)(ht:∀b ys,H b=be (.tup ys)->H' b=be (.tup ys)):KT H' a9 xs:=
 Paired.mapP r λ_ _ z=>#[z.1,ht _ _ z.2.1,z.2.2]
section
variable {P:U8}{w:U_}{H:Hp}{h:Heap}{a:Addr}
def sB{u:HO}(ok:HOk P w H h)(e:Rd H a u):ObjOk P w H h a u:=e.ok ok
def zg{a9:List (Key×V)}(ok:HOk P w H h)(e:Rd H a (.dK a9)):a9.length<=sizeLine/\(a==Vx)=false/\∃vs,KV a9 vs/\h.DictOf (bN P w) a vs:=
 show ObjOk P w H h a (.dK a9)from sB ok e
def key_of{ks:List Key}(ok:HOk P w H h)(e:H a=be (.tup (ks.map kV))):(VZ (bN P w)).is h ks a:=by
 obtain⟨_,its,r,o,h1,h2,n,h3⟩:=(show ObjOk P w H h a (.tup (ks.map kV))from ok a _ e);exact#[o,its.toArray,n,h1,h2,h3,by simpa using sA r]
variable{a9:List (List Key×V)}
def sC(ok:HOk P w H h)(e:Rd H a (.dT a9)):a9.length<=sizeLine/\(a==Vx)=false/\
  ∃xs,KT H a9 xs/\h.DictOfH (VZ (bN P w)) a xs:=by
 obtain⟨z,y,xs,r,o,es,ep,h1,h2,h3,h4,h5⟩:=(show ObjOk P w H h a (.dT a9)from sB ok e);refine#[z,y,xs,r,o,es,ep,h1,h2,h3,h4,λx hx=>?_,h5];have all:∀{l:List (List Key×V)} {m:List (List Key×Addr×Os)},KT H l m->∀x∈m,(VZ (bN P w)).is h x.1 x.2.1:=by
  intro l m q;induction q with
  |nil=>intro x hx;exact nomatch hx
  |@cons p q ps qs hq t ih=>
   intro x hx;rcases HQ.mp hx with e|hx
   .subst e;exact key_of ok (by rw[<-hq.1];exact hq.2.1)
   .exact ih x hx
 exact all r x hx
def zh(ok:HOk P w H h)(e:H a=be (.dT a9)):a9.length<=sizeLine/\(a==Vx)=false/\
  ∃xs,KT H a9 xs/\h.DictOfH (VZ (bN P w)) a xs:=sC ok (.inl e)
end
def DGet(H:Hp)(a:Addr)(y:V)(r:Option V):Prop:=
 (∃a9 k,Rd H a (.dK a9)/\y=kV k/\r=valV a9 k)\/∃a9 k b,Rd H a (.dT a9)/\y=.ref b/\H b=be (.tup (k.map kV))/\r=valV a9 k
def DGet.t{b:Addr}{k:List Key}(e:H a=be (.dT a9))(eb:H b=be (.tup (k.map kV))):DGet H a (.ref b) (valV a9 k):=.inr #[a9,k,b,.inl e,rfl,eb,rfl]
section
variable {X:Cx}{pins:List (Addr×Vn)}{σ:St}{H:Hp}{s:P3}{a:Addr}{y v:V}{u r:Os}{o:Option V}{A:Va}{E:Os->P3->Prop}
def Inv.big(I:Inv X pins σ H s):Vx<s.heap.objs.size:=by
 have h:SB<s.heap.objs.size:=(I.mod.glob.keeps I.bk).lt;exact KJ Mx h
def zi{h':Heap}{t':Nat}{ob:HO}(I:Inv X pins σ H s)(mu:Mut (H a))(hs:Heap.SameBut a s.heap h')(he:∃q,h'.get? a=be q)(new:ObjOk X.prog X.w (upd H a ob) h' a ob):
  Inv X pins σ (upd H a ob) {s with heap:=h',toks:=t'}:=
 I.write (x:=a) (e:=a) mu (.inl rfl) (λb q hb z=>(hs.2 b hb).trans z) he new
end
def zj(h:Heap)(hb:Vx<h.objs.size):ObjOk P w H (h.push {cls:=.type "dict",data:=.dict [].toArray}) h.objs.size (.dT []):=
 #[Iq _,beq_eq_false_iff_ne.mpr (Ne.symm (HY hb)),[],.nil,_,[].toArray,0,Heap.get?_push_size _ rfl,#[rfl,rfl,rfl],rfl,rfl,KL]
def zk:TE:=λ_ H Q=>∀p,H p=LH->Q (.ref p) (upd H p (.dT []))
section
variable {X:Cx}{pos:Vf}
def pe_dnewT:PE X (.Dict [] [] pos) zk:=λpins s σ H Q I h=>
 wpAny_Dict_empty #[.ref s.heap.objs.size,_,I.laid (a:=s.heap.objs.size) (o:=.dT []) (t':=s.toks) (λ_ _ q=>Heap.get?_push_of_some _ q) (HP _) (zj s.heap I.big),rfl,h _ (I.hok.fresh (HP _))]
end
structure M1(X:Cx)(o:U6)(m:Str)(apos:Vf)(e:U6)(cpos:Vf):Prop where
 base:Vc o m X.env (Vd o X.env)=Vd o X.env
 few:((Vz cpos (U' [e] X.env)).all (λx=>!x.1)&&(V1 cpos (VG [] X.env)).all (λx=>x.1.isSome)
  && decide (([e]:List U6).length+([]:List Wa).length+(if([]:List Wa).isEmpty then 0 else 1)<30))=true
 line:(apos.endLine==cpos.line)=true
 trees:Vz cpos (U' [e] X.env)=[(false,Vd e X.env)]
structure M2(X:Cx)(o:U6)(m:Str)(apos:Vf)(e f:U6)(cpos:Vf):Prop where
 base:Vc o m X.env (Vd o X.env)=Vd o X.env
 few:((Vz cpos (U' [e,f] X.env)).all (λx=>!x.1)&&(V1 cpos (VG [] X.env)).all (λx=>x.1.isSome)
  && decide (([e,f]:List U6).length+([]:List Wa).length+(if([]:List Wa).isEmpty then 0 else 1)<30))=true
 line:(apos.endLine==cpos.line)=true
 trees:Vz cpos (U' [e,f] X.env)=[(false,Vd e X.env),(false,Vd f X.env)]
section
variable {X:Cx}{pins:List (Addr×Vn)}{σ:St}{H:Hp}{s:P3}{a:Addr}{y d:V}{u r:Os}{o:Option V}{A:Va}{E:Os->P3->Prop}
def zl{Q:Os->P3->Prop}(hu:A.units+1<Wb)(I:Inv X pins σ H s)(g:DGet H a y o)(ry:RelV y u)(rd:RelV d r)(h:∀w' s',Inv X pins σ H s'->RelV (o.getD d) w'->Q w' s'):
  U9 (SZ X.prog X.w) A (call (.builtin "dict.get") [.ref a,u,r]) Q E s:=by
 rcases g with⟨a9,k,e,ey,l⟩|⟨a9,k,b,e,ey,eb,l⟩
 .subst ey;obtain⟨z,hd,vs,s_,dd⟩:=zg I.hok e;refine WG PySem.F.slot_dict_get dd.typeIs PySem.F.entry_dict_get (PySem.F.args_dict_get_3 _ _ _) (meets_dict_get_default (bN X.prog X.w) a (sy ry) hd r) #[_,dd.mapOf,h _ _ (I.tok _) ?_];rw[l];exact(s_.val k).getD rd
 .subst ey;cases(show u=Value.ref b from ry);obtain⟨z,hd,xs,s_,dd⟩:=sC I.hok e;refine WG PySem.F.slot_dict_get dd.typeIs PySem.F.entry_dict_get (PySem.F.args_dict_get_3 _ _ _) (meetsH_dict_get_default (VZ (bN X.prog X.w)) a b hd r) #[WW hu,k,xs,key_of I.hok eb,dd,h _ _ (I.tok _) ?_];rw[l];exact(s_.val k).getD rd
end
end L2
end
section
open PySem PySem.Spec PyProof.Rows L2
namespace Exc
open PySem PySem.Spec PyProof.Rows PySem.W L2
def excMro:List Os->Bool
 |.ref _::r=>excMro r
 |l=>l==[.type "ValueError",.type "Exception",.type "BaseException",.type "object"]
def kD(self:Os):∀{l:List Os},excMro l=true->refuseLoop self "__setattr__" l=pure ()
 |.ref c::r,e=>by rw[refuseLoop_ref];exact kD self (by unfold excMro at e;exact e)
 |[],e=>by simp[excMro]at e
 |.type n::r,e=>by
  have e':(Value.type n::r)=[.type "ValueError",.type "Exception",.type "BaseException",.type "object"]:=by simpa[excMro]using e
  rw[e'];exact PySem.F.store_ValueError.passes self
 |.none::r,e=>by simp[excMro]at e
 |.bool _::r,e=>by simp[excMro]at e
 |.int _ _::r,e=>by simp[excMro]at e
 |.float _ _::r,e=>by simp[excMro]at e
 |.str _ _::r,e=>by simp[excMro]at e
 |.bytes _ _::r,e=>by simp[excMro]at e
 |.builtin _::r,e=>by simp[excMro]at e
def exc_has{T:String}(hT:[Value.type "ValueError",.type "Exception",.type "BaseException",.type "object"].contains (.type T)=true):∀{l:List Os},excMro l=true->l.contains (.type T)=true
 |.ref c::r,e=>by rw[Kd,exc_has hT (l:=r) (by unfold excMro at e;exact e),JU]
 |[],e=>by simp[excMro]at e
 |.type n::r,e=>by
  have e':(Value.type n::r)=[.type "ValueError",.type "Exception",.type "BaseException",.type "object"]:=by simpa[excMro]using e
  rw[e'];exact hT
 |.none::r,e=>by simp[excMro]at e
 |.bool _::r,e=>by simp[excMro]at e
 |.int _ _::r,e=>by simp[excMro]at e
 |.float _ _::r,e=>by simp[excMro]at e
 |.str _ _::r,e=>by simp[excMro]at e
 |.bytes _ _::r,e=>by simp[excMro]at e
 |.builtin _::r,e=>by simp[excMro]at e
section
variable {prog:U8}{w:U_}{A:Va}{E:Os->P3->Prop}{s:P3}{K:Ex}{x C:Addr}{ox:Vn}{cd:VT}{name:Ms}{v:Os}{vs:Array Os}
def zm{Q:Unit->P3->Prop}(X:K.In s.heap)(hx:s.heap.get? x=be ox)(g_:ox.cls=.ref C)(y9:ox.data=.fields vs)(hd:ox.dict=LH)(hc:clsIn K C=be cd)(hm:excMro cd.mro=true)(hh:cd.hasDict=true)
  (hs:findIn K (.ref C) "__setattr__"=be (be (.builtin "object.__setattr__"))) (hf:findIn K (.ref C) name=be LH)
  (h:∀h',h'.get? x=be {ox with dict:=be s.heap.objs.size}->h'.Ns1 s.heap.objs.size (λy=>if y=name then be v else LH)->(∀b o,b≠x->s.heap.get? b=be o->h'.get? b=be o)->∀tk,Q () {s with heap:=h',toks:=tk}):
  U9 (SZ prog w) A (WZ (.ref x) name v) Q E s:=by
 have hn:notCls ox=true:=by unfold notCls;rw[y9]
 have I:InstAt s.heap x ox C none:=#[hx,g_,hn,by rw[hd];trivial];refine set_plain X I hs ?_;have SF:=PySem.F.store_object;have ne:cd.mro.isEmpty=false:=NQ
 have sub:Looks (SZ prog w) s.heap (V3 (.ref x) (.type "object")) true:=I.type.andThen (looks_mroIn X WF);refine Vy SF.slot.plain SF.entry (@check_slot (SZ prog w) _ _ _ "object.__setattr__" "object" "__setattr__" (.ref x) [.str name s.toks,v] [] _ SF.kind SF.split sub (SF.args (.ref x) (.str name s.toks) v) ?_);have Mz:Looks (SZ prog w) s.heap (mroOf (.ref C)) cd.mro:=(looks_clsIn X hc).andThen .now;rw[osa_eq,refuse_eq];refine Pi (Pi (I.type.here (s:={s with toks:=s.toks+1}) (Pi (Mz.here (s:={s with toks:=s.toks+1}) ?_))));rw[kD _ hm];refine SL (Pi (I.type.here (s:={s with toks:=s.toks+1}) (Pi ((looks_findIn X hf).here (s:={s with toks:=s.toks+1}) (Pi (Looks.now.here (s:={s with toks:=s.toks+1}) ?_))))));obtain⟨oc,RU,RV,osl⟩:=ox;dsimp only at g_ hd y9;subst g_ hd y9;refine Pi (SL (Pi (Pi (V8 hx (Pi ((looks_clsIn X hc).here (s:={s with toks:=s.toks+1}) ?_))))));rw[hh];rw[if_neg Mx];have hx₁:(s.heap.push {cls:=.type "dict",data:=.dict [].toArray}).get? x=be #[.ref C,LH,.fields vs,osl]:=Heap.get?_push_of_some _ hx;have RW:x≠s.heap.objs.size:=HY (Heap.lt_size hx);show U9 _ _ (do
  let d <-alloc {cls:=Value.type "dict",data:=Data.dict [].toArray}
  update x λo=>{cls:=o.cls,dict:=be d,data:=o.data,slots:=o.slots}
  dictMade (.ref C) x d) _ _ _
 refine Pi (wpAny_alloc' ?_);refine Pi (wpAny_update' hx₁ ?_);refine SL ?_;have SV:((s.heap.push {cls:=.type "dict",data:=.dict [].toArray}).update x λo=>{cls:=o.cls,dict:=be s.heap.objs.size,data:=o.data,slots:=o.slots}).get? s.heap.objs.size
   =be {cls:=.type "dict",data:=.dict [].toArray}:=
  (Heap.get?_update_ne _ _ _ _ RW.symm).trans (Heap.get?_push_at rfl rfl)
 have SW:((s.heap.push {cls:=.type "dict",data:=.dict [].toArray}).update x λo=>{cls:=o.cls,dict:=be s.heap.objs.size,data:=o.data,slots:=o.slots}).Ns s.heap.objs.size (λ_=>LH):=
  #[_,[].toArray,_,SV,rfl,λe he=>absurd he MF,λ_=>rfl]
 show U9 _ _ (Builtin.ObjectAttr.storeInDict s.heap.objs.size (.str name s.toks) name v) _ _ _;unfold Builtin.ObjectAttr.storeInDict Builtin.ObjectAttr.newKeyGuard;refine Pi (SL (Pi (Wy (Heap.Ns1.of_empty SW) λh' gV hs=>?_)));obtain⟨oD,RK,RL,NG,NH,NI⟩:=gV.count (Within.cons name v Within.nil);refine Pi (Wg NG (by rw[NH];exact Wi (HZ NI (by rw[HX,List.length_nil,VX];lia))) ?_);refine SL (h h' ?_ gV (λb o hb q=>?_) _)
 .exact(hs.2 x RW).trans (Heap.get?_update_self _ hx₁ rfl)
 .exact(hs.2 b (HY (Heap.lt_size q))).trans ((Heap.get?_update_ne _ _ _ _ hb).trans (Heap.get?_push_of_some _ q))
variable{Q:Os->P3->Prop}
def zn{od:Vn}{x_:Bool}(X:K.In s.heap)(I:InstAt s.heap x ox C (be od))(hc:clsIn K C=be cd)(hm:excMro cd.mro=true)
  (Pp:findIn K (.ref C) "__getattribute__"=be (be (.builtin "BaseException.__getattribute__"))) (Pq:findIn K (.ref C) "__getattr__"=be LH)
  (hf:findObj K C (be od) name=be (.value v)) (hh:handedIn v=true) (h:∀tk,Q v {s with toks:=tk}):U9 (SZ prog w) A (WD (.ref x) name x_) Q E s:=by
 have FB:=PySem.F.attr_ValueError;obtain⟨hp,g,d,t,os⟩:=s;have L0:=I.type (M:=SZ prog w);have L1:=looks_findIn (M:=SZ prog w) X Pp;have L2:=looks_findIn (M:=SZ prog w) X Pq;have L3:=looks_find (M:=SZ prog w) X I hf;have f3:=FB.ga.bind (.ref x);have ne:cd.mro.isEmpty=false:=NQ
 have sub:Looks (SZ prog w) hp (V3 (.ref x) (.type "BaseException")) true:=I.type.andThen (looks_mroIn X WF);unfold WD getAttrBy;refine Pi (wpAny_mkText (Vi (Pi (L0.at (Pi (L1.at ?_))))));dsimp only;have K_:(V9 (Value.ref C)&&Value.builtin "BaseException.__getattribute__"==Value.builtin "object.__getattribute__")=false:=by
  have l_:(Value.builtin "BaseException.__getattribute__"==Value.builtin "object.__getattribute__")=false:=KK
  rw[l_];rfl
 have SX:(x_&&V9 (Value.builtin "BaseException.__getattribute__"))=false:=by cases x_<;>rfl
 rw[K_,if_neg Ib];unfold getAttrByItsOwn hookBefore;rw[show V9 (Value.ref C)=true from rfl,if_pos rfl];refine Pi (L2.at ?_);unfold callGetattribute;rw[SX,if_neg Ib];unfold boundAndCalled;refine Pi (Wu (Vi (Pi (VW f3 ?_))));refine Vw (Vy FB.ga.plain PySem.F.entry_bexc_ga (@check_slot (SZ prog w) _ _ _ "BaseException.__getattribute__" "BaseException" "__getattribute__" (.ref x) [.str name t] [] _ KK KK sub (PySem.F.args_bexc_ga _ _) ?_));unfold Builtin.«object.__getattribute__»;refine Pi (VW (a:=(Value.ref x,[Value.str name t])) rfl ?_);refine Pi (VW (a:=name) rfl ?_);refine Pi (L0.at (Pi (L3.at ?_)));refine SL ?_;show U9 _ _ (handedOut v) _ _ _;rw[handedOut_of hh];exact SL (h _)
def zo{rest:List Os}{t0:Addr}{a1 a2 a3 a4 a5:Os}(X:K.In s.heap)(hx:s.heap.get? x=be ox)(g_:ox.cls=.ref C)(y9:ox.data=.fields [.ref t0,a1,a2,a3,a4,a5].toArray)(hc:clsIn K C=be cd)(hm:excMro cd.mro=true)(hl:rest.length<=sizeLine)
  (h:∀h',h'.get? x=be {ox with data:=.fields [.ref s.heap.objs.size,a1,a2,a3,a4,a5].toArray}->(∀b o,b≠x->s.heap.get? b=be o->h'.get? b=be o)->Q .none {s with heap:=h'}):
  U9 (SZ prog w) A (call (.builtin "ValueError.__init__") (.ref x::rest)) Q E s:=by
 have F:=PySem.F.excBase_ValueError;have hn:notCls ox=true:=by unfold notCls;rw[y9]
 have ht:Looks (SZ prog w) s.heap (typeOf (.ref x)) (.ref C):=g_ ▸ (Looks.ld hx).andThen .now;have ne:cd.mro.isEmpty=false:=NQ
 have sub:Looks (SZ prog w) s.heap (V3 (.ref x) (.type "ValueError")) true:=ht.andThen (looks_mroIn X WF);have SY:∀{Q:Unit->P3->Prop} {E:Os->P3->Prop} {A:Va},Q () s->U9 (SZ prog w) A (checkBuiltinCall "ValueError.__init__" #[.ref x::rest,[]]) Q E s:=λ{Q E A} hq=>by
  have Pr:=F.noStar;simp only[checkBuiltinCall,F.initKind,F.initSplit,F.initRow];refine Pi (sub.here ?_);obtain⟨hp,g,d,t,os⟩:=s;have Lc:=looks_clsIn (M:=SZ prog w) X hc
  repeat(first|(with_reducible refine Vp hx ?_;rw[g_])|(with_reducible refine Lc.here ?_)|wp_step)
  refine wpAny_onRaise ?_;rw[show ∀(a b:String) (n:Nat),Bind.check #[.positional,"*","ValueError",.self,[#["args",.varPos,false]]] a b n (JV (λx=>x.fst) ({pos:=Value.ref x::rest}:Args).kw)=pure ()from
   λa b n=>check_star_args _ _ _ _ _ _]
  exact SL hq
 refine Vw (Vy F.init.plain F.initEntry (SY ?_));obtain⟨hp,g,d,t,os⟩:=s;obtain⟨oc,RU,RV,osl⟩:=ox;dsimp only at g_ y9 hx h;subst g_ y9
 wp_walk
 have hx₁:=Heap.get?_push_of_some {cls:=Value.type "tuple",data:=Data.seq rest.toArray} hx;refine h _ ?_ (λb o hb q=>?_)
 .rw[Heap.get?_update_self _ hx₁ rfl];rfl
 .rw[Heap.get?_update_other _ _ (Ne.symm hb)];exact Heap.get?_push_of_some _ q
end
abbrev veLine:List Os:=[.type "ValueError",.type "Exception",.type "BaseException",.type "object"]
section
variable {prog:U8}{w:U_}{A:Va}{E:Os->P3->Prop}{h:Heap}{g:Array WO}{d:Drawn}{t:Nat}{os:OsState}{K:Ex}
variable {nm q:Ms}{C N fI:Addr}{bs bm:List Os}{hdct:Bool}{sn:List Ms}{sub:List Os}{ab:Bool}{col:Option Bool}{dd:Option Addr}{k0 k1 k2 k3 k5:Option Os}{rest:List Os}
def zp{Q:Fin->P3->Prop}(X:K.In h)(T:OwnTail h veLine bm)(hC:h.get? C=be (Vq nm q C N bs bm hdct sn sub ab col dd k0 k1 k2 k3 k5 "ValueError.__new__"))
  (hi:findIn K (.ref C) "__init__"=be (be (.ref fI))) (hf:typeIn K (.ref fI)=be (.type "function"))
  (hq:∀h' e,Heap.MadeExcOf h h' e (.ref C) rest->U9 (SZ prog w) A (call (.ref fI) (.ref e::rest)) (λr s'=>r=.none/\Q (.done (.ret (.ref e))) s') E #[h',g,d,t,os]) (hl:rest.length<=sizeLine):
  U9 (SZ prog w) A (Builtin.«type.__call__» #[.ref C::rest,[]]) Q E #[h,g,d,t,os]:=by
 have F:=PySem.F.excBase_ValueError
 repeat(first|(with_reducible refine Vp hC ?_)|(with_reducible refine wpAny_madeBy_exc hC ?_)|wp_step)
 refine codeAny_call_builtin_code (Code.quiet_builtin _ F.quiet) (wpAny_check_new_subT F T hC (codeAny_exc_new_subT F T hC ?_ hl));have kp:∀b o,h.get? b=be o->((h.push {cls:=.type "tuple",data:=.seq rest.toArray}).push {cls:=.ref C,data:=.fields [.ref h.objs.size,.none,.none,.none,.bool false,.none].toArray}).get? b=be o:=λb o e=>Heap.get?_push_of_some _ (Heap.get?_push_of_some _ e);have S1:=kp _ _ hC;have X1:K.In _:=X.keeps kp;have he:((h.push {cls:=.type "tuple",data:=.seq rest.toArray}).push {cls:=.ref C,data:=.fields [.ref h.objs.size,.none,.none,.none,.bool false,.none].toArray}).get? (h.objs.size+1)=be {cls:=.ref C,data:=.fields [.ref h.objs.size,.none,.none,.none,.bool false,.none].toArray}:=by heap_get
 have S2:(Value.ref C::bm).contains (.ref C)=true:=MF
 have L1:=looks_findIn (M:=SZ prog w) X1 hi;have L2:=bind_fn (M:=SZ prog w) X1 (.ref (h.objs.size+1)) hf;show U9 _ _ _ _ _ _;unfold V3
 repeat(first|(with_reducible refine Vp he ?_)|(with_reducible refine VQ S1 ?_;rw[S2])|wp_step)
 refine L1.at ?_;refine Vi (Pi (L2.at ?_));refine Pi (Vk (hq _ (h.objs.size+1) #[kp,Heap.get?_none_of_le (Jd _),h.objs.size,he,Heap.get?_none_of_le (HP _),Heap.get?_push_of_some _ (Heap.get?_push_at rfl rfl)]) (λr s' hr=>?_) λ_ _ x=>x);obtain⟨rfl,hQ⟩:=hr;refine SL ?_;exact SL hQ
def zq{Q:Os->P3->Prop}(X:K.In h)(T:OwnTail h veLine bm)(hC:h.get? C=be (Vq nm q C N bs bm hdct sn sub ab col dd k0 k1 k2 k3 k5 "ValueError.__new__"))
  (hi:findIn K (.ref C) "__init__"=be (be (.ref fI))) (hf:typeIn K (.ref fI)=be (.type "function"))
  (hq:∀h' e,Heap.MadeExcOf h h' e (.ref C) rest->U9 (SZ prog w) (A.under (.builtin "type.__call__" #[.ref C::rest,[]])) (call (.ref fI) (.ref e::rest)) (λr s'=>r=.none/\Q (.ref e) s') E #[h',g,d,t,os]) (hl:rest.length<=sizeLine):
  U9 (SZ prog w) A (call (.ref C) rest) Q E #[h,g,d,t,os]:=by
 have f1:=tc_lookup;have f2:=tc_bind (.ref C);have hT:(#[h,g,d,t,os]:P3).TypeIs (.ref C) "type":=#[_,hC,rfl];refine Vw (codeAny_of_tree ?_);show U9 _ _ (callAny (.ref C) _) _ _ _
 repeat(any_goals (first|(with_reducible refine Vp hC ?_)|assumption|wp_step))
 exact#[rfl,codeAny_call_builtin_at (Code.quiet_builtin _ KK) entry_typeCall (wpAny_check_type_call_sub hC (zp X T hC hi hf (λh' e hm=>hq h' e hm) hl))]
end
section
variable {prog:U8}{w:U_}{A:Va}{E:Os->P3->Prop}{s:P3}{env:VS}
variable {nm q:Ms}{C N:Addr}{bs bm:List Os}{hdct:Bool}{sn:List Ms}{sub:List Os}{ab:Bool}{col:Option Bool}{dd:Option Addr}{k0 k1 k2 k3 k5:Option Os}{newId:String}
variable{Q:Flow->P3->Prop}
def zr{x:WH Os}(b7:bm.contains (.type "BaseException")=true)(hh:A.handled=LH)
  (h:U9 (SZ prog w) A x (λv s₁=>∃e t od sl,v=.ref e/\s₁.heap.get? C=be (Vq nm q C N bs bm hdct sn sub ab col dd k0 k1 k2 k3 k5 newId)/\
   s₁.heap.get? e=be #[.ref C,od,.fields [.ref t,.none,.none,.none,.bool false,.none].toArray,sl]/\E (.ref e) s₁) E s):
  U9 (SZ prog w) A (raiseStmt env (be x) LH) Q E s:=by
 have Ps:(Value.ref C::bm).contains (.type "BaseException")=true:=by rw[Kd,b7,JU]
 unfold raiseStmt;refine Pi (Vk h (λv s₁ h₁=>?_) λ_ _ x=>x);obtain⟨e,t,od,sl,rfl,hC,he,hE⟩:=h₁;obtain⟨hp,g,d,tk,os⟩:=s₁
 repeat(first|(with_reducible refine Vp he ?_)|(with_reducible refine Vp hC ?_)|(with_reducible refine VQ hC ?_;rw[Ps])|wp_step)
 exact wpAny_raiseNew_none hh hE
def kE{x:U6}{pos:Vf}(b7:bm.contains (.type "BaseException")=true)(hh:A.handled=LH)
  (h:U9 (SZ prog w) A (Vd x env) (λv s₁=>∃e t od sl,v=.ref e/\s₁.heap.get? C=be (Vq nm q C N bs bm hdct sn sub ab col dd k0 k1 k2 k3 k5 newId)/\
   s₁.heap.get? e=be #[.ref C,od,.fields [.ref t,.none,.none,.none,.bool false,.none].toArray,sl]/\E (.ref e) s₁) E s):
  U9 (SZ prog w) A (exec (.Raise (be x) LH pos) env) Q E s:=by
 rw[arm_exec_Raise];show U9 (SZ prog w) A (do VR pos;raiseStmt env (be (do let v <-Vd x env;VR pos;pure v)) LH) Q E s;exact Pi (VB (zr b7 hh (Pi (Vk h (λv s₁ h₁=>Pi (VB (SL h₁))) λ_ _ x=>x))))
end
def ExAt(h:Heap)(e C:Addr)(od:Option Addr)(T:Addr)(fl:Os):Prop:=
 ∃sl vs oT ts,h.get? e=be #[.ref C,od,.fields vs,sl]/\vs[1]?=be (.ref T)/\T≠e/\h.get? T=be oT/\oT.data=.fields ts/\ts[3]?=be fl
structure Stay(fs ex:List Addr)(h h':Heap):Prop where
 keep:∀b o,h.get? b=be o->b∉ex->b∉fs->h'.get? b=be o
 slot:∀b o,h.get? b=be o->b∉ex->∃sl,h'.get? b=be {o with slots:=sl}
 there:∀b o,h.get? b=be o->∃o',h'.get? b=be o'
section
variable {M:WN}{A:Va}{E:Os->P3->Prop}{s:P3}{env:VS}{outer:List VS}{base:Heap}{L e C T:Addr}{od:Option Addr}
variable{Q:Unit->P3->Prop}
def sE{sl:Array (Option Os)}{vs:Array Os}(m4:A.frames=be (env::outer))(hl:s.heap.FunFrames base (env::outer))(hf:env.frame=be L)
  (he:s.heap.get? e=be #[.ref C,od,.fields vs,sl]) (h1:vs[1]?=be .none)
  (h:∀h' T,ExAt h' e C od T (V2 L)->s.heap.objs.size<=T->Stay (frs (env::outer)) [e] s.heap h'->Q () {s with heap:=h'}):U9 M A (V0 (.ref e) env) Q E s:=by
 have j9:1<vs.size:=(JW.mp h1).1;have MB:e∉(env::outer).filterMap (·.frame):=λhm=>by
  obtain⟨_,o,ho,hnf⟩:=hl.mem hm;rw[he]at ho;injection ho with ho;subst ho;exact hnf vs rfl
 unfold V0;simp only[hf];refine Pi (VL he rfl h1 ?_);rw[if_neg Mx];refine Pi (WY m4 hl hf λh₁ hs₁=>Pi (WT λpl c5=>?_));unfold EntryCells.newEntry newFields;refine Pi (Vj ?_ (c5.sizeOk5 _ _ _ _ _));have he₁:h₁.get? e=be #[.ref C,od,.fields vs,sl]:=(hs₁.2.1 e MB).trans he;have fresh:h₁.get? h₁.objs.size=none:=Heap.get?_none_of_le (HP _);generalize NR:({cls:=.type "traceback",dict:=LH,data:=.fields ([Value.none,.ref L,.none,V2 L,.none]++(if pl.isEmpty then IH 6 Value.none else pl)).toArray}:Vn)=oT;have he₂:=Heap.get?_push_of_some (h:=h₁) oT he₁;have v5:h₁.objs.size≠e:=IW (Heap.lt_size he₁);refine V7 he₂ rfl j9 (h _ h₁.objs.size ?_ ?_ ?_)
 .refine#[sl,vs.setIfInBounds 1 (.ref h₁.objs.size),oT,([Value.none,.ref L,.none,V2 L,.none]++(if pl.isEmpty then IH 6 Value.none else pl)).toArray,?_,by simp[j9],v5,?_,by rw[<-NR],MF]
  .rw[Heap.get?_update_self _ he₂ rfl];rfl
  .rw[Heap.get?_update_other _ _ (Ne.symm v5)];exact Heap.get?_push_size h₁ (by rw[<-NR];rfl)
 .exact JQ hs₁.1.symm
 .have kp:∀b o,b≠e->h₁.get? b=be o->((h₁.push oT).update e (Obj.mapFields (·.setIfInBounds 1 (Value.ref h₁.objs.size)))).get? b=be o:=λb o hb z=>by
   rw[Heap.get?_update_other _ _ (Ne.symm hb)];exact Heap.get?_push_of_some _ z
  refine#[λb o q n m=>kp b o (λz=>n (by simp[z])) ((hs₁.2.1 b m).trans q),λb o q n=>?_,λb o q=>?_]
  .obtain⟨m6,z⟩:=hs₁.2.2 b o q;exact#[m6,kp b _ (λz=>n (by simp[z])) z]
  .by_cases hb:b=e
   .subst hb;exact#[_,Heap.get?_update_self _ he₂ rfl]
   .obtain⟨m6,z⟩:=hs₁.2.2 b o q;exact#[_,kp b _ hb z]
def sF(m4:A.frames=be (env::outer))(hl:s.heap.FunFrames base (env::outer))(hf:env.frame=be L)(hx:ExAt s.heap e C od T .none)
  (h:∀h' T',ExAt h' e C od T' (V2 L)->s.heap.objs.size<=T'->Stay (frs (env::outer)) [T,e] s.heap h'->Q () {s with heap:=h'}):U9 M A (V0 (.ref e) env) Q E s:=by
 obtain⟨sl,vs,oT,ts,he,h1,v5,hT,l6,h3⟩:=hx;have j9:1<vs.size:=(JW.mp h1).1;have ON:3<ts.size:=(JW.mp h3).1;have MB:e∉(env::outer).filterMap (·.frame):=λhm=>by
  obtain⟨_,o,ho,hnf⟩:=hl.mem hm;rw[he]at ho;injection ho with ho;subst ho;exact hnf vs rfl
 unfold V0;simp only[hf];refine Pi (VL he rfl h1 ?_);rw[if_pos (show(Value.ref T !=Value.none)=true from MF)];refine Pi (VL hT l6 h3 ?_);rw[if_neg (show¬((Value.none==V2 L)=true)from by simp[V2])];refine Pi (V7 hT l6 ON ?_);have other:∀b,b≠T->(s.heap.update T (Obj.mapFields (·.setIfInBounds 3 Value.none))).get? b=s.heap.get? b:=λb hb=>Heap.get?_update_other _ _ (Ne.symm hb);have nT:∀b o,s.heap.get? b=be o->(∀vs,o.data≠.fields vs)->b≠T:=λb o hb hnf q=>by
  rw[q,hT]at hb;injection hb with hb;subst hb;exact hnf ts l6
 have Pt:(s.heap.update T (Obj.mapFields (·.setIfInBounds 3 Value.none))).FunFrames base (env::outer):=hl.of_keeps λb o hb hnf=>#[o,(other b (nT b o hb hnf)).trans hb,rfl];have S3:∃o',(s.heap.update T (Obj.mapFields (·.setIfInBounds 3 Value.none))).get? T=be o':=#[_,Heap.get?_update_self _ hT (Obj.isFreed_of_fields (Obj.data_mapFields l6 _))];refine Pi (WY m4 Pt hf λh₁ hs₁=>Pi (WT λpl c5=>?_));unfold EntryCells.newEntry newFields;refine Pi (Vj ?_ (c5.sizeOk5 _ _ _ _ _));have he₁:h₁.get? e=be #[.ref C,od,.fields vs,sl]:=(hs₁.2.1 e MB).trans ((other e (Ne.symm v5)).trans he);have fresh:h₁.get? h₁.objs.size=none:=Heap.get?_none_of_le (HP _);generalize NR:({cls:=.type "traceback",dict:=LH,data:=.fields ([Value.ref T,.ref L,.none,V2 L,.none]++(if pl.isEmpty then IH 6 Value.none else pl)).toArray}:Vn)=Pu;have he₂:=Heap.get?_push_of_some (h:=h₁) Pu he₁;have NS:h₁.objs.size≠e:=IW (Heap.lt_size he₁);refine V7 he₂ rfl j9 (h _ h₁.objs.size ?_ ?_ ?_)
 .refine#[sl,vs.setIfInBounds 1 (.ref h₁.objs.size),Pu,([Value.ref T,.ref L,.none,V2 L,.none]++(if pl.isEmpty then IH 6 Value.none else pl)).toArray,?_,by simp[j9],NS,?_,by rw[<-NR],MF]
  .rw[Heap.get?_update_self _ he₂ rfl];rfl
  .rw[Heap.get?_update_other _ _ (Ne.symm NS)];exact Heap.get?_push_size h₁ (by rw[<-NR];rfl)
 .exact JQ (hs₁.1.trans (Heap.size_after_update _ _ _)).symm
 .have kp:∀b o,b≠e->h₁.get? b=be o->((h₁.push Pu).update e (Obj.mapFields (·.setIfInBounds 1 (Value.ref h₁.objs.size)))).get? b=be o:=λb o hb z=>by
   rw[Heap.get?_update_other _ _ (Ne.symm hb)];exact Heap.get?_push_of_some _ z
  refine#[λb o q n m=>kp b o (λz=>n (by simp[z])) ((hs₁.2.1 b m).trans ((other b (λz=>n (by simp[z]))).trans q)),λb o q n=>?_,λb o q=>?_]
  .obtain⟨m6,z⟩:=hs₁.2.2 b o ((other b (λz=>n (by simp[z]))).trans q);exact#[m6,kp b _ (λz=>n (by simp[z])) z]
  .by_cases hb:b=e
   .subst hb;exact#[_,Heap.get?_update_self _ he₂ rfl]
   .have:∃o',(s.heap.update T (Obj.mapFields (·.setIfInBounds 3 Value.none))).get? b=be o':=by
     by_cases hb:b=T
     .rw[hb];exact S3
     .exact#[o,(other _ hb).trans q]
    obtain⟨o',q'⟩:=this;obtain⟨m6,z⟩:=hs₁.2.2 b o' q';exact#[_,kp b _ hb z]
def flight_none{fl:Os}(hx:ExAt s.heap e C od T fl)(h:∀h',ExAt h' e C od T .none->Stay [] [T] s.heap h'->Q () {s with heap:=h'}):U9 M A (Wh (.ref e) LH) Q E s:=by
 obtain⟨sl,vs,oT,ts,he,h1,v5,hT,l6,h3⟩:=hx;have ON:3<ts.size:=(JW.mp h3).1;unfold Wh;refine Pi (VL he rfl h1 ?_);rw[if_pos (show(Value.ref T !=Value.none)=true from MF)];refine V7 hT l6 ON (h _ ?_ ?_)
 .exact#[sl,vs,_,_,(Heap.get?_update_other _ _ v5).trans he,h1,v5,Heap.get?_update_self _ hT (Obj.isFreed_of_fields (Obj.data_mapFields l6 _)),Obj.data_mapFields l6 _,by simp[ON]]
 .have other:∀b o,b∉[T]->s.heap.get? b=be o->(s.heap.update T (Obj.mapFields (·.setIfInBounds 3 ((LH:Option Addr).elim Value.none λf=>V2 f)))).get? b=be o:=λb o hb q=>(Heap.get?_update_other _ _ (λz=>hb (by simp[z]))).trans q;refine#[λb o q n _=>other b o n q,λb o q n=>#[o.slots,other b o n q],λb o q=>?_];by_cases hb:b=T
  .subst hb;exact#[_,Heap.get?_update_self _ hT (Obj.isFreed_of_fields (Obj.data_mapFields l6 _))]
  .exact#[o,other b o (by simp[hb]) q]
end
def CX1(P:U8)(w:U_):CXT:=λouter H s E ev s'=>∃e C od T H',ev=.ref e/\s'.os=s.os/\VY s'.gens/\Un (frs outer) [] H H' s.heap s'.heap/\HOk P w H' s'.heap/\ExAt s'.heap e C od T .none/\s.heap.get? e=LH/\s.heap.get? T=LH/\H' e=LH/\H' T=LH/\E (.ref C) od H'
variable{fs ex:List Addr}
def fS{P:U8}{w:U_}{H:Hp}{h h':Heap}(x:HOk P w H h)(st:Stay fs ex h h')(hf:∀b∈fs,H b=LH)(he:∀b∈ex,H b=LH):HOk P w H h':=λa o q=>
 (x a o q).stay (λb u hb r=>by
  have hn:H b≠none:=by
   rcases hb with rfl|hb
   .rw[q];exact λz=>nomatch z
   .rw[hb];exact λz=>nomatch z
  exact st.keep b u r (λz=>hn (he b z)) (λz=>hn (hf b z))) (λ_ q=>q) λ_ _ q=>q
def gX{l9:List Addr}{H H':Hp}{h h1 h2:Heap}(u:Un fs [] H H' h h1)(st:Stay l9 ex h1 h2)(d9:∀b∈ex,h.get? b=LH)(OO:∀b∈l9,b∈fs\/h.get? b=LH):Un fs [] H H' h h2 where
 keep:=λb o q n hb hx=>st.keep b o (u.keep b o q n hb hx) (λz=>by rw[d9 b z]at q;cases q) (λz=>(OO b z).elim hb λy=>by rw[y]at q;cases q)
 slot:=λb o q n hb hx=>by
  obtain⟨sl,e1⟩:=u.slot b o q n hb hx;obtain⟨m6,e2⟩:=st.slot b _ e1 (λz=>by rw[d9 b z]at q;cases q);exact#[m6,e2]
 free:=u.free
 there:=λb o q hx=>by
  obtain⟨o1,e1⟩:=u.there b o q hx;exact st.there b o1 e1
 tups:=u.tups
 frzs:=u.frzs
 tbls:=u.tbls
section
variable {P:U8}{w:U_}{K:Ex}{mg:Ms->Option Os}{base:Heap}{N:List Ms}{qual:Ms}{scope:VA}{f:Addr}{cd:Os}{A:Va}{outer:List VS}{s:P3}{H:Hp}{E E':XK}
def sG{b:Addr}(hb:b∈frs (Vh qual scope s.heap.objs.size f cd::outer)):b∈frs outer\/s.heap.get? b=none:=by
 unfold frs at hb;rw[JM]at hb;rcases HQ.mp (show b∈s.heap.objs.size::outer.filterMap (·.frame)from hb)with e|e
 .rw[e];exact .inr (Heap.get?_none_of_le (HP _))
 .exact .inl e
def sH{pins:List (Addr×Vn)}{σ:L2.St}{H1:Hp}{s1:P3}{e C:Addr}{od:Option Addr}{sl:Array (Option Os)}{vs:Array Os}(I:Inv (cxOf (CX1 P w) P w K mg base N qual scope f cd A outer s H E') pins σ H1 s1)
  (he:s1.heap.get? e=be #[.ref C,od,.fields vs,sl]) (h1:vs[1]?=be .none) (He:H1 e=LH) (ne:s.heap.get? e=LH) (hE:E' (.ref C) od H1):(cxOf (CX1 P w) P w K mg base N qual scope f cd A outer s H E').xe (.ref e) s1:=by
 show U9 _ _ (WC _ _) _ _ _;unfold WC;refine Pi (sE I.ok.frames I.stack rfl he h1 λh2 T2 l_ y_ r_=>flight_none (s:={s1 with heap:=h2}) l_ λh3 NT K'=>?_);have LM:s1.heap.get? T2=none:=Heap.get?_none_of_le y_;have f1:∀b,s1.heap.get? b=LH->s.heap.get? b=none:=λb q=>by
  cases z:s.heap.get? b with
  |none=>rfl
  |some o=>
   obtain⟨o',z'⟩:=I.base.there b o z (by exact λy=>absurd (show b∈([]:List Addr)from y) MF);rw[q]at z';cases z'
 have hok:HOk P w H1 s1.heap:=I.hok;have Mb:H1 T2=none:=hok.fresh y_;have u2:Un (frs outer) [] H H1 s.heap h2:=gX (show Un (frs outer) [] H H1 s.heap s1.heap from I.base) r_ (λb hb=>by rw[HN.mp hb];exact ne) λb hb=>sG hb;have u3:Un (frs outer) [] H H1 s.heap h3:=gX u2 K' (λb hb=>by rw[HN.mp hb];exact f1 T2 LM) λb hb=>by cases hb
 have k2:=fS hok r_ (λb hb=>I.stkFree b hb) (λb hb=>by rw[HN.mp hb];exact He);have k3:=fS k2 K' (λb hb=>by cases hb) (λb hb=>by rw[HN.mp hb];exact Mb);exact#[e,C,od,T2,H1,rfl,I.os,I.bare,u3,k3,NT,ne,f1 T2 LM,He,Mb,hE]
end
end Exc
namespace L2
def Same.tup{K:Ex}{H H':Hp}{a:Addr}{xs:List V}(e:Same H H')(h:SqT K H a xs):SqT K H' a xs:=by
 rcases h with(h|⟨o,h⟩)|h
 .exact .inl (.inl (e _ _ h))
 .exact .inl (.inr #[o,e _ _ h])
 .exact .inr h
end L2
namespace My
def eX{X:Cx}:fR (Exc.CX1 X.prog X.w) X E0:=λ_ _ _ _ _ _ _ h=>by
 obtain⟨e,C,od,T,H',_,_,_,_,_,_,_,_,_,_,h⟩:=h;exact h.elim
def Fun.okC{P:U8}{w:U_}{K:Ex}{mg:Ms->Option Os}{base:Heap}{CX:CXT}{x qual:Ms}{st:U7}{f:Addr}{fd:Ve}{N ps:List Ms}{k:Nat}{sp:Sp}{dV:Os}(F:FunG K dV x qual st f fd)(S:FnScope N ps (ah st))(len:∀vs H Q E,sp vs H Q E->vs.length=ps.length)
  (a8:∀(cdv:Os) (A:Va) (outer:List VS) (s:P3) (H:Hp) (vs:List V) (Q:VK) (E:XK),Room k (A.deeper (Vh qual (ah st) s.heap.objs.size f cdv))->sp vs H Q E->
   ∃t,PSs (cxOf CX P w K mg base N qual (ah st) f cdv A outer s H E) (aK st) t/\t {nx:=λ_ H'=>Q .non H',rt:=Q} (start N vs) H):FnOk P w K mg base CX (k+1) f fd ps sp:=by
 obtain⟨oc,od,kV,doc,pm,an,cdv,ct,osl,rfl,lk,g5⟩:=F.ex;refine yz lk g5 S len λA outer s H vs Q E hr y7=>?_;exact a8 cdv A outer s H vs Q E hr y7
def Cal(P:U8)(w:U_)(K:Ex)(mg:Ms->Option Os)(base:Heap)(n:Nat)(x:Ms)(ps:List Ms)(sp:Sp):Prop:=
 ∃f fd,FnOk P w K mg base (Exc.CX1 P w) n f fd ps sp/\Binds K fd ps []/\keepIn K (.ref f)=true/\mg x=be (.ref f)
def Tx(K:Ex)(mg:Ms->Option Os)(x:Ms)(st:U7)(ps:List Ms):Prop:=
 ∃f fd,Fun K x x st f fd/\Binds K fd ps []/\mg x=be (.ref f)
section
variable {X:Cx}{n m:Nat}{ps:List Ms}{sp:Sp}{x:Ms}{p pos:Vf}{e:U6}{es:List U6}{t:TA}
def zt(C:Cal X.prog X.w X.K X.mg X.base n x ps sp)(hr:Room m X.A)(ha:PA X (e::es) t)(hg:autoParam (Gl X x) zA0)(hn:autoParam (n<=m) zA1)(c9:autoParam (zND x) zA1)
  (he:autoParam (zSE X e es) zA0) (c5:autoParam (zPL X pos es) zA0):
  PE X (.Call (.Name x p) (e::es) [] pos) (rW sp [] E0 t):=by
 obtain⟨f,fd,F,hb,hk,hm⟩:=C;exact yw F (hr.mono hn) hg hm hk hb .nil eX ha c9 he c5
end
def aN{H:Hp}{p:Addr}(h:H p=LH)(o:HO):Same H (upd H p o):=λb u q=>by rw[ar (bG q h)];exact q
def sz{n:Nat}(h:n<=1000):n<=sizeLine:=JL (zf h)
end My
namespace L2
section
variable {X:Cx}
variable{e:U6}
def PE.anti{t t':TE}(h:PE X e t)(a:∀s H Q,t' s H Q->t s H Q):PE X e t':=λpins s σ H Q I q=>h pins s σ H Q I (a _ _ _ q)
def PT.anti{t t':TT}(h:PT X e t)(a:∀s H Q,t' s H Q->t s H Q):PT X e t':=λpins s σ H Q I q=>h pins s σ H Q I (a _ _ _ q)
def PW.anti{t t':TT}(h:PW X e t)(a:∀s H Q,t' s H Q->t s H Q):PW X e t':=λwh pins s σ H Q I q=>h wh pins s σ H Q I (a _ _ _ q)
def PA.anti{e:List U6}{t t':TA}(h:PA X e t)(a:∀s H Q,t' s H Q->t s H Q):PA X e t':=λp pins s σ H Q I q=>h p pins s σ H Q I (a _ _ _ q)
def PS.anti{e:U7}{t t':TS}(h:PS X e t)(a:∀E s H,t' E s H->t E s H):PS X e t':=λpins s σ H Q I q=>h pins s σ H Q I (a _ _ _ q)
def PSs.anti{e:List U7}{t t':TS}(h:PSs X e t)(a:∀E s H,t' E s H->t E s H):PSs X e t':=λpins s σ H Q I q=>h pins s σ H Q I (a _ _ _ q)
end
end L2
namespace My
inductive D where
 |non|bl (b:Bool)|int (i:Int)|str (x:Str)|tup (xs:List D)|lst (xs:List D)
  |rol (xs:List D)
  |obj (x:Ms) (fs:List (Ms×D))
  |exc (x:Ms) (fs:List (Ms×D))
  |own (xs:List D)
  |ptr (a:Addr)
  |dti (a9:List ((Int×Int)×Int))
def dtiV(a9:List ((Int×Int)×Int)):List (List Key×V):=a9.map λe=>([.inl e.1.1,.inl e.1.2],.int e.2)
def XO(e C:Addr)(od:Option Addr):HO:=.ext λh=>∃vs sl,h.get? e=be #[.ref C,od,.fields vs,sl]
mutual
def Rep(K:Ex)(H:Hp):D->V->Prop
 |.non,v=>v=.non
 |.bl b,v=>v=.bl b
 |.int i,v=>v=.int i
 |.str x,v=>v=.str x
 |.tup ds,v=>∃a vs,v=.ref a/\H a=be (.tup vs)/\Reps K H ds vs
 |.lst ds,v=>∃a vs,v=.ref a/\H a=be (.lst vs)/\Reps K H ds vs
 |.rol ds,v=>∃a vs,v=.ref a/\SqL K H a vs/\Reps K H ds vs
 |.obj x fs,v=>∃a C dx vs,v=.ref a/\nsIn K SB x=be (be (.ref C))/\H a=be (.ins C dx vs)/\RepF K H fs vs
 |.exc x fs,v=>∃a C od vs,v=.ref a/\nsIn K SB x=be (be (.ref C))/\H a=be (XO a C od)/\RepF K H fs vs/\((od=LH/\vs=[])\/∃b,od=be b/\H b=be (.xd vs))
 |.own _,_=>False
 |.ptr a,v=>v=.ref a
 |.dti a9,v=>∃a,v=.ref a/\H a=be (.dT (dtiV a9))
def RepF(K:Ex)(H:Hp):List (Ms×D)->List (Ms×V)->Prop
 |[],vs=>vs=[]
 |(f,d)::ds,vs=>∃v r,vs=(f,v)::r/\Rep K H d v/\RepF K H ds r
def Reps(K:Ex)(H:Hp):List D->List V->Prop
 |[],vs=>vs=[]
 |d::ds,vs=>∃v r,vs=v::r/\Rep K H d v/\Reps K H ds r
end
mutual
def Rep.mono{K:Ex}{H H':Hp}(g:Same H H'):∀(d:D) (v:V),Rep K H d v->Rep K H' d v
 |.non,v,h=>by unfold Rep at h ⊢;exact h
 |.bl b,v,h=>by unfold Rep at h ⊢;exact h
 |.int b,v,h=>by unfold Rep at h ⊢;exact h
 |.str b,v,h=>by unfold Rep at h ⊢;exact h
 |.tup ds,v,h=>by
  unfold Rep at h ⊢;obtain⟨a,vs,e,q,r⟩:=h;exact#[a,vs,e,g _ _ q,Reps.mono g ds vs r]
 |.lst ds,v,h=>by
  unfold Rep at h ⊢;obtain⟨a,vs,e,q,r⟩:=h;exact#[a,vs,e,g _ _ q,Reps.mono g ds vs r]
 |.rol ds,v,h=>by
  unfold Rep at h ⊢;obtain⟨a,vs,e,q,r⟩:=h;exact#[a,vs,e,g.seq q,Reps.mono g ds vs r]
 |.obj C fs,v,h=>by
  unfold Rep at h ⊢;obtain⟨a,C,dx,vs,e,n,q,r⟩:=h;exact#[a,C,dx,vs,e,n,g _ _ q,RepF.mono g fs vs r]
 |.exc C fs,v,h=>by
  unfold Rep at h ⊢;obtain⟨a,C,od,vs,e,n,q,r,d⟩:=h;exact#[a,C,od,vs,e,n,g _ _ q,RepF.mono g fs vs r,d.imp id λ⟨b,h1,h2⟩=>#[b,h1,g _ _ h2]]
 |.own ds,v,h=>by
  unfold Rep at h ⊢;exact h
 |.ptr a,v,h=>by unfold Rep at h ⊢;exact h
 |.dti a9,v,h=>by
  unfold Rep at h ⊢;obtain⟨a,e,q⟩:=h;exact#[a,e,g _ _ q]
def RepF.mono{K:Ex}{H H':Hp}(g:Same H H'):∀(ds:List (Ms×D)) (vs:List (Ms×V)),RepF K H ds vs->RepF K H' ds vs
 |[],vs,h=>by unfold RepF at h ⊢;exact h
 |(f,d)::ds,vs,h=>by
  unfold RepF at h ⊢;obtain⟨v,r,e,q1,q2⟩:=h;exact#[v,r,e,Rep.mono g d v q1,RepF.mono g ds r q2]
def Reps.mono{K:Ex}{H H':Hp}(g:Same H H'):∀(ds:List D) (vs:List V),Reps K H ds vs->Reps K H' ds vs
 |[],vs,h=>by unfold Reps at h ⊢;exact h
 |d::ds,vs,h=>by
  unfold Reps at h ⊢;obtain⟨v,r,e,q1,q2⟩:=h;exact#[v,r,e,Rep.mono g d v q1,Reps.mono g ds r q2]
end
section
variable {K:Ex}{H:Hp}
variable{v:V}
def rep_non:Rep K H .non v↔v=.non:=by unfold Rep;exact Iff.rfl
def rep_bl{b:Bool}:Rep K H (.bl b) v↔v=.bl b:=by unfold Rep;exact Iff.rfl
def rep_int{i:Int}:Rep K H (.int i) v↔v=.int i:=by unfold Rep;exact Iff.rfl
variable{x:Ms}
def rep_str:Rep K H (.str x) v↔v=.str x:=by unfold Rep;exact Iff.rfl
variable{ds:List My.D}
def rep_tupS:Rep K H (.tup ds) v↔∃a vs,v=.ref a/\H a=be (.tup vs)/\Reps K H ds vs:=by
 constructor
 .intro h;unfold Rep at h;exact h
 .intro h;unfold Rep;exact h
def rep_tup_mp(h:Rep K H (.tup ds) v):∃a vs,v=.ref a/\SqT K H a vs/\Reps K H ds vs:=by
 obtain⟨a,vs,e,q,r⟩:=rep_tupS.mp h;exact#[a,vs,e,SqT.of q,r]
def rep_ptr{a:Addr}:Rep K H (.ptr a) v↔v=.ref a:=by unfold Rep;exact Iff.rfl
def rep_dti{a9:List ((Int×Int)×Int)}:Rep K H (.dti a9) v↔∃a,v=.ref a/\H a=be (.dT (dtiV a9)):=by
 constructor
 .intro h;unfold Rep at h;exact h
 .intro h;unfold Rep;exact h
def rep_lst:Rep K H (.lst ds) v↔∃a vs,v=.ref a/\H a=be (.lst vs)/\Reps K H ds vs:=by
 constructor
 .intro h;unfold Rep at h;exact h
 .intro h;unfold Rep;exact h
def rep_rol:Rep K H (.rol ds) v↔∃a vs,v=.ref a/\SqL K H a vs/\Reps K H ds vs:=by
 constructor
 .intro h;unfold Rep at h;exact h
 .intro h;unfold Rep;exact h
variable{fs:List (Ms×My.D)}
def rep_obj:Rep K H (.obj x fs) v↔∃a C dx vs,v=.ref a/\nsIn K SB x=be (be (.ref C))/\H a=be (.ins C dx vs)/\RepF K H fs vs:=by
 constructor
 .intro h;unfold Rep at h;exact h
 .intro h;unfold Rep;exact h
def rep_exc:Rep K H (.exc x fs) v↔∃a C od vs,v=.ref a/\nsIn K SB x=be (be (.ref C))/\H a=be (XO a C od)/\RepF K H fs vs/\((od=LH/\vs=[])\/∃b,od=be b/\H b=be (.xd vs)):=by
 constructor
 .intro h;unfold Rep at h;exact h
 .intro h;unfold Rep;exact h
def rep_own:¬Rep K H (.own ds) v:=by intro h;unfold Rep at h;exact h
variable{vs:List (Ms×V)}
def repf_nil:RepF K H [] vs↔vs=[]:=by unfold RepF;exact Iff.rfl
def repf_cons{f:Ms}{d:D}{ds:List (Ms×D)}:RepF K H ((f,d)::ds) vs↔∃v r,vs=(f,v)::r/\Rep K H d v/\RepF K H ds r:=by
 constructor
 .intro h;unfold RepF at h;exact h
 .intro h;unfold RepF;exact h
def RepF.look{f:Ms}{d:D}:∀{fs:List (Ms×D)} {vs:List (Ms×V)},RepF K H fs vs->fs.lookup f=be d->∃v,vs.lookup f=be v/\Rep K H d v
 |[],_,_,e=>by cases e
 |(g,x)::fs,vs,h,e=>by
  obtain⟨v,r,rfl,h1,h2⟩:=repf_cons.mp h;rw[Ig]at e ⊢;split at e
  .cases e;exact#[v,rfl,h1]
  .exact RepF.look h2 e
def RepF.none{f:Ms}:∀{fs:List (Ms×D)} {vs:List (Ms×V)},RepF K H fs vs->fs.lookup f=Option.none->vs.lookup f=Option.none
 |[],vs,h,_=>by rw[repf_nil.mp h];rfl
 |(g,x)::fs,vs,h,e=>by
  obtain⟨v,r,rfl,h1,h2⟩:=repf_cons.mp h;rw[Ig]at e ⊢;split at e
  .cases e
  .exact RepF.none h2 e
def reps_nil{vs:List V}:Reps K H [] vs↔vs=[]:=by unfold Reps;exact Iff.rfl
def reps_cons{d:D}{vs:List V}:Reps K H (d::ds) vs↔∃v r,vs=v::r/\Rep K H d v/\Reps K H ds r:=by
 constructor
 .intro h;unfold Reps at h;exact h
 .intro h;unfold Reps;exact h
def Reps.length:∀{ds:List D} {vs:List V},Reps K H ds vs->vs.length=ds.length
 |[],vs,h=>by rw[reps_nil.mp h];rfl
 |d::ds,vs,h=>by
  obtain⟨v,r,rfl,_,h2⟩:=reps_cons.mp h;rw[HX,HX,Reps.length h2]
def Reps.get:∀{ds:List D} {vs:List V} {i:Nat} {d:D},Reps K H ds vs->ds[i]?=be d->∃v,vs[i]?=be v/\Rep K H d v
 |[],_,_,_,_,e=>by simp at e
 |x::ds,vs,0,d,h,e=>by
  obtain⟨v,r,rfl,h1,_⟩:=reps_cons.mp h;simp at e;subst e;exact#[v,rfl,h1]
 |x::ds,vs,i+1,d,h,e=>by
  obtain⟨v,r,rfl,_,h2⟩:=reps_cons.mp h;obtain⟨u,q1,q2⟩:=Reps.get (i:=i) h2 (by simpa using e);exact#[u,by simpa using q1,q2]
def Reps.ints:∀{ns:List Int} {vs:List V},Reps K H (ns.map D.int) vs↔vs=ns.map V.int
 |[],vs=>reps_nil
 |n::ns,vs=>by
  rw[Ik,reps_cons,Ik];constructor
  .rintro⟨v,r,rfl,h1,h2⟩;rw[rep_int.mp h1,Reps.ints.mp h2]
  .rintro rfl;exact#[_,_,rfl,rep_int.mpr rfl,Reps.ints.mpr rfl]
end
abbrev SD:=List (Option D)
def gY:D->Bool|.own _=>true|_=>false
structure RepS(K:Ex)(B F H:Hp)(t:SD)(s:L2.St):Prop where
 len:s.length=t.length
 val:∀(i:Nat) d,t[i]?=be (be d)->gY d=false->∃v,s[i]?=be (be v)/\Rep K F d v
 own:∀(i:Nat) ds,t[i]?=be (be (.own ds))->∃a vs,s[i]?=be (be (.ref a))/\H a=be (.lst vs)/\B a=LH/\F a=LH/\Reps K F ds vs
 apart:∀(i j:Nat) di dj a,t[i]?=be (be (.own di))->t[j]?=be (be (.own dj))->s[i]?=be (be (.ref a))->s[j]?=be (be (.ref a))->i=j
structure Grow(F H F' H':Hp):Prop where
 ff:Same F F'
 fh:Same F' H'
 hh:Same H H'
 out:∀b,F b=LH->H b≠LH->F' b=LH
variable{F H:Hp}
def Grow.refl(h:Same F H):Grow F H F H:=#[Same.refl F,h,Same.refl H,λ_ h _=>h]
def Grow.trans{F1 H1 F2 H2:Hp}(g:Grow F H F1 H1)(k:Grow F1 H1 F2 H2):Grow F H F2 H2:=
 ⟨g.ff.trans k.ff,k.fh,g.hh.trans k.hh,λb h1 h2=>k.out b (g.out b h1 h2) (by
  cases e:H b with
  |none=>exact absurd e h2
  |some o=>rw[g.hh b o e];exact λz=>nomatch z)⟩
def Grow.new{p:Addr}(h:Same F H)(hp:H p=LH)(o:HO):Grow F H (upd F p o) (upd H p o):=by
 have fp:F p=none:=h.free hp;refine#[aN fp o,λb u e=>?_,aN hp o,λb h1 h2=>?_]
 .by_cases hb:b=p
  .subst hb;rw[aC]at e ⊢;exact e
  .rw[ar hb]at e ⊢;exact h b u e
 .by_cases hb:b=p
  .subst hb;exact absurd hp h2
  .rw[ar hb];exact h1
class Jx where
 B:Hp
 F0:Hp
 RX:SD->Ms->List (Ms×D)->Prop
structure Kept[J:Jx](B F0 F H:Hp):Prop where
 bh:Same B H
 fh:Same F H
 f0:Same F0 F
 out:∀b,F0 b=LH->B b≠LH->F b=LH
 eb:B=J.B
 jf:Same J.F0 F0
 jo:∀b,J.F0 b=LH->B b≠LH->F0 b=LH
variable{B:Hp}
def Kept.kf[J:Jx]{F0:Hp}(k:Kept B F0 F H):Kept B J.F0 F H:=#[k.bh,k.fh,k.jf.trans k.f0,λb h1 h2=>k.out b (k.jo b h1 h2) h2,k.eb,Same.refl _,λ_ h _=>h]
def Kept.grow[Jx]{F0 F' H':Hp}(k:Kept B F0 F H)(g:Grow F H F' H'):Kept B F0 F' H':=
 ⟨k.bh.trans g.hh,g.fh,k.f0.trans g.ff,λb h1 h2=>g.out b (k.out b h1 h2) (by
  cases e:B b with
  |none=>exact absurd e h2
  |some o=>rw[k.bh b o e];exact λz=>nomatch z),k.eb,k.jf,k.jo⟩
section
variable {K:Ex}{B F H F' H':Hp}{t:SD}{s:L2.St}
def RepS.grow(g:Grow F H F' H')(h:RepS K B F H t s):RepS K B F' H' t s where
 len:=h.len
 val:=λi d e no=>let ⟨v,q1,q2⟩:=h.val i d e no;#[v,q1,q2.mono g.ff]
 own:=λi ds e=>by
  obtain⟨a,vs,q1,q2,q3,q4,q5⟩:=h.own i ds e;exact#[a,vs,q1,g.hh a _ q2,q3,g.out a q4 (by rw[q2];exact λz=>nomatch z),q5.mono g.ff]
 apart:=h.apart
variable{i:Nat}
def RepS.set{d:D}{v:V}(h:RepS K B F H t s)(r:Rep K F d v):RepS K B F H (t.set i (be d)) (s.set i (be v)):=by
 have no:gY d=false:=by
  cases d with
  |own ds=>exact absurd r rep_own
  |_=>rfl
 have get:∀{j:Nat} {x:D},(t.set i (be d))[j]?=be (be x)->(j=i/\x=d/\i<t.length)\/(j≠i/\t[j]?=be (be x)):=λ{j x} e=>by
  by_cases hj:i=j
  .subst hj;rw[Jf]at e;simp at e;exact .inl #[rfl,e.2.symm,e.1]
  .rw[Ie hj]at e;exact .inr #[λz=>hj z.symm,e]
 refine#[by rw[II,II];exact h.len,λj x e nx=>?_,λj ds e=>?_,λj k dj dk a e1 e2 e3 e4=>?_]
 .rcases get e with⟨rfl,rfl,hl⟩|⟨hj,e⟩
  .exact#[v,by rw[IG (by rw[h.len];exact hl)],r]
  .obtain⟨u,q1,q2⟩:=h.val j x e nx;exact#[u,by rw[Ie (λz=>hj z.symm)];exact q1,q2]
 .rcases get e with⟨rfl,rfl,hl⟩|⟨hj,e⟩
  .cases no
  .obtain⟨a,vs,q1,q⟩:=h.own j ds e;exact#[a,vs,by rw[Ie (λz=>hj z.symm)];exact q1,q]
 .rcases get e1 with⟨rfl,rfl,hl⟩|⟨hj,e1⟩
  .cases no
  .rcases get e2 with⟨rfl,rfl,hl⟩|⟨hk,e2⟩
   .cases no
   .rw[Ie (λz=>hj z.symm)]at e3;rw[Ie (λz=>hk z.symm)]at e4;exact h.apart j k dj dk a e1 e2 e3 e4
variable{ds:List My.D}
def RepS.setOwn{a:Addr}{vs:List V}(h:RepS K B F H t s)(hB:B a=LH)(hF:F a=LH)(r:Reps K F ds vs)
  (free:∀(j:Nat) dj,j≠i->t[j]?=be (be (.own dj))->s[j]?≠be (be (.ref a))):RepS K B F (upd H a (.lst vs)) (t.set i (be (.own ds))) (s.set i (be (.ref a))):=by
 have get:∀{j:Nat} {x:D},(t.set i (be (.own ds)))[j]?=be (be x)->(j=i/\x=.own ds/\i<t.length)\/(j≠i/\t[j]?=be (be x)):=λ{j x} e=>by
  by_cases hj:i=j
  .subst hj;rw[Jf]at e;simp at e;exact .inl #[rfl,e.2.symm,e.1]
  .rw[Ie hj]at e;exact .inr #[λz=>hj z.symm,e]
 refine#[by rw[II,II];exact h.len,λj x e nx=>?_,λj dj e=>?_,λj k dj dk b e1 e2 e3 e4=>?_]
 .rcases get e with⟨rfl,rfl,hl⟩|⟨hj,e⟩
  .cases nx
  .obtain⟨u,q1,q2⟩:=h.val j x e nx;exact#[u,by rw[Ie (λz=>hj z.symm)];exact q1,q2]
 .rcases get e with⟨rfl,e,hl⟩|⟨hj,e⟩
  .cases e;exact#[a,vs,by rw[IG (by rw[h.len];exact hl)],aC,hB,hF,r]
  .obtain⟨b,us,q1,q2,q⟩:=h.own j dj e;have ne:b≠a:=λz=>free j dj hj e (z ▸ q1);exact#[b,us,by rw[Ie (λz=>hj z.symm)];exact q1,by rw[ar ne];exact q2,q]
 .rcases get e1 with⟨hj,c1,hl⟩|⟨hj,f1⟩
  .rcases get e2 with⟨hk,c2,OK⟩|⟨hk,f2⟩
   .rw[hj,hk]
   .rw[hj,IG (by rw[h.len];exact hl)]at e3;rw[Ie (λz=>hk z.symm)]at e4;cases e3;exact absurd e4 (free k dk hk f2)
  .rcases get e2 with⟨hk,c2,OK⟩|⟨hk,f2⟩
   .rw[hk,IG (by rw[h.len];exact OK)]at e4;rw[Ie (λz=>hj z.symm)]at e3;cases e4;exact absurd e3 (free j dj hj f1)
   .rw[Ie (λz=>hj z.symm)]at e3;rw[Ie (λz=>hk z.symm)]at e4;exact h.apart j k dj dk b f1 f2 e3 e4
def RepS.freeze[Jx]{F0:Hp}(h:RepS K B F H t s)(k:Kept B F0 F H)(e:t[i]?=be (be (.own ds))):∃F',Kept B F0 F' H/\RepS K B F' H (t.set i (be (.lst ds))) s:=by
 obtain⟨a,vs,q1,q2,q3,q4,q5⟩:=h.own i ds e;have hl:i<t.length:=(Ia.mp e).1;have g:Same F (upd F a (.lst vs)):=aN q4 _;have get:∀{j:Nat} {x:D},(t.set i (be (.lst ds)))[j]?=be (be x)->(j=i/\x=.lst ds)\/(j≠i/\t[j]?=be (be x)):=λ{j x} e=>by
  by_cases hj:i=j
  .subst hj;rw[Jf]at e;simp at e;exact .inl #[rfl,e.2.symm]
  .rw[Ie hj]at e;exact .inr #[λz=>hj z.symm,e]
 refine#[upd F a (.lst vs),#[k.bh,λb o z=>?_,k.f0.trans g,λb h1 h2=>?_,k.eb,k.jf,k.jo],#[by rw[II];exact h.len,λj x e' nx=>?_,λj dj e'=>?_,λj l dj dl b e1 e2 e3 e4=>?_]]
 .by_cases hb:b=a
  .subst hb;rw[aC]at z;cases z;exact q2
  .rw[ar hb]at z;exact k.fh b o z
 .by_cases hb:b=a
  .subst hb;exact absurd q3 h2
  .rw[ar hb];exact k.out b h1 h2
 .rcases get e' with⟨rfl,rfl⟩|⟨hj,e'⟩
  .exact#[.ref a,q1,rep_lst.mpr #[a,vs,rfl,aC,q5.mono g]]
  .obtain⟨u,p1,p2⟩:=h.val j x e' nx;exact#[u,p1,p2.mono g]
 .rcases get e' with⟨rfl,c⟩|⟨hj,e'⟩
  .cases c
  .obtain⟨b,us,p1,p2,p3,p4,p5⟩:=h.own j dj e';have ne:b≠a:=λz=>hj (h.apart j i dj ds a e' e (z ▸ p1) q1);exact#[b,us,p1,p2,p3,by rw[ar ne];exact p4,p5.mono g]
 .rcases get e1 with⟨rfl,c⟩|⟨hj,e1⟩
  .cases c
  .rcases get e2 with⟨rfl,c⟩|⟨hk,e2⟩
   .cases c
   .exact h.apart j l dj dl b e1 e2 e3 e4
end
def startD(N:List Ms)(ds:List D):SD:=ds.map be++IH (N.length-ds.length) LH
variable{K:Ex}
def Rep.noown{d:D}{v:V}(r:Rep K F d v):gY d=false:=by
 cases d with
 |own ds=>exact absurd r rep_own
 |_=>rfl
def dQ{N:List Ms}{ds:List D}{vs:List V}(h:Reps K F ds vs):RepS K B F H (startD N ds) (L2.start N vs):=by
 have hl:=h.length;have get:∀(i:Nat) d,(startD N ds)[i]?=be (be d)->∃v,(L2.start N vs)[i]?=be (be v)/\Rep K F d v:=λi d e=>by
  unfold startD at e;unfold L2.start;by_cases hi:i<ds.length
  .rw[IE (by simpa using hi),H9]at e;cases q:ds[i]? with
   |none=>rw[q]at e;cases e
   |some x=>
    rw[q]at e;cases e;obtain⟨v,q1,q2⟩:=h.get q;exact#[v,by rw[IE (by simpa[hl]using hi),H9,q1];rfl,q2]
  .rw[IZ (by simpa using hi),Ka]at e;split at e<;>cases e
 refine#[by unfold startD L2.start;simp[hl],λi d e _=>get i d e,λi d e=>?_,λi j di dj a e=>?_]
 .obtain⟨v,_,r⟩:=get i _ e;exact absurd r rep_own
 .obtain⟨v,_,r⟩:=get i _ e;exact absurd r rep_own
abbrev TD:=SD->(D->Prop)->Prop
abbrev TDT:=SD->(Bool->Prop)->Prop
abbrev TDA:=SD->(List D->Prop)->Prop
structure EndsD where
 nx:SD->Prop
 rt:D->Prop
 bk:SD->Prop:=λ_=>False
 ct:SD->Prop:=λ_=>False
abbrev TSD:=EndsD->SD->Prop
def lE(K:Ex)[J:Jx](t:TD):TE:=λs H Q=>∃B F z,Kept B J.F0 F H/\RepS K B F H z s/\∃R:D->Prop,t z R/\∀d v F' H',Grow F H F' H'->R d->Rep K F' d v->Q v H'
def lT(K:Ex)[J:Jx](t:TDT):TT:=λs H Q=>∃B F z,Kept B J.F0 F H/\RepS K B F H z s/\∃R:Bool->Prop,t z R/\∀b F' H',Grow F H F' H'->R b->Q b H'
def lA(K:Ex)[J:Jx](t:TDA):TA:=λs H Q=>∃B F z,Kept B J.F0 F H/\RepS K B F H z s/\∃R:List D->Prop,t z R/\∀ds vs F' H',Grow F H F' H'->R ds->Reps K F' ds vs->Q vs H'
structure EndsOk[Jx](K:Ex)(B F0:Hp)(ED:EndsD)(E:Ends):Prop where
 nx:∀z' s' F' H',Kept B F0 F' H'->ED.nx z'->RepS K B F' H' z' s'->E.nx s' H'
 rt:∀d v F' H',Kept B F0 F' H'->ED.rt d->Rep K F' d v->E.rt v H'
 bk:∀z' s' F' H',Kept B F0 F' H'->ED.bk z'->RepS K B F' H' z' s'->E.bk s' H'
 ct:∀z' s' F' H',Kept B F0 F' H'->ED.ct z'->RepS K B F' H' z' s'->E.ct s' H'
def lS(K:Ex)[Jx](t:TSD):TS:=λE s H=>∃B F0 F z,Kept B F0 F H/\RepS K B F H z s/\∃ED:EndsD,t ED z/\EndsOk K B F0 ED E
abbrev DE(X:Cx)[Jx](e:U6)(t:TD):Prop:=PE X e (lE X.K t)
abbrev DT(X:Cx)[Jx](e:U6)(t:TDT):Prop:=PT X e (lT X.K t)
abbrev DW(X:Cx)[Jx](e:U6)(t:TDT):Prop:=PW X e (lT X.K t)
abbrev DA(X:Cx)[Jx](es:List U6)(t:TDA):Prop:=PA X es (lA X.K t)
abbrev DS(X:Cx)[Jx](st:U7)(t:TSD):Prop:=PS X st (lS X.K t)
abbrev DSs(X:Cx)[Jx](st:List U7)(t:TSD):Prop:=PSs X st (lS X.K t)
structure WDE(X:Cx)[Jx](e:U6)(t:TD):Prop where
 out:DE X e t
structure WDT(X:Cx)[Jx](e:U6)(t:TDT):Prop where
 out:DT X e t
structure WDW(X:Cx)[Jx](e:U6)(t:TDT):Prop where
 out:DW X e t
structure WDA(X:Cx)[Jx](es:List U6)(t:TDA):Prop where
 out:DA X es t
structure WDS(X:Cx)[Jx](st:U7)(t:TSD):Prop where
 out:DS X st t
structure WDSs(X:Cx)[Jx](st:List U7)(t:TSD):Prop where
 out:DSs X st t
section
variable {X:Cx}
def okR(R:D->Prop):D->Prop|.own _=>False|d=>R d
def dVar(i:Nat):TD:=λz R=>match z[i]? with|some (be d)=>okR R d|_=>False
def dC(d:D):TD:=λ_ R=>R d
variable{x:Ms}
def aa[Jx](i:Nat){pos:Vf}(hN:autoParam (X.N[i]?=be x) zA0)(hv:autoParam (Vis X.env.scope x) zA5)(hd:autoParam (zND x) zA1)
  (g5:autoParam (zNC x) zA1):WDE X (.Name x pos) (dVar i):=⟨(cS hN hv hd g5).anti λs H Q h=>by
 obtain⟨B,F,z,kf,r,R,h1,h2⟩:=h;have fh:=kf.fh;unfold dVar at h1;split at h1
 .rename_i d e;have no:gY d=false:=by
   cases d with
   |own ds=>exact False.elim h1
   |_=>rfl
  have S4:R d:=by
   cases d with
   |own ds=>exact False.elim h1
   |_=>exact h1
  obtain⟨v,q1,q2⟩:=r.val i d e no;exact#[v,q1,h2 d v F H (Grow.refl fh) S4 q2]
 .exact h1.elim⟩
variable{e:U6}{d:My.D}
def de_c[Jx]{v:V}(h:PE X e (tC v))(r:∀H,Rep X.K H d v):DE X e (dC d):=h.anti λs H Q q=>by
 obtain⟨B,F,z,kf,_,R,h1,h2⟩:=q;have fh:=kf.fh;exact h2 d v F H (Grow.refl fh) h1 (r F)
def ad[Jx]{i j pos}:WDE X (.Constant (.int i) j pos) (dC (.int i)):=#[de_c xm λ_=>rep_int.mpr rfl]
def bc[Jx]{b j pos}:WDE X (.Constant (.bool b) j pos) (dC (.bl b)):=#[de_c xn λ_=>rep_bl.mpr rfl]
def bO[Jx]{j pos}:WDE X (.Constant .none j pos) (dC .non):=#[de_c xo λ_=>rep_non.mpr rfl]
def ax[Jx]{x j pos}:WDE X (.Constant (.str x) j pos) (dC (.str x)):=#[de_c qV λ_=>rep_str.mpr rfl]
abbrev RD2:=D->D->(D->Prop)->Prop
def dOp(r:RD2)(ta tb:TD):TD:=λz R=>ta z λx=>tb z λy=>r x y R
def aV(K:Ex)(r:R2)(rd:RD2):Prop:=∀x y u v F H R Q,Same F H->rd x y R->Rep K F x u->Rep K F y v->(∀d w F' H',Grow F H F' H'->R d->Rep K F' d w->Q w H')->r u v H Q
variable{r:R2}{rd:RD2}
def kF[Jx]{ta tb:TD}(L:aV X.K r rd)(h:PE X e (tOp r (lE X.K ta) (lE X.K tb))):DE X e (dOp rd ta tb):=h.anti λs H Q q=>by
 obtain⟨B,F,z,kf,rs,R,h1,h2⟩:=q;have fh:=kf.fh;refine#[B,F,z,kf,rs,_,h1,λx u F1 H1 g1 hx rx=>?_];refine#[B,F1,z,kf.grow g1,rs.grow g1,_,hx,λy v F2 H2 g2 hy ry=>?_];exact L x y u v F2 H2 R Q g2.fh hy (rx.mono g2.ff) ry λd w F' H' g3=>h2 d w F' H' (g1.trans (g2.trans g3))
variable {a b c:U6}{ta tb tc:TD}{pos:Vf}
def dR[Jx]{op:Ws}(ho:OpR X (Vr op) r)(L:aV X.K r rd)(ha:DE X a ta)(hb:DE X b tb):DE X (.BinOp a op b pos) (dOp rd ta tb):=kF L (kg ho ha hb)
def zu[Jx]{op:W5}(ho:OpR X (Vm op) r)(L:aV X.K r rd)(ha:DE X a ta)(hb:DE X b tb)(hm:Vu op b=false):DE X (.Compare a [op] [b] pos) (dOp rd ta tb):=kF L (xZ ho ha hb hm)
def zv[Jx](hr:IxR X r)(L:aV X.K r rd)(ha:DE X a ta)(hb:DE X b tb)(hs:autoParam (eV b) zA6):DE X (.Subscript a b pos) (dOp rd ta tb):=kF L (pe_ix hr ha hb hs)
def kdI(d:D)(k:Int->Prop):Prop:=match d with|.int i=>k i|_=>False
def kdB(d:D)(k:Bool->Prop):Prop:=match d with|.bl i=>k i|_=>False
def kdS(d:D)(k:Ms->Prop):Prop:=match d with|.str i=>k i|_=>False
def kdL(d:D)(k:List D->Prop):Prop:=match d with|.lst i=>k i|_=>False
def kdT(d:D)(k:List D->Prop):Prop:=match d with|.tup i=>k i|_=>False
def kdN(d:D)(p:Prop):Prop:=match d with|.non=>p|_=>False
def kd1(ds:List D)(k:D->Prop):Prop:=match ds with|[x]=>k x|_=>False
def kd2(ds:List D)(k:D->D->Prop):Prop:=match ds with|[x,y]=>k x y|_=>False
def kdI.of{k:Int->Prop}(h:kdI d k):∃i,d=.int i/\k i:=Pw
def kdB.of{k:Bool->Prop}(h:kdB d k):∃i,d=.bl i/\k i:=Pw
def kdS.of{k:Ms->Prop}(h:kdS d k):∃i,d=.str i/\k i:=Pw
variable{k:List My.D->Prop}
def kdL.of(h:kdL d k):∃i,d=.lst i/\k i:=Pw
def kdT.of(h:kdT d k):∃i,d=.tup i/\k i:=Pw
def kdP(d:D)(k:Addr->Prop):Prop:=match d with|.ptr i=>k i|_=>False
def kdP.of{k:Addr->Prop}(h:kdP d k):∃i,d=.ptr i/\k i:=Pw
def kdN.of{p:Prop}(h:kdN d p):d=.non/\p:=by cases d<;>first|exact#[rfl,h]|exact False.elim h
variable{ds:List My.D}
def kd1.of{k:D->Prop}(h:kd1 ds k):∃x,ds=[x]/\k x:=by
 cases ds with
 |nil=>exact False.elim h
 |cons x r=>cases r with
  |nil=>exact#[x,rfl,h]
  |cons=>exact False.elim h
def kd2.of{k:D->D->Prop}(h:kd2 ds k):∃x y,ds=[x,y]/\k x y:=by
 cases ds with
 |nil=>exact False.elim h
 |cons x r=>cases r with
  |nil=>exact False.elim h
  |cons y r=>cases r with
   |nil=>exact#[x,y,rfl,h]
   |cons=>exact False.elim h
def rdI0(f:Int->Int->D):RD2:=λx y R=>kdI x λi=>kdI y λj=>R (f i j)
def rdI1(C:Int->Int->Prop)(f:Int->Int->D):RD2:=λx y R=>kdI x λi=>kdI y λj=>C i j/\R (f i j)
variable{K:Ex}{f:Int->Int->My.D}{g:Int->Int->V}
def fT(k:∀F i j,Rep K F (f i j) (g i j)):aV K (rI0 g) (rdI0 f):=by
 intro x y u v F H R Q fh h rx ry q;replace h:=kdI.of h;obtain⟨i,rfl,h⟩:=h;replace h:=kdI.of h;obtain⟨j,rfl,h⟩:=h;exact#[i,j,rep_int.mp rx,rep_int.mp ry,q _ _ F H (Grow.refl fh) h (k F i j)]
def fU{C:Int->Int->Prop}(k:∀F i j,Rep K F (f i j) (g i j)):aV K (rI C g) (rdI1 C f):=by
 intro x y u v F H R Q fh h rx ry q;replace h:=kdI.of h;obtain⟨i,rfl,h⟩:=h;replace h:=kdI.of h;obtain⟨j,rfl,h⟩:=h;exact#[i,j,rep_int.mp rx,rep_int.mp ry,h.1,q _ _ F H (Grow.refl fh) h.2 (k F i j)]
def kG:RD2:=λx y R=>match x with
 |.int i=>kdI y λj=>R (.int (i+j))
 |.str i=>kdS y λj=>i.length+j.length<=1000000/\R (.str (i++j))
 |.lst xs=>kdL y λys=>xs.length+ys.length<=1000000/\R (.lst (xs++ys))
 |.tup xs=>kdT y λys=>(xs≠[]/\ys≠[]/\xs.length+ys.length<=1000000)/\R (.tup (xs++ys))
 |_=>False
def sI(K:Ex):R2:=λx y H Q=>rI0 (λi j=>.int (i+j)) x y H Q\/((λx y H Q=>∃i j,x=.str i/\y=.str j/\i.length+j.length<=sizeLine/\Q (.str (i++j)) H) x y H Q\/(rCat x y H Q\/sj K x y H Q))
def sJ:OpR X (Vr .Add) (sI X.K):=OpR.or xQ (OpR.or yd (OpR.or ss yJ))
def Reps.append{K:Ex}{F:Hp}:∀{xs ys:List D} {us vs:List V},Reps K F xs us->Reps K F ys vs->Reps K F (xs++ys) (us++vs)
 |[],ys,us,vs,r1,r2=>by rw[reps_nil.mp r1];exact r2
 |x::xs,ys,us,vs,r1,r2=>by
  obtain⟨u,ur,rfl,a1,a2⟩:=reps_cons.mp r1;exact reps_cons.mpr #[u,ur++vs,rfl,a1,Reps.append a2 r2]
def Reps.ne_nil{F:Hp}{xs:List D}{us:List V}(r:Reps K F xs us)(h:xs≠[]):us≠[]:=by
 cases xs with
 |nil=>exact absurd rfl h
 |cons x xs=>obtain⟨u,ur,rfl,_⟩:=reps_cons.mp r;exact λz=>nomatch z
def sK:aV K (sI K) kG:=by
 intro x y u v F H R Q fh h rx ry q;cases x with
 |int i=>
  replace h:=kdI.of h;obtain⟨j,rfl,h⟩:=h;exact .inl #[_,_,rep_int.mp rx,rep_int.mp ry,q _ _ F H (Grow.refl fh) h (rep_int.mpr rfl)]
 |str i=>
  replace h:=kdS.of h;obtain⟨j,rfl,h⟩:=h;exact .inr (.inl #[_,_,rep_str.mp rx,rep_str.mp ry,HZ h.1 Mx,q _ _ F H (Grow.refl fh) h.2 (rep_str.mpr rfl)])
 |lst xs=>
  replace h:=kdL.of h;obtain⟨ys,rfl,h⟩:=h;obtain⟨a,us,rfl,hq,rr⟩:=rep_lst.mp rx;obtain⟨b,vs,rfl,p_,z6⟩:=rep_lst.mp ry;refine .inr (.inr (.inl #[a,b,us,vs,rfl,rfl,fh _ _ hq,fh _ _ p_,by rw[rr.length,z6.length];exact HZ h.1 Mx,λp hp=>?_]));exact q _ _ _ _ (Grow.new fh hp _) h.2 (rep_lst.mpr #[p,_,rfl,aC,(rr.append z6).mono (aN (fh.free hp) _)])
 |tup xs=>
  replace h:=kdT.of h;obtain⟨ys,rfl,h⟩:=h;obtain⟨a,us,rfl,hq,rr⟩:=rep_tup_mp rx;obtain⟨b,vs,rfl,p_,z6⟩:=rep_tup_mp ry;obtain⟨⟨n1,n2,hz⟩,h⟩:=h;refine .inr (.inr (.inr #[a,b,us,vs,rfl,rfl,fh.tup hq,fh.tup p_,rr.ne_nil n1,by rw[rr.length,z6.length];exact HZ hz Mx,λz=>absurd z (z6.ne_nil n2),λ_ p hp=>?_]));exact q _ _ _ _ (Grow.new fh hp _) h (rep_tupS.mpr #[p,_,rfl,aC,(rr.append z6).mono (aN (fh.free hp) _)])
 |_=>exact False.elim h
def am[Jx](ha:WDE X a ta)(hb:WDE X b tb):WDE X (.BinOp a .Add b pos) (dOp kG ta tb):=#[have ha:=ha.out;have hb:=hb.out;dR sJ sK ha hb]
def kH:RD2:=rdI0 λi j=>.int (i-j)
def sL:aV K (rI0 λi j=>.int (i-j)) kH:=fT λ_ _ _=>rep_int.mpr rfl
def bx[Jx](ha:WDE X a ta)(hb:WDE X b tb):WDE X (.BinOp a .Sub b pos) (dOp kH ta tb):=#[have ha:=ha.out;have hb:=hb.out;dR rC sL ha hb]
def sM:RD2:=λx y R=>kdI x λi=>kdI y λj=>CMul i j/\R (.int (i*j))
def zw:aV K (rI CMul λi j=>.int (i*j)) sM:=fU λ_ _ _=>rep_int.mpr rfl
def az[Jx](ha:WDE X a ta)(hb:WDE X b tb):WDE X (.BinOp a .Mult b pos) (dOp sM ta tb):=#[have ha:=ha.out;have hb:=hb.out;dR xR zw ha hb]
def sN:RD2:=λx y R=>kdI x λi=>kdI y λj=>(0<j/\j<1073741824)/\R (.int (i/j))
def zx:aV K (rI CDiv λi j=>.int (i/j)) sN:=fU λ_ _ _=>rep_int.mpr rfl
def aZ[Jx](ha:WDE X a ta)(hb:WDE X b tb):WDE X (.BinOp a .FloorDiv b pos) (dOp sN ta tb):=#[have ha:=ha.out;have hb:=hb.out;dR xS zx ha hb]
def sO(i j:Int):Prop:=j≠0/\j.natAbs<4611686018427387904
def zy:OpR X (Vr .FloorDiv) (rI sO λi j=>.int (i.fdiv j)):=opI λ_ j _ _ _ _ _ hc q=>floordiv_int hc.1 q (.inl (PyProof.noPylong_of_log2 (KJ ((KM (λz=>hc.1 (KN.mp z))).mpr (show j.natAbs<2^62 from hc.2)) Mx)))
def sP:RD2:=λx y R=>kdI x λi=>kdI y λj=>(j≠0/\j.natAbs<4611686018427387904)/\R (.int (i.fdiv j))
def zz:aV K (rI sO λi j=>.int (i.fdiv j)) sP:=fU λ_ _ _=>rep_int.mpr rfl
def zA[Jx](ha:WDE X a ta)(hb:WDE X b tb):WDE X (.BinOp a .FloorDiv b pos) (dOp sP ta tb):=#[have ha:=ha.out;have hb:=hb.out;dR zy zz ha hb]
def sQ:RD2:=λx y R=>kdI x λi=>kdI y λj=>0<j/\R (.int (i%j))
def zB:aV K (rI (λ_ j=>0<j) λi j=>.int (i%j)) sQ:=fU λ_ _ _=>rep_int.mpr rfl
def aD[Jx](ha:WDE X a ta)(hb:WDE X b tb):WDE X (.BinOp a .Mod b pos) (dOp sQ ta tb):=#[have ha:=ha.out;have hb:=hb.out;dR xT zB ha hb]
def sR:RD2:=λx y R=>kdI x λi=>kdI y λj=>j≠0/\R (.int (i.fmod j))
def zC:aV K (rI (λ_ j=>j≠0) λi j=>.int (i.fmod j)) sR:=fU λ_ _ _=>rep_int.mpr rfl
def sS[Jx](ha:WDE X a ta)(hb:WDE X b tb):WDE X (.BinOp a .Mod b pos) (dOp sR ta tb):=#[have ha:=ha.out;have hb:=hb.out;dR xU zC ha hb]
def rdLt:RD2:=rdI0 λi j=>.bl (decide (i<j))
def sT:aV K (rI0 λi j=>.bl (decide (i<j))) rdLt:=fT λ_ _ _=>rep_bl.mpr rfl
def rdLe:RD2:=rdI0 λi j=>.bl (decide (i<=j))
def zD:aV K (rI0 λi j=>.bl (decide (i<=j))) rdLe:=fT λ_ _ _=>rep_bl.mpr rfl
def rdGt:RD2:=rdI0 λi j=>.bl (decide (j<i))
def sU:aV K (rI0 λi j=>.bl (decide (j<i))) rdGt:=fT λ_ _ _=>rep_bl.mpr rfl
def rdGe:RD2:=rdI0 λi j=>.bl (decide (j<=i))
def zE:aV K (rI0 λi j=>.bl (decide (j<=i))) rdGe:=fT λ_ _ _=>rep_bl.mpr rfl
def rdEq:RD2:=λx y R=>match x with
 |.int i=>kdI y λj=>R (.bl (decide (i=j)))
 |.bl i=>kdB y λj=>R (.bl (decide (i=j)))
 |.str i=>kdS y λj=>R (.bl (decide (i=j)))
 |.non=>kdN y (R (.bl true))
 |_=>False
def rdNe:RD2:=λx y R=>match x with
 |.int i=>kdI y λj=>R (.bl (!decide (i=j)))
 |.bl i=>kdB y λj=>R (.bl (!decide (i=j)))
 |.str i=>kdS y λj=>R (.bl (!decide (i=j)))
 |.non=>kdN y (R (.bl false))
 |_=>False
def kI:aV K rEq rdEq:=by
 intro x y u v F H R Q fh h rx ry q;cases x with
 |int i=>
  replace h:=kdI.of h;obtain⟨j,rfl,h⟩:=h;rw[rep_int.mp rx,rep_int.mp ry];exact#[rfl,q _ _ F H (Grow.refl fh) h (rep_bl.mpr MF)]
 |bl i=>
  replace h:=kdB.of h;obtain⟨j,rfl,h⟩:=h;rw[rep_bl.mp rx,rep_bl.mp ry];exact#[rfl,q _ _ F H (Grow.refl fh) h (rep_bl.mpr MF)]
 |str i=>
  replace h:=kdS.of h;obtain⟨j,rfl,h⟩:=h;rw[rep_str.mp rx,rep_str.mp ry];exact#[rfl,q _ _ F H (Grow.refl fh) h (rep_bl.mpr MF)]
 |non=>
  replace h:=kdN.of h;obtain⟨rfl,h⟩:=h;rw[rep_non.mp rx,rep_non.mp ry];exact#[rfl,q _ _ F H (Grow.refl fh) h (rep_bl.mpr MF)]
 |_=>exact False.elim h
def sV:aV K rNe rdNe:=by
 intro x y u v F H R Q fh h rx ry q;cases x with
 |int i=>
  replace h:=kdI.of h;obtain⟨j,rfl,h⟩:=h;rw[rep_int.mp rx,rep_int.mp ry];exact#[rfl,q _ _ F H (Grow.refl fh) h (rep_bl.mpr MF)]
 |bl i=>
  replace h:=kdB.of h;obtain⟨j,rfl,h⟩:=h;rw[rep_bl.mp rx,rep_bl.mp ry];exact#[rfl,q _ _ F H (Grow.refl fh) h (rep_bl.mpr MF)]
 |str i=>
  replace h:=kdS.of h;obtain⟨j,rfl,h⟩:=h;rw[rep_str.mp rx,rep_str.mp ry];exact#[rfl,q _ _ F H (Grow.refl fh) h (rep_bl.mpr MF)]
 |non=>
  replace h:=kdN.of h;obtain⟨rfl,h⟩:=h;rw[rep_non.mp rx,rep_non.mp ry];exact#[rfl,q _ _ F H (Grow.refl fh) h (rep_bl.mpr MF)]
 |_=>exact False.elim h
def dg[Jx](ha:WDE X a ta)(hb:WDE X b tb):WDE X (.Compare a [.Eq] [b] pos) (dOp rdEq ta tb):=#[have ha:=ha.out;have hb:=hb.out;zu kh kI ha hb (nomark _)]
def kJ:D->Bool|.non=>true|_=>false
def rdIs(f:Bool->Bool):RD2:=λx y R=>kdN y (R (.bl (f (kJ x))))
def sW{H:Hp}{x:D}{u:V}(r:Rep K H x u):decide (u=.non)=kJ x:=by
 cases x with
 |non=>rw[rep_non.mp r];rfl
 |bl b=>rw[rep_bl.mp r];rfl
 |int b=>rw[rep_int.mp r];rfl
 |str b=>rw[rep_str.mp r];rfl
 |tup b=>obtain⟨a,vs,rfl,_⟩:=rep_tup_mp r;rfl
 |lst b=>obtain⟨a,vs,rfl,_⟩:=rep_lst.mp r;rfl
 |rol b=>obtain⟨a,vs,rfl,_⟩:=rep_rol.mp r;rfl
 |obj C b=>obtain⟨a,C,dx,vs,rfl,_⟩:=rep_obj.mp r;rfl
 |exc C b=>obtain⟨a,C,od,vs,rfl,_⟩:=rep_exc.mp r;rfl
 |own b=>exact absurd r rep_own
 |ptr b=>rw[rep_ptr.mp r];rfl
 |dti b=>obtain⟨a,rfl,_⟩:=rep_dti.mp r;rfl
def sX:aV K (λx y H Q=>y=.non/\Q (.bl (decide (x=.non))) H) (rdIs id):=by
 intro x y u v F H R Q fh h rx ry q;replace h:=kdN.of h;obtain⟨rfl,h⟩:=h;exact#[rep_non.mp ry,q _ _ F H (Grow.refl fh) h (rep_bl.mpr (by rw[sW rx];rfl))]
def zF:aV K (λx y H Q=>y=.non/\Q (.bl (!decide (x=.non))) H) (rdIs not):=by
 intro x y u v F H R Q fh h rx ry q;replace h:=kdN.of h;obtain⟨rfl,h⟩:=h;exact#[rep_non.mp ry,q _ _ F H (Grow.refl fh) h (rep_bl.mpr (by rw[sW rx]))]
def rdIx:RD2:=λx y R=>kdI y λi=>match x with
 |.tup ds=>∃d,atI ds i=be d/\R d
 |.lst ds=>∃d,atI ds i=be d/\R d
 |.rol ds=>∃d,atI ds i=be d/\R d
 |.str x=>∃c,(x.length<=1000000/\atI x.cps.toList i=be c)/\R (.str #[[c].toArray])
 |_=>False
def Reps.at{H:Hp}{vs:List V}{i:Int}(r:Reps K H ds vs)(e:atI ds i=be d):∃v,atI vs i=be v/\Rep K H d v:=by
 unfold atI at e ⊢;rw[r.length];cases q:ixN ds.length i with
 |none=>rw[q]at e;cases e
 |some j=>
  rw[q]at e;exact r.get e
def sY:aV K (rIx K) rdIx:=by
 intro x y u v F H R Q fh h rx ry q;replace h:=kdI.of h;obtain⟨i,rfl,h⟩:=h;cases x with
 |tup ds=>
  obtain⟨d,e,h⟩:=h;obtain⟨a,vs,e1,hq,rs⟩:=rep_tup_mp rx;obtain⟨w,e2,i6⟩:=rs.at e;exact .inr (.inl #[a,vs,_,w,e1,rep_int.mp ry,fh.tup hq,e2,q d w F H (Grow.refl fh) h i6])
 |lst ds=>
  obtain⟨d,e,h⟩:=h;obtain⟨a,vs,e1,hq,rs⟩:=rep_lst.mp rx;obtain⟨w,e2,i6⟩:=rs.at e;exact .inl #[a,vs,_,w,e1,rep_int.mp ry,fh.seq (SqL.of hq),e2,q d w F H (Grow.refl fh) h i6]
 |rol ds=>
  obtain⟨d,e,h⟩:=h;obtain⟨a,vs,e1,hq,rs⟩:=rep_rol.mp rx;obtain⟨w,e2,i6⟩:=rs.at e;exact .inl #[a,vs,_,w,e1,rep_int.mp ry,fh.seq hq,e2,q d w F H (Grow.refl fh) h i6]
 |str x=>
  obtain⟨c,⟨hz,e⟩,h⟩:=h;exact .inr (.inr #[_,_,c,rep_str.mp rx,rep_int.mp ry,HZ hz Mx,e,q _ _ F H (Grow.refl fh) h (rep_str.mpr rfl)])
 |_=>exact False.elim h
def af[Jx](ha:WDE X a ta)(hb:WDE X b tb)(hs:autoParam (eV b) zA6):WDE X (.Subscript a b pos) (dOp rdIx ta tb):=#[have ha:=ha.out;have hb:=hb.out;zv so sY ha hb hs]
def dUn(r:D->(D->Prop)->Prop)(ta:TD):TD:=λz R=>ta z λx=>r x R
def sZ:D->(D->Prop)->Prop:=λx R=>match x with|.int i=>R (.int (-i))|_=>False
def cq[Jx](ha:WDE X a ta):WDE X (.UnaryOp .USub a pos) (dUn sZ ta):=⟨have ha:=ha.out;(xP xV ha).anti λs H Q h=>by
 obtain⟨B,F,z,kf,rs,R,h1,h2⟩:=h;have fh:=kf.fh;refine#[B,F,z,kf,rs,_,h1,λx u F1 H1 g1 hx rx=>?_];unfold sZ at hx;split at hx
 .exact#[_,rep_int.mp rx,h2 _ _ F1 H1 g1 hx (rep_int.mpr rfl)]
 .exact hx.elim⟩
def dNil:TDA:=λ_ R=>R []
def zG(ta:TD)(tr:TDA):TDA:=λz R=>ta z λx=>tr z λxs=>R (x::xs)
def ae[Jx]:WDA X [] dNil:=⟨pa_nil.anti λs H Q h=>by
 obtain⟨B,F,z,kf,rs,R,h1,h2⟩:=h;have fh:=kf.fh;exact h2 [] [] F H (Grow.refl fh) h1 (reps_nil.mpr rfl)⟩
variable{es:List U6}{t:TDA}
def ac[Jx]{te:TD}(ha:WDE X e te)(hr:WDA X es t)(hs:autoParam (zSE X e es) zA0):WDA X (e::es) (zG te t):=⟨have ha:=ha.out;have hr:=hr.out;(bt ha hr hs).anti λs H Q h=>by
 obtain⟨B,F,z,kf,rs,R,h1,h2⟩:=h;have fh:=kf.fh;refine#[B,F,z,kf,rs,_,h1,λx u F1 H1 g1 hx rx=>?_];refine#[B,F1,z,kf.grow g1,rs.grow g1,_,hx,λxs us F2 H2 g2 hy ry=>?_];exact h2 _ _ F2 H2 (g1.trans g2) hy (reps_cons.mpr #[_,_,rfl,rx.mono g2.ff,ry])⟩
def dTup(t:TDA):TD:=λz R=>t z λxs=>xs.length<=1000/\R (.tup xs)
def dLst(t:TDA):TD:=λz R=>t z λxs=>xs.length<=1000/\R (.lst xs)
def aJ[Jx]{x1}(h:WDA X es t):WDE X (.Tuple es x1 pos) (dTup t):=⟨have h:=h.out;(rV h).anti λs H Q q=>by
 obtain⟨B,F,z,kf,rs,R,h1,h2⟩:=q;have fh:=kf.fh;refine#[B,F,z,kf,rs,_,h1,λds vs F1 H1 g1 hx rx=>?_];have hl:=rx.length;refine#[sz (by rw[hl];exact hx.1),λp hp=>?_];exact h2 _ _ _ _ (g1.trans (Grow.new g1.fh hp _)) hx.2 (rep_tupS.mpr #[p,vs,rfl,aC,rx.mono (aN (g1.fh.free hp) _)])⟩
def bf[Jx](h:WDA X es t):WDE X (.List es pos) (dLst t):=⟨have h:=h.out;(kq h).anti λs H Q q=>by
 obtain⟨B,F,z,kf,rs,R,h1,h2⟩:=q;have fh:=kf.fh;refine#[B,F,z,kf,rs,_,h1,λds vs F1 H1 g1 hx rx=>?_];have hl:=rx.length;refine#[sz (by rw[hl];exact hx.1),λp hp=>?_];exact h2 _ _ _ _ (g1.trans (Grow.new g1.fh hp _)) hx.2 (rep_lst.mpr #[p,vs,rfl,aC,rx.mono (aN (g1.fh.free hp) _)])⟩
abbrev SpD:=List D->(D->Prop)->Prop
def lSp(K:Ex)(S:SpD):Sp:=λvs H Q _=>∃F ds,Same F H/\Reps K F ds vs/\∃R:D->Prop,S ds R/\∀d v F' H',Grow F H F' H'->R d->Rep K F' d v->Q v H'
def zH(S:SpD)(t:TDA):TD:=λz R=>t z λds=>S ds R
abbrev CalD(P:U8)(w:U_)(K:Ex)(mg:Ms->Option Os)(base:Heap)(n:Nat)(x:Ms)(ps:List Ms)(S:SpD):Prop:=Cal P w K mg base n x ps (lSp K S)
variable{p:Vf}
def aw[Jx]{n m:Nat}{ps:List Ms}{S:SpD}(C:CalD X.prog X.w X.K X.mg X.base n x ps S)(hr:Room m X.A)(ha:WDA X (e::es) t)(hg:autoParam (Gl X x) zA0)(hn:autoParam (n<=m) zA1)(c9:autoParam (zND x) zA1)
  (he:autoParam (zSE X e es) zA0) (c5:autoParam (zPL X pos es) zA0):WDE X (.Call (.Name x p) (e::es) [] pos) (zH S t):=⟨have ha:=ha.out;(zt C hr ha hg hn c9 he c5).anti λs H Q h=>by
 obtain⟨B,F,z,kf,rs,R,h1,h2⟩:=h;have fh:=kf.fh;refine#[B,F,z,kf,rs,_,h1,λds vs F1 H1 g1 hx rx=>?_];exact#[F1,ds,g1.fh,by rw[Iz];exact rx,R,hx,λd v F' H' g=>h2 d v F' H' (g1.trans g)]⟩
abbrev RDn:=List D->(D->Prop)->Prop
def cA(K:Ex)(r:List V->Hp->VK->Prop)(rd:RDn):Prop:=∀ds vs F H R Q,Same F H->rd ds R->Reps K F ds vs->(∀d w F' H',Grow F H F' H'->R d->Rep K F' d w->Q w H')->r vs H Q
def dCB(r:RDn)(t:TDA):TD:=λz R=>t z λds=>r ds R
def gZ[Jx]{id:String}{r:List V->Hp->VK->Prop}{rd:RDn}(hc:bH X (.builtin id) r)(L:cA X.K r rd)(hm:X.mg x=LH)(hv:Vo x=be (.builtin id))(ha:DA X (e::es) t)(hg:autoParam (Gl X x) zA0)(hn:autoParam (x≠"__name__") zA1)(c9:autoParam (zND x) zA1)
  (he:autoParam (zSE X e es) zA0) (c5:autoParam (zPL X pos es) zA0):DE X (.Call (.Name x p) (e::es) [] pos) (dCB rd t):=(eU hc hg hm hv ha hn c9 he c5).anti λs H Q h=>by
 obtain⟨B,F,z,kf,rs,R,h1,h2⟩:=h;have fh:=kf.fh;refine#[B,F,z,kf,rs,_,h1,λds vs F1 H1 g1 hx rx=>?_];exact L ds vs F1 H1 R Q g1.fh hx rx λd w F' H' g=>h2 d w F' H' (g1.trans g)
def kK:RDn:=λds R=>kd1 ds λx=>match x with
 |.tup xs=>R (.int xs.length)
 |.lst xs=>R (.int xs.length)
 |.rol xs=>R (.int xs.length)
 |.str x=>x.length<=1000000/\R (.int x.length)
 |_=>False
def tf:cA K (λxs H Q=>∃x n,xs=[x]/\LenV K x H n/\Q (.int n) H) kK:=by
 intro ds vs F H R Q fh h rx q;replace h:=kd1.of h;obtain⟨x,rfl,h⟩:=h;obtain⟨v,r,rfl,h1,h2⟩:=reps_cons.mp rx;rw[reps_nil.mp h2];cases x with
 |tup xs=>
  obtain⟨a,us,rfl,hq,rs⟩:=rep_tup_mp h1;exact#[.ref a,us.length,rfl,.inr #[us,fh.tup hq,rfl],q _ _ F H (Grow.refl fh) h (rep_int.mpr (by rw[rs.length]))]
 |lst xs=>
  obtain⟨a,us,rfl,hq,rs⟩:=rep_lst.mp h1;exact#[.ref a,us.length,rfl,.inl #[us,fh.seq (SqL.of hq),rfl],q _ _ F H (Grow.refl fh) h (rep_int.mpr (by rw[rs.length]))]
 |rol xs=>
  obtain⟨a,us,rfl,hq,rs⟩:=rep_rol.mp h1;exact#[.ref a,us.length,rfl,.inl #[us,fh.seq hq,rfl],q _ _ F H (Grow.refl fh) h (rep_int.mpr (by rw[rs.length]))]
 |str x=>
  rw[rep_str.mp h1];exact#[.str _,_,rfl,#[HZ h.1 Mx,rfl],q _ _ F H (Grow.refl fh) h.2 (rep_int.mpr rfl)]
 |_=>exact False.elim h
def bB[Jx](hm:X.mg "len"=LH)(ha:WDA X [e] t)(hg:autoParam (Gl X "len") zA0)(he:autoParam (zSE X e []) zA0):WDE X (.Call (.Name "len" p) [e] [] pos) (dCB kK t):=#[have ha:=ha.out;gZ ki tf hm PySem.boot_len ha hg Mx Mx he]
def tm:RDn:=λds R=>kd1 ds λx=>kdI x λi=>R (.int (if i<0 then -i else i))
def zI:cA K (λxs H Q=>∃i,xs=[.int i]/\Q (.int (if i<0 then -i else i)) H) tm:=by
 intro ds vs F H R Q fh h rx q;replace h:=kd1.of h;obtain⟨x,rfl,h⟩:=h;replace h:=kdI.of h;obtain⟨i,rfl,h⟩:=h;obtain⟨v,r,rfl,h1,h2⟩:=reps_cons.mp rx;rw[reps_nil.mp h2,rep_int.mp h1];exact#[_,rfl,q _ _ F H (Grow.refl fh) h (rep_int.mpr rfl)]
def eY[Jx](hm:X.mg "abs"=LH)(ha:WDA X [e] t)(hg:autoParam (Gl X "abs") zA0)(he:autoParam (zSE X e []) zA0):WDE X (.Call (.Name "abs" p) [e] [] pos) (dCB tm t):=#[have ha:=ha.out;gZ ye zI hm PyProof.Rows.boot_abs ha hg Mx Mx he]
end
section
variable {X:Cx}{a b c e:U6}{ta tb tc te:TD}{pos:Vf}
def dTst(t:TD):TDT:=λz R=>t z λx=>match x with|.bl k=>R k|_=>False
def cG[Jx]{op:W5}{r:R2}{rd:RD2}(ho:OpR X (Vm op) r)(L:aV X.K r rd)(ha:DE X a ta)(hb:DE X b tb)(hm:Vu op b=false):DT X (.Compare a [op] [b] pos) (dTst (dOp rd ta tb)):=(rM ho ha hb hm).anti λs H Q q=>by
 obtain⟨B,F,z,kf,rs,R,h1,h2⟩:=q;have fh:=kf.fh;refine#[B,F,z,kf,rs,_,h1,λx u F1 H1 g1 hx rx=>?_];refine#[B,F1,z,kf.grow g1,rs.grow g1,_,hx,λy v F2 H2 g2 hy ry=>?_];refine L x y u v F2 H2 _ _ g2.fh hy (rx.mono g2.ff) ry λd w F' H' g3 hd rd=>?_;split at hd
 .exact#[_,rep_bl.mp rd,h2 _ F' H' (g1.trans (g2.trans g3)) hd]
 .exact hd.elim
def eZ[Jx](ha:WDE X a ta)(hb:WDE X b tb):WDT X (.Compare a [.Lt] [b] pos) (dTst (dOp rdLt ta tb)):=#[have ha:=ha.out;have hb:=hb.out;cG rJ sT ha hb (nomark _)]
def kL[Jx](ha:WDE X a ta)(hb:WDE X b tb):WDT X (.Compare a [.LtE] [b] pos) (dTst (dOp rdLe ta tb)):=#[have ha:=ha.out;have hb:=hb.out;cG xW zD ha hb (nomark _)]
def fV[Jx](ha:WDE X a ta)(hb:WDE X b tb):WDT X (.Compare a [.Gt] [b] pos) (dTst (dOp rdGt ta tb)):=#[have ha:=ha.out;have hb:=hb.out;cG rK sU ha hb (nomark _)]
def tw[Jx](ha:WDE X a ta)(hb:WDE X b tb):WDT X (.Compare a [.GtE] [b] pos) (dTst (dOp rdGe ta tb)):=#[have ha:=ha.out;have hb:=hb.out;cG xX zE ha hb (nomark _)]
def bp[Jx](ha:WDE X a ta)(hb:WDE X b tb):WDT X (.Compare a [.Eq] [b] pos) (dTst (dOp rdEq ta tb)):=#[have ha:=ha.out;have hb:=hb.out;cG kh kI ha hb (nomark _)]
def bE[Jx](ha:WDE X a ta)(hb:WDE X b tb):WDT X (.Compare a [.NotEq] [b] pos) (dTst (dOp rdNe ta tb)):=#[have ha:=ha.out;have hb:=hb.out;cG rH sV ha hb (nomark _)]
def kM[Jx](ha:WDE X a ta)(hb:WDE X b tb):WDT X (.Compare a [.Is] [b] pos) (dTst (dOp (rdIs id) ta tb)):=#[have ha:=ha.out;have hb:=hb.out;cG rL sX ha hb (nomark _)]
def zJ[Jx](ha:WDE X a ta)(hb:WDE X b tb):WDT X (.Compare a [.IsNot] [b] pos) (dTst (dOp (rdIs not) ta tb)):=#[have ha:=ha.out;have hb:=hb.out;cG xY zF ha hb (nomark _)]
def dTru(t:TD):TDT:=λz R=>t z λx=>match x with
 |.non=>R false
 |.bl k=>R k
 |.int i=>R (i !=0)
 |.str y=>y.length<=1000/\R ((y.length:Int) !=0)
 |.tup xs=>R (!xs.isEmpty)
 |.lst xs=>R (!xs.isEmpty)
 |.rol xs=>R (!xs.isEmpty)
 |_=>False
variable{K:Ex}
def Reps.isEmpty{H:Hp}{ds:List D}{vs:List V}(r:Reps K H ds vs):vs.isEmpty=ds.isEmpty:=by
 cases ds with
 |nil=>rw[reps_nil.mp r];rfl
 |cons d ds=>obtain⟨v,r',rfl,_⟩:=reps_cons.mp r;rfl
def bI[Jx](ha:WDE X a ta)(he:autoParam (∀f7,isTrue a X.env f7=(do let v <-f7;VR a.pos;Vv [v] (truthy v))) zA3):WDT X a (dTru ta):=⟨have ha:=ha.out;(rN ha he).anti λs H Q q=>by
 obtain⟨B,F,z,kf,rs,R,h1,h2⟩:=q;have fh:=kf.fh;refine#[B,F,z,kf,rs,_,h1,λx u F1 H1 g1 hx rx=>?_];split at hx
 .rw[rep_non.mp rx];exact#[false,rfl,h2 _ F1 H1 g1 hx]
 .rw[rep_bl.mp rx];exact#[_,rfl,h2 _ F1 H1 g1 hx]
 .rw[rep_int.mp rx];exact#[_,rfl,h2 _ F1 H1 g1 hx]
 .rw[rep_str.mp rx];exact#[_,#[sz hx.1,rfl],h2 _ F1 H1 g1 hx.2]
 .obtain⟨p,vs,rfl,hq,rr⟩:=rep_tup_mp rx;exact#[_,.inr (.inl #[vs,g1.fh.tup hq,by rw[rr.isEmpty]]),h2 _ F1 H1 g1 hx]
 .obtain⟨p,vs,rfl,hq,rr⟩:=rep_lst.mp rx;exact#[_,.inl #[vs,g1.fh.seq (SqL.of hq),by rw[rr.isEmpty]],h2 _ F1 H1 g1 hx]
 .obtain⟨p,vs,rfl,hq,rr⟩:=rep_rol.mp rx;exact#[_,.inl #[vs,g1.fh.seq hq,by rw[rr.isEmpty]],h2 _ F1 H1 g1 hx]
 .exact hx.elim⟩
variable {tA LD:TDT}{rest:List U6}
def dAnd(t u:TDT):TDT:=λz R=>t z λc=>if c=true then u z R else R false
def dOr(t u:TDT):TDT:=λz R=>t z λc=>if c=true then R true else u z R
def dNot(t:TDT):TDT:=λz R=>t z λc=>R (!c)
def fW[Jx](ha:WDT X a tA):WDW X (.BoolOp .And [a] pos) tA:=#[have ha:=ha.out;qX ha]
def cH[Jx](ha:WDT X a tA):WDW X (.BoolOp .Or [a] pos) tA:=#[have ha:=ha.out;qY ha]
def fX[Jx](ha:WDT X a tA)(hb:WDW X (.BoolOp .And (b::rest) pos) LD):WDW X (.BoolOp .And (a::b::rest) pos) (dAnd tA LD):=⟨have ha:=ha.out;have hb:=hb.out;(qZ ha hb).anti λs H Q q=>by
 obtain⟨B,F,z,kf,rs,R,h1,h2⟩:=q;have fh:=kf.fh;refine#[B,F,z,kf,rs,_,h1,λk F1 H1 g1 hx=>?_];cases k with
 |true=>exact#[B,F1,z,kf.grow g1,rs.grow g1,R,hx,λb F' H' g=>h2 b F' H' (g1.trans g)]
 |false=>exact h2 _ F1 H1 g1 hx⟩
def cB[Jx](ha:WDT X a tA)(hb:WDW X (.BoolOp .Or (b::rest) pos) LD):WDW X (.BoolOp .Or (a::b::rest) pos) (dOr tA LD):=⟨have ha:=ha.out;have hb:=hb.out;(ra ha hb).anti λs H Q q=>by
 obtain⟨B,F,z,kf,rs,R,h1,h2⟩:=q;have fh:=kf.fh;refine#[B,F,z,kf,rs,_,h1,λk F1 H1 g1 hx=>?_];cases k with
 |false=>exact#[B,F1,z,kf.grow g1,rs.grow g1,R,hx,λb F' H' g=>h2 b F' H' (g1.trans g)]
 |true=>exact h2 _ F1 H1 g1 hx⟩
def bP[Jx](h:WDW X a tA):WDT X a tA:=#[have h:=h.out;PW.pt h]
def cI[Jx](ha:WDT X a tA):WDT X (.UnaryOp .Not a pos) (dNot tA):=⟨have ha:=ha.out;(rb ha).anti λs H Q q=>by
 obtain⟨B,F,z,kf,rs,R,h1,h2⟩:=q;have fh:=kf.fh;exact#[B,F,z,kf,rs,_,h1,λk F1 H1 g1 hx=>h2 _ F1 H1 g1 hx]⟩
def zK(ta tb:TD):TD:=λz R=>ta z λx=>match x with|.bl k=>if k=true then tb z R else R (.bl false)|_=>False
def zL(ta:TD):TD:=λz R=>ta z λx=>match x with|.bl k=>R (.bl (!k))|_=>False
def fY[Jx]{op}(h:WDE X a ta):WDE X (.BoolOp op [a] pos) ta:=#[have h:=h.out;xr h]
def fZ[Jx](ha:WDE X a ta)(hb:WDE X (.BoolOp .And (b::rest) pos) tb):WDE X (.BoolOp .And (a::b::rest) pos) (zK ta tb):=⟨have ha:=ha.out;have hb:=hb.out;(xt ha hb).anti λs H Q q=>by
 obtain⟨B,F,z,kf,rs,R,h1,h2⟩:=q;have fh:=kf.fh;refine#[B,F,z,kf,rs,_,h1,λx u F1 H1 g1 hx rx=>?_];split at hx
 .rename_i k;refine#[k,rep_bl.mp rx,?_];cases k with
  |true=>exact#[B,F1,z,kf.grow g1,rs.grow g1,R,hx,λd v F' H' g=>h2 d v F' H' (g1.trans g)]
  |false=>exact h2 _ _ F1 H1 g1 hx (rep_bl.mpr rfl)
 .exact hx.elim⟩
def tz[Jx](ha:WDE X a ta):WDE X (.UnaryOp .Not a pos) (zL ta):=⟨have ha:=ha.out;(xu ha).anti λs H Q q=>by
 obtain⟨B,F,z,kf,rs,R,h1,h2⟩:=q;have fh:=kf.fh;refine#[B,F,z,kf,rs,_,h1,λx u F1 H1 g1 hx rx=>?_];split at hx
 .exact#[_,rep_bl.mp rx,h2 _ _ F1 H1 g1 hx (rep_bl.mpr rfl)]
 .exact hx.elim⟩
def tyD:D->String
 |.non=>"NoneType"|.bl _=>"bool"|.int _=>"int"|.str _=>"str"|.tup _=>"tuple"|.lst _=>"list"|.rol _=>"list"|.obj _ _=>"object"|.exc _ _=>"object"|.own _=>"list"|.ptr _=>"object"|.dti _=>"dict"
def cJ(t:String)(x:D):Bool:=tyD x==t||(tyD x=="bool" && t=="int")
def TyQ(K:Ex)(H:Hp)(x:V)(t:String):Prop:=TyOf K H x (.type t)\/(t="tuple"/\∃a xs,x=.ref a/\SqT K H a xs)\/(t="list"/\∃a xs,x=.ref a/\SqL K H a xs)
def tD:bH X (.builtin "isinstance") (λxs H Q=>∃x t c k,xs=[x,.ty c]/\TyQ X.K H x t/\kitOne X.K (.type t) (.type c)=be k/\Q (.bl k) H):=by
 intro pins s σ H xs us Q I r h;obtain⟨x,t,c,k,rfl,ty,e,q⟩:=h;obtain⟨u,u',rfl,rx,rc⟩:=eQ r;cases(show u'=Value.type c from rc);rcases ty with ty|⟨rfl,a,ys,rfl,hq⟩|⟨rfl,a,ys,rfl,hq⟩
 .exact yp I rx ty e λtk=>#[.bl k,H,I.tok _,rfl,q]
 .cases(show u=Value.ref a from rx);obtain⟨its,_,⟨o,h1,h2,_⟩,_⟩:=I.tuple hq;exact kia_one kitx_tuple I.kIn #[o,h1,h2] e (λz=>nomatch z) λtk=>#[.bl k,H,I.tok _,rfl,q]
 .cases(show u=Value.ref a from rx);obtain⟨its,_,pl,_⟩:=I.list hq;obtain⟨o,n,h1,h2,_⟩:=pl;exact kia_one kitx_list I.kIn #[o,h1,h2] e (λz=>nomatch z) λtk=>#[.bl k,H,I.tok _,rfl,q]
def cK:D->Bool|.obj _ _=>false|.exc _ _=>false|.ptr _=>false|.dti _=>false|_=>true
def tE{F H:Hp}{x:D}{u:V}(fh:Same F H)(r:Rep K F x u)(no:cK x=true):TyQ K H u (tyD x):=by
 cases x with
 |non=>rw[rep_non.mp r];exact .inl .non
 |bl b=>rw[rep_bl.mp r];exact .inl (.bl b)
 |int b=>rw[rep_int.mp r];exact .inl (.int b)
 |str b=>rw[rep_str.mp r];exact .inl (.str b)
 |tup b=>obtain⟨a,vs,rfl,hq,_⟩:=rep_tup_mp r;exact .inr (.inl #[rfl,a,vs,rfl,fh.tup hq])
 |lst b=>obtain⟨a,vs,rfl,hq,_⟩:=rep_lst.mp r;exact .inr (.inr #[rfl,a,vs,rfl,fh.seq (SqL.of hq)])
 |rol b=>obtain⟨a,vs,rfl,hq,_⟩:=rep_rol.mp r;exact .inr (.inr #[rfl,a,vs,rfl,fh.seq hq])
 |obj C b=>cases no
 |exc C b=>cases no
 |ptr b=>cases no
 |dti b=>cases no
 |own b=>exact absurd r rep_own
def kN(t:String):D->(D->Prop)->Prop:=λx R=>match x with|.obj _ _=>False|.exc _ _=>False|.ptr _=>False|.dti _=>False|x=>R (.bl (cJ t x))
def dS[Jx]{p p2:Vf}{y:Ms}{t:String}(hm:X.mg "isinstance"=LH)(NU:X.mg y=LH)(ha:WDE X a ta)(hv:Vo y=be (.type t))
  (hk:∀x:D,cK x=true->kitOne X.K (.type (tyD x)) (.type t)=be (cJ t x)) (hg:autoParam (Gl X "isinstance") zA0) (MC:autoParam (Gl X y) zA0) (hn:autoParam (y≠"__name__") zA1) (c9:autoParam (zND y) zA1)
  (i8:autoParam (U' [a,.Name y p2] X.env=(false,Vd a X.env)::U' [.Name y p2] X.env) zA0) (i_:autoParam (U' [.Name y p2] X.env=(false,Vd (.Name y p2) X.env)::U' [] X.env) zA0) (c5:autoParam ((Vz pos (U' [.Name y p2] X.env)).any (·.1)=false) zA0):WDE X (.Call (.Name "isinstance" p) [a,.Name y p2] [] pos) (dUn (kN t) ta):=⟨have ha:=ha.out;(eU tD hg hm PyProof.Rows.boot_isinstance (bt ha (bt (jX (v:=.ty t) MC NU hv rfl hn c9) pa_nil i_) i8) Mx Mx i8 c5).anti λs H Q q=>by
 obtain⟨B,F,z,kf,rs,R,h1,h2⟩:=q;have fh:=kf.fh;refine#[B,F,z,kf,rs,_,h1,λx u F1 H1 g1 hx rx=>?_];have no:cK x=true:=by
  cases x with
  |obj C b=>exact False.elim hx
  |exc C b=>exact False.elim hx
  |ptr b=>exact False.elim hx
  |dti b=>exact False.elim hx
  |_=>rfl
 have f8:R (.bl (cJ t x)):=by
  cases x with
  |obj C b=>exact False.elim hx
  |exc C b=>exact False.elim hx
  |ptr b=>exact False.elim hx
  |dti b=>exact False.elim hx
  |_=>exact hx
 exact#[u,tyD x,t,_,rfl,tE g1.fh rx no,hk x no,h2 _ _ F1 H1 g1 f8 (rep_bl.mpr rfl)]⟩
def zM:∀x:D,cK x=true->kitOne K (.type (tyD x)) (.type "int")=be (cJ "int" x):=RS
def kit_bool:∀x:D,cK x=true->kitOne K (.type (tyD x)) (.type "bool")=be (cJ "bool" x):=RS
def kit_tuple:∀x:D,cK x=true->kitOne K (.type (tyD x)) (.type "tuple")=be (cJ "tuple" x):=RS
def kit_list:∀x:D,cK x=true->kitOne K (.type (tyD x)) (.type "list")=be (cJ "list" x):=RS
def kit_str:∀x:D,cK x=true->kitOne K (.type (tyD x)) (.type "str")=be (cJ "str" x):=RS
def toV:D->Option V
 |.non=>be .non|.bl b=>be (.bl b)|.int i=>be (.int i)|.str x=>be (.str x)|_=>LH
def bq(d:D):Bool:=(toV d).isSome
def eqF:D->D->Bool
 |.non,.non=>true
 |.bl a,.bl b=>a==b
 |.bl a,.int b=>(if a then 1 else 0)==b
 |.int a,.bl b=>a==(if b then 1 else 0)
 |.int a,.int b=>a==b
 |.str a,.str b=>a==b
 |_,_=>false
def eqFs:List D->List D->Bool
 |[],[]=>true
 |x::xs,y::ys=>eqF x y&&eqFs xs ys
 |_,_=>false
end
section
variable {X:Cx}{a b:U6}{ta tb:TD}{pos:Vf}
def eqVs:List V->List V->Bool
 |[],[]=>true
 |x::xs,y::ys=>eqV x y&&eqVs xs ys
 |_,_=>false
def tF:∀(xs ys:List V),((HS (min xs.length ys.length)).all (λj=>eqV (xs.getD j .non) (ys.getD j .non))&&xs.length==ys.length)=eqVs xs ys
 |[],[]=>rfl
 |[],_::_=>by simp[eqVs]
 |_::_,[]=>by simp[eqVs]
 |x::xs,y::ys=>by
  have ih:=tF xs ys;rw[eqVs,<-ih];have e:min (x::xs).length (y::ys).length=min xs.length ys.length+1:=by simp only[HX];lia
  rw[e,List.range_succ_eq_map,IJ,List.all_map];have e2:((x::xs).length==(y::ys).length)=(xs.length==ys.length):=MF
  rw[e2,Bool.and_assoc];rfl
variable{xs:List V}
def Vals.getD{us:List Os}{j:Nat}(r:Vals xs us)(h:j<us.length):RelV (xs.getD j .non) us[j]:=by
 have hl:=L2.Vals.length r;obtain⟨u,q1,q2⟩:=L2.Vals.get (i:=j) (x:=xs.getD j .non) r (by rw[Ih v4];simp[IL,Ih (show j<xs.length by lia)]);rw[Ih h]at q1;cases q1;exact q2
def flat_getD{j:Nat}(h:xs.all bw=true):bw (xs.getD j .non)=true:=by
 by_cases hj:j<xs.length
 .have q:=IQ.mp h xs[j] (Iv hj);simpa[IL,Ih hj]using q
 .simp[IL,IF (JT hj),bw]
def hU{K:Ex}{H:Hp}{x y:D}{u v:V}(rx:Rep K H x u)(ry:Rep K H y v)(fx:bq x=true)(fy:bq y=true):eqV u v=eqF x y:=by
 cases x with
 |tup _=>cases fx
 |lst _=>cases fx
 |rol _=>cases fx
 |obj _ _=>cases fx
 |exc _ _=>cases fx
 |ptr _=>cases fx
 |dti _=>cases fx
 |own _=>cases fx
 |non=>rw[rep_non.mp rx];cases y with
  |tup _=>cases fy
  |lst _=>cases fy
  |rol _=>cases fy
  |obj _ _=>cases fy
  |exc _ _=>cases fy
  |ptr _=>cases fy
  |dti _=>cases fy
  |own _=>cases fy
  |non=>rw[rep_non.mp ry];rfl
  |bl _=>rw[rep_bl.mp ry];rfl
  |int _=>rw[rep_int.mp ry];rfl
  |str _=>rw[rep_str.mp ry];rfl
 |bl _=>rw[rep_bl.mp rx];cases y with
  |tup _=>cases fy
  |lst _=>cases fy
  |rol _=>cases fy
  |obj _ _=>cases fy
  |exc _ _=>cases fy
  |ptr _=>cases fy
  |dti _=>cases fy
  |own _=>cases fy
  |non=>rw[rep_non.mp ry];rfl
  |bl _=>rw[rep_bl.mp ry];rfl
  |int _=>rw[rep_int.mp ry];rfl
  |str _=>rw[rep_str.mp ry];rfl
 |int _=>rw[rep_int.mp rx];cases y with
  |tup _=>cases fy
  |lst _=>cases fy
  |rol _=>cases fy
  |obj _ _=>cases fy
  |exc _ _=>cases fy
  |ptr _=>cases fy
  |dti _=>cases fy
  |own _=>cases fy
  |non=>rw[rep_non.mp ry];rfl
  |bl _=>rw[rep_bl.mp ry];rfl
  |int _=>rw[rep_int.mp ry];rfl
  |str _=>rw[rep_str.mp ry];rfl
 |str _=>rw[rep_str.mp rx];cases y with
  |tup _=>cases fy
  |lst _=>cases fy
  |rol _=>cases fy
  |obj _ _=>cases fy
  |exc _ _=>cases fy
  |ptr _=>cases fy
  |dti _=>cases fy
  |own _=>cases fy
  |non=>rw[rep_non.mp ry];rfl
  |bl _=>rw[rep_bl.mp ry];rfl
  |int _=>rw[rep_int.mp ry];rfl
  |str _=>rw[rep_str.mp ry];rfl
def fg{K:Ex}{H:Hp}{x:D}{u:V}(rx:Rep K H x u)(fx:bq x=true):bw u=true:=by
 cases x with
 |tup _=>cases fx
 |lst _=>cases fx
 |rol _=>cases fx
 |obj _ _=>cases fx
 |exc _ _=>cases fx
 |ptr _=>cases fx
 |dti _=>cases fx
 |own _=>cases fx
 |non=>rw[rep_non.mp rx];rfl
 |bl _=>rw[rep_bl.mp rx];rfl
 |int _=>rw[rep_int.mp rx];rfl
 |str _=>rw[rep_str.mp rx];rfl
def dh{K:Ex}{H:Hp}:∀{xs:List D} {us:List V},Reps K H xs us->xs.all bq=true->us.all bw=true
 |[],us,r,_=>by rw[reps_nil.mp r];rfl
 |x::xs,us,r,f=>by
  obtain⟨v,vr,rfl,r1,r2⟩:=reps_cons.mp r;rw[IJ,Io]at f ⊢;exact#[fg r1 f.1,dh r2 f.2]
def tG{K:Ex}{H:Hp}:∀{xs ys:List D} {us vs:List V},Reps K H xs us->Reps K H ys vs->xs.all bq=true->ys.all bq=true->eqVs us vs=eqFs xs ys
 |[],[],us,vs,r1,r2,_,_=>by rw[reps_nil.mp r1,reps_nil.mp r2];rfl
 |[],y::ys,us,vs,r1,r2,_,_=>by
  obtain⟨v,vr,rfl,_,_⟩:=reps_cons.mp r2;rw[reps_nil.mp r1];rfl
 |x::xs,[],us,vs,r1,r2,_,_=>by
  obtain⟨v,vr,rfl,_,_⟩:=reps_cons.mp r1;rw[reps_nil.mp r2];rfl
 |x::xs,y::ys,us,vs,r1,r2,f1,f2=>by
  obtain⟨u,ur,rfl,a1,a2⟩:=reps_cons.mp r1;obtain⟨v,vr,rfl,b1,b2⟩:=reps_cons.mp r2;rw[IJ,Io]at f1 f2;rw[eqVs,eqFs,hU a1 b1 f1.1 f2.1,tG a2 b2 f1.2 f2.2]
end
section
variable {X:Cx}{a b c e:U6}{ta tb tc te:TD}{pos:Vf}{st:U7}{rest:List U7}{t u:TSD}
def zN:TSD:=λE z=>E.nx z
def dSeq(t u:TSD):TSD:=λE z=>t {E with nx:=u E} z
def aO[Jx]:WDSs X [] zN:=⟨pss_nil.anti λE s H q=>by
 obtain⟨B,F0,F,z,k,rs,ED,h,e⟩:=q;exact e.nx z s F H k h rs⟩
def ai[Jx](h1:WDS X st t)(h2:WDSs X rest u):WDSs X (st::rest) (dSeq t u):=⟨have h1:=h1.out;have h2:=h2.out;(eL h1 h2).anti λE s H q=>by
 obtain⟨B,F0,F,z,k,rs,ED,h,e⟩:=q;exact#[B,F0,F,z,k,rs,{ED with nx:=u ED},h,#[λz' s' F' H' k' hz r'=>#[B,F0,F',z',k',r',ED,hz,e],e.rt,e.bk,e.ct]]⟩
def aj[Jx](h1:WDS X st t):WDSs X [st] t:=#[have h1:=h1.out;rg h1]
def dFrz(i:Nat)(t:TSD):TSD:=λE z=>match z[i]? with|some (be (.own ds))=>t E (z.set i (be (.lst ds)))|_=>False
def dm[Jx](i:Nat){NV:List U7}(h:WDSs X NV t):WDSs X NV (dFrz i t):=⟨have h:=h.out;PSs.anti h λE s H q=>by
 obtain⟨B,F0,F,z,k,rs,ED,h,e⟩:=q;unfold dFrz at h;split at h
 .rename_i ds ez;obtain⟨F',k',r'⟩:=rs.freeze k ez;exact#[B,F0,F',_,k',r',ED,h,e]
 .exact h.elim⟩
def dRet(te:TD):TSD:=λE z=>te z E.rt
def ay[Jx](he:WDE X e te):WDS X (.Return (be e) pos) (dRet te):=⟨have he:=he.out;(rh he).anti λE s H q=>by
 obtain⟨B,F0,F,z,k,rs,ED,h,e⟩:=q;exact#[B,F,z,k.kf,rs,_,h,λd v F' H' g hd rd=>e.rt d v F' H' (k.grow g) hd rd]⟩
def zO(te:TD):TSD:=λE z=>te z λ_=>E.nx z
def tH[Jx](he:WDE X e te)(hs:autoParam (Vl e LH pos.line X.env=pure false) zA0):WDS X (.Expr e pos) (zO te):=⟨have he:=he.out;(jY he hs).anti λE s H q=>by
 obtain⟨B,F0,F,z,k,rs,ED,h,e⟩:=q;exact#[B,F,z,k.kf,rs,_,h,λd v F' H' g hd rd=>e.nx z s F' H' (k.grow g) hd (rs.grow g)]⟩
def dIfS(c:TDT)(t u:TSD):TSD:=λE z=>c z λb=>if b=true then t E z else u E z
variable{l r:List U7}
def tI[Jx]{c:U6}{tc:TDT}(hc:DT X c tc)(ha:DSs X l t)(hb:DSs X r u):DS X (.If c l r pos) (dIfS tc t u):=(rj hc ha hb).anti λE s H q=>by
 obtain⟨B,F0,F,z,k,rs,ED,h,e⟩:=q;refine#[B,F,z,k.kf,rs,_,h,λb F1 H1 g hk=>?_];cases b with
 |true=>exact#[B,F0,F1,z,k.grow g,rs.grow g,ED,hk,e]
 |false=>exact#[B,F0,F1,z,k.grow g,rs.grow g,ED,hk,e]
def dIfJ(c:TDT)(t u:TSD):TSD:=λE z=>∃J:SD->Prop,(c z λb=>if b=true then t {E with nx:=J} z else u {E with nx:=J} z)/\∀z',J z'->E.nx z'
def fj[Jx]{c:U6}{tc:TDT}(hc:WDT X c tc)(ha:WDSs X l t)(hb:WDSs X r u):WDS X (.If c l r pos) (dIfJ tc t u):=⟨have hc:=hc.out;have ha:=ha.out;have hb:=hb.out;(tI hc ha hb).anti λE s H q=>by
 obtain⟨B,F0,F,z,k,rs,ED,⟨J,h,j⟩,e⟩:=q;exact#[B,F0,F,z,k,rs,{ED with nx:=J},h,#[λz' s' F' H' k' hz r'=>e.nx z' s' F' H' k' (j z' hz) r',e.rt,e.bk,e.ct]]⟩
def dSet(i:Nat)(te:TD):TSD:=λE z=>∃P:D->Prop,te z P/\∀d,P d->E.nx (z.set i (be d))
variable{x:Ms}
def ao[Jx](i:Nat){c7:Vf}(hN:X.N.Nodup)(he:WDE X e te)(hi:autoParam (X.N[i]?=be x) zA0)(hx:autoParam (Loc X.env.scope x) zA4)(hs:autoParam (Vl e (be (.Name x c7)) pos.line X.env=pure false) zA0)
  (hf:autoParam (zFN X x) zA2):WDS X (.Assign [.Name x c7] e pos) (dSet i te):=⟨have he:=he.out;(gN hN hi hx he hs hf).anti λE s H q=>by
 obtain⟨B,F0,F,z,k,rs,ED,⟨P,h,j⟩,e⟩:=q;exact#[B,F,z,k.kf,rs,P,h,λd v F' H' g hd rd=>e.nx _ _ F' H' (k.grow g) (j d hd) ((rs.grow g).set rd)]⟩
def dNew(i:Nat)(ta:TDA):TSD:=λE z=>ta z λds=>ds.length<=1000/\E.nx (z.set i (be (.own ds)))
variable{es:List U6}
def gc[Jx](i:Nat){c7 p2:Vf}{ta:TDA}(hN:X.N.Nodup)(he:WDA X es ta)(hi:autoParam (X.N[i]?=be x) zA0)(hx:autoParam (Loc X.env.scope x) zA4)(hs:autoParam (Vl (.List es p2) (be (.Name x c7)) pos.line X.env=pure false) zA0)
  (hf:autoParam (zFN X x) zA2):WDS X (.Assign [.Name x c7] (.List es p2) pos) (dNew i ta):=⟨have he:=he.out;(gN hN hi hx (kq he) hs hf).anti λE s H q=>by
 obtain⟨B,F0,F,z,k,rs,ED,h,e⟩:=q;refine#[B,F,z,k.kf,rs,_,h,λds vs F1 H1 g hd rd=>?_];have hl:=rd.length;refine#[sz (by rw[hl];exact hd.1),λp hp=>?_];have k1:=k.grow g;have r1:=rs.grow g;have hB:B p=none:=k1.bh.free hp;have hF:F1 p=none:=k1.fh.free hp;refine e.nx _ _ F1 _ #[k1.bh.trans (aN hp _),k1.fh.trans (aN hp _),k1.f0,k1.out,k1.eb,k1.jf,k1.jo] hd.2 (r1.setOwn hB hF rd λj dj hj e1 e2=>?_);obtain⟨a,us,q1,q2,_⟩:=r1.own j dj e1;rw[e2]at q1;cases q1;rw[hp]at q2;cases q2⟩
def dApp(i:Nat)(te:TD):TSD:=λE z=>match z[i]? with|some (be (.own ds))=>(te z λd=>ds.length<=100000/\E.nx (z.set i (be (.own (ds++[d])))))|_=>False
def fk{K:Ex}{F:Hp}{d:D}{v:V}(r:Rep K F d v):Reps K F [d] [v]:=reps_cons.mpr #[v,[],rfl,r,reps_nil.mpr rfl]
def gf[Jx](i:Nat){p1 apos cpos:Vf}(he:WDE X e te)(hN:autoParam (X.N[i]?=be x) zA0)(hv:autoParam (Vis X.env.scope x) zA5)(hd:autoParam (zND x) zA1)
  (g5:autoParam (zNC x) zA1) (i8:autoParam (zSE X e []) zA0)
  (b7:autoParam (Vc (.Name x p1) "append" X.env (Vd (.Name x p1) X.env)=Vd (.Name x p1) X.env) zA0)
  (d6:autoParam (zHF X cpos [e]) zA0)
  (b_:autoParam ((apos.endLine==cpos.line)=true) zA0) (LN:autoParam (Vl (.Call (.Attribute (.Name x p1) "append" apos) [e] [] cpos) LH pos.line X.env=pure false) zA0):WDS X (.Expr (.Call (.Attribute (.Name x p1) "append" apos) [e] [] cpos) pos) (dApp i te):=⟨have he:=he.out;(jY (df PySem.F.plainAttrs_list PySem.F.slot_list_append PySem.F.type_list_append kA (cS hN hv hd g5) (bt he pa_nil i8) b7 d6 b_ i8) LN).anti λE s H q=>by
 obtain⟨B,F0,F,z,k,rs,ED,h,e⟩:=q;unfold dApp at h;split at h
 .rename_i ds ez;obtain⟨a,vs,q1,q2,q3,q4,q5⟩:=rs.own i ds ez;refine#[.ref a,q1,.inl #[rfl,vs,SqL.of q2],?_];refine#[B,F,z,k.kf,rs,_,h,λd v F1 H1 g hd rd=>?_];have k1:=k.grow g;have r1:=rs.grow g;have a1:H1 a=be (.lst vs):=g.hh a _ q2;have f1:F1 a=none:=g.out a q4 (by rw[q2];exact λz=>nomatch z);have hl:vs.length=ds.length:=q5.length;have hz:vs.length<sizeLine:=by
   have h1:ds.length<=100000:=hd.1;have h2:(100000:Nat)<sizeLine:=Mx
   lia
  refine#[a,vs,v,rfl,rfl,a1,hz,?_];have same:∀{G:Hp},G a=LH->Same G H1->Same G (upd H1 a (.lst (vs++[v]))):=λ{G} ga gs b o eb=>by
   have ne:b≠a:=λz=>by rw[z,ga]at eb;cases eb
   rw[ar ne];exact gs b o eb
  have r2:=r1.setOwn (i:=i) (a:=a) (vs:=vs++[v]) (ds:=ds++[d]) q3 f1 ((q5.mono g.ff).append (fk rd)) (λj dj hj e1 e2=>hj (rs.apart j i dj ds a e1 ez e2 q1));have es:s.set i (be (.ref a))=s:=by
   apply Jq;intro n;by_cases hn:i=n
   .subst hn;rw[IG (Ia.mp q1).1,q1]
   .rw[Ie hn]
  rw[es]at r2;exact e.nx _ s F1 _ #[same q3 k1.bh,same f1 k1.fh,k1.f0,k1.out,k1.eb,k1.jf,k1.jo] hd.2 r2
 .exact h.elim⟩
def aW:List Nat->List D->SD->SD
 |i::is,d::ds,z=>aW is ds (z.set i (be d))
 |_,_,z=>z
def DGs(X:Cx)(ts:List U6)(is:List Nat):Prop:=∃u:TGs,PGs X ts u/\∀(ds:List D) (vs:List V) (z:SD) (s:L2.St) (B F H:Hp) (Q:L2.St->Hp->Prop),ds.length=is.length->Reps X.K F ds vs->RepS X.K B F H z s->(∀s',RepS X.K B F H (aW is ds z) s'->Q s' H)->u vs s H Q
def du[Jx]:DGs X [] []:=⟨_,xC,λds vs z s B F H Q hl r rs q=>by
 cases ds with
 |nil=>exact#[reps_nil.mp r,q s rs]
 |cons _ _=>cases hl⟩
variable{p:Vf}{is:List Nat}
def dg_cons[Jx](i:Nat)(hN:X.N.Nodup)(h2:DGs X es is)(hi:autoParam (X.N[i]?=be x) zA0)(hx:autoParam (Loc X.env.scope x) zA4)(hf:autoParam (zFN X x) zA2)
  (hs:autoParam ((Vb (.Name x p::es) X.env).map (·.2)=VJ (.Name x p) X.env::(Vb es X.env).map (·.2)) zA0):DGs X (.Name x p::es) (i::is):=by
 obtain⟨u,hu,k⟩:=h2;refine#[_,xD (eN hN hi hx hf) hu hs,λds vs z s B F H Q hl r rs q=>?_];cases ds with
 |nil=>cases hl
 |cons d ds=>
  obtain⟨v,vr,rfl,r1,r2⟩:=reps_cons.mp r;exact#[v,vr,rfl,k ds vr _ _ B F H Q (Nat.succ.inj hl) r2 (rs.set r1) q]
def zP(is:List Nat)(te:TD):TSD:=λE z=>te z λx=>match x with|.tup ds=>ds.length=is.length/\E.nx (aW is ds z)|_=>False
def kO[Jx]{k:Nat}(hc:X.calm=true)(he:WDE X e te)(hg:DGs X es is)(hn:autoParam ((Vb es X.env).length=is.length) zA0)(l5:autoParam ((Vb es X.env).findIdx? (·.1)=none) zA0)
  (hs:autoParam (VC [.Tuple es k p] e pos.line X.env=pure false) zA0) (hw:autoParam (VD [.Tuple es k p] e X.env=pure none) zA0) (h1:autoParam ((Vb [.Tuple es k p] X.env).map (·.2)=[VJ (.Tuple es k p) X.env]) zA0):WDS X (.Assign [.Tuple es k p] e pos) (zP is te):=⟨by
 have he:=he.out;obtain⟨u,hu,kk⟩:=hg;refine(gM he (gL hc hu hn l5) hs hw h1).anti λE s H q=>?_;obtain⟨B,F0,F,z,k,rs,ED,h,e⟩:=q;refine#[B,F,z,k.kf,rs,_,h,λd v F' H' g hd rd=>?_];split at hd
 .obtain⟨p,vs,rfl,hq,rr⟩:=rep_tup_mp rd;exact#[p,vs,rfl,g.fh.tup hq,by rw[rr.length];exact hd.1,kk _ vs z s B F' H' _ hd.1 rr (rs.grow g) λs' r'=>e.nx _ _ F' H' (k.grow g) hd.2 r']
 .exact hd.elim⟩
def dPar(i j:Nat)(ta:TDA):TSD:=λE z=>ta z λds=>match ds with|[x,y]=>E.nx ((z.set i (be x)).set j (be y))|_=>False
def zQ[Jx](i j:Nat){y:Ms}{t:TDA}{px py pt:Vf}{kt k2 Mr}(hc:X.calm=true)(hN:X.N.Nodup)(ha:WDA X [a,b] t)(hi:autoParam (X.N[i]?=be x) zA0)(hj:autoParam (X.N[j]?=be y) zA0)(Pf:autoParam (i≠j) zA1)
  (hx:autoParam (X.env.scope.names.lookup x=be .local) zA0) (hy:autoParam (X.env.scope.names.lookup y=be .local) zA0)
  (hw:autoParam (VD [.Tuple [.Name x px,.Name y py] kt pt] (.Tuple [a,b] k2 Mr) X.env=pure (be [x,y])) zA0)
  (hs:autoParam (VC [.Tuple [.Name x px,.Name y py] kt pt] (.Tuple [a,b] k2 Mr) pos.line X.env=pure false) zA0):WDS X (.Assign [.Tuple [.Name x px,.Name y py] kt pt] (.Tuple [a,b] k2 Mr) pos) (dPar i j t):=⟨have ha:=ha.out;(xF hc hN hi hj Pf hx hy ha hw hs).anti λE s H q=>by
 obtain⟨B,F0,F,z,k,rs,ED,h,e⟩:=q;refine#[B,F,z,k.kf,rs,_,h,λds vs F' H' g hd rd=>?_];split at hd
 .obtain⟨v,r,rfl,r1,r2⟩:=reps_cons.mp rd;obtain⟨w,r,rfl,r3,r4⟩:=reps_cons.mp r2;rw[reps_nil.mp r4];exact#[v,w,rfl,e.nx _ _ F' H' (k.grow g) hd (((rs.grow g).set r1).set r3)]
 .exact hd.elim⟩
def zR(c:TDT)(tb:TSD):TSD:=λE z=>∃W:Nat->SD->Prop,(∃m,W m z)/\∀m z,W m z->
 c z λb=>if b=true then tb {E with nx:=λz'=>∃m',m'<m/\W m' z',ct:=λz'=>∃m',m'<m/\W m' z',bk:=E.nx} z else E.nx z
variable{body:List U7}
def gh[Jx]{c:U6}{tc:TDT}{tb:TSD}(hp:Vs (SZ X.prog X.w) X.A X.env X.xe)(hc:WDT X c tc)(hb:WDSs X body tb):WDS X (.While c body [] pos) (zR tc tb):=⟨have hc:=hc.out;have hb:=hb.out;(rk hp hc hb).anti λE s H q=>by
 obtain⟨B,F0,F,z,k,rs,ED,⟨W,⟨m0,w0⟩,c8⟩,e⟩:=q;refine#[λm s' H'=>∃F' z',Kept B F0 F' H'/\RepS X.K B F' H' z' s'/\W m z',#[m0,F,z,k,rs,w0],?_];rintro m s1 H1⟨F1,z1,k1,r1,w1⟩;refine#[B,F1,z1,k1.kf,r1,_,c8 m z1 w1,λb F2 H2 g2 hk=>?_];cases b with
 |true=>
  refine#[λs3 H3=>∃F3 z3,Kept B F0 F3 H3/\RepS X.K B F3 H3 z3 s3/\∃m',m'<m/\W m' z3,λs3 H3 ⟨F3,z3,k3,r3,m',l,w3⟩=>#[m',l,F3,z3,k3,r3,w3],?_];exact#[B,F0,F2,z1,k1.grow g2,r1.grow g2,_,hk,#[λz3 s3 F3 H3 k3 h3 r3=>#[F3,z3,k3,r3,h3],e.rt,e.nx,λz3 s3 F3 H3 k3 h3 r3=>#[F3,z3,k3,r3,h3]]]
 |false=>exact e.nx z1 s1 F2 H2 (k1.grow g2) hk (r1.grow g2)⟩
abbrev TDI:=SD->(List D->Prop)->Prop
def dItL(t:TD):TDI:=λz R=>t z λx=>match x with|.lst ds=>R ds|.rol ds=>R ds|_=>False
def dItR(t:TD):TDI:=λz R=>t z λx=>match x with|.int n=>(0<=n/\n<2^62)/\R ((HS n.toNat).map λk=>D.int ((k:Nat):Int))|_=>False
def dFor(i:Nat)(ti:TDI)(tb:TSD):TSD:=λE z=>ti z λds=>∃W:Nat->SD->Prop,W 0 z/\(∀k x z,ds[k]?=be x->W k z->tb {E with nx:=W (k+1),ct:=W (k+1),bk:=E.nx} (z.set i (be x)))/\∀z,W ds.length z->E.nx z
def Reps.get'{K:Ex}{H:Hp}{ds:List D}{vs:List V}{k:Nat}{v:V}(r:Reps K H ds vs)(e:vs[k]?=be v):∃d,ds[k]?=be d/\Rep K H d v:=by
 have hk:k<ds.length:=by rw[<-r.length];exact(Ia.mp e).1
 obtain⟨u,q1,q2⟩:=r.get (Ih hk);rw[e]at q1;cases q1;exact#[_,Ih hk,q2]
def hV[Jx](i:Nat){tb:TSD}(hp:Vs (SZ X.prog X.w) X.A X.env X.xe)(hc:X.calm=true)(hN:X.N.Nodup)(he:WDE X e te)(hb:WDSs X body tb)(hi:autoParam (X.N[i]?=be x) zA0)(hx:autoParam (Loc X.env.scope x) zA4)
  (hf:autoParam (zFN X x) zA2) (hs:autoParam (∀y,zFS X e y) zA3):WDS X (.For (.Name x p) e body [] pos) (dFor i (dItL te) tb):=⟨have he:=he.out;have hb:=hb.out;(db hp hc (rn he) (eN hN hi hx hf) hb hs).anti λE s H q=>by
 obtain⟨B,F0,F,z,kp,rs,ED,h,e⟩:=q;refine#[B,F,z,kp.kf,rs,_,h,λd v F1 H1 g1 hd rd=>?_];split at hd
 .obtain⟨p,vs,rfl,hq,rr⟩:=rep_lst.mp rd;obtain⟨W,w0,c8,out⟩:=hd;refine#[p,rfl,#[vs,g1.fh.seq (SqL.of hq)],rB (K:=X.K) (a:=p) (xs:=vs) (λk s' H'=>∃F' z',Kept B F0 F' H'/\Same F1 F'/\RepS X.K B F' H' z' s'/\W k z') #[F1,z,kp.grow g1,Same.refl F1,rs.grow g1,w0] (λk s' H' _ ⟨F',z',k',g',r',w'⟩=>k'.fh.seq (g'.seq (SqL.of hq))) ?_ ?_]
  .rintro k y s' H' hk⟨F',z',k',g',r',w'⟩;obtain⟨d,hd,ry⟩:=rr.get' hk;refine#[B,F',F',_,#[k'.bh,k'.fh,Same.refl F',λb h1 _=>h1,k'.eb,k'.jf.trans k'.f0,λb h1 h2=>k'.out b (k'.jo b h1 h2) h2],r'.set (ry.mono g'),_,c8 k d z' hd w',?_];have up:∀{F2 H2:Hp},Kept B F' F2 H2->Kept B F0 F2 H2:=λk2=>#[k2.bh,k2.fh,k'.f0.trans k2.f0,λb h1 h2=>k2.out b (k'.out b h1 h2) h2,k'.eb,k'.jf,k'.jo];exact#[λz3 s3 F3 H3 k3 h3 r3=>#[F3,z3,up k3,g'.trans k3.f0,r3,h3],λd v F3 H3 k3=>e.rt d v F3 H3 (up k3),λz3 s3 F3 H3 k3=>e.nx z3 s3 F3 H3 (up k3),λz3 s3 F3 H3 k3 h3 r3=>#[F3,z3,up k3,g'.trans k3.f0,r3,h3]]
  .rintro s' H'⟨F',z',k',g',r',w'⟩;exact e.nx z' s' F' H' k' (out z' (by rw[<-rr.length];exact w')) r'
 .obtain⟨p,vs,rfl,hq,rr⟩:=rep_rol.mp rd;obtain⟨W,w0,c8,out⟩:=hd;refine#[p,rfl,#[vs,g1.fh.seq hq],rB (K:=X.K) (a:=p) (xs:=vs) (λk s' H'=>∃F' z',Kept B F0 F' H'/\Same F1 F'/\RepS X.K B F' H' z' s'/\W k z') #[F1,z,kp.grow g1,Same.refl F1,rs.grow g1,w0] (λk s' H' _ ⟨F',z',k',g',r',w'⟩=>k'.fh.seq (g'.seq hq)) ?_ ?_]
  .rintro k y s' H' hk⟨F',z',k',g',r',w'⟩;obtain⟨d,hd,ry⟩:=rr.get' hk;refine#[B,F',F',_,#[k'.bh,k'.fh,Same.refl F',λb h1 _=>h1,k'.eb,k'.jf.trans k'.f0,λb h1 h2=>k'.out b (k'.jo b h1 h2) h2],r'.set (ry.mono g'),_,c8 k d z' hd w',?_];have up:∀{F2 H2:Hp},Kept B F' F2 H2->Kept B F0 F2 H2:=λk2=>#[k2.bh,k2.fh,k'.f0.trans k2.f0,λb h1 h2=>k2.out b (k'.out b h1 h2) h2,k'.eb,k'.jf,k'.jo];exact#[λz3 s3 F3 H3 k3 h3 r3=>#[F3,z3,up k3,g'.trans k3.f0,r3,h3],λd v F3 H3 k3=>e.rt d v F3 H3 (up k3),λz3 s3 F3 H3 k3=>e.nx z3 s3 F3 H3 (up k3),λz3 s3 F3 H3 k3 h3 r3=>#[F3,z3,up k3,g'.trans k3.f0,r3,h3]]
  .rintro s' H'⟨F',z',k',g',r',w'⟩;exact e.nx z' s' F' H' k' (out z' (by rw[<-rr.length];exact w')) r'
 .exact hd.elim⟩
def bQ[Jx](i:Nat){p1 p2:Vf}{tb:TSD}(hp:Vs (SZ X.prog X.w) X.A X.env X.xe)(hc:X.calm=true)(hN:X.N.Nodup)(hm:X.mg "range"=LH)(he:WDE X e te)(hb:WDSs X body tb)(hg:autoParam (Gl X "range") zA0)(hi:autoParam (X.N[i]?=be x) zA0)(hx:autoParam (Loc X.env.scope x) zA4)
  (hf:autoParam (zFN X x) zA2) (hs:autoParam (∀y,zFS X (.Call (.Name "range" p1) [e] [] p2) y) zA3) (t6:autoParam (zSE X e []) zA0) (g9:autoParam (U' [e] X.env=[(false,Vd e X.env)]) zA0):WDS X (.For (.Name x p) (.Call (.Name "range" p1) [e] [] p2) body [] pos) (dFor i (dItR te) tb):=⟨have he:=he.out;have hb:=hb.out;(db hp hc (kd hg hm (bt he pa_nil t6) g9) (eN hN hi hx hf) hb hs).anti λE s H q=>by
 obtain⟨B,F0,F,z,kp,rs,ED,h,e⟩:=q;refine#[B,F,z,kp.kf,rs,_,h,λd v F1 H1 g1 hd rd=>?_];split at hd
 .rename_i n;obtain⟨⟨b1,b2⟩,W,w0,c8,out⟩:=hd;have hl:((HS n.toNat).map λk=>D.int ((k:Nat):Int)).length=n.toNat:=by simp
  refine#[n,by rw[rep_int.mp rd],v4,b2,ke (lo:=0) (n:=n.toNat) (λk s' H'=>∃F' z',Kept B F0 F' H'/\RepS X.K B F' H' z' s'/\W k z') #[F1,z,kp.grow g1,rs.grow g1,w0] ?_ ?_]
  .rintro k s' H' hk⟨F',z',k',r',w'⟩;have e1:(0:Int)+(k:Int)=(k:Int):=by lia
   exact#[B,F0,F',_,k',r'.set (d:=.int (k:Int)) (rep_int.mpr (by rw[e1])),_,c8 k (.int (k:Int)) z' (by simp[hk]) w',#[λz3 s3 F3 H3 k3 h3 r3=>#[F3,z3,k3,r3,h3],e.rt,e.nx,λz3 s3 F3 H3 k3 h3 r3=>#[F3,z3,k3,r3,h3]]]
  .rintro s' H'⟨F',z',k',r',w'⟩;exact e.nx z' s' F' H' k' (out z' (by rw[hl];exact w')) r'
 .exact hd.elim⟩
end
section
variable {P:U8}{w:U_}{K:Ex}{mg:Ms->Option Os}{base:Heap}
variable{N ps:List Ms}
def _root_.L2.Fun.okD{x qual:Ms}{st:U7}{f:Addr}{fd:Ve}{k:Nat}{S:SpD}(T:Fun K x qual st f fd)(F:FnScope N ps (ah st))(len:∀ds R,S ds R->ds.length=ps.length)
  (a8:∀(cdv:Os) (A:Va) (outer:List VS) (s:P3) (H:Hp) (E:XK) (J:Jx),Room k (A.deeper (Vh qual (ah st) s.heap.objs.size f cdv))->
   ∃t,DSs (cxOf (Exc.CX1 P w) P w K mg base N qual (ah st) f cdv A outer s H E).nox (aK st) t/\∀ds R,S ds R->t {nx:=λ_=>R .non,rt:=R} (startD N ds)):FnOk P w K mg base (Exc.CX1 P w) (k+1) f fd ps (lSp K S):=by
 refine Fun.okC T F (λvs H Q E h=>?_) (λcdv A outer s H vs Q E hr h=>?_)
 .obtain⟨F,ds,fh,rs,R,h,_⟩:=h;rw[rs.length];exact len ds R h
 .obtain⟨F,ds,fh,rs,R,h,q⟩:=h
  letI:Jx:=#[H,F,λ_ _ _=>False]
  obtain⟨t,ht,hq⟩:=a8 cdv A outer s H E inferInstance hr;refine#[_,ht.nox,H,F,F,startD N ds,#[Same.refl H,fh,Same.refl F,λ_ h _=>h,rfl,Same.refl F,λ_ h _=>h],dQ rs,_,hq ds R h,#[λz' s' F' H' k hn _=>q _ _ F' H' #[k.f0,k.fh,k.bh,k.out] hn (rep_non.mpr rfl),λd v F' H' k hd rd=>q d v F' H' #[k.f0,k.fh,k.bh,k.out] hd rd,λ_ _ _ _ _ h _=>h.elim,λ_ _ _ _ _ h _=>h.elim]]
def Tx.okD{x:Ms}{st:U7}{k:Nat}{S:SpD}(T:Tx K mg x st ps)(F:FnScope N ps (ah st))(len:∀ds R,S ds R->ds.length=ps.length)
  (a8:∀(f:Addr) (cdv:Os) (A:Va) (outer:List VS) (s:P3) (H:Hp) (E:XK) (J:Jx),Room k (A.deeper (Vh x (ah st) s.heap.objs.size f cdv))->
   ∃t,DSs (cxOf (Exc.CX1 P w) P w K mg base N x (ah st) f cdv A outer s H E).nox (aK st) t/\∀ds R,S ds R->t {nx:=λ_=>R .non,rt:=R} (startD N ds)):CalD P w K mg base (k+1) x ps S:=by
 obtain⟨f,fd,T,hb,hm⟩:=T;exact#[f,fd,T.okD F len λcdv A outer s H E J hr=>a8 f cdv A outer s H E J hr,hb,T.kp,hm]
end
def fo:SpD:=λds R=>∃ns:List Int,ds=[.rol (ns.map D.int)]/\ns.length<=63/\R (.bl true)
def zS{a:Addr}{ns:List Int}(hl:ns.length<=63)(hS:SqL K H a (ns.map V.int)){E:XK}:lSp K fo [.ref a] H (λv _=>v=.bl true) E:=
 #[H,[.rol (ns.map D.int)],Same.refl H,reps_cons.mpr #[_,_,rfl,rep_rol.mpr #[a,_,rfl,hS,Reps.ints.mpr rfl],reps_nil.mpr rfl],λd=>d=.bl true,#[ns,rfl,hl,rfl],λd v F' H' _ hd rd=>by subst hd;exact rep_bl.mp rd]
section
variable {X:Cx}{a b c e:U6}{ta tb tc te:TD}{pos:Vf}
variable{p:Vf}{es:List U6}{t:TDA}
def kP[Jx]{x:Ms}{T:String}{r:List V->Hp->VK->Prop}{rd:RDn}(hc:bH X (.type T) r)(L:cA X.K r rd)(hm:X.mg x=LH)(hv:Vo x=be (.type T))(ha:DA X (e::es) t)(hg:autoParam (Gl X x) zA0)(hn:autoParam (x≠"__name__") zA1)(c9:autoParam (zND x) zA1)
  (he:autoParam (zSE X e es) zA0) (c5:autoParam (zPL X pos es) zA0):DE X (.Call (.Name x p) (e::es) [] pos) (dCB rd t):=(kr hc hg hm hv ha hn c9 he c5).anti λs H Q h=>by
 obtain⟨B,F,z,kf,rs,R,h1,h2⟩:=h;have fh:=kf.fh;refine#[B,F,z,kf,rs,_,h1,λds vs F1 H1 g1 hx rx=>?_];exact L ds vs F1 H1 R Q g1.fh hx rx λd w F' H' g=>h2 d w F' H' (g1.trans g)
def rdStr:RDn:=λds R=>match ds with|[.int i]=>i.natAbs<18446744073709551616/\R (.str (toString i))|_=>False
variable{K:Ex}
def zT:cA K (λxs H Q=>∃i,xs=[.int i]/\i.natAbs.log2<1920/\Q (.str (toString i)) H) rdStr:=by
 intro ds vs F H R Q fh h rx q;unfold rdStr at h;split at h
 .obtain⟨v,r,rfl,h1,h2⟩:=reps_cons.mp rx;rw[reps_nil.mp h2,rep_int.mp h1];refine#[_,rfl,?_,q _ _ F H (Grow.refl fh) h.2 (rep_str.mpr rfl)];rename_i i;by_cases h0:i.natAbs=0
  .rw[h0];decide
  .have:=(KM h0).mpr (show i.natAbs<2^64 from h.1);lia
 .exact h.elim
def dv[Jx](hm:X.mg "str"=LH)(ha:WDA X [e] t)(hg:autoParam (Gl X "str") zA0)(he:autoParam (zSE X e []) zA0):WDE X (.Call (.Name "str" p) [e] [] pos) (dCB rdStr t):=#[have ha:=ha.out;kP yi zT hm PyProof.Rows.boot_str ha hg Mx Mx he]
def kQ:RDn:=λds R=>kd1 ds λx=>match x with
 |.int i=>R (.int i)
 |.bl k=>R (.int (if k then 1 else 0))
 |.str x=>∃n,(PySem.intText? x=be n/\x.length<=640)/\R (.int n)
 |_=>False
def tJ:bH X (.type "int") (λxs H Q=>((∃i,xs=[.int i]/\Q (.int i) H)\/∃k,xs=[.bl k]/\Q (.int (if k then 1 else 0)) H)\/∃x n,xs=[.str x]/\PySem.intText? x=be n/\x.length<=640/\Q (.int n) H):=by
 intro pins s σ H xs us Q I r h;rcases h with h|⟨x,n,rfl,h1,h2,q⟩
 .exact yh pins s σ H xs us Q I r h
 .obtain⟨u,rfl,t,rfl⟩:=ce r;exact PySem.W.KIN.call_text h1 h2 #[.int n,H,I.tok _,#[_,rfl],q]
def tK:cA K (λxs H Q=>((∃i,xs=[.int i]/\Q (.int i) H)\/∃k,xs=[.bl k]/\Q (.int (if k then 1 else 0)) H)\/∃x n,xs=[.str x]/\PySem.intText? x=be n/\x.length<=640/\Q (.int n) H) kQ:=by
 intro ds vs F H R Q fh h rx q;replace h:=kd1.of h;obtain⟨x,rfl,h⟩:=h;obtain⟨v,r,rfl,h1,h2⟩:=reps_cons.mp rx;rw[reps_nil.mp h2];cases x with
 |int i=>
  rw[rep_int.mp h1];exact .inl (.inl #[_,rfl,q _ _ F H (Grow.refl fh) h (rep_int.mpr rfl)])
 |bl k=>
  rw[rep_bl.mp h1];exact .inl (.inr #[_,rfl,q _ _ F H (Grow.refl fh) h (rep_int.mpr rfl)])
 |str x=>
  rw[rep_str.mp h1];obtain⟨n,⟨e1,e2⟩,h⟩:=h;exact .inr #[_,n,rfl,e1,e2,q _ _ F H (Grow.refl fh) h (rep_int.mpr rfl)]
 |_=>exact False.elim h
def hZ[Jx](hm:X.mg "int"=LH)(ha:WDA X [e] t)(hg:autoParam (Gl X "int") zA0)(he:autoParam (zSE X e []) zA0):WDE X (.Call (.Name "int" p) [e] [] pos) (dCB kQ t):=#[have ha:=ha.out;kP tJ tK hm PyProof.Rows.boot_int ha hg Mx Mx he]
def tL:RDn:=λds R=>kd1 ds λx=>match x with|.lst xs=>R (.lst xs)|.tup xs=>R (.lst xs)|.rol xs=>R (.lst xs)|_=>False
def zU:cA K (λxs H Q=>∃p ys,xs=[.ref p]/\(SqL K H p ys\/SqT K H p ys)/\∀l,H l=LH->Q (.ref l) (upd H l (.lst ys))) tL:=by
 intro ds vs F H R Q fh h rx q;replace h:=kd1.of h;obtain⟨x,rfl,h⟩:=h;obtain⟨v,r,rfl,h1,h2⟩:=reps_cons.mp rx;rw[reps_nil.mp h2];cases x with
 |lst xs=>
  obtain⟨a,us,rfl,hq,rs⟩:=rep_lst.mp h1;exact#[a,us,rfl,.inl (fh.seq (SqL.of hq)),λl hl=>q _ _ _ _ (Grow.new fh hl _) h (rep_lst.mpr #[l,us,rfl,aC,rs.mono (aN (fh.free hl) _)])]
 |tup xs=>
  obtain⟨a,us,rfl,hq,rs⟩:=rep_tup_mp h1;exact#[a,us,rfl,.inr (fh.tup hq),λl hl=>q _ _ _ _ (Grow.new fh hl _) h (rep_lst.mpr #[l,us,rfl,aC,rs.mono (aN (fh.free hl) _)])]
 |rol xs=>
  obtain⟨a,us,rfl,hq,rs⟩:=rep_rol.mp h1;exact#[a,us,rfl,.inl (fh.seq hq),λl hl=>q _ _ _ _ (Grow.new fh hl _) h (rep_lst.mpr #[l,us,rfl,aC,rs.mono (aN (fh.free hl) _)])]
 |_=>exact False.elim h
def zV[Jx](hm:X.mg "list"=LH)(ha:WDA X [e] t)(hg:autoParam (Gl X "list") zA0)(he:autoParam (zSE X e []) zA0):WDE X (.Call (.Name "list" p) [e] [] pos) (dCB tL t):=#[have ha:=ha.out;kP sr zU hm PyProof.Rows.boot_list ha hg Mx Mx he]
def tM:RDn:=λds R=>kd2 ds λx y=>kdI x λi=>kdI y λj=>R (.int (if j>i then j else i))
def tN:RDn:=λds R=>kd2 ds λx y=>kdI x λi=>kdI y λj=>R (.int (if j<i then j else i))
def zW:cA K (λxs H Q=>∃i j,xs=[.int i,.int j]/\Q (.int (if j>i then j else i)) H) tM:=by
 intro ds vs F H R Q fh h rx q;replace h:=kd2.of h;obtain⟨x,y,rfl,h⟩:=h;replace h:=kdI.of h;obtain⟨i,rfl,h⟩:=h;replace h:=kdI.of h;obtain⟨j,rfl,h⟩:=h;obtain⟨v,r,rfl,h1,h2⟩:=reps_cons.mp rx;obtain⟨v',r',rfl,h3,h4⟩:=reps_cons.mp h2;rw[reps_nil.mp h4,rep_int.mp h1,rep_int.mp h3];exact#[_,_,rfl,q _ _ F H (Grow.refl fh) h (rep_int.mpr rfl)]
def zX:cA K (λxs H Q=>∃i j,xs=[.int i,.int j]/\Q (.int (if j<i then j else i)) H) tN:=by
 intro ds vs F H R Q fh h rx q;replace h:=kd2.of h;obtain⟨x,y,rfl,h⟩:=h;replace h:=kdI.of h;obtain⟨i,rfl,h⟩:=h;replace h:=kdI.of h;obtain⟨j,rfl,h⟩:=h;obtain⟨v,r,rfl,h1,h2⟩:=reps_cons.mp rx;obtain⟨v',r',rfl,h3,h4⟩:=reps_cons.mp h2;rw[reps_nil.mp h4,rep_int.mp h1,rep_int.mp h3];exact#[_,_,rfl,q _ _ F H (Grow.refl fh) h (rep_int.mpr rfl)]
def gj[Jx](hc:X.calm=true)(hm:X.mg "max"=LH)(ha:WDA X [e,a] t)(hg:autoParam (Gl X "max") zA0)(he:autoParam (zSE X e [a]) zA0)(c5:autoParam (zPL X pos [a]) zA0):WDE X (.Call (.Name "max" p) [e,a] [] pos) (dCB tM t):=#[have ha:=ha.out;gZ (yf hc) zW hm PyProof.Rows.boot_max ha hg Mx Mx he c5]
def zY[Jx](hc:X.calm=true)(hm:X.mg "min"=LH)(ha:WDA X [e,a] t)(hg:autoParam (Gl X "min") zA0)(he:autoParam (zSE X e [a]) zA0)(c5:autoParam (zPL X pos [a]) zA0):WDE X (.Call (.Name "min" p) [e,a] [] pos) (dCB tN t):=#[have ha:=ha.out;gZ (yg hc) zX hm PyProof.Rows.boot_min ha hg Mx Mx he c5]
def cT:List D->Option (List Ms)
 |[]=>be []
 |.str x::r=>(cT r).map (x::·)
 |_=>LH
def tO{K:Ex}{F:Hp}:∀{ds:List D} {xs:List Ms} {vs:List V} {us:List Os},cT ds=be xs->Reps K F ds vs->Vals vs us->StrsAre us xs
 |[],xs,vs,us,e,r,q=>by
  cases e;rw[reps_nil.mp r]at q;cases q;exact .nil
 | .str x::ds,xs,vs,us,e,r,q=>by
  obtain⟨v,r',rfl,h1,h2⟩:=reps_cons.mp r;rw[rep_str.mp h1]at q;cases q with
  |cons q1 q2=>
   obtain⟨t,rfl⟩:=q1;cases e2:cT ds with
   |none=>simp[cT,e2]at e
   |some ys=>
    simp[cT,e2]at e;subst e;exact .cons x t (tO e2 h2 q2)
def zZ:V->List V->Hp->VK->Prop:=λx vs H Q=>∃q9 l xs ys,x=.str q9/\vs=[.ref l]/\H l=be (.lst xs)/\(∀us,Vals xs us->StrsAre us ys)/\(ys.map (·.length)).sum+ys.length*q9.length<=16777216/\Q (.str (Txt.join q9 ys)) H
def Aa:MtR X "str.join" zZ:=by
 intro pins s σ H x vs v us Q I rx rv h;obtain⟨q9,l,xs,ys,rfl,rfl,hl,hs,hz,q⟩:=h;obtain⟨t,rfl⟩:=rx;obtain⟨u,rfl,ru⟩:=ce rv;cases ru;obtain⟨its,r,pl,_⟩:=I.list (SqL.of hl);exact PyProof.Rows.join_list pl.isList (by simpa using hs its r) hz λt' k=>#[.str _,H,I.tok _,#[_,rfl],q]
def Ab(q9:Ms)(te:TD):TD:=λz R=>te z λx=>match x with
 |.lst ds=>∃ys,cT ds=be ys/\(ys.map (·.length)).sum+ys.length*q9.length<=1000000/\R (.str (Txt.join q9 ys))
 |_=>False
variable{k:Nat}
def kR[Jx]{q9:Ms}{p1 apos cpos:Vf}(he:WDE X e te)(i8:autoParam (zSE X e []) zA0)
  (b7:autoParam (Vc (.Constant (.str q9) k p1) "join" X.env (Vd (.Constant (.str q9) k p1) X.env)=Vd (.Constant (.str q9) k p1) X.env) zA0)
  (d6:autoParam (zHF X cpos [e]) zA0)
  (b_:autoParam ((apos.endLine==cpos.line)=true) zA0):WDE X (.Call (.Attribute (.Constant (.str q9) k p1) "join" apos) [e] [] cpos) (Ab q9 te):=⟨have he:=he.out;(df PySem.F.plainAttrs_str PySem.F.slot_str_join PySem.F.type_str_join Aa qV (bt he pa_nil i8) b7 d6 b_ i8).anti λs H Q q=>by
 obtain⟨B,F,z,kf,rs,R,h1,h2⟩:=q;have fh:=kf.fh;refine#[rfl,?_];refine#[B,F,z,kf,rs,_,h1,λx u F1 H1 g1 hx rx=>?_];split at hx
 .obtain⟨ys,e1,e2,hx⟩:=hx;obtain⟨l,vs,rfl,hq,rr⟩:=rep_lst.mp rx;exact#[q9,l,vs,ys,rfl,rfl,g1.fh _ _ hq,λus q=>tO e1 rr q,HZ e2 Mx,h2 _ _ F1 H1 g1 hx (rep_str.mpr rfl)]
 .exact hx.elim⟩
def dOix(i:Nat)(tb:TD):TD:=λz R=>match z[i]? with
 |some (be (.own ds))=>tb z λy=>match y with|.int k=>∃d,atI ds k=be d/\R d|_=>False
 |_=>False
def kS[Jx](i:Nat){x:Ms}(hb:WDE X b tb)(hN:autoParam (X.N[i]?=be x) zA0)(hv:autoParam (Vis X.env.scope x) zA5)(hd:autoParam (zND x) zA1)
  (g5:autoParam (zNC x) zA1) (hs:autoParam (eV b) zA6):WDE X (.Subscript (.Name x p) b pos) (dOix i tb):=⟨have hb:=hb.out;(pe_ix ix_list (cS hN hv hd g5) hb hs).anti λs H Q q=>by
 obtain⟨B,F,z,kf,rs,R,h1,h2⟩:=q;have fh:=kf.fh;unfold dOix at h1;split at h1
 .rename_i ds ez;obtain⟨a,vs,q1,q2,q3,q4,q5⟩:=rs.own i ds ez;refine#[.ref a,q1,B,F,z,kf,rs,_,h1,λy v F1 H1 g1 hy ry=>?_];split at hy
  .obtain⟨d,e1,hR⟩:=hy;obtain⟨w,e2,i6⟩:=(q5.mono g1.ff).at e1;exact#[a,vs,_,w,rfl,rep_int.mp ry,SqL.of (g1.hh _ _ q2),e2,h2 d w F1 H1 g1 hR i6]
  .exact hy.elim
 .exact h1.elim⟩
def cutD(xs:List D)(lo hi:Option Int):List D:=(xs.drop (HT.sIx xs.length 0 lo)).take (HT.sIx xs.length xs.length hi-HT.sIx xs.length 0 lo)
def Reps.drop{K:Ex}{F:Hp}:∀(n:Nat) {xs:List D} {us:List V},Reps K F xs us->Reps K F (xs.drop n) (us.drop n)
 |0,_,_,r=>r
 |n+1,[],us,r=>by rw[reps_nil.mp r];exact reps_nil.mpr rfl
 |n+1,x::xs,us,r=>by
  obtain⟨u,ur,rfl,_,a2⟩:=reps_cons.mp r;exact Reps.drop n a2
def Reps.take{K:Ex}{F:Hp}:∀(n:Nat) {xs:List D} {us:List V},Reps K F xs us->Reps K F (xs.take n) (us.take n)
 |0,_,_,_=>reps_nil.mpr rfl
 |n+1,[],us,r=>by rw[reps_nil.mp r];exact reps_nil.mpr rfl
 |n+1,x::xs,us,r=>by
  obtain⟨u,ur,rfl,a1,a2⟩:=reps_cons.mp r;exact reps_cons.mpr #[u,_,rfl,a1,Reps.take n a2]
def Reps.cut{F:Hp}{xs:List D}{us:List V}(r:Reps K F xs us)(lo hi:Option Int):Reps K F (cutD xs lo hi) (cutV us lo hi):=by
 unfold cutD cutV;rw[r.length];exact(r.drop _).take _
def Ac(ta tb:TD):TD:=λz R=>ta z λx=>tb z λy=>match x,y with|.lst xs,.int i=>R (.lst (cutD xs (be i) LH))|_,_=>False
def Ad[Jx]{p2:Vf}(ha:WDE X a ta)(hb:WDE X b tb):WDE X (.Subscript a (.Slice (be b) LH LH p2) pos) (Ac ta tb):=⟨have ha:=ha.out;have hb:=hb.out;(gR gS ha (ky hb) ku).anti λs H Q q=>by
 obtain⟨B,F,z,kf,rs,R,h1,h2⟩:=q;have fh:=kf.fh;refine#[B,F,z,kf,rs,_,h1,λx u F1 H1 g1 hx rx=>?_];refine#[B,F1,z,kf.grow g1,rs.grow g1,_,hx,λy v F2 H2 g2 hy ry=>?_];split at hy
 .refine#[_,rep_int.mp ry,?_];obtain⟨l,vs,rfl,hq,rr⟩:=rep_lst.mp (rx.mono g2.ff);refine#[l,vs,rfl,SqL.of (g2.fh _ _ hq),λp hp=>?_];exact h2 _ _ _ _ (g1.trans (g2.trans (Grow.new g2.fh hp _))) hy (rep_lst.mpr #[p,_,rfl,aC,(rr.cut _ _).mono (aN (g2.fh.free hp) _)])
 .exact hy.elim⟩
def tP{t:TGs}{n:Nat}(hc:X.calm=true)(h:PGs X es t)(hn:autoParam ((Vb es X.env).length=n) zA0)(l5:autoParam ((Vb es X.env).findIdx? (·.1)=none) zA0):
  PG X (.Tuple es k pos) (λv σ H Q=>∃a xs,v=.ref a/\SqL X.K H a xs/\xs.length=n/\t xs σ H Q):=by
 intro pins s σ H v u Q I r hw;obtain⟨a,xs,e1,hq,hl,hw⟩:=hw;subst e1;cases r;obtain⟨its,rv,pl,hz⟩:=I.list hq;have e2:(Vb es X.env).length=its.toArray.size:=by simp[hn,<-hl,rv.length]
 rw[PyProof.Rows.assign_Tuple];refine Pi (VB ?_);unfold unpack;rw[e2,l5];refine Pi (Vi (kun_itemsOf (I.ok.hd hc) pl.isList λh' hx=>?_));have I1:Inv X pins σ H {s with heap:=h'}:=I.kept (t':=s.toks) λb o e=>hx b o (HY (Heap.lt_size e)) e;exact h pins _ σ H xs _ Q I1 (by simpa using rv) hw
def Ae(is:List Nat)(te:TD):TSD:=λE z=>te z λx=>match x with|.lst ds=>ds.length=is.length/\E.nx (aW is ds z)|_=>False
def Af[Jx]{is:List Nat}(hc:X.calm=true)(he:WDE X e te)(hg:DGs X es is)(hn:autoParam ((Vb es X.env).length=is.length) zA0)(l5:autoParam ((Vb es X.env).findIdx? (·.1)=none) zA0)
  (hs:autoParam (VC [.Tuple es k p] e pos.line X.env=pure false) zA0) (hw:autoParam (VD [.Tuple es k p] e X.env=pure none) zA0) (h1:autoParam ((Vb [.Tuple es k p] X.env).map (·.2)=[VJ (.Tuple es k p) X.env]) zA0):WDS X (.Assign [.Tuple es k p] e pos) (Ae is te):=⟨by
 have he:=he.out;obtain⟨u,hu,kk⟩:=hg;refine(gM he (tP hc hu hn l5) hs hw h1).anti λE s H q=>?_;obtain⟨B,F0,F,z,k,rs,ED,h,e⟩:=q;refine#[B,F,z,k.kf,rs,_,h,λd v F' H' g hd rd=>?_];split at hd
 .obtain⟨p,vs,rfl,hq,rr⟩:=rep_lst.mp rd;exact#[p,vs,rfl,SqL.of (g.fh _ _ hq),by rw[rr.length];exact hd.1,kk _ vs z s B F' H' _ hd.1 rr (rs.grow g) λs' r'=>e.nx _ _ F' H' (k.grow g) hd.2 r']
 .exact hd.elim⟩
end
end My
namespace L2
def kT{env:VS}:∀(names:List (Ms×VO)) (v7:List (Ms×Addr)),(∀n,(n,NameKind.free)∈names->∃c,env.cells.lookup n=be c)->
  ∃cl,(forIn (m:=WH) names v7 λx r=>match x with
     |(name,kind)=>if(kind==NameKind.free)=true then(do let a <-cellOf env name;pure (ForInStep.yield ((name,a)::r)))else pure (ForInStep.yield r))=(pure cl:WH (List (Ms×Addr)))/\
   (∀n c,cl.lookup n=be c->env.cells.lookup n=be c\/v7.lookup n=be c)/\(∀n,(n,NameKind.free)∈names->∃c,cl.lookup n=be c)/\∀n c,v7.lookup n=be c->∃c',cl.lookup n=be c'
 |[],v7,_=>#[v7,rfl,(λ_ _ h=>.inr h),(λ_ h=>by cases h),(λ_ c h=>#[c,h])]
 |(name,kind)::r,v7,h=>by
  by_cases hk:(kind==NameKind.free)=true
  .have ek:kind=.free:=by simpa using hk
   subst ek;obtain⟨c,hc⟩:=h name HW;obtain⟨cl,e,p1,p2,p3⟩:=kT r ((name,c)::v7) λn q=>h n (HU _ q);refine#[cl,?_,λn c' q=>?_,λn q=>?_,λn c' q=>?_]
   .rw[Ke];have ec:cellOf env name=pure c:=by unfold cellOf;rw[hc]
    simp only[hk,if_true,ec];exact e
   .rcases p1 n c' q with z|z
    .exact .inl z
    .rw[Ig]at z;split at z
     .rename_i q2;have en:n=name:=by simpa using q2
      cases z;exact .inl (en ▸ hc)
     .exact .inr z
   .rcases HQ.mp q with z|z
    .cases z;exact p3 _ c (by rw[Ig];simp)
    .exact p2 n z
   .by_cases hn:n=name
    .subst hn;exact p3 n c (by rw[Ig];simp)
    .exact p3 n c' (by rw[Ig,beq_eq_false_iff_ne.mpr hn];exact q)
  .obtain⟨cl,e,p1,p2,p3⟩:=kT r v7 λn q=>h n (HU _ q);refine#[cl,?_,p1,λn q=>?_,p3]
   .rw[Ke];simp only[hk];exact e
   .rcases HQ.mp q with z|z
    .cases z;exact absurd rfl hk
    .exact p2 n z
def closure_is{env:VS}{scope:VA}(h:∀n,(n,NameKind.free)∈scope.names->∃c,env.cells.lookup n=be c):
  ∃cl,closureFor scope env=pure cl/\(∀n c,cl.lookup n=be c->env.cells.lookup n=be c)/\∀n,(n,NameKind.free)∈scope.names->∃c,cl.lookup n=be c:=by
 obtain⟨cl,e,p1,p2,_⟩:=kT scope.names [] h;refine#[cl,?_,λn c q=>(p1 n c q).elim id (λz=>nomatch z),p2];unfold closureFor;show(forIn (m:=WH) scope.names [] _>>=λs=>pure s)=pure cl;rw[e];rfl
def ia{env:VS}:∀{names:List (Ms×VO)} {n:Ms} {k:VO},(∀y∈names,y.2≠.cell)->k=.cell\/k=.free->
  (names.map λ(n,k)=>if(k==NameKind.free&&env.scope.kind== .function&&env.kindOf n==be .cell)then(n,NameKind.cell)else(n,k)).lookup n=be k->(n,NameKind.free)∈names
 |[],_,_,_,_,h=>by simp at h
 |(a,b)::r,n,k,hc,hk,h=>by
  rw[Ik]at h;by_cases hb:(b==NameKind.free&&env.scope.kind== .function&&env.kindOf a==be .cell)=true
  .have eb:b=.free:=by
    have:=(Io _ _ ▸ ((Io _ _ ▸ hb).1)).1;simpa using this
   simp only[hb,if_true]at h;rw[Ig]at h;split at h
   .rename_i q;have en:n=a:=by simpa using q
    subst en eb;exact HW
   .exact HU _ (ia (λy q=>hc y (HU _ q)) hk h)
  .simp only[hb]at h;rw[if_neg MF,Ig]at h;split at h
   .rename_i q;have en:n=a:=by simpa using q
    cases h;subst en;rcases hk with z|z
    .exact absurd z (hc _ HW)
    .rw[z];exact HW
   .exact HU _ (ia (λy q=>hc y (HU _ q)) hk h)
section
variable {prog:U8}{w:U_}{A:Va}{R:Result->P3->Prop}{s:P3}
abbrev tQ(j_:List U6)(env:VS):WH Bool:=forIn j_ true λc r=>if r=true then do let ok <-isTrue c env (Vd c env);pure (ForInStep.yield ok)else pure (ForInStep.yield r)
def Ag{h_ g8 iter:U6}{j_:List U6}{scope:VA}{pos:Vf}{it v7:Os}{env:VS}(I:Nat->P3->Prop)
  (c8:∀n s,I n s->U9 (SZ prog w) A (pyNext it) (λr s₁=>match r with
   |none=>R (.ok .next) s₁
   |some v=>U9 (SZ prog w) A (V6 g8 it v) (λ_ s₁'=>U9 (SZ prog w) A (VJ g8 env v) (λ_ s₂=>U9 (SZ prog w) A (tQ j_ env) (λok s₂'=>if ok=true then U9 (SZ prog w) A (Vd h_ env) (λx s₃=>
     U9 (SZ prog w) A (call (.builtin "list.append") [v7,x]) (λ_ s₄=>∃m,m<n/\I m s₄) (λ_ _=>False) s₃)
     (λ_ _=>False) s₂' else ∃m,m<n/\I m s₂') (λ_ _=>False) s₂) (λ_ _=>False) s₁') (λ_ _=>False) s₁) (λ_ _=>False) s)
  (n:Nat) (h:I n s):
  V_ (SZ prog w) A (.compLoop (.ListComp h_ [#[g8,iter,j_,0]] scope pos) 0 it v7 env) R s:=by
 refine codeAny_loop rfl I (λn s hI=>?_) n h;show U9 _ _ ((compTurn (.ListComp h_ [#[g8,iter,j_,0]] scope pos) 0 it v7 env).onRaise (λx=>do V0 x env;theTreesLotGoes x)) _ _ s;refine wpAny_noted ?_;rw[compTurn_list];refine Pi (VB (Pi (Vk (c8 n s hI) (λr s₁ h₁=>?_) λ_ _ h'=>h'.elim)));cases r with
 |none=>exact SL h₁
 |some v=>
  refine Pi (Vk h₁ (λ_ s₁' h₁'=>Pi (Vk h₁' (λ_ s₂ h₂=>Pi (Vk h₂ (λok s₃ h₃=>?_) λ_ _ h'=>h'.elim)) λ_ _ h'=>h'.elim)) λ_ _ h'=>h'.elim);cases ok with
  |false=>exact SL #[rfl,h₃]
  |true=>
   exact Pi (Pi (Vk h₃ (λx s₄ h₄=>Pi (Vk h₄ (λ_ s₅ h₅=>SL (SL #[rfl,h₅])) λ_ _ h'=>h'.elim)) λ_ _ h'=>h'.elim))
end
def cf(X:Cx)(scope:VA)(cl:List (Ms×Addr))(x:Ms)(s₀:P3)(H₀:Hp)(fp:List Addr):Cx where
 prog:=X.prog
 w:=X.w
 K:=X.K
 mg:=X.mg
 base:=X.base
 A:=X.A
 N:=X.N.map (λn=>if n=x then("":Ms)else n)++[x]
 s₀:=s₀
 H₀:=H₀
 env:=compEnvC scope cl s₀.heap.objs.size X.env
 outer:=X.stack
 stack:=X.stack
 ex:=fp
 fn:=λ_=>false
 calm:=X.calm
 pn:=[]
 xe:=λ_ _=>False
structure CompScope(X:Cx)(scope:VA)(x:Str):Prop where
 kind:scope.kind=.function
 nocell:∀y∈scope.names,y.2≠.cell
 names:∀y∈scope.names,y.2=.local->scope.names.lookup y.1=be .local
 own:scope.names.lookup x=be .local
 free:∀n,(n,NameKind.free)∈scope.names->X.env.kindOf n=be .cell
 vis:∀n∈X.N,n≠x->Vis (W1 scope X.env) n->(n,NameKind.free)∈scope.names
 empty:¬Vis (W1 scope X.env) ("":Ms)
 cells:∀n,(n,NameKind.free)∈scope.names->(W1 scope X.env).names.lookup n=be .cell
 nd:(X.N.map (λn=>if n=x then("":Ms)else n)++[x]).Nodup
section
variable {X:Cx}{pins:List (Addr×Vn)}{σ:St}{H:Hp}{s:P3}{scope:VA}{cl:List (Ms×Addr)}{x:Ms}{fp:List Addr}
def tR(I:Inv X pins σ H s)(S:CompScope X scope x)(c1:∀n c,cl.lookup n=be c->X.env.cells.lookup n=be c)(c2:∀n,(n,NameKind.free)∈scope.names->∃c,cl.lookup n=be c)
  (hf:∀b∈fp,FpOk X pins H b) (hl:∀b∈fp,b<s.heap.objs.size):(cf X scope cl x s H fp).Ok where
 mod:=I.ok.mod
 kind:=S.kind
 glob:=I.ok.glob
 blt:=I.ok.blt
 above:=HP _
 inj:=λy z c h1 h2=>I.ok.inj y z c (c1 y c h1) (c1 z c h2)
 has:=λn hn=>by
  rcases hn with hn|hn
  .exact c2 n (ia S.nocell (.inl rfl) hn)
  .exact c2 n (ia S.nocell (.inr rfl) hn)
 cab:=λ_ _ h=>nomatch h
 hd:=I.ok.hd
 frames:=I.ok.frames
 stk:=.inl rfl
 exf:=λb hb=>#[HY (hl b hb),λy c h=>(hf b hb).2.2.2.2.1 y c (c1 y c h)]
 bs:=I.bs
 bsz:=HZ I.ok.bsz I.sz
 noex:=λb o e hb=>by
  have h1:=I.ok.noex b o e;rcases(hf b hb).2.2.2.1 with z|z
  .exact h1 z
  .exact absurd (Im (Heap.lt_size e) (HZ I.ok.bsz z)) (Jb _)
 exfs:=λb hb hs=>by
  rcases HQ.mp (I.stkSub b hs)with z|z
  .exact(hf b hb).2.1 z
  .exact(hf b hb).2.2.1 z
 funs:=I.stack
 frf:=I.stkFree
def tS{h':Heap}{t':Nat}(I:Inv X pins σ H s)(S:CompScope X scope x)(c1:∀n c,cl.lookup n=be c->X.env.cells.lookup n=be c)(c2:∀n,(n,NameKind.free)∈scope.names->∃c,cl.lookup n=be c)
  (hf:∀b∈fp,FpOk X pins H b) (hl:∀b∈fp,b<s.heap.objs.size) {m:Ms->Option Os} (hn:h'.Ns s.heap.objs.size m) (k:∀b o,s.heap.get? b=be o->h'.get? b=be o):
  Inv (cf X scope cl x s H fp) [] (σ++[LH]) H {s with heap:=h',toks:=t'}:=by
 refine#[tR I S c1 c2 hf hl,rfl,I.bare,Un.kept k,#[m,hn,λi n v e1 e2 e3=>?_],λn c e=>?_,I.hok.fresh (HP _),λn c e=>I.freeC n c (c1 n c e),λp hp=>absurd (show p∈([]:List (Addr×Vn))from hp) MF,I.hok.kept k,?_]
 .have hi:i<σ.length:=by
   rcases Jr i σ.length with q|q
   .exact q
   .rw[IZ q]at e2;cases hz:i-σ.length with
    |zero=>rw[hz]at e2;simp at e2
    |succ z=>rw[hz]at e2;simp at e2
  rw[IE hi]at e2;have OP:i<X.N.length:=by rw[<-I.len];exact hi
  have M8:(X.N.map (λn=>if n=x then("":Ms)else n)++[x])[i]?=be n:=e1;rw[IE (by simpa using OP),H9,Ih OP]at M8;simp only[Option.map_some,Option.some.injEq]at M8;by_cases hx:X.N[i]=x
  .rw[if_pos hx]at M8;subst M8;exact absurd e3 S.empty
  .rw[if_neg hx]at M8;subst M8;have k9:=S.vis _ (Iv OP) hx e3;have m8:=S.free _ k9;obtain⟨c,hc⟩:=c2 _ k9;obtain⟨mX,UE,S5⟩:=I.loc;obtain⟨u,ru,lk⟩:=S5 i X.N[i] v (Ih OP) e2 (.inr (.inl m8));refine#[u,ru,.inr #[?_,c,hc,?_]]
   .exact .inl (S.cells _ k9)
   .rcases lk with⟨kl,_⟩|⟨_,c',J_,g_⟩
    .rw[m8]at kl;cases kl
    .have:c=c':=by
      have:=c1 _ c hc;rw[J_]at this;exact(Option.some.inj this).symm
     subst this;obtain⟨o,ho,hd⟩:=g_;exact#[o,k _ _ ho,hd]
 .obtain⟨v,o,ho,hd⟩:=I.cell n c (c1 n c e);exact#[v,o,k _ _ ho,hd]
 .show(σ++[LH]).length=(X.N.map _++[x]).length;rw[Ic,Ic,HV,I.len];rfl
end
def gk(wi:TI)(tt:TT)(i9:TE):TE:=λσ H Q=>wi σ H λJ H1=>∀D,H1 D=LH->∃W:Nat->Nat->Hp->Prop,(∃m,W 0 m (upd H1 D (.lst [])))/\∀i m H,W i m H->
 (J.stop i H/\Q (.ref D) H)\/(J.go i H/\∀x H',J.yld i H x H'->tt (σ++[be x]) H' λb H1=>if b=true then i9 (σ++[be x]) H1 λy H''=>∃vs,H'' D=be (.lst vs)/\vs.length<sizeLine/\∃m',m'<m/\W (i+1) m' (upd H'' D (.lst (vs++[y])))else ∃m',m'<m/\W (i+1) m' H1)
def PIf(X:Cx)(j_:List U6)(t:TT):Prop:=
 ∀(pins:List (Addr×Vn)) (s:P3) (σ:St) (H:Hp) (Q:Bool->Hp->Prop),Inv X pins σ H s->t σ H Q->U9 (SZ X.prog X.w) X.A (tQ j_ X.env) (TP X pins σ Q) X.xe s
def pif_nil{X:Cx}:PIf X [] (λ_ H Q=>Q true H):=λpins s σ H Q I q=>wpAny_tests_nil #[H,I,q]
def PIf.anti{X:Cx}{e:List U6}{t t':TT}(h:PIf X e t)(a:∀s H Q,t' s H Q->t s H Q):PIf X e t':=λpins s σ H Q I q=>h pins s σ H Q I (a _ _ _ q)
section
variable {X:Cx}
variable{h_ iter:U6}{j_:List U6}{x:Ms}{px pos:Vf}{scope:VA}{tt:TT}{i9:TE}
def tT{pins:List (Addr×Vn)}{s2:P3}{σ:St}{H1:Hp}{cl:List (Ms×Addr)}{it:Addr}{fp:List Addr}{tn:Nat->Heap->Prop}{J:It}{Qs:Hp->Prop}{R:Result->P3->Prop}{W:Nat->Nat->Hp->Prop}{m0:Nat}{h₁:Heap}(hc:X.calm=true)(S:CompScope X scope x)
  (hq:∀cl s₀ H₀ fp,PIf (cf X scope cl x s₀ H₀ fp) j_ tt) (he:∀cl s₀ H₀ fp,PE (cf X scope cl x s₀ H₀ fp) h_ i9) (c1:∀n c,cl.lookup n=be c->X.env.cells.lookup n=be c) (c2:∀n,(n,NameKind.free)∈scope.names->∃c,cl.lookup n=be c)
  (I1:Inv X pins σ H1 s2) (T:Turn X.prog X.w X.K (.Name x px) J fp it tn) (st:tn 0 s2.heap) (f1:∀b∈fp,FpOk X pins H1 b) (w0:W 0 m0 (upd H1 s2.heap.objs.size (.lst [])))
  (step:∀i m H,W i m H->(J.stop i H/\Qs H)\/(J.go i H/\∀x H',J.yld i H x H'->tt (σ++[be x]) H' λb H1=>if b=true then i9 (σ++[be x]) H1 λy H''=>∃vs,H'' s2.heap.objs.size=be (.lst vs)/\vs.length<sizeLine/\∃m',m'<m/\W (i+1) m' (upd H'' s2.heap.objs.size (.lst (vs++[y])))else ∃m',m'<m/\W (i+1) m' H1))
  (I4:Inv (cf X scope cl x {s2 with heap:=s2.heap.push {cls:=.type "list",data:=.seq ([]:List Os).toArray},toks:=s2.toks} (upd H1 s2.heap.objs.size (.lst [])) fp) [] (σ++[LH]) (upd H1 s2.heap.objs.size (.lst [])) {s2 with heap:=h₁,toks:=s2.toks+([]:List (Ms×Os)).length}) (t0:tn 0 h₁)
  (Px:∀H' s4 m,Inv X pins σ H' s4->s4.heap.Ns (s2.heap.push {cls:=.type "list",data:=.seq ([]:List Os).toArray}).objs.size m->H' (s2.heap.push {cls:=.type "list",data:=.seq ([]:List Os).toArray}).objs.size=LH->Qs H'->R (.ok .next) s4):
  V_ (SZ X.prog X.w) X.A (.compLoop (.ListComp h_ [#[.Name x px,iter,j_,0]] scope pos) 0 (.ref it) (.ref s2.heap.objs.size) (compEnvC scope cl (s2.heap.push {cls:=.type "list",data:=.seq ([]:List Os).toArray}).objs.size X.env)) R {s2 with heap:=h₁,toks:=s2.toks+([]:List (Ms×Os)).length}:=by
 have f9:∀b∈fp,b<s2.heap.objs.size:=λb hb=>by
  obtain⟨o,ho,_⟩:=T.obj _ _ st b hb;exact Heap.lt_size ho
 have I3:Inv X pins σ (upd H1 s2.heap.objs.size (.lst [])) {s2 with heap:=s2.heap.push {cls:=.type "list",data:=.seq ([]:List Os).toArray},toks:=s2.toks}:=I1.lnew (its:=[]) (ys:=[]) .nil (Iq _);have j9:∀b∈fp,b<(s2.heap.push {cls:=.type "list",data:=.seq ([]:List Os).toArray}).objs.size:=λb hb=>by
  rw[Heap.size_push];exact Kf (f9 b hb)
 have Lx:∀b∈fp,FpOk X pins (upd H1 s2.heap.objs.size (.lst [])) b:=λb hb=>#[by rw[ar (HY (f9 b hb))];exact(f1 b hb).1,(f1 b hb).2];have OQ:=tR (x:=x) (fp:=fp) I3 S c1 c2 Lx j9;generalize hY:cf X scope cl x {s2 with heap:=s2.heap.push {cls:=.type "list",data:=.seq ([]:List Os).toArray},toks:=s2.toks} (upd H1 s2.heap.objs.size (.lst [])) fp=Y at I4 OQ;have yP:Y.prog=X.prog:=UC
 have yW:Y.w=X.w:=UC
 have yK:Y.K=X.K:=UC
 have yA:Y.A=X.A:=UC
 have yN:Y.N=X.N.map (λn=>if n=x then("":Ms)else n)++[x]:=UC
 have yE:Y.env=compEnvC scope cl (s2.heap.push {cls:=.type "list",data:=.seq ([]:List Os).toArray}).objs.size X.env:=UC
 have yX:Y.xe=λ_ _=>False:=UC
 have yC:Y.calm=true:=by rw[<-hY];exact hc
 have RY:Y.ex=fp:=UC
 have S6:Y.pn=[]:=UC
 have S7:Y.fs=frs X.stack:=UC
 have S8:Y.H₀=upd H1 s2.heap.objs.size (.lst []):=UC
 have RZ:Y.s₀={s2 with heap:=s2.heap.push {cls:=.type "list",data:=.seq ([]:List Os).toArray},toks:=s2.toks}:=UC
 have S9:PE Y h_ i9:=by rw[<-hY];exact he _ _ _ _
 have S':PIf Y j_ tt:=by rw[<-hY];exact hq _ _ _ _
 have n_:∀{H':Hp},(∀b∈fp,H' b=LH)->∀b∈fp,FpOk Y [] H' b:=λ{H'} hn b hb=>by
  have f_:b∈Y.ex:=by rw[RY];exact hb
  exact#[hn b hb,(OQ.exf b f_).1,OQ.exfs b f_,.inl f_,λn c e=>(OQ.exf b f_).2 n c e,by rw[S6];simp]
 have NX:Y.env.scope.names.lookup x=be .local:=by rw[yE];exact lookup_relabel_local S.own
 have Py:Y.N[X.N.length]?=be x:=by rw[yN];simp
 have S_:Y.N.Nodup:=by rw[yN];exact S.nd
 have Pz:Y.env.locals=(s2.heap.push {cls:=.type "list",data:=.seq ([]:List Os).toArray}).objs.size:=by rw[yE];rfl
 have d_:∀(o:Option V) (H':Hp) (s':P3),Inv Y [] (σ++[o]) H' s'->Inv X pins σ H' s':=λo H' s' I'=>by
  have bs:=I'.base;rw[S7,RY,S8,RZ]at bs;refine I3.call' (ch:=fp) ?_ bs ?_ I'.bare ?_
  .have:=I'.os;rw[RZ]at this;exact this
  .have:=I'.hok;rw[yP,yW]at this;exact this
  .exact λb hb=>#[(Lx b hb).2.2.2.1,(Lx b hb).2.1,(Lx b hb).2.2.2.2.1,(Lx b hb).2.2.2.2.2]
 refine Ag (λn s'=>∃i o H',Inv Y [] (σ++[o]) H' s'/\tn i s'.heap/\(∀b∈fp,H' b=LH)/\W i n H') ?_ m0 #[0,LH,_,I4,t0,λb hb=>(Lx b hb).1,w0];rintro n s3⟨i,o,H3,I5,t3,f3,w3⟩;rcases step i n H3 w3 with⟨stop,q⟩|⟨go,q⟩
 .have dn:=T.done Y yP yW yK yC i [] s3 _ H3 (λ_ _=>False) I5 (n_ f3) t3 stop;rw[yA]at dn;refine thn dn λr s4 b9=>?_;obtain⟨hr,I6⟩:=b9;subst hr;obtain⟨m,hn,_⟩:=I6.loc;have m4:=I6.free;rw[Pz]at hn m4;exact Px H3 s4 m (d_ o H3 s4 I6) hn m4 q
 .have R3:=T.item Y yP yW yK yC i [] s3 _ H3 (λ_ _=>False) I5 (n_ f3) t3 go;rw[yA]at R3;refine thn R3 λr s4 b9=>?_;obtain⟨u,hr,h4⟩:=b9;subst hr;refine thn h4 λ_ s5 b9=>?_;obtain⟨xv,H5,I6,r5,y5,LI,Pg⟩:=b9;have Ta:=I6.pinned (n_ Pg) (T.obj _ _ LI);rw[<-yE];refine Wd (eK Ta S_ Py (.inl NX) r5 (λs6 I7=>?_) (.inr NX));have PB:(σ++[o]).set X.N.length (be xv)=σ++[be xv]:=by
   rw[<-I1.len];simp
  rw[PB]at I7;have tv:=S' _ s6 _ H5 _ I7 (q xv H5 y5);rw[yP,yW,yA,yX]at tv;refine thn tv λb Tb b9=>?_;obtain⟨Tc,OR,qb⟩:=b9;cases b with
  |false=>
   obtain⟨m',hm,w7⟩:=qb;refine#[m',hm,i+1,be xv,_,OR.unpinned,T.keep _ _ _ LI λb hb ob e=>(OR.pin (b,ob) (Ip _ (Ip _ (eO hb e)))).1,λb hb=>?_,w7];obtain⟨ob,e,d⟩:=T.obj _ _ LI b hb;exact(OR.pin (b,ob) (Ip _ (Ip _ (eO hb e)))).2.1
  |true=>
  have ev:=S9 _ Tb _ Tc _ OR qb;rw[yP,yW,yA,yX]at ev;refine thn ev λyv s7 b9=>?_;obtain⟨y,H6,I8,ry,vs,Tf,b8,m',hm,w7⟩:=b9;have ap:=kA (X:=Y) _ s7 _ H6 (.ref s2.heap.objs.size) [y] (.ref s2.heap.objs.size) [yv] (λ_ H7=>H7=upd H6 s2.heap.objs.size (.lst (vs++[y]))) I8 rfl (.cons ry .nil) #[_,vs,y,rfl,rfl,Tf,b8,rfl];rw[yP,yW,yA,yX]at ap;refine thn ap λ_ s8 b9=>?_;obtain⟨_,H7,I9,_,e7⟩:=b9;subst e7;refine#[m',hm,i+1,be xv,_,I9.unpinned,T.keep _ _ _ LI λb hb ob e=>(I9.pin (b,ob) (Ip _ (Ip _ (eO hb e)))).1,λb hb=>?_,w7];obtain⟨ob,e,d⟩:=T.obj _ _ LI b hb;exact(I9.pin (b,ob) (Ip _ (Ip _ (eO hb e)))).2.1
def Ah{wi:TI}(hc:X.calm=true)(S:CompScope X scope x)(hi:PI X (.Name x px) iter wi)
  (hq:∀cl s₀ H₀ fp,PIf (cf X scope cl x s₀ H₀ fp) j_ tt) (he:∀cl s₀ H₀ fp,PE (cf X scope cl x s₀ H₀ fp) h_ i9) (hs:autoParam (∀y,zFS X iter y) zA3):
  PE X (.ListComp h_ [#[.Name x px,iter,j_,0]] scope pos) (gk wi tt i9):=by
 intro pins s σ H Q I h;obtain⟨cl,g_,c1,c2⟩:=closure_is (env:=X.env) (scope:=scope) (λn q=>I.ok.has n (.inl (S.free n q)));rw[eval_ListComp];refine Wt (use:=LH) rfl hs g_ S.kind S.names (thn (hi pins s σ H _ I h) λv s1 h1=>thn h1 λOG s2 h2=>?_);obtain⟨it,fp,tn,J,H1,e,I1,T,st,f1,hr⟩:=h2;subst e;have f9:∀b∈fp,b<s2.heap.objs.size:=λb hb=>by
  obtain⟨o,ho,_⟩:=T.obj _ _ st b hb;exact Heap.lt_size ho
 have hD:H1 s2.heap.objs.size=none:=I1.hok.fresh (HP _);obtain⟨W,⟨m0,w0⟩,step⟩:=hr _ hD;refine Vj (WK S.nocell (by intro y hy;simp at hy) (λh₁ hns₁ hsb₁=>?_) S.kind);have I3:Inv X pins σ (upd H1 s2.heap.objs.size (.lst [])) {s2 with heap:=s2.heap.push {cls:=.type "list",data:=.seq ([]:List Os).toArray},toks:=s2.toks}:=I1.lnew (its:=[]) (ys:=[]) .nil (Iq _);have j9:∀b∈fp,b<(s2.heap.push {cls:=.type "list",data:=.seq ([]:List Os).toArray}).objs.size:=λb hb=>by
  rw[Heap.size_push];exact Kf (f9 b hb)
 have Lx:∀b∈fp,FpOk X pins (upd H1 s2.heap.objs.size (.lst [])) b:=λb hb=>#[by rw[ar (HY (f9 b hb))];exact(f1 b hb).1,(f1 b hb).2];have kp:∀b o,(s2.heap.push {cls:=.type "list",data:=.seq ([]:List Os).toArray}).get? b=be o->h₁.get? b=be o:=λb o e=>
  (hsb₁.2 b (HY (Heap.lt_size e))).trans (Heap.get?_push_of_some _ e)
 have I4:=tS (x:=x) (fp:=fp) (t':=s2.toks+([]:List (Ms×Os)).length) I3 S c1 c2 Lx j9 hns₁ kp;have LO:(s2.heap.push {cls:=.type "list",data:=.seq ([]:List Os).toArray}).objs.size≠X.env.locals:=IW I3.lt;have LP:∀z c,X.env.cells.lookup z=be c->c≠(s2.heap.push {cls:=.type "list",data:=.seq ([]:List Os).toArray}).objs.size:=λz c e=>by
  obtain⟨vv,oo,ho,_⟩:=I3.cell z c e;exact HY (Heap.lt_size ho)
 have MG:∀p∈X.pn++pins,p.1≠(s2.heap.push {cls:=.type "list",data:=.seq ([]:List Os).toArray}).objs.size:=λp hp=>HY (Heap.lt_size (I3.pin p hp).1);have s9:=tT (pos:=pos) (iter:=iter) (R:=compPost (SZ X.prog X.w) X.A X.xe LH (EP X pins σ Q) (.ref s2.heap.objs.size) (s2.heap.push {cls:=.type "list",data:=.seq ([]:List Os).toArray}).objs.size) hc S hq he c1 c2 I1 T st f1 w0 step I4 (T.keep _ _ _ st (λb hb ob e=>kp b ob (Heap.get?_push_of_some _ e))) λH' s4 m IX hn m4 q=>
  #[m,hn,λh' hsb=>#[.ref s2.heap.objs.size,H',IX.turned (t':=s4.toks) (it:=(s2.heap.push {cls:=.type "list",data:=.seq ([]:List Os).toArray}).objs.size) (λb ob hb e=>(hsb.2 b hb).trans e) m4 LO (.inr I3.sz) LP MG,rfl,q]]
 exact WE s9 (T.self _ _ _ _ _ (T.keep _ _ _ st (λb hb ob e=>kp b ob (Heap.get?_push_of_some _ e))) s9)
def tU{y:Ms}{py m9:Vf}{wi:TI}{ix:Nat}(hc:X.calm=true)(S:CompScope X scope x)(hi:PI X (.Name x px) iter wi)
  (hq:∀cl s₀ H₀ fp,PIf (cf X scope cl x s₀ H₀ fp) j_ tt) (he:∀cl s₀ H₀ fp,PE (cf X scope cl x s₀ H₀ fp) h_ i9) (hN:X.N.Nodup) (NY:X.N[ix]?=be y) (hy:Loc X.env.scope y) (hf:zFN X y)
  (LN:Vl (.ListComp h_ [#[.Name x px,iter,j_,0]] scope pos) (be (.Name y py)) m9.line X.env=pure true) (hs:autoParam (∀y,zFS X iter y) zA3):
  PS X (.Assign [.Name y py] (.ListComp h_ [#[.Name x px,iter,j_,0]] scope pos) m9) (tAsg (gk wi tt i9) (fQ ix)):=by
 intro pins s σ H DE I h;have h:wi σ H λJ H1=>∀D,H1 D=LH->∃W:Nat->Nat->Hp->Prop,(∃m,W 0 m (upd H1 D (.lst [])))/\∀i m H,W i m H->
  (J.stop i H/\DE.nx (σ.set ix (be (.ref D))) H)\/(J.go i H/\∀x H',J.yld i H x H'->tt (σ++[be x]) H' λb H1=>if b=true then i9 (σ++[be x]) H1 λy H''=>∃vs,H'' D=be (.lst vs)/\vs.length<sizeLine/\∃m',m'<m/\W (i+1) m' (upd H'' D (.lst (vs++[y])))else ∃m',m'<m/\W (i+1) m' H1):=h
 obtain⟨cl,g_,c1,c2⟩:=closure_is (env:=X.env) (scope:=scope) (λn q=>I.ok.has n (.inl (S.free n q)));rw[exec_Assign_Name_used _ _ _ _ LN];refine Pi (VB (Pi ?_));show U9 _ X.A (do let _ <-comprehension (.ListComp h_ [#[.Name x px,iter,j_,0]] scope pos) scope X.env _ (newList []) false (Vd iter X.env) (be (VJ (.Name y py) X.env))) _ _ s;refine Pi (Vk (Wt (use:=be (VJ (.Name y py) X.env)) (Q:=λ_ s'=>SP X pins DE .next s') rfl hs g_ S.kind S.names
  (thn (hi pins s σ H _ I h) λv s1 h1=>thn h1 λOG s2 h2=>?_)) (λ_ s' hq=>SL (SL hq)) λ_ _ e=>e)
 obtain⟨it,fp,tn,J,H1,e,I1,T,st,f1,hr⟩:=h2;subst e;have f9:∀b∈fp,b<s2.heap.objs.size:=λb hb=>by
  obtain⟨o,ho,_⟩:=T.obj _ _ st b hb;exact Heap.lt_size ho
 have hD:H1 s2.heap.objs.size=none:=I1.hok.fresh (HP _);obtain⟨W,⟨m0,w0⟩,step⟩:=hr _ hD;refine Vj (WK S.nocell (by intro y hy;simp at hy) (λh₁ hns₁ hsb₁=>?_) S.kind);have I3:Inv X pins σ (upd H1 s2.heap.objs.size (.lst [])) {s2 with heap:=s2.heap.push {cls:=.type "list",data:=.seq ([]:List Os).toArray},toks:=s2.toks}:=I1.lnew (its:=[]) (ys:=[]) .nil (Iq _);have j9:∀b∈fp,b<(s2.heap.push {cls:=.type "list",data:=.seq ([]:List Os).toArray}).objs.size:=λb hb=>by
  rw[Heap.size_push];exact Kf (f9 b hb)
 have Lx:∀b∈fp,FpOk X pins (upd H1 s2.heap.objs.size (.lst [])) b:=λb hb=>#[by rw[ar (HY (f9 b hb))];exact(f1 b hb).1,(f1 b hb).2];have kp:∀b o,(s2.heap.push {cls:=.type "list",data:=.seq ([]:List Os).toArray}).get? b=be o->h₁.get? b=be o:=λb o e=>
  (hsb₁.2 b (HY (Heap.lt_size e))).trans (Heap.get?_push_of_some _ e)
 have I4:=tS (x:=x) (fp:=fp) (t':=s2.toks+([]:List (Ms×Os)).length) I3 S c1 c2 Lx j9 hns₁ kp;have LO:(s2.heap.push {cls:=.type "list",data:=.seq ([]:List Os).toArray}).objs.size≠X.env.locals:=IW I3.lt;have LP:∀z c,X.env.cells.lookup z=be c->c≠(s2.heap.push {cls:=.type "list",data:=.seq ([]:List Os).toArray}).objs.size:=λz c e=>by
  obtain⟨vv,oo,ho,_⟩:=I3.cell z c e;exact HY (Heap.lt_size ho)
 have MG:∀p∈X.pn++pins,p.1≠(s2.heap.push {cls:=.type "list",data:=.seq ([]:List Os).toArray}).objs.size:=λp hp=>HY (Heap.lt_size (I3.pin p hp).1);have s9:=tT (pos:=pos) (iter:=iter) (R:=compPost (SZ X.prog X.w) X.A X.xe (be (VJ (.Name y py) X.env)) (λ_ s'=>SP X pins DE .next s') (.ref s2.heap.objs.size) (s2.heap.push {cls:=.type "list",data:=.seq ([]:List Os).toArray}).objs.size) hc S hq he c1 c2 I1 T st f1 w0 step I4 (T.keep _ _ _ st (λb hb ob e=>kp b ob (Heap.get?_push_of_some _ e))) λH' s4 m IX hn m4 q=>by
  show U9 _ X.A (VJ (.Name y py) X.env (.ref s2.heap.objs.size)) _ _ s4;refine Wd (qU IX hN NY hy (v:=.ref s2.heap.objs.size) rfl (λs5 I7 ⟨a,hsb,ha⟩=>?_) hf);have PC:(s2.heap.push {cls:=.type "list",data:=.seq ([]:List Os).toArray}).objs.size≠a:=by
   rcases ha with e|e
   .rw[e];exact LO
   .exact λz=>LP y a e z.symm
  exact#[m,hn.sameBut hsb PC,λh' Mc=>#[_,H',I7.turned (t':=s5.toks) (it:=(s2.heap.push {cls:=.type "list",data:=.seq ([]:List Os).toArray}).objs.size) (λb ob hb e=>(Mc.2 b hb).trans e) m4 LO (.inr I3.sz) LP MG,q]]
 exact WE s9 (T.self _ _ _ _ _ (T.keep _ _ _ st (λb hb ob e=>kp b ob (Heap.get?_push_of_some _ e))) s9)
end
end L2
namespace My
def RepS.snoc{K:Ex}{B F H:Hp}{z:SD}{s:L2.St}{d:D}{v:V}(h:RepS K B F H z s)(r:Rep K F d v):RepS K B F H (z++[be d]) (s++[be v]):=by
 have no:=r.noown;have get:∀{j:Nat} {x:D},(z++[be d])[j]?=be (be x)->(j<z.length/\z[j]?=be (be x))\/(j=z.length/\x=d):=λ{j x} e=>by
  rcases Jr j z.length with q|q
  .rw[IE q]at e;exact .inl #[q,e]
  .rw[IZ q]at e;cases hz:j-z.length with
   |zero=>rw[hz]at e;simp at e;exact .inr #[v4,e.symm]
   |succ n=>rw[hz]at e;simp at e
 have lt:∀{j:Nat},j<z.length->(s++[be v])[j]?=s[j]?:=λ{j} q=>IE (by rw[h.len];exact q);refine#[by rw[Ic,Ic,h.len];rfl,λj x e nx=>?_,λj ds e=>?_,λj k dj dk a e1 e2 e3 e4=>?_]
 .rcases get e with⟨q,e⟩|⟨q,rfl⟩
  .rw[lt q];exact h.val j x e nx
  .exact#[v,by rw[q,IZ (by rw[h.len];exact HP _),h.len];simp,r]
 .rcases get e with⟨q,e⟩|⟨q,e⟩
  .rw[lt q];exact h.own j ds e
  .rw[<-e]at no;cases no
 .rcases get e1 with⟨q,e1⟩|⟨q,e1⟩
  .rcases get e2 with⟨q2,e2⟩|⟨q2,e2⟩
   .rw[lt q]at e3;rw[lt q2]at e4;exact h.apart j k dj dk a e1 e2 e3 e4
   .rw[<-e2]at no;cases no
  .rw[<-e1]at no;cases no
def okB:Bool->Bool->Prop->Prop->Prop
 |_,true,A,_=>A
 |false,false,_,B=>B
 |true,false,_,_=>False
def cmpG(nf:Bool)(tt:TDT)(te:TD)(z:SD)(R:D->Prop)(items:List D):Prop:=items.length<=100000/\∃W:Nat->List D->Prop,W 0 []/\(∀k x ys,items[k]?=be x->(nf=true->ys.length=k)->W k ys->tt (z++[be x]) λb=>okB nf b (te (z++[be x]) λy=>W (k+1) (ys++[y])) (W (k+1) ys))/\∀ys,(nf=true->ys.length=items.length)->W items.length ys->R (.lst ys)
def cmpP(te:TD)(z:SD)(R:D->Prop)(items:List D):Prop:=items.length<=100000/\∃W:Nat->List D->Prop,W 0 []/\(∀k x ys,items[k]?=be x->ys.length=k->W k ys->te (z++[be x]) λy=>W (k+1) (ys++[y]))/\∀ys,ys.length=items.length->W items.length ys->R (.lst ys)
def kU(ti:TDI)(te:TD):TD:=λz R=>ti z (cmpP te z R)
def dT1:TDT:=λ_ R=>R true
abbrev DIf(X:Cx)[Jx](j_:List U6)(t:TDT):Prop:=PIf X j_ (lT X.K t)
variable{X:Cx}
def kW[Jx]:DIf X [] dT1:=pif_nil.anti λs H Q q=>by
 obtain⟨B,F,z,kf,rs,R,h1,h2⟩:=q;exact h2 true F H (Grow.refl kf.fh) h1
structure ItIs(K:Ex)(J:It)(F1 H1:Hp)(items:List D):Prop where
 go:∀k F' H',Grow F1 H1 F' H'->k<items.length->J.go k H'
 yld:∀k F' H' x H'',Grow F1 H1 F' H'->k<items.length->J.yld k H' x H''->H''=H'/\∃d,items[k]?=be d/\Rep K F' d x
 stop:∀F' H',Grow F1 H1 F' H'->J.stop items.length H'
def ItOk[Jx](K:Ex)(wi:TI)(ti:TDI):Prop:=∀{s:L2.St} {H B F:Hp} {z:SD} {P:List D->Prop} {Q:It->Hp->Prop},Kept B Jx.F0 F H->RepS K B F H z s->ti z P->(∀items J F1 H1,Grow F H F1 H1->P items->ItIs K J F1 H1 items->Q J H1)->wi s H Q
section
variable {X:Cx}
variable{K:Ex}{H:Hp}{s:L2.St}{R:My.D->Prop}{items:List My.D}
def tV[Jx]{B F F1 H1:Hp}{z:SD}{Q:VK}{nf:Bool}{tt:TDT}{te:TD}{J:It}(kf:Kept B Jx.F0 F H)(g1:Grow F H F1 H1)(rs:RepS K B F H z s)(h2:∀D ys us F' H',H D=LH->F' D=LH->Grow F H F' H'->H' D=be (.lst us)->Reps K F' ys us->R (.lst ys)->Q (.ref D) H')
    (it:ItIs K J F1 H1 items) (hd:cmpG nf tt te z R items):
    ∀D,H1 D=LH->∃W:Nat->Nat->Hp->Prop,(∃m,W 0 m (upd H1 D (.lst [])))/\∀i m H,W i m H->
      (J.stop i H/\Q (.ref D) H)\/(J.go i H/\∀x H',J.yld i H x H'->lT K tt (s++[be x]) H' λb H1=>if b=true then lE K te (s++[be x]) H1 λy H''=>∃vs,H'' D=be (.lst vs)/\vs.length<sizeLine/\∃m',m'<m/\W (i+1) m' (upd H'' D (.lst (vs++[y])))else ∃m',m'<m/\W (i+1) m' H1):=by
  intro D hD;obtain⟨hz,W,w0,c8,out⟩:=hd;have Tg:F1 D=none:=g1.fh.free hD;have hH:H D=none:=g1.hh.free hD;refine⟨λk m H'=>m=items.length-k/\k<=items.length/\∃F' ys us,Grow F1 H1 F' H'/\H' D=be (.lst us)/\F' D=LH/\Reps K F' ys us/\(ys.length<=k/\(nf=true->ys.length=k))/\W k ys,
    #[items.length,MF,Iq _,F1,[],[],#[Same.refl F1,g1.fh.trans (aN hD _),aN hD _,λb h _=>h],aC,Tg,reps_nil.mpr rfl,#[HP _,λ_=>rfl],w0],?_⟩
  rintro k m H'⟨rfl,hk,F',ys,us,G,hu,hF,ry,hl,w⟩;by_cases f9:k<items.length
  . refine .inr #[it.go k F' H' G f9,λx H'' hy=>?_];obtain⟨e,d,hd,rd⟩:=it.yld k F' H' x H'' G f9 hy;subst e;refine#[B,F',z++[be d],kf.grow (g1.trans G),(rs.grow (g1.trans G)).snoc rd,_,c8 k d ys hd hl.2 w,λb F3 H3 g3 hb=>?_];have PD:H3 D=be (.lst us):=g3.hh D _ hu;have OS:F3 D=none:=g3.out D hF (by rw[hu];exact λq=>nomatch q);cases b with
    |false=>
      cases nf with
      |true=>exact hb.elim
      |false=>exact#[items.length-(k+1),v4,rfl,v4,F3,ys,us,G.trans g3,PD,OS,ry.mono g3.ff,#[v4,λz=>nomatch z],hb]
    |true=>
    refine#[B,F3,z++[be d],(kf.grow (g1.trans G)).grow g3,((rs.grow (g1.trans G)).snoc rd).grow g3,_,(show te _ _ from by cases nf<;>exact hb),λy yv F2 H2 g2 hw rv=>?_];have Th:H2 D=be (.lst us):=g2.hh D _ PD;have LQ:F2 D=none:=g2.out D OS (by rw[PD];exact λq=>nomatch q);have UF:us.length<=k:=by rw[ry.length];exact hl.1
    refine⟨us,Th,by     have:(100000:Nat)<sizeLine:=by decide
                        lia,items.length-(k+1),v4,rfl,v4,F2,ys++[y],us++[yv],?_,aC,LQ,((ry.mono g3.ff).mono g2.ff).append (fk rv),#[UD,λz=>by simp[hl.2 z]],hw⟩
    have GG:=(G.trans g3).trans g2;refine#[GG.ff,λb o e=>?_,λb o e=>?_,GG.out]
    . have ne:b≠D:=λq=>by rw[q,LQ]at e;cases e
      rw[ar ne];exact GG.fh b o e
    . have ne:b≠D:=λq=>by rw[q,hD]at e;cases e
      rw[ar ne];exact GG.hh b o e
  . have ek:k=items.length:=by lia
    subst ek;exact .inl #[it.stop F' H' G,h2 D ys us F' H' hH hF (g1.trans G) hu ry (out ys hl.2 w)]
def Ai{F F' H':Hp}{D:Addr}{us:List V}(GG:Grow F H F' H')(hu:H' D=be (.lst us))(hF:F' D=LH)(hH:H D=LH):Grow F H (upd F' D (.lst us)) H':=by
 refine#[GG.ff.trans (aN hF _),λb o e=>?_,GG.hh,λb h1 h3=>?_]
 .by_cases hb:b=D
  .subst hb;rw[aC]at e;cases e;exact hu
  .rw[ar hb]at e;exact GG.fh b o e
 .have ne:b≠D:=λq=>h3 (q ▸ hH);rw[ar ne];exact GG.out b h1 h3
variable {h_ iter:U6}{j_:List U6}{x:Ms}{px pos:Vf}{scope:VA}{ti te:TD}{tt:TDT}{wi:TI}{LR:TDI}
def tW[Jx]{nf:Bool}{G:SD->(D->Prop)->List D->Prop}(hG:∀z R items,G z R items->cmpG nf tt te z R items)(hI:ItOk K wi LR){Q:VK}(q:lE K (λz R=>LR z (G z R)) s H Q):gk wi (lT K tt) (lE K te) s H Q:=by
 obtain⟨B,F,z,kf,rs,R,h1,h2⟩:=q;exact hI kf rs h1 λitems J F1 H1 g1 hg it=>tV kf g1 rs (λD ys us F' H' hH hF GG hu ry hR=>h2 (.lst ys) (.ref D) _ H' (Ai GG hu hF hH) hR (rep_lst.mpr #[D,us,rfl,aC,ry.mono (aN hF _)])) it (hG _ _ _ hg)
def cmpP.g{z:SD}(h:cmpP te z R items):cmpG true dT1 te z R items:=
 let ⟨hz,W,w0,c8,out⟩:=h
 #[hz,W,w0,λk x ys e l w=>c8 k x ys e (l rfl) w,λys l w=>out ys (l rfl) w]
def itL[Jx]:ItOk K (rl K (lE K ti)) (dItL ti):=λ{s H B F z P Q} kf rs h1 h2=>by
 refine#[B,F,z,kf,rs,_,h1,λd v F1 H1 g1 hd rd=>?_];have key:∀(items:List D) (p:Addr) (vs:List V),SqL K F1 p vs->Reps K F1 items vs->P items->∃a,V.ref p=.ref a/\(∃xs,SqL K H1 a xs)/\Q (Itl K a) H1:=λitems p vs hq rr hd=>by
  refine#[p,rfl,#[vs,g1.fh.seq hq],h2 items _ F1 H1 g1 hd #[λk F' H' G hk=>?_,λk F' H' x H'' G hk hy=>?_,λF' H' G=>?_]]
  .have o8:k<vs.length:=by rw[rr.length];exact hk
   exact#[vs,vs[k],G.hh.seq (g1.fh.seq hq),by simp[o8]]
  .obtain⟨e,hy⟩:=hy;obtain⟨d,e2,r2⟩:=rr.get' (hy vs (G.hh.seq (g1.fh.seq hq)));exact#[e,d,e2,r2.mono G.ff]
  .exact#[vs,G.hh.seq (g1.fh.seq hq),by rw[rr.length];exact HP _]
 split at hd
 .obtain⟨p,vs,rfl,hq,rr⟩:=rep_lst.mp rd;exact key _ p vs (SqL.of hq) rr hd
 .obtain⟨p,vs,rfl,hq,rr⟩:=rep_rol.mp rd;exact key _ p vs hq rr hd
 .exact hd.elim
def itR[Jx]:ItOk K (rA (rT (lE K ti) tNil)) (dItR ti):=λ{s H B F z P Q} kf rs h1 h2=>by
 refine#[B,F,z,kf,rs,_,h1,λd v F1 H1 g1 hd rd=>?_];split at hd
 .rename_i n;obtain⟨⟨b1,b2⟩,hd⟩:=hd;have hl:((HS n.toNat).map λk=>D.int ((k:Nat):Int)).length=n.toNat:=by simp
  refine#[n,by rw[rep_int.mp rd],v4,b2,h2 _ _ F1 H1 g1 hd #[λk F' H' G hk=>by rw[hl]at hk;exact hk,λk F' H' x H'' G hk hy=>?_,λF' H' G=>by show n.toNat<=_;rw[hl];exact HP _]];rw[hl]at hk;obtain⟨e,rfl⟩:=hy;exact#[e,.int (k:Int),by simp[hk],rep_int.mpr (by congr 1;lia)]
 .exact hd.elim
def ib[Jx]{p1 p2:Vf}(hc:X.calm=true)(S:CompScope X scope x)(hm:X.mg "range"=LH)(hi:WDE X iter ti)(he:∀cl s₀ H₀ fp,WDE (cf X scope cl x s₀ H₀ fp) h_ te)(hg:autoParam (Gl X "range") zA0)
  (hs:autoParam (∀y,zFS X (.Call (.Name "range" p1) [iter] [] p2) y) zA3) (t6:autoParam (zSE X iter []) zA0) (g9:autoParam (U' [iter] X.env=[(false,Vd iter X.env)]) zA0):WDE X (.ListComp h_ [#[.Name x px,.Call (.Name "range" p1) [iter] [] p2,[],0]] scope pos) (kU (dItR ti) te):=#[have hi:=hi.out;have he:=λcl s₀ H₀ fp=>(he cl s₀ H₀ fp).out;(Ah hc S (kd hg hm (bt hi pa_nil t6) g9) (λ_ _ _ _=>kW) he hs).anti λs H Q q=>tW (λ_ _ _=>cmpP.g) itR q]
def Aj[Jx]{E:Ends}{ix:Nat}(hI:ItOk K wi LR)(q:lS K (dSet ix (kU LR te)) E s H):tAsg (gk wi (lT K dT1) (lE K te)) (fQ ix) E s H:=by
 obtain⟨B,F0,F,z,k,rs,ED,⟨P,h,j⟩,e⟩:=q;exact tW (λ_ _ _=>cmpP.g) hI #[B,F,z,k.kf,rs,P,h,λd v F' H' g hd rd=>e.nx _ _ F' H' (k.grow g) (j d hd) ((rs.grow g).set rd)]
def Ak[Jx](ix:Nat){y:Ms}{py m9:Vf}(hc:X.calm=true)(S:CompScope X scope x)(hN:X.N.Nodup)(hi:WDE X iter ti)(he:∀cl s₀ H₀ fp,WDE (cf X scope cl x s₀ H₀ fp) h_ te)(NY:autoParam (X.N[ix]?=be y) zA0)(hy:autoParam (Loc X.env.scope y) zA4)
  (hf:autoParam (zFN X y) zA2) (LN:autoParam (Vl (.ListComp h_ [#[.Name x px,iter,[],0]] scope pos) (be (.Name y py)) m9.line X.env=pure true) zA0) (hs:autoParam (∀y,zFS X iter y) zA3):WDS X (.Assign [.Name y py] (.ListComp h_ [#[.Name x px,iter,[],0]] scope pos) m9) (dSet ix (kU (dItL ti) te)):=#[have hi:=hi.out;have he:=λcl s₀ H₀ fp=>(he cl s₀ H₀ fp).out;(tU hc S (rn hi) (λ_ _ _ _=>kW) he hN NY hy hf LN hs).anti λE s H q=>Aj itL q]
end
def fq(scope fsc:VA):List (Ms×VO):=scope.names.map λ(n,k)=>if(k==NameKind.free&&fsc.kind== .function&&fsc.names.lookup n==be .cell)then(n,NameKind.cell)else(n,k)
def visB(l:List (Ms×VO))(n:Ms):Bool:=l.lookup n==be .local||l.lookup n==be .cell||l.lookup n==be .free
def dz(scope fsc:VA)(N:List Ms)(x:Ms):Bool:=
 scope.kind== .function&&scope.names.all (λy=>!(y.2== .cell))&&scope.names.all (λy=>!(y.2== .local)||scope.names.lookup y.1==be .local)&&scope.names.lookup x==be .local &&
 scope.names.all (λy=>!(y.2== .free)||fsc.names.lookup y.1==be .cell)&&N.all (λn=>decide (n=x)||!visB (fq scope fsc) n||scope.names.any (λy=>decide (y=(n,NameKind.free))))&&!visB (fq scope fsc) "" &&
 scope.names.all (λy=>!(y.2== .free)||(fq scope fsc).lookup y.1==be .cell)&&decide (N.map (λn=>if n=x then("":Ms)else n)++[x]).Nodup
def tX{l:List (Ms×VO)}{n:Ms}(h:l.lookup n=be .local\/l.lookup n=be .cell\/l.lookup n=be .free):visB l n=true:=by
 unfold visB;rcases h with h|h|h<;>rw[h]<;>rfl
def compScope{scope:VA}{x:Ms}(h:dz scope X.env.scope X.N x=true):CompScope X scope x:=by
 unfold dz at h;simp only[Io]at h;obtain⟨⟨⟨⟨⟨⟨⟨⟨h1,h2⟩,h3⟩,h4⟩,h5⟩,h6⟩,h7⟩,h8⟩,h9⟩:=h;have er:(W1 scope X.env).names=fq scope X.env.scope:=rfl;refine#[by simpa using h1,λy hy=>?_,λy hy e=>?_,by simpa using h4,λn hn=>?_,λn hn ne v=>?_,λv=>?_,λn hn=>?_,of_decide_eq_true h9]
 .have:=IQ.mp h2 y hy;simpa using this
 .have:=IQ.mp h3 y hy;rw[e]at this;simpa using this
 .have:=IQ.mp h5 _ hn;show X.env.scope.names.lookup n=be .cell;simpa using this
 .have:=IQ.mp h6 n hn;have v':visB (fq scope X.env.scope) n=true:=tX v;rw[v']at this;simp[ne]at this;exact this
 .have v':visB (fq scope X.env.scope) ""=true:=tX v;rw[v']at h7;cases h7
 .have:=IQ.mp h8 _ hn;rw[er];simpa using this
def putD(f:Ms)(v:D):List (Ms×D)->List (Ms×D)
 |[]=>[(f,v)]
 |(g,x)::r=>if g=f then(g,v)::r else(g,x)::putD f v r
def RepF.put{K:Ex}{F:Hp}{f:Ms}{d:D}{v:V}(r:Rep K F d v):∀{fs:List (Ms×D)} {ws:List (Ms×V)},RepF K F fs ws->RepF K F (putD f d fs) (putF f v ws)
 |[],ws,h=>by
  rw[repf_nil.mp h];exact repf_cons.mpr #[v,[],rfl,r,repf_nil.mpr rfl]
 |(g,x)::fs,ws,h=>by
  obtain⟨w,MH,rfl,h1,h2⟩:=repf_cons.mp h;unfold putD putF;by_cases e:g=f
  .rw[if_pos e,if_pos e];exact repf_cons.mpr #[v,MH,rfl,r,h2]
  .rw[if_neg e,if_neg e];exact repf_cons.mpr #[w,_,rfl,h1,RepF.put r h2]
def RepF.length{K:Ex}{F:Hp}:∀{fs:List (Ms×D)} {ws:List (Ms×V)},RepF K F fs ws->ws.length=fs.length
 |[],ws,h=>by rw[repf_nil.mp h];rfl
 |(g,x)::fs,ws,h=>by
  obtain⟨w,MH,rfl,h1,h2⟩:=repf_cons.mp h;rw[HX,HX,RepF.length h2]
def ClsA(K:Ex)(x f:Ms):Prop:=∃C,nsIn K SB x=be (be (.ref C))/\Cls K C/\NoAttr K C f
section
variable {X:Cx}{a b c e:U6}{ta tb tc te:TD}{pos:Vf}
def dFld(x f:Ms)(te:TD):TD:=λz R=>te z λd=>match d with|.obj y fs=>y=x/\∃d,fs.lookup f=be d/\R d|_=>False
variable{x:Ms}
def fu[Jx]{f:Ms}(h:ClsA X.K x f)(he:WDE X e te)(hb:autoParam (Vc e f X.env (Vd e X.env)=Vd e X.env) zA0):WDE X (.Attribute e f pos) (dFld x f te):=⟨have he:=he.out;(rR he hb).anti λs H Q q=>by
 obtain⟨C,hn,hc,hf⟩:=h;obtain⟨B,F,z,kf,rs,R,h1,h2⟩:=q;have fh:=kf.fh;refine#[B,F,z,kf,rs,_,h1,λd u F1 H1 g1 hx rx=>?_];split at hx
 .obtain⟨rfl,d,hl,hR⟩:=hx;obtain⟨a,C',dx,vs,rfl,gV,q,r⟩:=rep_obj.mp rx;rw[hn]at gV;cases gV;obtain⟨v,l,rv⟩:=r.look hl;exact#[a,C,dx,vs,v,rfl,g1.fh _ _ q,hc,hf,l,h2 d v F1 H1 g1 hR rv]
 .exact hx.elim⟩
def tY[Jx]{d:D}{v:V}{u:Os}(hm:X.mg x=be u)(r:RelV v u)(rd:∀H,Rep X.K H d v)(hg:autoParam (Gl X x) zA0)(hd:autoParam (zND x) zA1):DE X (.Name x pos) (dC d):=de_c (qW hg hm r hd) rd
def fv[Jx]{i:Int}(h:∃t,X.mg x=be (.int i t))(hg:autoParam (Gl X x) zA0)(hd:autoParam (zND x) zA1):WDE X (.Name x pos) (dC (.int i)):=⟨by
 obtain⟨t,h⟩:=h;exact tY (v:=.int i) h #[t,rfl] (λ_=>rep_int.mpr rfl) hg hd⟩
def fz[Jx]{y:Ms}(h:∃t,X.mg x=be (.str y t))(hg:autoParam (Gl X x) zA0)(hd:autoParam (zND x) zA1):WDE X (.Name x pos) (dC (.str y)):=⟨by
 obtain⟨t,h⟩:=h;exact tY (v:=.str y) h #[t,rfl] (λ_=>rep_str.mpr rfl) hg hd⟩
structure ClsI(K:Ex)(mg:Str->Option Os)(x:Str)(C:Addr):Prop where
 ns:nsIn K SB x=be (be (.ref C))
 mg:mg x=be (.ref C)
 cl:Cls K C
 ha:HR K (.ref C) "__class__"=be (be (.builtin "object.__class__"))
 hn:IN K (.builtin "object.__class__") "__get__"=be (be (.builtin "getset_descriptor.__get__"))
 htk:Jn K (.builtin "object.__class__")=be true
 hm:IB K C (.type "object")=be true
 self:kitOne K (.ref C) (.ref C)=be true
end
abbrev SiD:=List D->(List (Ms×D)->Prop)->Prop
def lSi(K:Ex)(C:Addr)(S:SiD):Sp:=λvs H Q _=>∃a dx us H1 F ds,vs=.ref a::us/\H=upd (upd H1 dx (.own a)) a (.ins C dx [])/\H1 a=LH/\H1 dx=LH/\dx≠a/\Same F H1/\Reps K F ds us/\
 ∃R:List (Ms×D)->Prop,S ds R/\∀fs ws LS F' H',Grow F H1 F' H'->R fs->H' a=be (.ins C LS ws)->F' a=LH->RepF K F' fs ws->Q .non H'
def CalM(P:U8)(w:U_)(K:Ex)(mg:Ms->Option Os)(base:Heap)(n:Nat)(x:Ms)(ps:List Ms)(S:SiD):Prop:=
 ∃C f fd,nsIn K SB x=be (be (.ref C))/\mg x=be (.ref C)/\Mk K C f/\FnOk P w K mg base (Exc.CX1 P w) n f fd ps (lSi K C S)/\Binds K fd ps []
def Al(x:Ms)(S:SiD)(t:TDA):TD:=λz R=>t z λds=>S ds λfs=>R (.obj x fs)
def kX[Jx]{pos:Vf}{n m:Nat}{ps:List Ms}{S:SiD}{x:Ms}{p:Vf}{e:U6}{es:List U6}{t:TDA}(M:CalM X.prog X.w X.K X.mg X.base n x ps S)(hr:Room m X.A)(ha:WDA X (e::es) t)(hg:autoParam (Gl X x) zA0)(hn:autoParam (n+1<=m) zA1)(c9:autoParam (zND x) zA1)
  (he:autoParam (zSE X e es) zA0) (c5:autoParam (zPL X pos es) zA0):WDE X (.Call (.Name x p) (e::es) [] pos) (Al x S t):=⟨by
 have ha:=ha.out;obtain⟨C,f,fd,hns,k8,mk,F,hb⟩:=M;refine(gQ mk F (hr.mono hn) hg k8 hb .nil eX ha c9 he c5).anti λs H Q q=>?_;obtain⟨B,F,z,kf,rs,R,h1,h2⟩:=q;have fh:=kf.fh;refine#[B,F,z,kf,rs,_,h1,λds vs F1 H1 g1 hx rx=>?_];intro a dx ha o9 k6;refine#[a,dx,vs,H1,F1,ds,by rw[Iz],rfl,ha,o9,k6,g1.fh,rx,_,hx,λfs ws LS F' H' g hR e8 j3 rf=>#[rfl,?_]];have s1:Same F' (upd F' a (.ins C LS ws)):=aN j3 _;refine h2 (.obj x fs) (.ref a) (upd F' a (.ins C LS ws)) H' #[(g1.ff.trans g.ff).trans s1,λb o q=>?_,g1.hh.trans g.hh,λb q1 q2=>?_] hR (rep_obj.mpr #[a,C,LS,ws,rfl,hns,aC,RepF.mono s1 fs ws rf])
 .by_cases hb:b=a
  .subst hb;rw[aC]at q;cases q;exact e8
  .rw[ar hb]at q;exact g.fh b o q
 .by_cases hb:b=a
  .subst hb;exact absurd (g1.hh.free ha) q2
  .rw[ar hb];exact(g1.trans g).out b q1 q2⟩
abbrev TID:=SD->List (Ms×D)->(List (Ms×D)->Prop)->Prop
def lI(K:Ex)[J:Jx](x:Ms)(t:TID):TS:=λE σ H=>∃C a dx ws F z fs,nsIn K SB x=be (be (.ref C))/\σ[0]?=be (be (.ref a))/\H a=be (.ins C dx ws)/\J.B a=LH/\F a=LH/\Kept J.B J.F0 F H/\RepS K J.B F H z σ/\RepF K F fs ws/\
 ∃R:List (Ms×D)->Prop,t z fs R/\∀l9 MH F' H',Kept J.B J.F0 F' H'->R l9->H' a=be (.ins C dx MH)->F' a=LH->RepF K F' l9 MH->E.nx σ H'
abbrev DI(X:Cx)[Jx](x:Ms)(st:List U7)(t:TID):Prop:=PSs X st (lI X.K x t)
structure WDI(X:Cx)[Jx](x:Str)(st:List U7)(t:TID):Prop where
 out:DI X x st t
section
variable {X:Cx}{x f:Ms}{e:U6}{te:TD}{pos c7 p:Vf}{rest:List U7}{tr:TID}
def tZ:TID:=λ_ fs R=>R fs
def Am(f:Ms)(te:TD)(tr:TID):TID:=λz fs R=>te z λd=>fs.length<1000/\tr z (putD f d fs) R
def dU[Jx]:WDI X x [] tZ:=⟨pss_nil.anti λE s H q=>by
 obtain⟨C,a,dx,ws,F,z,fs,hn,h0,e8,m_,j3,g,rs,rf,R,hR,k⟩:=q;exact k fs ws F H g hR e8 j3 rf⟩
def RepS.other{K:Ex}{B F H:Hp}{z:SD}{σ:L2.St}{a:Addr}{o o':HO}(rs:RepS K B F H z σ)(h:H a=be o)(hl:∀vs,o≠.lst vs):RepS K B F (upd H a o') z σ:=
 ⟨rs.len,rs.val,λi ds e=>by
  obtain⟨b,vs,q1,q2,q⟩:=rs.own i ds e;have ne:b≠a:=by
   rintro rfl;rw[h]at q2;cases q2;exact hl vs rfl
  exact#[b,vs,q1,by rw[ar ne];exact q2,q],rs.apart⟩
def bR[J:Jx]{ps:Vf}{sx:Ms}(hA:ClsA X.K x f)(he:WDE X e te)(hr:WDI X x rest tr)(hN:autoParam (X.N[0]?=be sx) zA0)(hv:autoParam (Vis X.env.scope sx) zA5)(hd:autoParam (zND sx) zA1)
  (g5:autoParam (zNC sx) zA1) (hs:autoParam (Vl e (be (.Attribute (.Name sx ps) f c7)) pos.line X.env=pure false) zA0):WDI X x (.Assign [.Attribute (.Name sx ps) f c7] e pos::rest) (Am f te tr):=⟨have he:=he.out;have hr:=hr.out;(eL (rS (cS (i:=0) hN hv hd g5) he hs) hr).anti λE s H q=>by
 obtain⟨C,a,dx,ws,F,z,fs,hn,h0,e8,m_,j3,g,rs,rf,R,hR,k⟩:=q;obtain⟨C',gV,hc,hf⟩:=hA;rw[hn]at gV;cases gV;refine#[_,F,z,g,rs,_,hR,λd v F2 H2 g2 hx rv=>?_];have k2:=g.grow g2;have R4:=g2.hh a _ e8;have LQ:F2 a=none:=g2.out a j3 (by rw[e8];exact λz=>nomatch z);refine#[.ref a,h0,a,C,dx,ws,rfl,R4,hc,hf,by rw[rf.length];exact hx.1,?_];have Tj:Same F2 (upd H2 a (.ins C dx (putF f v ws))):=λb o q=>by
  have ne:b≠a:=by rintro rfl;rw[LQ]at q;cases q
  rw[ar ne];exact g2.fh b o q
 have Ly:Same J.B (upd H2 a (.ins C dx (putF f v ws))):=λb o q=>by
  have ne:b≠a:=by rintro rfl;rw[m_]at q;cases q
  rw[ar ne];exact k2.bh b o q
 exact#[C,a,dx,putF f v ws,F2,z,putD f d fs,hn,h0,aC,m_,LQ,#[Ly,Tj,k2.f0,k2.out,k2.eb,k2.jf,k2.jo],(rs.grow g2).other R4 (λ_ z=>nomatch z),RepF.put rv (RepF.mono g2.ff fs ws rf),R,hx.2,k]⟩
end
section
variable {P:U8}{w:U_}{K:Ex}{mg:Ms->Option Os}{base:Heap}
def ub{K:Ex}{B F H:Hp}{z:SD}{σ:L2.St}{v:V}(rs:RepS K B F H z σ):RepS K B F H (LH::z) (be v::σ):=
  ⟨by rw[HX,HX,rs.len],λi d e no=>by
    cases i with
    |zero=>cases e
    |succ i=>exact rs.val i d e no,λi ds e=>by
    cases i with
    |zero=>cases e
    |succ i=>exact rs.own i ds e,λi j di dj a e1 e2 e3 e4=>by
    cases i with
    |zero=>cases e1
    |succ i=>
      cases j with
      |zero=>cases e2
      |succ j=>rw[rs.apart i j di dj a e1 e2 e3 e4]⟩
def Cls.okI{x qual:Ms}{st:U7}{f C:Addr}{fd:Ve}{N:List Ms}{p0:Ms}{ps:List Ms}{k:Nat}{S:SiD}(T:Fun K "__init__" qual st f fd)(hb:Binds K fd (p0::ps) [])(F:FnScope (p0::N) (p0::ps) (ah st))(len:∀ds R,S ds R->ds.length=ps.length)
  (hns:nsIn K SB x=be (be (.ref C))) (k8:mg x=be (.ref C)) (mk:Mk K C f)
  (a8:∀(cdv:Os) (A:Va) (outer:List VS) (s:P3) (H:Hp) (E:XK) (J:Jx),Room k (A.deeper (Vh qual (ah st) s.heap.objs.size f cdv))->
   ∃t,DI (cxOf (Exc.CX1 P w) P w K mg base (p0::N) qual (ah st) f cdv A outer s H E).nox x (aK st) t/\∀ds R,S ds R->t (LH::startD N ds) [] R):CalM P w K mg base (k+1) x (p0::ps) S:=by
 refine#[C,f,fd,hns,k8,mk,Fun.okC T F (λvs H Q E h=>?_) (λcdv A outer s H vs Q E hr h=>?_),hb]
 .obtain⟨a,dx,us,H1,F,ds,rfl,_,_,_,_,_,rs,R,h,_⟩:=h;rw[HX,HX,rs.length,len ds R h]
 .obtain⟨a,dx,us,H1,F1,ds,rfl,rfl,ha,o9,k6,fh,rs,R,h,q⟩:=h
  letI:Jx:=#[H1,F1,λ_ _ _=>False]
  obtain⟨t,ht,hq⟩:=a8 cdv A outer s _ E inferInstance hr;have Fa:F1 a=none:=fh.free ha;have hl:L2.start (p0::N) (.ref a::us)=be (.ref a)::L2.start N us:=by
   unfold L2.start;rw[Ik,HX,HX,KO];rfl
  have s1:Same H1 (upd (upd H1 dx (.own a)) a (.ins C dx [])):=(aN o9 _).trans (aN (by rw[ar (Ne.symm k6)];exact ha) _);refine#[_,ht.nox,C,a,dx,[],F1,LH::startD N ds,[],hns,by rw[hl];rfl,aC,ha,Fa,#[s1,fh.trans s1,Same.refl F1,λ_ h _=>h,rfl,Same.refl F1,λ_ h _=>h],?_,repf_nil.mpr rfl,R,hq ds R h,λl9 MH F' H' g hR e8 j3 rf=>q l9 MH dx F' H' #[g.f0,g.fh,g.bh,g.out] hR e8 j3 rf];rw[hl];exact ub (dQ rs)
end
section
variable {X:Cx}{a b c e:U6}{ta tb tc te:TD}{pos:Vf}
def An(t u:TD):TDI:=λz R=>t z λx=>u z λy=>match x,y with|.int i,.int j=>(-(2^62)<=i/\i<2^62/\-(2^62)<=j/\j<2^62)/\R ((HS (j-i).toNat).map λk=>D.int (i+((k:Nat):Int)))|_,_=>False
def Ao[Jx](i:Nat){x:Ms}{p p1 p2:Vf}{body:List U7}{R5:TSD}(hp:Vs (SZ X.prog X.w) X.A X.env X.xe)(hc:X.calm=true)(hN:X.N.Nodup)(hm:X.mg "range"=LH)(ha:WDE X a ta)(f_:WDE X b tb)(hb:WDSs X body R5)(hg:autoParam (Gl X "range") zA0)(hi:autoParam (X.N[i]?=be x) zA0)(hx:autoParam (Loc X.env.scope x) zA4)
  (hf:autoParam (zFN X x) zA2) (hs:autoParam (∀y,zFS X (.Call (.Name "range" p1) [a,b] [] p2) y) zA3) (t6:autoParam (zSE X a [b]) zA0) (PF:autoParam (zSE X b []) zA0) (g9:autoParam (U' [a,b] X.env=[(false,Vd a X.env),(false,Vd b X.env)]) zA0) (PH:autoParam (U' [b] X.env=[(false,Vd b X.env)]) zA0):WDS X (.For (.Name x p) (.Call (.Name "range" p1) [a,b] [] p2) body [] pos) (dFor i (An ta tb) R5):=⟨have ha:=ha.out;have f_:=f_.out;have hb:=hb.out;(db hp hc (xN hg hm (bt ha (bt f_ pa_nil PF) t6) g9 PH) (eN hN hi hx hf) hb hs).anti λE s H q=>by
 obtain⟨B,F0,F,z,kp,rs,ED,h,e⟩:=q;refine#[B,F,z,kp.kf,rs,_,h,λd1 v1 F1 H1 g1 h1 r1=>?_];refine#[B,F1,z,kp.kf.grow g1,rs.grow g1,_,h1,λd2 v2 F2 H2 g2 h2 r2=>?_];split at h2
 .rename_i lo j7;obtain⟨bd,W,w0,c8,out⟩:=h2;have hl:((HS (j7-lo).toNat).map λk=>D.int (lo+((k:Nat):Int))).length=(j7-lo).toNat:=by simp
  refine#[lo,j7,by rw[rep_int.mp r1,rep_int.mp r2],bd,ke (lo:=lo) (n:=(j7-lo).toNat) (λk s' H'=>∃F' z',Kept B F0 F' H'/\RepS X.K B F' H' z' s'/\W k z') #[F2,z,(kp.grow g1).grow g2,(rs.grow g1).grow g2,w0] ?_ ?_]
  .rintro k s' H' hk⟨F',z',k',r',w'⟩;exact#[B,F0,F',_,k',r'.set (d:=.int (lo+(k:Int))) (rep_int.mpr rfl),_,c8 k (.int (lo+(k:Int))) z' (by simp[hk]) w',#[λz3 s3 F3 H3 k3 h3 r3=>#[F3,z3,k3,r3,h3],e.rt,e.nx,λz3 s3 F3 H3 k3 h3 r3=>#[F3,z3,k3,r3,h3]]]
  .rintro s' H'⟨F',z',k',r',w'⟩;exact e.nx z' s' F' H' k' (out z' (by rw[hl];exact w')) r'
 .exact h2.elim⟩
def RepS.change[Jx]{K:Ex}{B F0 F H:Hp}{z:SD}{s:L2.St}{i:Nat}{ds PJ:List D}{a:Addr}{n4:List V}(rs:RepS K B F H z s)(k:Kept B F0 F H)(ez:z[i]?=be (be (.own ds)))(q1:s[i]?=be (be (.ref a)))(hB:B a=LH)(hF:F a=LH)(r:Reps K F PJ n4):
  Kept B F0 F (upd H a (.lst n4))/\RepS K B F (upd H a (.lst n4)) (z.set i (be (.own PJ))) s:=by
 have same:∀{G:Hp},G a=LH->Same G H->Same G (upd H a (.lst n4)):=λ{G} ga gs b o eb=>by
  have ne:b≠a:=λz=>by rw[z,ga]at eb;cases eb
  rw[ar ne];exact gs b o eb
 have r2:=rs.setOwn (i:=i) (a:=a) (vs:=n4) (ds:=PJ) hB hF r (λj dj hj e1 e2=>hj (rs.apart j i dj ds a e1 ez e2 q1));have es:s.set i (be (.ref a))=s:=by
  apply Jq;intro n;by_cases hn:i=n
  .subst hn;rw[IG (Ia.mp q1).1,q1]
  .rw[Ie hn]
 rw[es]at r2;exact#[#[same hB k.bh,same hF k.fh,k.f0,k.out,k.eb,k.jf,k.jo],r2]
def Reps.put{K:Ex}{F:Hp}{d:D}{v:V}(r:Rep K F d v):∀{ds:List D} {vs:List V} (j:Nat),Reps K F ds vs->Reps K F (ds.set j d) (vs.set j v)
 |[],vs,j,h=>by rw[reps_nil.mp h];exact reps_nil.mpr rfl
 |x::ds,vs,0,h=>by
  obtain⟨u,us,rfl,h1,h2⟩:=reps_cons.mp h;exact reps_cons.mpr #[v,us,rfl,r,h2]
 |x::ds,vs,j+1,h=>by
  obtain⟨u,us,rfl,h1,h2⟩:=reps_cons.mp h;exact reps_cons.mpr #[u,_,rfl,h1,Reps.put r j h2]
def uc(i:Nat)(te ti:TD):TSD:=λE z=>match z[i]? with
 |some (be (.own ds))=>te z λd=>ti z λy=>match y with|.int k=>∃j,ixN ds.length k=be j/\E.nx (z.set i (be (.own (ds.set j d))))|_=>False
 |_=>False
def ud[Jx](i:Nat){x:Ms}{p1 p2:Vf}(he:WDE X e te)(hb:WDE X b tb)(hN:autoParam (X.N[i]?=be x) zA0)(hv:autoParam (Vis X.env.scope x) zA5)(hd:autoParam (zND x) zA1)
  (g5:autoParam (zNC x) zA1)
  (ha:∀v,VJ (.Subscript (.Name x p1) b p2) X.env v=(do
   let ov <-Vv [v] (Vd (.Name x p1) X.env)
   let iv <-Vv [v,ov] (Vd b X.env)
   VR p2
   Vv [v,ov,iv] (WA ov iv v)
   W0 [v,ov,iv] []):=by intro _;rfl)
  (hs:autoParam (VC [.Subscript (.Name x p1) b p2] e pos.line X.env=pure false) zA0) (hw:autoParam (VD [.Subscript (.Name x p1) b p2] e X.env=pure none) zA0)
  (h1:autoParam ((Vb [.Subscript (.Name x p1) b p2] X.env).map (·.2)=[VJ (.Subscript (.Name x p1) b p2) X.env]) zA0):WDS X (.Assign [.Subscript (.Name x p1) b p2] e pos) (uc i te tb):=⟨have he:=he.out;have hb:=hb.out;(gM he (xE (cS hN hv hd g5) hb sq ha) hs hw h1).anti λE s H q=>by
 obtain⟨B,F0,F,z,k,rs,ED,h,e⟩:=q;unfold uc at h;split at h
 .rename_i ds ez;refine#[B,F,z,k.kf,rs,_,h,λd v F1 H1 g1 hx rv=>?_];obtain⟨a,vs,q1,q2,q3,q4,q5⟩:=(rs.grow g1).own i ds ez;refine#[.ref a,q1,B,F1,z,k.kf.grow g1,rs.grow g1,_,hx,λy w F2 H2 g2 hy ry=>?_];split at hy
  .obtain⟨j,ej,hn⟩:=hy;have r2:=(rs.grow g1).grow g2;have k2:=(k.grow g1).grow g2;have LQ:F2 a=none:=g2.out a q4 (by rw[q2];exact λz=>nomatch z);refine#[a,vs,_,j,rfl,rep_int.mp ry,g2.hh _ _ q2,by rw[q5.length];exact ej,?_];obtain⟨k3,r3⟩:=r2.change k2 ez q1 q3 LQ (Reps.put (rv.mono g2.ff) j (q5.mono g2.ff));exact e.nx _ s F2 _ k3 hn r3
  .exact hy.elim
 .exact h.elim⟩
end
end My
namespace My
open Exc
abbrev XD:=Ms->List (Ms×D)->Prop
def ErrD(K:Ex)(F:Hp)(x:Ms)(fs:List (Ms×D))(C:Addr)(od:Option Addr):Prop:=
 nsIn K SB x=be (be (.ref C))/\∃vs,RepF K F fs vs/\((od=LH/\vs=[])\/∃b,od=be b/\F b=be (.xd vs))
abbrev SpX:=List D->(D->Prop)->XD->Prop
def lSpX(K:Ex)(S:SpX):Sp:=λvs H Q E=>∃F ds,Same F H/\Reps K F ds vs/\∃(R:D->Prop) (RX:XD),S ds R RX/\(∀d v F' H',Grow F H F' H'->R d->Rep K F' d v->Q v H')/\
 ∀x fs C od F' H',Grow F H F' H'->RX x fs->ErrD K F' x fs C od->E (.ref C) od H'
def Exd(X:Cx)(H:Hp)(s:P3)(e C:Addr)(od:Option Addr):Prop:=
  H e=LH/\X.s₀.heap.get? e=LH/\(∀p∈X.pn,p.1≠e)/\
  ((∃sl vs,s.heap.get? e=be #[.ref C,od,.fields vs,sl]/\vs[1]?=be .none)\/
    ∃T,ExAt s.heap e C od T .none/\X.s₀.heap.get? T=LH/\H T=LH/\∀p∈X.pn,p.1≠T)
def XOk(X:Cx)[J:Jx]:Prop:=∀(σ:L2.St) (z:SD) (F H:Hp) (s:P3) (e C:Addr) (od:Option Addr) (x:Ms) (fs:List (Ms×D)),Inv X [] σ H s->Kept J.B J.F0 F H->RepS X.K J.B F H z σ->J.RX z x fs->ErrD X.K F x fs C od->Exd X H s e C od->X.xe (.ref e) s
variable{X:Cx}{pins:List (Addr×Vn)}{σ:L2.St}{H:Hp}{s:P3}
def Inv.nopins(I:Inv X pins σ H s):Inv X [] σ H s:=I.pins_of λp hp=>by cases hp
section
variable {X:Cx}{k:Nat}{f:Addr}{fd:Ve}{ps:List Ms}{sp:Sp}{E:XK}
def ic{pins:List (Addr×Vn)}{σ:L2.St}{H:Hp}{s:P3}{Q:VK}{us:List Os}{vs:List V}(F:FnOk X.prog X.w X.K X.mg X.base (CX1 X.prog X.w) k f fd ps sp)(hr:Room k X.A)(hb:Binds X.K fd ps [])
  (hx:∀e s',CX1 X.prog X.w X.stack H s E e s'->X.xe e s') (I:Inv X pins σ H s) (r:Vals vs us) (h:sp vs H Q E):U9 (SZ X.prog X.w) X.A (call (.ref f) us) (EP X pins σ Q) X.xe s:=by
 have hl:us.length=ps.length:=by rw[<-L2.Vals.length r];exact F.len _ _ _ _ h
 have f_:=hb s us I.kIn (by rw[Iz];exact hl);rw[Iz]at f_;refine Vw (VH (F.run X.A X.stack s H #[us,[]] us vs Q E hr I.env0 f_ r h) λr s' hq=>?_);cases r with
 |error e=>exact hx e s' hq
 |ok fl=>
  cases fl with
  |ret u=>exact I.after hq
  |next=>exact False.elim hq
  |brk=>exact False.elim hq
  |cont=>exact False.elim hq
end
variable{b:Addr}
def cL(I:Inv X pins σ H s)(d9:X.ex=[])(q:s.heap.get? b=LH):X.s₀.heap.get? b=none:=by
 cases z:X.s₀.heap.get? b with
 |none=>rfl
 |some o=>
  obtain⟨o',z'⟩:=I.base.there b o z (by rw[d9];simp);rw[q]at z';cases z'
def pn_free(I:Inv X pins σ H s)(q:s.heap.get? b=LH):∀p∈X.pn,p.1≠b:=λp hp z=>by
 have:=(I.pin p (Jl _ hp)).1;rw[z,q]at this;cases this
def XOk.out[J:Jx](hx:XOk X)(d9:X.ex=[]){z:SD}{s':P3}{ev:Os}(I:Inv X pins σ H s)
  (h:CX1 X.prog X.w X.stack H s (λCv od H'=>∃x fs C F',Cv=.ref C/\Kept J.B J.F0 F' H'/\RepS X.K J.B F' H' z σ/\J.RX z x fs/\ErrD X.K F' x fs C od) ev s'):X.xe ev s':=by
 obtain⟨e,C,od,T,H',rfl,LJ,hb,un,hok,PK,ne,nT,He,HT,x,fs,C',F',hC,kk,rr,hR,er⟩:=h;cases hC;have I':Inv X pins σ H' s':=I.call' LJ un hok hb (λb z=>absurd z MF);exact hx σ z F' H' s' e C od x fs (Inv.nopins I') kk rr hR er #[He,cL I d9 ne,pn_free I ne,.inr #[T,PK,cL I d9 nT,HT,pn_free I nT]]
abbrev CalX(P:U8)(w:U_)(K:Ex)(mg:Ms->Option Os)(base:Heap)(n:Nat)(x:Ms)(ps:List Ms)(S:SpX):Prop:=Cal P w K mg base n x ps (lSpX K S)
def Ap[J:Jx](S:SpX)(t:TDA):TD:=λz R=>t z λds=>S ds R (J.RX z)
variable{ps:List Ms}{x:Ms}
def ue[J:Jx]{pos:Vf}{n m:Nat}{S:SpX}{p:Vf}{e:U6}{es:List U6}{t:TDA}(C:CalX X.prog X.w X.K X.mg X.base n x ps S)(hx:XOk X)(hr:Room m X.A)(ha:WDA X (e::es) t)(d9:autoParam (X.ex=[]) zA0)(hg:autoParam (Gl X x) zA0)(hn:autoParam (n<=m) zA1)(c9:autoParam (zND x) zA1)
  (he:autoParam (zSE X e es) zA0) (c5:autoParam (zPL X pos es) zA0):WDE X (.Call (.Name x p) (e::es) [] pos) (Ap S t):=⟨by
 have ha:=ha.out;obtain⟨f,fd,F,hb,hk,hm⟩:=C;intro pins s σ H Q I h;obtain⟨B,Fr,z,kf,rs,R,h1,h2⟩:=h;obtain rfl:B=J.B:=kf.eb;refine Vg (cz I hg hm ?_ c9);refine callWith_K (h₀:=X.base) I.ok.mod.kin hk (thn (ha pos pins s σ H (λvs H1=>lSpX X.K S vs H1 Q (λCv od H'=>∃x fs C F',Cv=.ref C/\Kept J.B J.F0 F' H'/\RepS X.K J.B F' H' z σ/\J.RX z x fs/\ErrD X.K F' x fs C od)) I #[_,Fr,z,kf,rs,_,h1,λds vs F1 H1 g1 hx rx=>?_]) λus s1 ⟨vs,H1,I1,r,q⟩=>#[I1.kIn,?_]) he c5
 .exact#[F1,ds,g1.fh,rx,R,J.RX z,hx,λd v F' H' g=>h2 d v F' H' (g1.trans g),λx fs C od F' H' g hR er=>#[x,fs,C,F',rfl,(kf.grow g1).grow g,(rs.grow g1).grow g,hR,er]]
 .exact ic F (hr.mono hn) hb (λe s' hq=>hx.out d9 I1 hq) I1 r q⟩
section
variable {P:U8}{w:U_}{K:Ex}{mg:Ms->Option Os}{base:Heap}
variable{N:List Ms}
def uf{qual:Ms}{scope:VA}{f:Addr}{cd:Os}{A:Va}{outer:List VS}{s:P3}{H:Hp}{E':XK}{pins:List (Addr×Vn)}{σ:L2.St}{H':Hp}{s':P3}{e C T:Addr}{od:Option Addr}
  (I':Inv (cxOf (CX1 P w) P w K mg base N qual scope f cd A outer s H E') pins σ H' s') (hx:ExAt s'.heap e C od T .none) (ne:s.heap.get? e=LH) (nT:s.heap.get? T=LH) (He:H' e=LH) (HT:H' T=LH) (hE:E' (.ref C) od H'):
  (cxOf (CX1 P w) P w K mg base N qual scope f cd A outer s H E').xe (.ref e) s':=by
 show U9 _ _ (WC _ _) _ _ _;unfold WC;refine Pi (sF I'.ok.frames I'.stack rfl hx λh2 T2 l_ y_ r_=>flight_none (s:={s' with heap:=h2}) l_ λh3 NT K'=>?_);have LM:s'.heap.get? T2=none:=Heap.get?_none_of_le y_;have f1:∀b,s'.heap.get? b=LH->s.heap.get? b=none:=λb q=>cL I' rfl q;have hok:HOk P w H' s'.heap:=I'.hok;have Mb:H' T2=none:=hok.fresh y_;have Tk:∀b∈[T,e],s.heap.get? b=none:=λb hb=>by
  rcases HQ.mp hb with z|z
  .rw[z];exact nT
  .rw[HN.mp z];exact ne
 have u2:Un (frs outer) [] H H' s.heap h2:=gX (show Un (frs outer) [] H H' s.heap s'.heap from I'.base) r_ Tk λb hb=>sG hb;have u3:Un (frs outer) [] H H' s.heap h3:=gX u2 K' (λb hb=>by rw[HN.mp hb];exact f1 T2 LM) λb hb=>by cases hb
 have k2:=fS hok r_ (λb hb=>I'.stkFree b hb) (λb hb=>by
  rcases HQ.mp hb with z|z
  .rw[z];exact HT
  .rw[HN.mp z];exact He)
 have k3:=fS k2 K' (λb hb=>by cases hb) (λb hb=>by rw[HN.mp hb];exact Mb);exact#[e,C,od,T2,H',rfl,I'.os,I'.bare,u3,k3,NT,ne,f1 T2 LM,He,Mb,hE]
variable{ps:List Ms}
def _root_.L2.Fun.okX{x:Ms}{st:U7}{f:Addr}{fd:Ve}{k:Nat}{S:SpX}(T:Fun K x x st f fd)(F:FnScope N ps (ah st))(len:∀ds R RX,S ds R RX->ds.length=ps.length)
  (a8:∀(cdv:Os) (A:Va) (outer:List VS) (s:P3) (H:Hp) (E:XK) (J:Jx),Room k (A.deeper (Vh x (ah st) s.heap.objs.size f cdv))->XOk (cxOf (CX1 P w) P w K mg base N x (ah st) f cdv A outer s H E)->
   ∃t,DSs (cxOf (CX1 P w) P w K mg base N x (ah st) f cdv A outer s H E) (aK st) t/\∀ds R RX,(∀z,J.RX z=RX)->S ds R RX->t {nx:=λ_=>R .non,rt:=R} (startD N ds)):FnOk P w K mg base (CX1 P w) (k+1) f fd ps (lSpX K S):=by
 refine Fun.okC T F (λvs H Q E h=>?_) (λcdv A outer s H vs Q E hr h=>?_)
 .obtain⟨F,ds,fh,rs,R,RX,h,_⟩:=h;rw[rs.length];exact len ds R RX h
 .obtain⟨F,ds,fh,rs,R,RX,h,q,qx⟩:=h
  letI:Jx:=#[H,F,λ_=>RX]
  have hx:XOk (cxOf (CX1 P w) P w K mg base N x (ah st) f cdv A outer s H E):=by
   intro σ z F' H' s' e C od y fs I kk rr hR er ⟨He,ne,_,hx⟩;have hE:E (.ref C) od H':=qx y fs C od F' H' #[kk.f0,kk.fh,kk.bh,kk.out] hR er;rcases hx with⟨sl,vs,h1,h2⟩|⟨T,h1,h2,h3,_⟩
   .exact sH I h1 h2 He ne hE
   .exact uf I h1 ne h2 He h3 hE
  obtain⟨t,ht,hq⟩:=a8 cdv A outer s H E inferInstance hr hx;refine#[_,ht,H,F,F,startD N ds,#[Same.refl H,fh,Same.refl F,λ_ h _=>h,rfl,Same.refl F,λ_ h _=>h],dQ rs,_,hq ds R RX (λ_=>rfl) h,#[λz' s' F' H' k hn _=>q _ _ F' H' #[k.f0,k.fh,k.bh,k.out] hn (rep_non.mpr rfl),λd v F' H' k hd rd=>q d v F' H' #[k.f0,k.fh,k.bh,k.out] hd rd,λ_ _ _ _ _ h _=>h.elim,λ_ _ _ _ _ h _=>h.elim]]
def Tx.okX{x:Ms}{st:U7}{k:Nat}{S:SpX}(T:Tx K mg x st ps)(F:FnScope N ps (ah st))(len:∀ds R RX,S ds R RX->ds.length=ps.length)
  (a8:∀(f:Addr) (cdv:Os) (A:Va) (outer:List VS) (s:P3) (H:Hp) (E:XK) (J:Jx),Room k (A.deeper (Vh x (ah st) s.heap.objs.size f cdv))->XOk (cxOf (CX1 P w) P w K mg base N x (ah st) f cdv A outer s H E)->
   ∃t,DSs (cxOf (CX1 P w) P w K mg base N x (ah st) f cdv A outer s H E) (aK st) t/\∀ds R RX,(∀z,J.RX z=RX)->S ds R RX->t {nx:=λ_=>R .non,rt:=R} (startD N ds)):CalX P w K mg base (k+1) x ps S:=by
 obtain⟨f,fd,T,hb,hm⟩:=T;exact#[f,fd,T.okX F len λcdv A outer s H E J hr hx=>a8 f cdv A outer s H E J hr hx,hb,T.kp,hm]
end
variable{P:U8}{w:U_}{h:Heap}
def ObjOk.there{a:Addr}{o:HO}(x:ObjOk P w H h a o):∃u,h.get? a=be u:=by
 cases o with
 |lst xs=>obtain⟨_,_,_,_,e⟩:=x;exact#[_,e]
 |tup xs=>obtain⟨_,_,_,o,e,_⟩:=x;exact#[_,e]
 |dK a9=>obtain⟨_,_,_,_,o,_,_,e,_⟩:=x;exact#[_,e]
 |dT a9=>obtain⟨_,_,_,_,o,_,_,e,_⟩:=x;exact#[_,e]
 |set S n=>obtain⟨o,_,_,_,e,_⟩:=x;exact#[_,e]
 |ins C dx fs=>obtain⟨_,_,_,e,_⟩:=x;exact#[_,e]
 |own y=>exact x
 |xd fs=>obtain⟨_,⟨_,_,_,e,_⟩,_⟩:=x;exact#[_,e]
 |rng lo hi=>obtain⟨_,_,_,e⟩:=x;exact#[_,e]
 |frz ob u=>obtain⟨e,_⟩:=x;exact#[_,e]
 |tbl ps=>exact#[_,(show h.get? a=be _ from x)]
 |met f y=>exact#[_,(show h.get? a=be _ from x)]
 |ext φ=>obtain⟨_,e,_⟩:=x;exact e
def gm{a:Addr}(x:HOk P w H h)(e:h.get? a=LH):H a=none:=by
 cases q:H a with
 |none=>rfl
 |some o=>
  obtain⟨u,hu⟩:=ObjOk.there (x a o q);rw[e]at hu;cases hu
def del(H:Hp)(a:Addr):Hp:=λb=>if b=a then LH else H b
def gp{a:Addr}:del H a a=none:=by unfold del;rw[if_pos rfl]
def cr{a:Addr}(h:b≠a):del H a b=H b:=by unfold del;rw[if_neg h]
section
variable {X:Cx}{pins:List (Addr×Vn)}{σ:L2.St}{H:Hp}{s:P3}{e:Addr}
variable{φ:Heap->Prop}
def Inv.drop(I:Inv X pins σ H s)(h:H e=be (.ext φ))(ne:X.s₀.heap.get? e=LH):Inv X pins σ (del H e) s:=by
 have nx:∀b o,H b=be o->(∀φ,o≠.ext φ)->b≠e:=λb o q n z=>by rw[z,h]at q;cases q;exact n φ rfl
 refine#[I.ok,I.os,I.bare,#[I.base.keep,I.base.slot,λb o q n hx=>?_,I.base.there,λb xs q=>?_,λb o u q=>?_,λb ps q=>?_],I.loc,I.cell,?_,λx c q=>?_,λp hp=>?_,λa o q=>?_,I.len]
 .have:b≠e:=λz=>by rw[z,ne]at q;cases q
  rw[cr this];exact I.base.free b o q n hx
 .have:=I.base.tups b xs q;rw[cr (nx b _ this λφ z=>nomatch z)];exact this
 .have:=I.base.frzs b o u q;rw[cr (nx b _ this λφ z=>nomatch z)];exact this
 .obtain⟨m,this⟩:=I.base.tbls b ps q;exact#[m,by rw[cr (nx b _ this λφ z=>nomatch z)];exact this]
 .by_cases z:X.env.locals=e
  .rw[z];exact gp
  .rw[cr z];exact I.free
 .by_cases z:c=e
  .rw[z];exact gp
  .rw[cr z];exact I.freeC x c q
 .obtain⟨h1,h2,h3⟩:=I.pin p hp;refine#[h1,?_,h3];by_cases z:p.1=e
  .rw[z];exact gp
  .rw[cr z];exact h2
 .by_cases z:a=e
  .rw[z,gp]at q;cases q
  .rw[cr z]at q;exact(I.hok a o q).stay (λb u _ r=>r) (λb r=>by rw[cr (nx b _ r λφ z=>nomatch z)];exact r) λb xs r=>by rw[cr (nx b _ r λφ z=>nomatch z)];exact r
def Inv.adopt(I:Inv X pins σ H s)(He:H e=LH)(ok:ObjOk X.prog X.w H s.heap e (.ext φ))(ne:X.s₀.heap.get? e=LH)(hl:e≠X.env.locals)(hc:∀x c,X.env.cells.lookup x=be c->c≠e)(hp:∀p∈X.pn++pins,p.1≠e):Inv X pins σ (upd H e (.ext φ)) s:=by
 refine#[I.ok,I.os,I.bare,#[I.base.keep,I.base.slot,λb o q n hx=>?_,I.base.there,λb xs q=>?_,λb o u q=>?_,λb ps q=>?_],I.loc,I.cell,?_,λx c q=>?_,λp M9=>?_,λa o q=>?_,I.len]
 .have:b≠e:=λz=>by rw[z,ne]at q;cases q
  rw[ar this];exact I.base.free b o q n hx
 .have:=I.base.tups b xs q;rw[ar (bG this He)];exact this
 .have:=I.base.frzs b o u q;rw[ar (bG this He)];exact this
 .obtain⟨m,this⟩:=I.base.tbls b ps q;exact#[m,by rw[ar (bG this He)];exact this]
 .rw[ar (Ne.symm hl)];exact I.free
 .rw[ar (hc x c q)];exact I.freeC x c q
 .obtain⟨h1,h2,h3⟩:=I.pin p M9;refine#[h1,?_,h3];rw[ar (hp p M9)];exact h2
 .by_cases z:a=e
  .rw[z,aC]at q;cases q;rw[z];exact ok
  .rw[ar z]at q;exact(I.hok a o q).stay (λb u _ r=>r) (λb r=>by rw[ar (bG r He)];exact r) λb xs r=>by rw[ar (bG r He)];exact r
end
structure ErrK(K:Ex)(mg:Str->Option Os)(x:Str)(C N:Addr)(bm:List Os):Prop where
 ns:nsIn K SB x=be (be (.ref C))
 mg:mg x=be (.ref C)
 kp:keepIn K (.ref C)=true
 obj:∃nm q bs sn sub ab col dd k0 k1 k2 k3 k5,K.lookup C=be (Vq nm q C N bs bm true sn sub ab col dd k0 k1 k2 k3 k5 "ValueError.__new__")
 tail:tailIn K veLine bm=true
structure ErrN(K:Ex)(N:Addr):Prop where
 ok:nsOkIn K N=true
 no:nsIn K N "__init__"=be LH
def ie{K:Ex}:∀{l:List Os},tailIn K veLine l=true->excMro l=true
 |[],e=>by simp[tailIn,veLine]at e
 |v::r,e=>by
  unfold tailIn at e;rcases Bool.or_eq_true_iff.mp e with q|q
  .rw[beq_iff_eq.mp q];decide+kernel
  .split at q
   .split at q
    .simp only[Io,beq_iff_eq]at q;unfold excMro;exact ie q.2
    .cases q
   .cases q
variable{K:Ex}{mg:Ms->Option Os}{C N:Addr}{bm:List Os}
def ErrK.base(k:ErrK K mg x C N bm):bm.contains (.type "BaseException")=true:=exc_has KK (ie k.tail)
section
variable {X:Cx}[J:Jx]{x:Ms}{C N:Addr}{bm:List Os}{e:U6}{es:List U6}{t:TDA}{p cpos pos:Vf}
def Aq(x:Ms)(t:TDA):TSD:=λ_ z=>t z λds=>ds.length<=1000/\J.RX z x []
def Ar(h:∃C N bm,ErrK X.K X.mg x C N bm/\ErrN X.K N)(hx:XOk X)(hc:X.calm=true)(ha:WDA X (e::es) t)(d9:autoParam (X.ex=[]) zA0)(hg:autoParam (Gl X x) zA0)(c9:autoParam (zND x) zA1)
  (he:autoParam (zSE X e es) zA0) (c5:autoParam (zPL X cpos es) zA0):WDS X (.Raise (be (.Call (.Name x p) (e::es) [] cpos)) LH pos) (Aq x t):=⟨by
 have ha:=ha.out;obtain⟨C,N,bm,k,kn⟩:=h;intro pins s σ H D I h;obtain⟨B,F0,F,z,kf,rs,ED,h,ee⟩:=h;obtain rfl:B=J.B:=kf.eb;obtain⟨nm,q,bs,sn,sub,ab,col,dd,k0,k1,k2,k3,k5,lk⟩:=k.obj;refine kE (nm:=nm) (q:=q) (C:=C) (N:=N) (bs:=bs) (bm:=bm) (hdct:=true) (sn:=sn) (sub:=sub) (ab:=ab) (col:=col) (dd:=dd) (k0:=k0) (k1:=k1) (k2:=k2) (k3:=k3) (k5:=k5) (newId:="ValueError.__new__") k.base (I.ok.hd hc) ?_;refine Vg (cz I hg k.mg ?_ c9);refine callWith_K (h₀:=X.base) I.ok.mod.kin k.kp (thn (ha cpos pins s σ H (λvs H1=>∃F1,vs.length<=1000/\Grow F H F1 H1/\J.RX z x []) I #[_,F,z,kf.kf,rs,_,h,λds vs F1 H1 g1 hx rx=>#[F1,by rw[rx.length];exact hx.1,g1,hx.2]]) λus s1 hh=>#[hh.elim λ_ h=>h.elim λ_ h=>h.1.kIn,?_]) he c5;obtain⟨vs,H1,I1,r,F1,hl,g1,hR⟩:=hh;have hC:=I1.kIn _ _ lk;obtain⟨hp,gg,dr,tk,os⟩:=s1;refine WR PySem.F.excBase_ValueError (tail_of_in I1.kIn k.tail) hC (.of_isNs (isNs_of_in I1.kIn kn.ok)) (nsMap_none_of_in I1.kIn kn.ok kn.no) (λh' ea hm=>?_) (by show us.length<=_;rw[<-L2.Vals.length r];exact sz hl);obtain⟨ta,h1,h2,h3⟩:=hm.there;have I2:Inv X pins σ H1 #[h',gg,dr,tk,os]:=I1.kept (t':=tk) hm.keeps;refine#[ea,ta,LH,[].toArray,rfl,hm.keeps _ _ hC,h1,?_];exact hx σ z F1 H1 _ ea C LH x [] (Inv.nopins I2) (kf.kf.grow g1) (rs.grow g1) hR #[k.ns,[],repf_nil.mpr rfl,.inl #[rfl,rfl]] #[gm I1.hok hm.new,cL I1 d9 hm.new,pn_free I1 hm.new,.inl #[[].toArray,_,h1,rfl]]⟩
end
def XN(e C:Addr)(od:Option Addr):HO:=.ext λh=>∃t sl,h.get? e=be #[.ref C,od,.fields [.ref t,.none,.none,.none,.bool false,.none].toArray,sl]
variable{e:Addr}{od:Option Addr}{sl:Array (Option Os)}
def XN.ok{t:Addr}(q:h.get? e=be #[.ref C,od,.fields [.ref t,.none,.none,.none,.bool false,.none].toArray,sl]):ObjOk P w H h e (XN e C od):=
 #[#[t,sl,q],#[_,q],λh1 h2 ⟨t,sl,q⟩ k=>#[t,sl,k _ q]]
def XN.get(x:HOk P w H h)(q:H e=be (XN e C od)):∃t sl,h.get? e=be #[.ref C,od,.fields [.ref t,.none,.none,.none,.bool false,.none].toArray,sl]:=(x e _ q).1
def ErrF(K:Ex)(F:Hp)(fs:List (Ms×D))(od:Option Addr):Prop:=∃vs,RepF K F fs vs/\((od=LH/\vs=[])\/∃b,od=be b/\F b=be (.xd vs))
def lEi(K:Ex)(C:Addr)(S:SiD):Sp:=λvs H Q _=>∃e us H1 F ds,vs=.ref e::us/\H=upd H1 e (XN e C LH)/\H1 e=LH/\Same F H1/\Reps K F ds us/\
 ∃R:List (Ms×D)->Prop,S ds R/\∀fs od F' H',Grow F H1 F' H'->R fs->H' e=be (XN e C od)->F' e=LH->ErrF K F' fs od->Q .non H'
def CalE(P:U8)(w:U_)(K:Ex)(mg:Ms->Option Os)(base:Heap)(n:Nat)(x:Ms)(ps:List Ms)(S:SiD):Prop:=
 ∃C N bm f fd,ErrK K mg x C N bm/\HR K (.ref C) "__init__"=be (be (.ref f))/\isFn K (.ref f)=true/\FnOk P w K mg base (CX1 P w) n f fd ps (lEi K C S)/\Binds K fd ps []
section
variable {X:Cx}{pins:List (Addr×Vn)}{σ:L2.St}{H:Hp}{s:P3}{e:Addr}
def Inv.newx{C:Addr}{h':Heap}{us:List Os}(I:Inv X pins σ H s)(d9:X.ex=[])(hm:Heap.MadeExcOf s.heap h' e (.ref C) us):Inv X pins σ (upd H e (XN e C LH)) {s with heap:=h'}:=by
 obtain⟨ta,h1,h2,h3⟩:=hm.there;have I2:Inv X pins σ H {s with heap:=h'}:=I.kept (t':=s.toks) hm.keeps;refine Inv.adopt I2 (gm I.hok hm.new) (XN.ok h1) (cL I d9 hm.new) (λz=>?_) (λx c q z=>?_) λp hp z=>?_
 .obtain⟨m,⟨o,_,_,ho,_⟩,_⟩:=I.loc;rw[<-z,hm.new]at ho;cases ho
 .obtain⟨v,o,ho,_⟩:=I.cell x c q;rw[z,hm.new]at ho;cases ho
 .have:=(I.pin p hp).1;rw[z,hm.new]at this;cases this
end
structure BaseK(K:Ex)(mg:Str->Option Os)(y:Str)(M:Addr):Prop where
 mg:mg y=be (.ref M)
 rd:readsIn K M (.type "type")=true
 fc:findCls K (.ref M) (.type "type") "__init__"=be (.val (.builtin "ValueError.__init__"))
 sp:IN K (.ref M) "__getattribute__"=be (be (.builtin "type.__getattribute__"))
structure ErrA(K:Ex)(x:Str)(C:Addr)(cd:VT):Prop where
 ns:nsIn K SB x=be (be (.ref C))
 cl:JX K C=be cd
 mro:excMro cd.mro=true
 hd:cd.hasDict=true
 sa:HR K (.ref C) "__setattr__"=be (be (.builtin "object.__setattr__"))
def ErrK.a(k:ErrK K mg x C N bm)(sa:HR K (.ref C) "__setattr__"=be (be (.builtin "object.__setattr__"))):∃cd,ErrA K x C cd:=by
 obtain⟨nm,q,bs,sn,sub,ab,col,dd,k0,k1,k2,k3,k5,lk⟩:=k.obj;exact⟨_,k.ns,by unfold JX;rw[lk],by
  show excMro (.ref C::bm)=true;unfold excMro;exact ie k.tail,rfl,sa⟩
def lX(K:Ex)[J:Jx](x:Ms)(t:TID):TS:=λE σ H=>∃C e od ws F z fs,nsIn K SB x=be (be (.ref C))/\σ[0]?=be (be (.ref e))/\H e=be (XN e C od)/\J.B e=LH/\F e=LH/\Kept J.B J.F0 F H/\RepS K J.B F H z σ/\RepF K F fs ws/\
 ((od=LH/\ws=[])\/∃b,od=be b/\H b=be (.xd ws)/\J.B b=LH/\F b=LH/\b≠e/\ws≠[])/\
 ∃R:List (Ms×D)->Prop,t z fs R/\∀l9 OT F' H',Kept J.B J.F0 F' H'->R l9->H' e=be (XN e C OT)->F' e=LH->ErrF K F' l9 OT->E.nx σ H'
abbrev DX(X:Cx)[Jx](x:Ms)(st:List U7)(t:TID):Prop:=PSs X st (lX X.K x t)
structure WDX(X:Cx)[Jx](x:Str)(st:List U7)(t:TID):Prop where
 out:DX X x st t
def uh{a:Addr}{o:HO}(h:H a=be o):upd H a o=H:=by
 funext b;unfold upd;by_cases q:b=a
 .rw[if_pos q,q,h]
 .rw[if_neg q]
section
variable {X:Cx}[J:Jx]{x f:Ms}{e:U6}{te:TD}{ta:TDA}{pos c7 p:Vf}{rest:List U7}{tr:TID}
def As:WDX X x [] tZ:=⟨pss_nil.anti λE s H q=>by
 obtain⟨C,a,od,ws,F,z,fs,hn,h0,e8,hB,j3,k,rs,rf,hd,R,hR,kk⟩:=q;rcases hd with⟨rfl,rfl⟩|⟨b,rfl,hb,OU,MI,ne,_⟩
 .exact kk fs LH F H k hR e8 j3 #[[],rf,.inl #[rfl,rfl]]
 .have s1:Same F (upd F b (.xd ws)):=aN MI _;refine kk fs (be b) (upd F b (.xd ws)) H #[k.bh,λc o q=>?_,k.f0.trans s1,λc h1 h2=>?_,k.eb,k.jf,k.jo] hR e8 (by rw[ar (Ne.symm ne)];exact j3) #[ws,RepF.mono s1 fs ws rf,.inr #[b,rfl,aC]]
  .by_cases hc:c=b
   .subst hc;rw[aC]at q;cases q;exact hb
   .rw[ar hc]at q;exact k.fh c o q
  .have:c≠b:=λz=>h2 (z ▸ OU);rw[ar this];exact k.out c h1 h2⟩
def Au(ta:TDA)(tr:TID):TID:=λz fs R=>ta z λds=>ds.length<=1000/\tr z fs R
def Av{y sx:Ms}{ps py apos cpos:Vf}{es:List U6}{pl:WH Bool}(hb:∃M,BaseK X.K X.mg y M)(hA:∃C cd,ErrA X.K x C cd)(ha:WDA X es ta)(hr:WDX X x rest tr)(hg:autoParam (Gl X y) zA0)(hN:autoParam (X.N[0]?=be sx) zA0)(hv:autoParam (Vis X.env.scope sx) zA5)(hd:autoParam (zND sx) zA1)
  (g5:autoParam (zNC sx) zA1) (Tl:autoParam (zND y) zA1)
  (he:autoParam (U' (.Name sx ps::es) X.env=(false,Vd (.Name sx ps) X.env)::U' es X.env) zA0) (c5:autoParam (zPL X cpos es) zA0)
  (ht:Vd (.Call (.Attribute (.Name y py) "__init__" apos) (.Name sx ps::es) [] cpos) X.env=(do
   let ov <-Vd (.Name y py) X.env
   VR apos.atName
   let (f,first) <-Vv [ov] (V' ov "__init__" pl)
   WM cpos f first (Vz cpos (U' (.Name sx ps::es) X.env)) (V1 cpos (VG [] X.env))):=by rfl)
  (hs:autoParam (Vl (.Call (.Attribute (.Name y py) "__init__" apos) (.Name sx ps::es) [] cpos) LH pos.line X.env=pure false) zA0):WDX X x (.Expr (.Call (.Attribute (.Name y py) "__init__" apos) (.Name sx ps::es) [] cpos) pos::rest) (Au ta tr):=⟨by
 have ha:=ha.out;have hr:=hr.out;obtain⟨M,bk⟩:=hb;obtain⟨C,cd,er⟩:=hA;have step:PS X (.Expr (.Call (.Attribute (.Name y py) "__init__" apos) (.Name sx ps::es) [] cpos) pos) (λE σ H=>∃C' e od,nsIn X.K SB x=be (be (.ref C'))/\σ[0]?=be (be (.ref e))/\
   lA X.K ta σ H (λvs H1=>H1 e=be (XN e C' od)/\vs.length<=1000/\E.nx σ H1)):=by
  intro pins s σ H D I h;obtain⟨C',ea,od,hn,h0,h⟩:=h;rw[er.ns]at hn;cases hn;refine wpAny_Expr_any (methodCall_KW (pl:=pl) (cz I hg bk.mg ?_ Tl) ht) I.quiet hs;refine method_cls I.kIn bk.sp (cls_value I.kIn bk.rd bk.fc KK ?_);have I0:Inv X pins σ H {s with toks:=s.toks+1}:=I.tok _;obtain⟨B,F,z,kf,rs,R,h1,h2⟩:=h;refine PyProof.Rows.callWith_builtin1 (thn (bt (cS (i:=0) hN hv hd g5) ha he cpos pins _ σ H (λvs H1=>∃us,vs=.ref ea::us/\H1 ea=be (XN ea C od)/\us.length<=1000/\D.nx σ H1) I0 #[.ref ea,h0,#[B,F,z,kf,rs,R,h1,λds vs F' H' g hx rx=>#[vs,rfl,h2 ds vs F' H' g hx rx]]]) λus s1 hh=>?_) he c5;obtain⟨vs,H1,I1,r,UG,ev,t7,hl,MJ⟩:=hh;subst ev;cases r with
  |cons r1 r2=>
   rename_i u0 UH;obtain rfl:u0=Value.ref ea:=r1;obtain⟨t0,sl,g6⟩:=XN.get I1.hok t7;refine zo (K:=X.K) (C:=C) (cd:=cd) I1.kIn g6 rfl rfl er.cl er.mro (by rw[<-L2.Vals.length r2];exact sz hl) λh' g1 g2=>?_;refine#[σ,H1,?_,MJ];have w:=I1.write (x:=ea) (e:=ea) (o:=XN ea C od) (h':=h') (t':=s1.toks) (by rw[t7];exact True.intro) (.inl rfl) (λb u hb q=>g2 b u hb q) #[_,g1] (XN.ok g1);rw[uh t7]at w;exact w
 refine(eL step hr).anti λE s H q=>?_;obtain⟨C',a,od,ws,F,z,fs,hn,h0,e8,hB,j3,k,rs,rf,e_,R,hR,kk⟩:=q;refine#[C',a,od,hn,h0,_,F,z,k,rs,_,hR,λds vs F1 H1 g hx rx=>#[g.hh a _ e8,by rw[rx.length];exact hx.1,?_]];refine#[C',a,od,ws,F1,z,fs,hn,h0,g.hh a _ e8,hB,g.out a j3 (by rw[e8];exact λz=>nomatch z),k.grow g,rs.grow g,RepF.mono g.ff fs ws rf,?_,R,hx.2,kk];rcases e_ with e_|⟨b,h1,h2,h3,h4,h5⟩
 .exact .inl e_
 .exact .inr #[b,h1,g.hh b _ h2,h3,g.out b h4 (by rw[h2];exact λz=>nomatch z),h5]⟩
def Aw(f:Ms)(te:TD)(tr:TID):TID:=λz fs R=>fs=[]/\te z λd=>tr z [(f,d)] R
def Ax{sx:Ms}{ps:Vf}(hA:∃C cd,ErrA X.K x C cd)(hf:∀C,nsIn X.K SB x=be (be (.ref C))->HR X.K (.ref C) f=be LH)(he:WDE X e te)(hr:WDX X x rest tr)(hN:autoParam (X.N[0]?=be sx) zA0)(hv:autoParam (Vis X.env.scope sx) zA5)(hd:autoParam (zND sx) zA1)
  (g5:autoParam (zNC sx) zA1) (hs:autoParam (Vl e (be (.Attribute (.Name sx ps) f c7)) pos.line X.env=pure false) zA0):WDX X x (.Assign [.Attribute (.Name sx ps) f c7] e pos::rest) (Aw f te tr):=⟨by
 have he:=he.out;have hr:=hr.out;obtain⟨C,cd,er⟩:=hA;have MK:=hf C er.ns;have step:PS X (.Assign [.Attribute (.Name sx ps) f c7] e pos) (λE σ H=>∃e,σ[0]?=be (be (.ref e))/\
   lE X.K te σ H (λv H1=>H1 e=be (XN e C LH)/\∀b,H1 b=LH->b≠e->E.nx σ (upd (upd H1 b (.xd [(f,v)])) e (XN e C (be b))))):=by
  intro pins s σ H D I h;obtain⟨ea,h0,h⟩:=h;refine VI (thn (he pins s σ H _ I h) λu s1 ⟨y,H1,I1,ry,t7,MJ⟩=>thn (cS (i:=0) hN hv hd g5 pins s1 σ H1 (λv H'=>v=.ref ea/\H'=H1) I1 #[.ref ea,h0,rfl,rfl]) λov s2 hh=>?_) hs;obtain⟨v0,H2,I2,r0,e1,e2⟩:=hh;subst e1 e2;obtain rfl:ov=Value.ref ea:=r0;obtain⟨t0,sl,g6⟩:=XN.get I2.hok t7;refine zm (K:=X.K) (C:=C) (cd:=cd) I2.kIn g6 rfl rfl rfl er.cl er.mro er.hd er.sa MK λh' g1 g2 g3 tk=>?_;have m4:H2 s2.heap.objs.size=none:=I2.hok.fresh (HP _);have k6:s2.heap.objs.size≠ea:=IW (Heap.lt_size g6);have PL:∀b o,s2.heap.get? b=be o->b≠s2.heap.objs.size:=λb o q=>HY (Heap.lt_size q);have PM:∀b,H2 b=LH->b≠ea:=λb q z=>by rw[z,t7]at q;cases q
  refine#[σ,_,?_,MJ _ m4 k6];have z7:∀b o,H2 b=be o->(∀φ,o≠.ext φ)->upd (upd H2 s2.heap.objs.size (.xd [(f,y)])) ea (XN ea C (be s2.heap.objs.size)) b=be o:=λb o q n=>by
   have n1:b≠ea:=λz=>by rw[z,t7]at q;cases q;exact n _ rfl
   rw[ar n1,ar (bG q m4)];exact q
  refine I2.un (h':=h') (t':=tk) #[λb o q n _ _=>g3 b o (PM b n) q,λb o q n _ _=>#[o.slots,g3 b o (PM b n) q],λb o q n _=>?_,λb o q _=>?_,λb xs q=>z7 b _ q (λφ z=>nomatch z),λb o u q=>z7 b _ q (λφ z=>nomatch z),λb ps q=>#[[].toArray,by rw[z7 b _ q (λφ z=>nomatch z)];simp]] λa o q=>?_
  .rw[ar (PM b n),ar (PL b o q)];exact n
  .by_cases hb:b=ea
   .rw[hb];exact#[_,g1]
   .exact#[o,g3 b o hb q]
  .by_cases ha:a=ea
   .subst ha;rw[aC]at q;cases q;exact XN.ok g1
   .rw[ar ha]at q;by_cases hb:a=s2.heap.objs.size
    .subst hb;rw[aC]at q;cases q;refine#[_,g2,λg=>?_];rw[Ig];by_cases hg:g=f
     .subst hg;simp;exact ry
     .have:(g==f)=false:=by simpa using hg
      rw[this,if_neg hg];exact True.intro
    .rw[ar hb]at q;refine(I2.hok a o q).stay (λb u f_ r=>?_) (λb r=>z7 b _ r (λφ z=>nomatch z)) λb xs r=>z7 b _ r (λφ z=>nomatch z);refine g3 b u (λz=>?_) r;rcases f_ with e1|e1
     .exact ha (e1 ▸ z)
     .rw[z,t7]at e1;cases e1
 refine(eL step hr).anti λE s H q=>?_;obtain⟨C',a,od,ws,F,z,fs,hn,h0,e8,hB,j3,k,rs,rf,e_,R,⟨rfl,hR⟩,kk⟩:=q;rw[er.ns]at hn;cases hn;have Tn:ws=[]:=repf_nil.mp rf;subst Tn;refine#[a,h0,_,F,z,k,rs,_,hR,λd v F1 H1 g hx rv=>?_];have LU:F1 a=none:=g.out a j3 (by rw[e8];exact λz=>nomatch z);have k1:=k.grow g;rcases e_ with⟨rfl,_⟩|⟨b,rfl,h1,h2,h3,h4⟩
 .refine#[g.hh a _ e8,λb hb k6=>?_];have OU:J.B b=none:=k1.bh.free hb;have MI:F1 b=none:=k1.fh.free hb;have same:∀{G:Hp},G a=LH->G b=LH->Same G H1->Same G (upd (upd H1 b (.xd [(f,v)])) a (XN a C (be b))):=λ{G} ga gb gs c o q=>by
   have n1:c≠a:=λz=>by rw[z,ga]at q;cases q
   have n2:c≠b:=λz=>by rw[z,gb]at q;cases q
   rw[ar n1,ar n2];exact gs c o q
  have n5:=rs.grow g;refine#[C,a,be b,[(f,v)],F1,z,[(f,d)],er.ns,h0,aC,hB,LU,#[same hB OU k1.bh,same LU MI k1.fh,k1.f0,k1.out,k1.eb,k1.jf,k1.jo],?_,repf_cons.mpr #[v,[],rfl,rv,repf_nil.mpr rfl],.inr #[b,rfl,by rw[ar k6];exact aC,OU,MI,k6,λz=>nomatch z],R,hx,kk];refine#[n5.len,n5.val,λi ds e'=>?_,n5.apart];obtain⟨c,vs,q1,q2,q⟩:=n5.own i ds e';have n1:c≠a:=λz=>by rw[z,g.hh a _ e8]at q2;cases q2
  have n2:c≠b:=λz=>by rw[z,hb]at q2;cases q2
  exact#[c,vs,q1,by rw[ar n1,ar n2];exact q2,q]
 .exact absurd rfl h4.2⟩
end
section
variable {P:U8}{w:U_}{K:Ex}{mg:Ms->Option Os}{base:Heap}
def Cls.okE{x qual:Ms}{st:U7}{f C N0:Addr}{bm:List Os}{fd:Ve}{N:List Ms}{p0:Ms}{ps:List Ms}{k:Nat}{S:SiD}(T:Fun K "__init__" qual st f fd)(hb:Binds K fd (p0::ps) [])(F:FnScope (p0::N) (p0::ps) (ah st))(len:∀ds R,S ds R->ds.length=ps.length)
  (ek:ErrK K mg x C N0 bm) (hi:HR K (.ref C) "__init__"=be (be (.ref f))) (hf:isFn K (.ref f)=true)
  (a8:∀(cdv:Os) (A:Va) (outer:List VS) (s:P3) (H:Hp) (E:XK) (J:Jx),Room k (A.deeper (Vh qual (ah st) s.heap.objs.size f cdv))->
   ∃t,DX (cxOf (CX1 P w) P w K mg base (p0::N) qual (ah st) f cdv A outer s H E).nox x (aK st) t/\∀ds R,S ds R->t (LH::startD N ds) [] R):CalE P w K mg base (k+1) x (p0::ps) S:=by
 refine#[C,N0,bm,f,fd,ek,hi,hf,Fun.okC T F (λvs H Q E h=>?_) (λcdv A outer s H vs Q E hr h=>?_),hb]
 .obtain⟨a,us,H1,F,ds,rfl,_,_,_,rs,R,h,_⟩:=h;rw[HX,HX,rs.length,len ds R h]
 .obtain⟨a,us,H1,F1,ds,rfl,rfl,ha,fh,rs,R,h,q⟩:=h
  letI:Jx:=#[H1,F1,λ_ _ _=>False]
  obtain⟨t,ht,hq⟩:=a8 cdv A outer s _ E inferInstance hr;have Fa:F1 a=none:=fh.free ha;have hl:L2.start (p0::N) (.ref a::us)=be (.ref a)::L2.start N us:=by
   unfold L2.start;rw[Ik,HX,HX,KO];rfl
  have s1:Same H1 (upd H1 a (XN a C LH)):=aN ha _;refine#[_,ht.nox,C,a,LH,[],F1,LH::startD N ds,[],ek.ns,by rw[hl];rfl,aC,ha,Fa,#[s1,fh.trans s1,Same.refl F1,λ_ h _=>h,rfl,Same.refl F1,λ_ h _=>h],?_,repf_nil.mpr rfl,.inl #[rfl,rfl],R,hq ds R h,λl9 OT F' H' g hR e8 j3 er=>q l9 OT F' H' #[g.f0,g.fh,g.bh,g.out] hR e8 j3 er];rw[hl];exact ub (dQ rs)
end
section
variable {M:WN}{A:Va}{E:Os->P3->Prop}{h:Heap}{g:Array WO}{d:Drawn}{t:Nat}{os:OsState}
variable {nm q:Ms}{C N:Addr}{bs bm:List Os}{hdct:Bool}{sn:List Ms}{sub:List Os}{ab:Bool}{col:Option Bool}{dd:Option Addr}{k0 k1 k2 k3 k5:Option Os}{newId:String}
variable {PN q':Ms}{C' N':Addr}{PP NZ:List Os}{N1:Bool}{PQ:List Ms}{ML:List Os}{PR:Bool}{MN:Option Bool}{N2:Option Addr}{PU PV PX PY PZ:Option Os}{MP:String}
def ui{e:Addr}{oe:Vn}{b:Bool}{Q:Bool->P3->Prop}(hC:h.get? C=be (Vq nm q C N bs bm hdct sn sub ab col dd k0 k1 k2 k3 k5 newId))(hD:h.get? C'=be (Vq PN q' C' N' PP NZ N1 PQ ML PR MN N2 PU PV PX PY PZ MP))
  (he:h.get? e=be oe) (x9:oe.cls=.ref C) (b7:NZ.contains (.type "BaseException")=true) (hb:(Value.ref C::bm).contains (.ref C')=b) (hq:Q b #[h,g,d,t,os]):U9 M A (excMatches (.ref e) (.ref C')) Q E #[h,g,d,t,os]:=by
 have Ps:(Value.ref C'::NZ).contains (.type "BaseException")=true:=by rw[Kd,b7,JU]
 have f:=tc_notTuple;unfold excMatches
 repeat(first|(with_reducible refine Vp he ?_;rw[x9])|with_reducible refine Vp hD ?_|(with_reducible refine VQ hD ?_;rw[Ps])|(with_reducible refine VQ hC ?_;rw[hb])|wp_step)
 cases b with
 |true=>wp_walk;exact hq
 |false=>wp_walk;exact hq
end
abbrev _root_.L2.Cx.held(X:Cx)(e:Addr):Cx:={X with A:=X.A.mark (be (.ref e)),calm:=false,xe:=λ_ _=>False}
section
variable {X:Cx}{pins:List (Addr×Vn)}{σ:L2.St}{H:Hp}{s:P3}{e:Addr}
def Cx.Ok.held(ok:X.Ok):(X.held e).Ok:=
 #[ok.mod,ok.kind,ok.glob,ok.blt,ok.above,ok.inj,ok.has,ok.cab,(λz=>nomatch z),ok.frames,ok.stk,ok.exf,ok.bs,ok.bsz,ok.noex,ok.exfs,ok.funs,ok.frf]
def Inv.held(I:Inv X pins σ H s):Inv (X.held e) pins σ H s:=#[Cx.Ok.held I.ok,I.os,I.bare,I.base,I.loc,I.cell,I.free,I.freeC,I.pin,I.hok,I.len]
def Inv.unheld(ok:X.Ok)(I:Inv (X.held e) pins σ H s):Inv X pins σ H s:=#[ok,I.os,I.bare,I.base,I.loc,I.cell,I.free,I.freeC,I.pin,I.hok,I.len]
def SP.unheld{D:Ends}{f:Flow}{s':P3}(ok:X.Ok)(h:SP (X.held e) pins D f s'):SP X pins D f s':=by
 cases f with
 |next=>obtain⟨σ',H',I,q⟩:=h;exact#[σ',H',Inv.unheld ok I,q]
 |brk=>obtain⟨σ',H',I,q⟩:=h;exact#[σ',H',Inv.unheld ok I,q]
 |cont=>obtain⟨σ',H',I,q⟩:=h;exact#[σ',H',Inv.unheld ok I,q]
 |ret u=>obtain⟨v,σ',H',I,r,q⟩:=h;exact#[v,σ',H',Inv.unheld ok I,r,q]
def ig{M:WN}{A:Va}{E:Os->P3->Prop}{i:Nat}{x:Ms}{pos:Vf}{Q:Unit->P3->Prop}(I:Inv X pins σ H s)(hN:X.N.Nodup)(hi:X.N[i]?=be x)(hk:X.env.scope.names.lookup x=be .local)
  (h:∀s',Inv X pins (σ.set i LH) H s'->Q () s'):U9 M A (do Wr X.env x .none;unbindBehindTheSuite X.env x pos) Q E s:=by
 obtain⟨m,hn,hl⟩:=id I.loc;have x9:(X.env.scope.kind== .class||(X.env.scope.kind== .module&&X.env.locals !=X.env.globals))=false:=by rw[I.ok.kind];rfl
 have hiσ:i<σ.length:=by rw[I.len];exact(Ia.mp hi).1
 have cne:=I.cne;refine wpAny_nameGoes_keeps hk hn x9 λh' v gV hs=>?_;obtain⟨oL,_,_,RF,_⟩:=id hn;have gt:HOk X.prog X.w H h':=λb ob e=>by
  refine(I.hok b ob e).stay (λc w' hc q=>(hs.2 c ?_).trans q) (λ_ q=>q) λ_ _ q=>q;rintro rfl;rcases hc with rfl|hc
  .rw[I.free]at e;cases e
  .rw[I.free]at hc;cases hc
 refine h _ #[I.ok,I.os,I.bare,#[λb o e n hb hx=>?_,λb o e n hb hx=>?_,I.base.free,λb o e hx=>?_,I.base.tups,I.base.frzs,I.base.tbls],#[_,gV,λj y v' e1 e2 e3=>?_],λy c e=>?_,I.free,I.freeC,λp hp=>?_,gt,by simpa using I.len]
 .exact(hs.2 b (HY (Im (Heap.lt_size e) I.ok.above))).trans (I.base.keep b o e n hb hx)
 .obtain⟨sl,e1⟩:=I.base.slot b o e n hb hx;exact#[sl,(hs.2 b (HY (Im (Heap.lt_size e) I.ok.above))).trans e1]
 .obtain⟨o',e1⟩:=I.base.there b o e hx;exact#[o',(hs.2 b (HY (Im (Heap.lt_size e) I.ok.above))).trans e1]
 .by_cases hj:j=i
  .subst hj;rw[IG hiσ]at e2;cases e2
  .rw[Ie (Ne.symm hj)]at e2;obtain⟨u',r',q⟩:=hl j y v' e1 e2 e3;refine#[u',r',?_];rcases q with⟨k,e⟩|⟨k,c,e,z⟩
   .refine .inl #[k,?_];have:y≠x:=λe=>hj (jW hN e1 (e ▸ hi));simp[this,e]
   .exact .inr #[k,c,e,z.sameBut hs (cne y c e)]
 .obtain⟨w',z⟩:=I.cell y c e;exact#[w',z.sameBut hs (cne y c e)]
 .obtain⟨e,n,ne,nf,d⟩:=I.pin p hp;exact#[(hs.2 p.1 ne).trans e,n,ne,nf,d]
def Inv.stay{h':Heap}{l9 ex:List Addr}(I:Inv X pins σ H s)(st:Stay l9 ex s.heap h')(OO:∀b∈l9,b∈frs X.stack)(hH:∀b∈ex,H b=LH)(h0:∀b∈ex,X.s₀.heap.get? b=LH)(hL:∀b∈ex,b≠X.env.locals)(hc:∀b∈ex,∀x c,X.env.cells.lookup x=be c->c≠b)
  (hp:∀b∈ex,∀p∈X.pn++pins,p.1≠b):Inv X pins σ H {s with heap:=h'}:=by
 have hok:HOk X.prog X.w H h':=fS I.hok st (λb hb=>I.stkFree b (OO b hb)) hH;have sub:∀b∈l9,b=X.env.locals\/b∈X.fs:=λb hb=>HQ.mp (I.stkSub b (OO b hb));have nL:∀b o,X.s₀.heap.get? b=be o->b≠X.env.locals:=λb o q=>HY (Im (Heap.lt_size q) I.ok.above);have R6:∀b o,X.s₀.heap.get? b=be o->b∉ex:=λb o q z=>by rw[h0 b z]at q;cases q
 have m5:∀x c v,X.env.cells.lookup x=be c->s.heap.IsCell c v->h'.IsCell c v:=λx c v e ⟨o,ho,hd⟩=>by
  obtain⟨sl,z⟩:=st.slot c o ho (λz=>hc c z x c e rfl);exact#[_,z,hd]
 refine#[I.ok,I.os,I.bare,#[λb o e n hb hx=>?_,λb o e n hb hx=>?_,I.base.free,λb o e hx=>?_,I.base.tups,I.base.frzs,I.base.tbls],?_,λy c e=>?_,I.free,I.freeC,λp M9=>?_,hok,I.len]
 .exact st.keep b o (I.base.keep b o e n hb hx) (R6 b o e) (λz=>(sub b z).elim (nL b o e) hb)
 .obtain⟨sl,e1⟩:=I.base.slot b o e n hb hx;obtain⟨m6,e2⟩:=st.slot b _ e1 (R6 b o e);exact#[m6,e2]
 .obtain⟨o',e1⟩:=I.base.there b o e hx;exact st.there b o' e1
 .obtain⟨m,⟨o,es,ep,ho,r⟩,hl⟩:=I.loc;obtain⟨sl,z⟩:=st.slot _ o ho (λz=>hL _ z rfl);refine#[m,#[_,es,ep,z,r],λj y v' e1 e2 e3=>?_];obtain⟨u',r',q⟩:=hl j y v' e1 e2 e3;refine#[u',r',?_];rcases q with q|⟨k,c,e,z⟩
  .exact .inl q
  .exact .inr #[k,c,e,m5 y c _ e z]
 .obtain⟨w',z⟩:=I.cell y c e;exact#[w',m5 y c _ e z]
 .obtain⟨e,n,ne,nf,d⟩:=I.pin p M9;exact#[st.keep _ _ e (λz=>hp _ z p M9 rfl) (λz=>(sub _ z).elim ne nf),n,ne,nf,d]
end
def subE(x c:Ms):Bool:=x==c||c=="MotifError"
structure ErrsK(K:Ex)(mg:Str->Option Os)(es:List Str):Prop where
 cls:∀x∈es,∃C N bm,ErrK K mg x C N bm
 sub:∀x∈es,∀y∈es,∀C C',nsIn K SB x=be (be (.ref C))->nsIn K SB y=be (be (.ref C'))->IB K C (.ref C')=be (subE x y)
def ErrsK.has{es:List Ms}(k:ErrsK K mg es){y:Ms}{C' N':Addr}{NZ:List Os}(hx:x∈es)(hy:y∈es)(a:ErrK K mg x C N bm)(b:ErrK K mg y C' N' NZ):(Value.ref C::bm).contains (.ref C')=subE x y:=by
 have h:=k.sub x hx y hy C C' a.ns b.ns;obtain⟨nm,q,bs,sn,sub,ab,col,dd,k0,k1,k2,k3,k5,lk⟩:=a.obj;unfold IB JX at h;rw[lk]at h;simp only[IK,List.isEmpty_cons,Bool.false_eq_true,if_false,Option.some.injEq]at h;exact h
structure Held(X:Cx)(pins:List (Addr×Vn))(H:Hp)(s:P3)(e C:Addr)(od:Option Addr)(T:Addr):Prop where
 ex:ExAt s.heap e C od T .none
 He:H e=LH
 HT:H T=LH
 e0:X.s₀.heap.get? e=LH
 T0:X.s₀.heap.get? T=LH
 eP:∀p∈X.pn++pins,p.1≠e
 TP:∀p∈X.pn++pins,p.1≠T
section
variable {X:Cx}{pins:List (Addr×Vn)}{σ:L2.St}{H:Hp}{s:P3}
variable{vs:Array Os}
def ii{b:Addr}{o:Vn}(I:Inv X pins σ H s)(h:s.heap.get? b=be o)(hd:o.data=.fields vs):b≠X.env.locals:=λz=>by
 obtain⟨m,⟨o',es,ep,ho,e_,_⟩,_⟩:=I.loc;rw[<-z,h]at ho;cases ho;rw[hd]at e_;cases e_
def fld_cell{b:Addr}{o:Vn}(I:Inv X pins σ H s)(h:s.heap.get? b=be o)(hd:o.data=.fields vs):∀x c,X.env.cells.lookup x=be c->c≠b:=λx c q z=>by
 obtain⟨v,o',ho,e_⟩:=I.cell x c q;rw[z,h]at ho;cases ho;rw[hd]at e_;cases e_
variable{od:Option Addr}
def Held.flight{e C T:Addr}{h':Heap}(I:Inv X pins σ H s)(k:Held X pins H s e C od T)(hx:ExAt h' e C od T .none)(st:Stay [] [T] s.heap h'):Inv X pins σ H {s with heap:=h'}/\Held X pins H {s with heap:=h'} e C od T:=by
 obtain⟨sl,vs,oT,ts,he,h1,v5,hT,l6,h3⟩:=k.ex;refine#[Inv.stay I st (λb hb=>by cases hb) (λb hb=>?_) (λb hb=>?_) (λb hb=>?_) (λb hb=>?_) (λb hb=>?_),#[hx,k.He,k.HT,k.e0,k.T0,k.eP,k.TP]]<;>rw[HN.mp hb]
 .exact k.HT
 .exact k.T0
 .exact ii I hT l6
 .exact fld_cell I hT l6
 .exact k.TP
def XO.ok{P:U8}{w:U_}{h:Heap}{e C:Addr}{sl:Array (Option Os)}(q:h.get? e=be #[.ref C,od,.fields vs,sl]):ObjOk P w H h e (XO e C od):=
 #[#[vs,sl,q],#[_,q],λh1 h2 ⟨vs,sl,q⟩ k=>#[vs,sl,k _ q]]
end
def RepS.unset{B F:Hp}{z:SD}{s:L2.St}{i:Nat}(h:RepS K B F H z s):RepS K B F H (z.set i LH) (s.set i LH):=by
 have get:∀{j:Nat} {x:D},(z.set i LH)[j]?=be (be x)->j≠i/\z[j]?=be (be x):=λ{j x} e=>by
  by_cases hj:i=j
  .subst hj;rw[Jf]at e;simp at e
  .rw[Ie hj]at e;exact#[λz=>hj z.symm,e]
 refine#[by rw[II,II];exact h.len,λj x e nx=>?_,λj ds e=>?_,λj k dj dk a e1 e2 e3 e4=>?_]
 .obtain⟨hj,e⟩:=get e;rw[Ie (λz=>hj z.symm)];exact h.val j x e nx
 .obtain⟨hj,e⟩:=get e;rw[Ie (λz=>hj z.symm)];exact h.own j ds e
 .obtain⟨hj,e1⟩:=get e1;obtain⟨hk,e2⟩:=get e2;rw[Ie (λz=>hj z.symm)]at e3;rw[Ie (λz=>hk z.symm)]at e4;exact h.apart j k dj dk a e1 e2 e3 e4
abbrev TH:=Ms->List (Ms×D)->TSD
def DH(X:Cx)[J:Jx](hs:List VE)(th:TH):Prop:=
 ∀(pins:List (Addr×Vn)) (s:P3) (σ:L2.St) (H:Hp) (D:Ends) (e C:Addr) (od:Option Addr) (T:Addr) (x:Ms) (fs:List (Ms×My.D)) (B F0 F:Hp) (z:SD) (ED:EndsD),Inv X pins σ H s->Held X pins H s e C od T->Kept B F0 F H->RepS X.K B F H z σ->ErrD X.K F x fs C od->
  th x fs ED z->EndsOk X.K B F0 ED D->U9 (SZ X.prog X.w) X.A (Wo (.ref e) X.env hs) (SP X pins D) X.xe s
structure WDH(X:Cx)[Jx](hs:List VE)(th:TH):Prop where
 out:DH X hs th
section
variable {X:Cx}[J:Jx]{es:List Ms}{c:Ms}{b₀:U7}{q_:List U7}{pos pc:Vf}{rest:List VE}{t:TSD}{r:TH}
def Ay:TH:=λ_ _ _ _=>False
def Az(es:List Ms)(c:Ms)(t:TSD)(r:TH):TH:=λx fs E z=>(x∈es/\c∈es)/\if subE x c=true then t E z else r x fs E z
def dHas(es:List Ms)(c:Ms)(i:Nat)(t:TSD)(r:TH):TH:=λx fs E z=>(x∈es/\c∈es)/\if subE x c=true then t {nx:=λz'=>E.nx (z'.set i LH),rt:=E.rt,bk:=λz'=>E.bk (z'.set i LH),ct:=λz'=>E.ct (z'.set i LH)} (z.set i (be (.exc x fs)))else r x fs E z
def uj:WDH X [] Ay:=#[λ_ _ _ _ _ _ _ _ _ _ _ _ _ _ _ _ _ _ _ _ _ h _=>h.elim]
def AA(hE:ErrsK X.K X.mg es)(hs:∀e,WDSs (X.held e) (b₀::q_) t)(hr:WDH X rest r)(hg:autoParam (Gl X c) zA0)(c9:autoParam (zND c) zA1):WDH X (.ExceptHandler (be (.Name c pc)) LH (b₀::q_) pos::rest) (Az es c t r):=⟨by
 have hs:=λe=>(hs e).out;have hr:=hr.out;intro pins s σ H D e C od T x fs B F0 F z ED I hd k rs er ht ee;obtain⟨⟨N3,N4⟩,ht⟩:=ht;obtain⟨Cc,Nc,To,kc⟩:=hE.cls c N4;obtain⟨LV,Nx,Tp,kx⟩:=hE.cls x N3;obtain rfl:LV=C:=by have h1:=kx.ns;rw[er.1]at h1;cases h1;rfl
 have hb:=hE.has N3 N4 kx kc;obtain⟨nm,q,bs,sn,sub,ab,col,dd,k0,k1,k2,k3,k5,lk⟩:=kx.obj;obtain⟨PN,q',PP,PQ,ML,PR,MN,N2,PU,PV,PX,PY,PZ,P0⟩:=kc.obj;refine WQ (WJ (cz (X:=X.held e) (Inv.held I) hg kc.mg ?_ c9)) (by intro q;cases q);obtain⟨sl,vs,oT,ts,he,h1,v5,hT,l6,h3⟩:=id hd.ex;refine ui (g:=s.gens) (d:=s.drawn) (t:=s.toks) (os:=s.os) (I.kIn _ _ lk) (I.kIn _ _ P0) he rfl kc.base hb ?_;cases z8:subE x c with
 |true=>
  rw[z8,if_pos rfl]at ht;refine codeAny_handlers_suite (flight_none hd.ex λh' f8 v3=>?_);obtain⟨I',_⟩:=Held.flight I hd f8 v3;exact Vk (hs e pins _ σ H D (Inv.held I') #[B,F0,F,z,k,rs,ED,ht,ee]) (λf s1 q=>SP.unheld I.ok q) λ_ _ z=>False.elim z
 |false=>
  rw[z8,if_neg Ib]at ht;exact hr pins s σ H D e LV od T x fs B F0 F z ED I hd k rs er ht ee⟩
def AB(i:Nat){n:Ms}(hE:ErrsK X.K X.mg es)(hN:X.N.Nodup)(hs:∀e,WDSs (X.held e) (b₀::q_) t)(hr:WDH X rest r)(hg:autoParam (Gl X c) zA0)(hi:autoParam (X.N[i]?=be n) zA0)(hk:autoParam (X.env.scope.names.lookup n=be .local) zA0)(c9:autoParam (zND c) zA1):WDH X (.ExceptHandler (be (.Name c pc)) (be n) (b₀::q_) pos::rest) (dHas es c i t r):=⟨by
 have hs:=λe=>(hs e).out;have hr:=hr.out;intro pins s σ H D e C od T x fs B F0 F z ED I hd k rs er ht ee;obtain⟨⟨N3,N4⟩,ht⟩:=ht;obtain⟨Cc,Nc,To,kc⟩:=hE.cls c N4;obtain⟨LV,Nx,Tp,kx⟩:=hE.cls x N3;obtain rfl:LV=C:=by have h1:=kx.ns;rw[er.1]at h1;cases h1;rfl
 have hb:=hE.has N3 N4 kx kc;obtain⟨nm,q,bs,sn,sub,ab,col,dd,k0,k1,k2,k3,k5,lk⟩:=kx.obj;obtain⟨PN,q',PP,PQ,ML,PR,MN,N2,PU,PV,PX,PY,PZ,P0⟩:=kc.obj;refine WQ (WJ (cz (X:=X.held e) (Inv.held I) hg kc.mg ?_ c9)) (by intro q;cases q);obtain⟨sl,vs,oT,ts,he,h1,v5,hT,l6,h3⟩:=id hd.ex;refine ui (g:=s.gens) (d:=s.drawn) (t:=s.toks) (os:=s.os) (I.kIn _ _ lk) (I.kIn _ _ P0) he rfl kc.base hb ?_;cases z8:subE x c with
 |true=>
  rw[z8,if_pos rfl]at ht;refine codeAny_handlers_suite_as (flight_none hd.ex λh' f8 v3=>?_);obtain⟨I',e_⟩:=Held.flight I hd f8 v3;obtain⟨m6,n4,_,_,P1,_⟩:=id f8;have I2:Inv X pins σ (upd H e (XO e LV od)) {s with heap:=h'}:=Inv.adopt I' hd.He (XO.ok P1) hd.e0 (ii I' P1 rfl) (fld_cell I' P1 rfl) hd.eP;refine eK (X:=X.held e) (v:=.ref e) (Inv.held I2) hN hi (.inl hk) rfl (λs2 I3=>?_) (.inr hk);have g:=Grow.new k.fh hd.He (XO e LV od);obtain⟨ns,ws,rf,N5⟩:=er;have Tq:Rep X.K (upd F e (XO e LV od)) (.exc x fs) (.ref e):=rep_exc.mpr #[e,LV,od,ws,rfl,ns,aC,RepF.mono g.ff fs ws rf,N5.imp id λ⟨b,q1,q2⟩=>#[b,q1,g.ff _ _ q2]];have Tr:EndsOk X.K B F0 {nx:=λz'=>ED.nx (z'.set i LH),rt:=ED.rt,bk:=λz'=>ED.bk (z'.set i LH),ct:=λz'=>ED.ct (z'.set i LH)} {nx:=λσ' H'=>D.nx (σ'.set i LH) H',rt:=D.rt,bk:=λσ' H'=>D.bk (σ'.set i LH) H',ct:=λσ' H'=>D.ct (σ'.set i LH) H'}:=
   #[λz' s' F' H' k hz r=>ee.nx _ _ F' H' k hz (RepS.unset r),ee.rt,λz' s' F' H' k hz r=>ee.bk _ _ F' H' k hz (RepS.unset r),λz' s' F' H' k hz r=>ee.ct _ _ F' H' k hz (RepS.unset r)]
  refine Vk (hs e pins s2 _ _ _ I3 #[B,F0,_,_,k.grow g,(rs.grow g).set Tq,_,ht,Tr]) (λf s3 q=>?_) λ_ _ z=>False.elim z;have q':=SP.unheld I.ok q;cases f with
  |next=>obtain⟨σ',H',I4,q4⟩:=q';exact ig I4 hN hi hk λs5 I5=>#[_,H',I5,q4]
  |brk=>obtain⟨σ',H',I4,q4⟩:=q';exact ig I4 hN hi hk λs5 I5=>#[_,H',I5,q4]
  |cont=>obtain⟨σ',H',I4,q4⟩:=q';exact ig I4 hN hi hk λs5 I5=>#[_,H',I5,q4]
  |ret u=>obtain⟨v,σ',H',I4,rv,q4⟩:=q';exact ig I4 hN hi hk λs5 I5=>#[v,_,H',I5,rv,q4]
 |false=>
  rw[z8,if_neg Ib]at ht;exact hr pins s σ H D e LV od T x fs B F0 F z ED I hd k rs er ht ee⟩
end
abbrev _root_.L2.Cx.tried(X:Cx)(pn:List (Addr×Vn))(xe:Os->P3->Prop):Cx:={X with pn:=pn,xe:=xe}
section
variable {X:Cx}{pn pins:List (Addr×Vn)}{xe:Os->P3->Prop}{σ:L2.St}{H:Hp}{s:P3}
def Cx.Ok.tried(ok:X.Ok):(X.tried pn xe).Ok:=#[ok.mod,ok.kind,ok.glob,ok.blt,ok.above,ok.inj,ok.has,ok.cab,ok.hd,ok.frames,ok.stk,ok.exf,ok.bs,ok.bsz,ok.noex,ok.exfs,ok.funs,ok.frf]
def Inv.tried(I:Inv X pins σ H s):Inv (X.tried (X.pn++pins) xe) [] σ H s:=#[Cx.Ok.tried I.ok,I.os,I.bare,I.base,I.loc,I.cell,I.free,I.freeC,λp hp=>I.pin p (by simpa using hp),I.hok,I.len]
def Inv.untried(ok:X.Ok)(I:Inv (X.tried (X.pn++pins) xe) [] σ H s):Inv X pins σ H s:=#[ok,I.os,I.bare,I.base,I.loc,I.cell,I.free,I.freeC,λp hp=>I.pin p (by simpa using hp),I.hok,I.len]
def SP.untried{D:Ends}{f:Flow}{s':P3}(ok:X.Ok)(h:SP (X.tried (X.pn++pins) xe) [] D f s'):SP X pins D f s':=by
 cases f with
 |next=>obtain⟨σ',H',I,q⟩:=h;exact#[σ',H',Inv.untried ok I,q]
 |brk=>obtain⟨σ',H',I,q⟩:=h;exact#[σ',H',Inv.untried ok I,q]
 |cont=>obtain⟨σ',H',I,q⟩:=h;exact#[σ',H',Inv.untried ok I,q]
 |ret u=>obtain⟨v,σ',H',I,r,q⟩:=h;exact#[v,σ',H',Inv.untried ok I,r,q]
end
def AC{h₀:VE}{hs:List VE}{σ':L2.St}{H':Hp}{s':P3}{D:Ends}{xe:Os->P3->Prop}(I2:Inv X pins σ' H' s')
  (hd:Exd (X.tried (X.pn++pins) xe) H' s' e C od) (d9:X.ex=[]) (z9:X.stack=X.env::X.outer) (m4:X.env.frame=be X.env.locals)
  (hh:∀s4 T2,Inv X pins σ' H' s4->Held X pins H' s4 e C od T2->U9 (SZ X.prog X.w) X.A (Wo (.ref e) X.env (h₀::hs)) (SP X pins D) X.xe s4):
  U9 (SZ X.prog X.w) X.A (V0 (.ref e) X.env) (λ_ s₂=>U9 (SZ X.prog X.w) X.A (Wh (.ref e) LH) (λ_ s₃=>U9 (SZ X.prog X.w) X.A (Wo (.ref e) X.env (h₀::hs)) (SP X pins D) X.xe s₃) X.xe s₂) X.xe s':=by
 obtain⟨He,e0,eP,hd⟩:=hd;have stk:s'.heap.FunFrames X.base (X.env::X.outer):=by rw[<-z9];exact I2.stack
 have R7:X.A.frames=be (X.env::X.outer):=by rw[<-z9];exact I2.ok.frames
 have d_:∀(t8:Heap) (T2:Addr) (ex:List Addr),(∀b∈ex,H' b=LH/\X.s₀.heap.get? b=LH/\(∃o vs,s'.heap.get? b=be o/\o.data=.fields vs)/\∀p∈X.pn++pins,p.1≠b)->ExAt t8 e C od T2 (V2 X.env.locals)->s'.heap.objs.size<=T2->Stay (frs (X.env::X.outer)) ex s'.heap t8->
   U9 (SZ X.prog X.w) X.A (Wh (.ref e) LH) (λ_ s₃=>U9 (SZ X.prog X.w) X.A (Wo (.ref e) X.env (h₀::hs)) (SP X pins D) X.xe s₃) X.xe {s' with heap:=t8}:=by
  intro t8 T2 ex z_ l_ y_ r_;have LM:s'.heap.get? T2=none:=Heap.get?_none_of_le y_;have I3:Inv X pins σ' H' {s' with heap:=t8}:=Inv.stay I2 r_ (λb hb=>by rw[z9];exact hb) (λb hb=>(z_ b hb).1) (λb hb=>(z_ b hb).2.1) (λb hb=>let ⟨_,_,q1,q2⟩:=(z_ b hb).2.2.1;ii I2 q1 q2) (λb hb=>let ⟨_,_,q1,q2⟩:=(z_ b hb).2.2.1;fld_cell I2 q1 q2) (λb hb=>(z_ b hb).2.2.2);obtain⟨sl,vs,oT,ts,he,g1,v5,hT,l6,g3⟩:=id l_;have Mb:H' T2=none:=gm I2.hok LM;have T0:X.s₀.heap.get? T2=none:=cL I2 d9 LM;have TP:∀p∈X.pn++pins,p.1≠T2:=λp hp z=>by
   have:=(I2.pin p hp).1;rw[z,LM]at this;cases this
  refine flight_none (s:={s' with heap:=t8}) l_ λh3 NT K'=>?_;have I4:Inv X pins σ' H' {s' with heap:=h3}:=Inv.stay (s:={s' with heap:=t8}) I3 K' (λb hb=>by cases hb) (λb hb=>by rw[HN.mp hb];exact Mb) (λb hb=>by rw[HN.mp hb];exact T0) (λb hb=>by rw[HN.mp hb];exact ii I3 hT l6) (λb hb=>by rw[HN.mp hb];exact fld_cell I3 hT l6) (λb hb=>by rw[HN.mp hb];exact TP);exact hh _ T2 I4 #[NT,He,Mb,e0,T0,eP,TP]
 rcases hd with⟨sl,vs,he,hv⟩|⟨T,K_,T0,HT,TP⟩
 .refine sE R7 stk m4 he hv λt8 T2 l_ y_ r_=>d_ t8 T2 [e] (λb hb=>?_) l_ y_ r_;rw[HN.mp hb];exact#[He,e0,#[_,_,he,rfl],eP]
 .obtain⟨sl,vs,oT,ts,he,g1,v5,hT,l6,g3⟩:=id K_;refine sF R7 stk m4 K_ λt8 T2 l_ y_ r_=>d_ t8 T2 [T,e] (λb hb=>?_) l_ y_ r_;rcases HQ.mp hb with z|z
  .rw[z];exact#[HT,T0,#[_,_,hT,l6],TP]
  .rw[HN.mp z];exact#[He,e0,#[_,_,he,rfl],eP]
def ErrG(K:Ex)(f y:Ms):Prop:=∃C cd,ErrA K y C cd/\HR K (.ref C) "__getattribute__"=be (be (.builtin "BaseException.__getattribute__"))/\HR K (.ref C) "__getattr__"=be LH/\HR K (.ref C) f=be LH
def AD(ys:List Ms)(f:Ms)(te:TD):TD:=λz R=>te z λd=>match d with|.exc y fs=>y∈ys/\∃d,fs.lookup f=be d/\R d|_=>False
def uk[J:Jx]{e:U6}{te:TD}{pos:Vf}{ys:List Ms}{f:Ms}(hG:∀y∈ys,ErrG X.K f y)(he:WDE X e te)(hb:autoParam (Vc e f X.env (Vd e X.env)=Vd e X.env) zA0):WDE X (.Attribute e f pos) (AD ys f te):=⟨by
 have he:=he.out;intro pins s σ H Q I h;obtain⟨B,F,z,kf,rs,R,h1,h2⟩:=h;refine attr_of hb (thn (he pins s σ H (λv H1=>∃F1 x fs,Grow F H F1 H1/\Rep X.K F1 (.exc x fs) v/\x∈ys/\∃d,fs.lookup f=be d/\R d) I #[B,F,z,kf,rs,_,h1,λd v F1 H1 g1 hx rx=>?_]) λu s1 ⟨v,H1,I1,rv,F1,x,fs,g1,rx,hy,d,hl,hR⟩=>?_)
 .split at hx
  .obtain⟨hy,d,hl,hR⟩:=hx;exact#[F1,_,_,g1,rx,hy,d,hl,hR]
  .exact hx.elim
 .obtain⟨a,C,od,vs,rfl,hn,P2,rf,N5⟩:=rep_exc.mp rx;obtain rfl:u=Value.ref a:=rv;obtain⟨C',cd,ea,ga,gb,hf⟩:=hG x hy;have gV:=ea.ns;rw[hn]at gV;cases gV;obtain⟨n4,sl,g6⟩:=(I1.hok a _ (g1.fh _ _ P2)).1;obtain⟨w',hw,i6⟩:=rf.look hl;rcases N5 with⟨_,e2⟩|⟨b,rfl,f_⟩
  .rw[e2]at hw;cases hw
  .obtain⟨mA,hns,s_⟩:=(show ObjOk X.prog X.w H1 s1.heap b (.xd vs)from I1.hok b _ (g1.fh _ _ f_));obtain⟨uv,hu,ru⟩:=RelO.some_of (v:=w') (o:=mA f) (by rw[<-hw];exact s_ f);obtain⟨A_,ho,look⟩:=kj hns;have P4:hasDictIn X.K C=true:=by unfold hasDictIn;rw[ea.cl];exact ea.hd
   exact zn (K:=X.K) (ox:=#[.ref C,be b,.fields n4,sl]) (od:=A_) I1.kIn #[g6,rfl,rfl,ho] ea.cl ea.mro ga gb (findObj_own P4 hf rfl (by rw[look,hu])) (rQ ru) λtk=>#[w',H1,I1.tok tk,ru,h2 d w' F1 H1 g1 hR i6]⟩
def ul:tailIn K veLine veLine=true:=by
 unfold tailIn;rfl
def um{c:Os}{d:Option Addr}{es:Array DictEntry}{ep:Nat}(l:K.lookup N=be #[c,d,.dict es ep,sl])(h:es.toList.all (λe=>match e.key with|.str _ _=>true|_=>false)=true):nsOkIn K N=true:=by
 unfold nsOkIn;rw[l];dsimp only;rw[<-Kg];exact h
def AE{M:Addr}{c0:Os}{dd:Option Addr}{cd:VT}(l:K.lookup M=be #[c0,dd,.cls cd,sl])(hn:cd.ns=N)(h1:nsOkIn K N=true)(h2:nsIn K N "__init__"=be LH):tailIn K veLine (.ref M::veLine)=true:=by
 unfold tailIn;subst hn;dsimp only;rw[l];dsimp only;rw[h1,h2,ul];simp
def AF(S:SpX):SpD:=λds R=>S ds R λ_ _=>False
def CalX.no{base:Heap}{n:Nat}{S:SpX}(C:CalX P w K mg base n x ps S):CalD P w K mg base n x ps (AF S):=by
 obtain⟨f,fd,F,hb,hk,hm⟩:=C;refine#[f,fd,F.imp λvs H Q E h=>?_,hb,hk,hm];obtain⟨F,ds,fh,rs,R,h,q⟩:=h;exact#[F,ds,fh,rs,R,_,h,q,λ_ _ _ _ _ _ _ z=>z.elim]
end My
namespace My
def repS(x:Ms)(n:Nat):Str:=#[(IH n x.cps.toList).flatten.toArray]
def uo{α:Type}(l:List α):∀m:Nat,(HS m).filterMap (λk=>l[k]?)=l.take m
 |0=>by simp
 |m+1=>by
  rw[JE,List.filterMap_append,uo l m,KP];cases h:l[m]?<;>simp[h]
def AG(lo hi:Option Int)(n:Nat):Builtin.Str.strSliceIndices lo hi 1 n=(HS (HT.sIx n n hi-HT.sIx n 0 lo)).map λk=>HT.sIx n 0 lo+k:=by
 have LW:∀(i:Int) (d:Nat),max 0 (min (if i<0 then i+(n:Int)else i) (n:Int))=((HT.sIx n d (be i):Nat):Int):=by
  intro i d;show max 0 (min (if i<0 then i+(n:Int)else i) (n:Int))=(((if i<0 then(i+(n:Int)).toNat else min i.toNat n):Nat):Int);by_cases h:i<0
  .rw[if_pos h,if_pos h];lia
  .rw[if_neg h,if_neg h];lia
 have h1:Builtin.Str.strSliceIndices lo hi 1 n=sliceRange ((HT.sIx n 0 lo:Nat):Int) ((HT.sIx n n hi:Nat):Int) 1:=by
  unfold Builtin.Str.strSliceIndices;simp only[show(1:Int)>0 by decide,if_true];cases lo with
  |none=>cases hi with
   |none=>rfl
   |some j=>rw[<-LW j n];rfl
  |some i=>cases hi with
   |none=>rw[<-LW i 0];rfl
   |some j=>rw[<-LW i 0,<-LW j n]
 rw[h1];unfold sliceRange;simp only[show(1:Int)>0 by decide,if_true];have e3:(if((HT.sIx n 0 lo:Nat):Int)<((HT.sIx n n hi:Nat):Int)then(((HT.sIx n n hi:Nat):Int)-((HT.sIx n 0 lo:Nat):Int)+1-1)/1 else 0).toNat=HT.sIx n n hi-HT.sIx n 0 lo:=by
  split<;>lia
 rw[e3];apply JF;intro k _;lia
def slice_cps(y:Ms)(lo hi:Option Int):Txt.slice y lo hi=#[((y.cps.toList.drop (HT.sIx y.length 0 lo)).take (HT.sIx y.length y.length hi-HT.sIx y.length 0 lo)).toArray]:=by
 have la:HT.sIx y.length 0 lo<=y.length:=HT.sIx_le _ _ (Iq _) lo;have lb:HT.sIx y.length y.length hi<=y.length:=HT.sIx_le _ _ (HP _) hi;unfold Txt.slice;rw[AG];split
 .rename_i h;have hl:HT.sIx y.length y.length hi-HT.sIx y.length 0 lo=y.length:=by simpa using h
  have ha:HT.sIx y.length 0 lo=0\/y.length=0:=v4
  rw[hl];obtain⟨cp⟩:=y;have e:(Jg (HT.sIx (Str.mk cp).length 0 lo) cp.toList)=cp.toList:=by
   rcases ha with ha|ha
   .rw[ha];rfl
   .have:cp=[].toArray:=Array.eq_empty_of_size_eq_zero ha;subst this;simp
  show(#[cp]:Ms)=#[((Jg (HT.sIx (Str.mk cp).length 0 lo) cp.toList).take cp.size).toArray];rw[e,Jh MF]
 .congr 2;rw[KF];have:=uo (y.cps.toList.drop (HT.sIx y.length 0 lo)) (HT.sIx y.length y.length hi-HT.sIx y.length 0 lo);rw[<-this];congr 1;funext k;simp
section
variable {X:Cx}[J:Jx]{a b c e:U6}{ta tb tc te:TD}{pos:Vf}
def HI:RD2:=λx y R=>match x,y with
 |.int i,.int j=>CMul i j/\R (.int (i*j))
 |.str i,.int n=>(-(2^62)<=n/\n<=1000000/\i.length*n.toNat<=1000000)/\R (.str (repS i n.toNat))
 |.lst xs,.int n=>(-(2^62)<=n/\n<=1000000/\xs.length*n.toNat<=1000000)/\R (.lst (IH n.toNat xs).flatten)
 |_,_=>False
def uq:SlR X (λx lo hi H Q=>∃y,x=.str y/\y.length<=sizeLine/\Q (.str (Txt.slice y lo hi)) H):=by
 intro pins s σ H x v vl vu lo hi sl Q I rx hs pl pu h;obtain⟨y,rfl,hz,q⟩:=h;obtain⟨t,rfl⟩:=rx;have d_:∀t' k,EP X pins σ Q (.str (Txt.slice y lo hi) t') {s with toks:=k}:=λt' k=>#[.str _,H,I.tok k,#[_,rfl],q];have le:=HZ (Txt.slice_le y lo hi) hz;refine#["str",_,PySem.F.slot_str_getitem.lookup,WV _ _ _,?_];cases pl with
 |none=>cases pu with
  |none=>exact VF (l:=LH) (u:=LH) (st:=LH) hs rfl (V5 #[le,d_])
  |int j tj=>exact VF (l:=LH) (u:=be (j,tj)) (st:=LH) hs rfl (V5 #[le,d_])
 |int i ti=>cases pu with
  |none=>exact VF (l:=be (i,ti)) (u:=LH) (st:=LH) hs rfl (V5 #[le,d_])
  |int j tj=>exact VF (l:=be (i,ti)) (u:=be (j,tj)) (st:=LH) hs rfl (V5 #[le,d_])
abbrev TDO:=SD->(Option Int->Prop)->Prop
def AH:TDO:=λ_ R=>R LH
def AI(te:TD):TDO:=λz R=>te z λx=>match x with|.int i=>R (be i)|_=>False
def lO(K:Ex)[J:Jx](t:TDO):TO:=λs H Q=>∃B F z,Kept B J.F0 F H/\RepS K B F H z s/\∃R:Option Int->Prop,t z R/\∀o F' H',Grow F H F' H'->R o->Q o H'
abbrev DPO(X:Cx)[Jx](e:Option U6)(t:TDO):Prop:=PO X e (lO X.K t)
structure WDPO(X:Cx)[Jx](e:Option U6)(t:TDO):Prop where
 out:DPO X e t
def PO.anti{X:Cx}{e:Option U6}{t t':TO}(h:PO X e t)(a:∀s H Q,t' s H Q->t s H Q):PO X e t':=λpins s σ H Q I q=>h pins s σ H Q I (a _ _ _ q)
def cj:WDPO X LH AH:=⟨PO.anti ku λs H Q q=>by
 obtain⟨B,F,z,kf,rs,R,h1,h2⟩:=q;exact h2 LH F H (Grow.refl kf.fh) h1⟩
def ck(he:WDE X e te):WDPO X (be e) (AI te):=⟨have he:=he.out;PO.anti (ky he) λs H Q q=>by
 obtain⟨B,F,z,kf,rs,R,h1,h2⟩:=q;refine#[B,F,z,kf,rs,_,h1,λx u F1 H1 g1 hx rx=>?_];split at hx
 .exact#[_,rep_int.mp rx,h2 _ F1 H1 g1 hx]
 .exact hx.elim⟩
def rdSl:D->Option Int->Option Int->(D->Prop)->Prop:=λx lo hi R=>match x with
 |.str y=>y.length<=1000000/\R (.str (Txt.slice y lo hi))
 |.lst xs=>R (.lst (cutD xs lo hi))
 |.rol xs=>R (.lst (cutD xs lo hi))
 |.tup xs=>¬(HT.sIx xs.length 0 lo=0/\HT.sIx xs.length xs.length hi=xs.length)/\R (.tup (cutD xs lo hi))
 |_=>False
def dSl(ta:TD)(tl th:TDO):TD:=λz R=>ta z λx=>tl z λlo=>th z λhi=>rdSl x lo hi R
def cm{lo hi:Option U6}{tl th:TDO}{p2:Vf}(ha:WDE X a ta)(hl:WDPO X lo tl)(hu:WDPO X hi th):WDE X (.Subscript a (.Slice lo hi LH p2) pos) (dSl ta tl th):=⟨have ha:=ha.out;have hl:=hl.out;have hu:=hu.out;(gR (SlR.or uq (SlR.or gS si)) ha hl hu).anti λs H Q q=>by
 obtain⟨B,F,z,kf,rs,R,h1,h2⟩:=q;refine#[B,F,z,kf,rs,_,h1,λx u F1 H1 g1 hx rx=>?_];refine#[B,F1,z,kf.grow g1,rs.grow g1,_,hx,λlo F2 H2 g2 hy=>?_];refine#[B,F2,z,(kf.grow g1).grow g2,(rs.grow g1).grow g2,_,hy,λhi F3 H3 g3 hw=>?_];have g:=g1.trans (g2.trans g3);have LX:=(rx.mono g2.ff).mono g3.ff;unfold rdSl at hw;split at hw
 .exact .inl #[_,rep_str.mp LX,HZ hw.1 Mx,h2 _ _ F3 H3 g hw.2 (rep_str.mpr rfl)]
 .obtain⟨l,vs,rfl,hq,rr⟩:=rep_lst.mp LX;refine .inr (.inl #[l,vs,rfl,SqL.of (g3.fh _ _ hq),λp hp=>?_]);exact h2 _ _ _ _ (g.trans (Grow.new g3.fh hp _)) hw (rep_lst.mpr #[p,_,rfl,aC,(rr.cut _ _).mono (aN (g3.fh.free hp) _)])
 .obtain⟨l,vs,rfl,hq,rr⟩:=rep_rol.mp LX;refine .inr (.inl #[l,vs,rfl,g3.fh.seq hq,λp hp=>?_]);exact h2 _ _ _ _ (g.trans (Grow.new g3.fh hp _)) hw (rep_lst.mpr #[p,_,rfl,aC,(rr.cut _ _).mono (aN (g3.fh.free hp) _)])
 .obtain⟨l,vs,rfl,hq,rr⟩:=rep_tup_mp LX;refine .inr (.inr #[l,vs,rfl,g3.fh.tup hq,by rw[rr.length];exact hw.1,λp hp=>?_]);exact h2 _ _ _ _ (g.trans (Grow.new g3.fh hp _)) hw.2 (rep_tupS.mpr #[p,_,rfl,aC,(rr.cut _ _).mono (aN (g3.fh.free hp) _)])
 .exact hw.elim⟩
def rdIn(neg:Bool):RD2:=λx y R=>match y with
 |.str j=>kdS x λi=>R (.bl (if neg then !(!(Builtin.Str.occurrences j i 0 j.length 1).isEmpty)else !(Builtin.Str.occurrences j i 0 j.length 1).isEmpty))
 |.lst ys=>(bq x=true/\ys.all bq=true)/\R (.bl (if neg then !(ys.any λy=>eqF y x)else ys.any λy=>eqF y x))
 |.rol ys=>(bq x=true/\ys.all bq=true)/\R (.bl (if neg then !(ys.any λy=>eqF y x)else ys.any λy=>eqF y x))
 |.tup ys=>(bq x=true/\ys.all bq=true)/\R (.bl (if neg then !(ys.any λy=>eqF y x)else ys.any λy=>eqF y x))
 |_=>False
def ij{K:Ex}{H:Hp}{x:D}{u:V}(rx:Rep K H x u)(fx:bq x=true):∀{ys:List D} {vs:List V},Reps K H ys vs->ys.all bq=true->inV u vs=ys.any λy=>eqF y x
 |[],vs,r,_=>by rw[reps_nil.mp r];rfl
 |y::ys,vs,r,f=>by
  obtain⟨v,vr,rfl,r1,r2⟩:=reps_cons.mp r;rw[IJ,Io]at f;have ih:=ij rx fx r2 f.2;unfold inV at ih ⊢;rw[JR,JR,ih,hU r1 rx f.1 fx]
def rInV(K:Ex)(neg:Bool):R2:=λx y H Q=>(∃i j,x=.str i/\y=.str j/\Q (.bl (if neg then !(!(Builtin.Str.occurrences j i 0 j.length 1).isEmpty)else !(Builtin.Str.occurrences j i 0 j.length 1).isEmpty)) H)\/rIn K neg x y H Q
def AJ{K:Ex}{neg:Bool}:aV K (rInV K neg) (rdIn neg):=by
 intro x y u v F H R Q fh h rx ry q;cases y with
 |str j=>
  replace h:=kdS.of h;obtain⟨i,rfl,h⟩:=h;exact .inl #[_,_,rep_str.mp rx,rep_str.mp ry,q _ _ F H (Grow.refl fh) h (rep_bl.mpr rfl)]
 |lst ys=>
  obtain⟨⟨f1,f2⟩,h⟩:=h;obtain⟨l,vs,rfl,hq,rr⟩:=rep_lst.mp ry;exact .inr #[l,vs,rfl,.inl (fh.seq (SqL.of hq)),fg rx f1,dh rr f2,q _ _ F H (Grow.refl fh) h (rep_bl.mpr (by rw[ij rx f1 rr f2]))]
 |rol ys=>
  obtain⟨⟨f1,f2⟩,h⟩:=h;obtain⟨l,vs,rfl,hq,rr⟩:=rep_rol.mp ry;exact .inr #[l,vs,rfl,.inl (fh.seq hq),fg rx f1,dh rr f2,q _ _ F H (Grow.refl fh) h (rep_bl.mpr (by rw[ij rx f1 rr f2]))]
 |tup ys=>
  obtain⟨⟨f1,f2⟩,h⟩:=h;obtain⟨l,vs,rfl,hq,rr⟩:=rep_tup_mp ry;exact .inr #[l,vs,rfl,.inr (fh.tup hq),fg rx f1,dh rr f2,q _ _ F H (Grow.refl fh) h (rep_bl.mpr (by rw[ij rx f1 rr f2]))]
 |_=>exact False.elim h
def AK:OpR X (Vm .NotIn) (rInV X.K true):=OpR.or yU yT
end
end My
namespace L2
def Its(x:Ms):It:=#[λi _=>i<x.length,λi H v H'=>H'=H/\∃c,x.cps[i]?=be c/\v=.str #[[c].toArray],λi _=>x.length<=i]
def AL{P:U8}{w:U_}{K:Ex}{tg:U6}(x:Ms)(t:W4)(it:Addr):Turn P w K tg (Its x) [it] it (λi h=>h.IsStrIter it "str_ascii_iterator" x t i) where
 mem:=MF
 obj:=λi h st b hb=>by
  have e:b=it:=by simpa using hb
  subst e;obtain⟨o,e,c,d⟩:=st;exact#[o,e,λv z=>by rw[d]at z;cases z]
 keep:=λi h h' st k=>by
  obtain⟨o,e,r⟩:=st;exact#[o,k it MF o e,r]
 item:=by
  intro X hP hw hK hc i pins s σ H E I hf st hg;subst hP hw hK;have hi:i<x.cps.size:=hg;obtain⟨f0,f1,f2,f3,f4,f5⟩:=hf it MF;refine wpAny_pyNext_ascii_item st (c:=x.cps[i]) (KQ hi) λh' v3 sb=>?_;have I1:Inv X pins σ H {s with heap:=h',toks:=s.toks+1}:=I.turned (t':=s.toks+1) (λb o hb e=>(sb.2 b hb).trans e) f0 f1 f3 f4 f5;obtain⟨o,e,c,d⟩:=id v3;exact#[_,rfl,jZ (s:={s with heap:=h',toks:=s.toks+1}) e c d Mx #[.str #[[x.cps[i]].toArray],H,I1,#[_,rfl],#[rfl,_,KQ hi,rfl],v3,λb hb=>(hf b hb).1]]
 done:=by
  intro X hP hw hK hc i pins s σ H E I hf st hg;subst hP hw hK;have hi:x.cps.size<=i:=hg;obtain⟨f0,f1,f2,f3,f4,f5⟩:=hf it MF;exact wpAny_pyNext_ascii_end (I.ok.hd hc) st (Array.getElem?_eq_none hi) λh' eb=>#[rfl,I.turned (t':=s.toks) (λb o hb e=>eb b o hb e) f0 f1 f3 f4 f5]
 self:=λA i s Q E st hQ=>wpAny_pyIter_striter_ascii st hQ
def iStr(tl:TE):TI:=λσ H R=>tl σ H λv H1=>∃x,v=.str x/\x.cps.all (·<128)=true/\R (Its x) H1
def ut{X:Cx}{tg l:U6}{tl:TE}(hl:PE X l tl):PI X tg l (iStr tl):=by
 intro pins s σ H R I h;refine thn (hl pins s σ H _ I h) λv s1 b9=>?_;obtain⟨v1,H1,I1,r1,q1⟩:=b9;obtain⟨x,rfl,ha,q⟩:=q1;obtain⟨t,rfl⟩:=r1;refine wpAny_pyIter_ascii ha ?_;refine#[s1.heap.objs.size,[s1.heap.objs.size],_,_,H1,rfl,I1.kept (t':=s1.toks) λb o e=>Heap.get?_push_of_some _ e,AL x t _,#[_,Heap.get?_push_size _ rfl,rfl,rfl],λb hb=>?_,q];have e:b=s1.heap.objs.size:=by simpa using hb
 subst e;exact I1.fpOk (HP _) (I1.hok.fresh (HP _))
def AM{x:Ms}{g:TG}{tb:TS}{D:Ends}{σ:St}{H:Hp}(Pv:Nat->St->Hp->Prop)(h0:Pv 0 σ H)
  (hs:∀i c σ H,x.cps[i]?=be c->Pv i σ H->g (.str #[[c].toArray]) σ H λσ2 H2=>tb {D with nx:=Pv (i+1),ct:=Pv (i+1),bk:=D.nx} σ2 H2) (hd:∀σ H,Pv x.length σ H->D.nx σ H):
  ∃W:Nat->Nat->St->Hp->Prop,(∃m,W 0 m σ H)/\∀i m σ H,W i m σ H->
   ((Its x).stop i H/\D.nx σ H)\/((Its x).go i H/\∃N:St->Hp->Prop,(∀σ' H',N σ' H'->∃m',m'<m/\W (i+1) m' σ' H')/\∀v H',(Its x).yld i H v H'->g v σ H' λσ2 H2=>tb {D with nx:=N,ct:=N,bk:=D.nx} σ2 H2):=by
 refine#[λi m σ H=>m=x.length-i/\i<=x.length/\Pv i σ H,#[x.length,MF,Iq _,h0],?_];rintro i m σ H ⟨rfl,hi,p⟩;by_cases f9:i<x.length
 .refine .inr #[f9,Pv (i+1),λσ' H' p'=>#[x.length-(i+1),v4,rfl,f9,p'],λv H' y=>?_];obtain⟨e,c,hc,rfl⟩:=y;subst e;exact hs i c σ _ hc p
 .have e:i=x.length:=by lia
  subst e;exact .inl #[HP _,hd σ H p]
end L2
namespace My
section
variable {X:Cx}[J:Jx]{a b c e:U6}{ta tb tc te:TD}{pos:Vf}
def bS(x:Ms):List D:=x.cps.toList.map λc=>D.str #[[c].toArray]
def dItS(t:TD):TDI:=λz R=>t z λy=>match y with|.str x=>x.cps.all (·<128)=true/\R (bS x)|_=>False
def ik{x:Ms}{k c:Nat}(h:x.cps[k]?=be c):(bS x)[k]?=be (.str #[[c].toArray]):=by
 unfold bS;rw[H9,Array.getElem?_toList,h];rfl
def fA(x:Ms):(bS x).length=x.length:=by unfold bS;rw[HV];simp[Str.length]
def AN(i:Nat){x:Ms}{p:Vf}{body:List U7}{tb:TSD}(hp:Vs (SZ X.prog X.w) X.A X.env X.xe)(hc:X.calm=true)(hN:X.N.Nodup)(he:WDE X e te)(hb:WDSs X body tb)(hi:autoParam (X.N[i]?=be x) zA0)(hx:autoParam (Loc X.env.scope x) zA4)
  (hf:autoParam (zFN X x) zA2) (hs:autoParam (∀y,zFS X e y) zA3):WDS X (.For (.Name x p) e body [] pos) (dFor i (dItS te) tb):=⟨have he:=he.out;have hb:=hb.out;(db hp hc (ut he) (eN hN hi hx hf) hb hs).anti λE s H q=>by
 obtain⟨B,F0,F,z,kp,rs,ED,h,e⟩:=q;refine#[B,F,z,kp.kf,rs,_,h,λd v F1 H1 g1 hd rd=>?_];split at hd
 .rename_i y;obtain⟨ha,W,w0,c8,out⟩:=hd;refine#[y,rep_str.mp rd,ha,AM (λk s' H'=>∃F' z',Kept B F0 F' H'/\RepS X.K B F' H' z' s'/\W k z') #[F1,z,kp.grow g1,rs.grow g1,w0] ?_ ?_]
  .rintro k c s' H' hk⟨F',z',k',r',w'⟩;exact#[B,F0,F',_,k',r'.set (d:=.str #[[c].toArray]) (rep_str.mpr rfl),_,c8 k (.str #[[c].toArray]) z' (ik hk) w',#[λz3 s3 F3 H3 k3 h3 r3=>#[F3,z3,k3,r3,h3],e.rt,e.nx,λz3 s3 F3 H3 k3 h3 r3=>#[F3,z3,k3,r3,h3]]]
  .rintro s' H'⟨F',z',k',r',w'⟩;exact e.nx z' s' F' H' k' (out z' (by rw[fA];exact w')) r'
 .exact hd.elim⟩
variable {h_ iter:U6}{x:Ms}{px:Vf}{scope:VA}{ti:TD}
def itS{K:Ex}:ItOk K (iStr (lE K ti)) (dItS ti):=λ{s H B F z P Q} kf rs h1 h2=>by
 refine#[B,F,z,kf,rs,_,h1,λd v F1 H1 g1 hd rd=>?_];split at hd
 .rename_i y;obtain⟨ha,hd⟩:=hd;have hl:=fA y;refine#[y,rep_str.mp rd,ha,h2 _ _ F1 H1 g1 hd #[λk F' H' G hk=>by rw[hl]at hk;exact hk,λk F' H' v H'' G hk hy=>?_,λF' H' G=>by show y.length<=_;rw[hl];exact HP _]];obtain⟨e,c,hc,rfl⟩:=hy;exact#[e,.str #[[c].toArray],ik hc,rep_str.mpr rfl]
 .exact hd.elim
end
section
variable {X:Cx}[J:Jx]{a b c e o:U6}{es:List U6}{ta tb tc te to:TD}{t:TDA}{pos:Vf}
abbrev RTx:=Ms->List D->(D->Prop)->Prop
def dTx(r:RTx)(to:TD)(t:TDA):TD:=λz R=>to z λx=>match x with|.str y=>t z λds=>r y ds R|_=>False
def MtS(X:Cx)(id:String)(r:RTx):Prop:=∃rv:V->List V->Hp->VK->Prop,MtR X id rv/\∀(y:Ms) (ds:List D) (vs:List V) (F H:Hp) (R:D->Prop) (Q:VK),Reps X.K F ds vs->r y ds R->(∀d v,(∀G,Rep X.K G d v)->R d->Q v H)->rv (.str y) vs H Q
variable{apos cpos:Vf}
def kY{name:Ms}{id:String}{r:RTx}(slot:Slot "str" name id)(Pj:typeOf (.builtin id)=pure (.type "method_descriptor"))(hm:MtS X id r)(ho:DE X o to)(ha:DA X (e::es) t)
  (b7:autoParam (Vc o name X.env (Vd o X.env)=Vd o X.env) zA0)
  (d6:autoParam (zHF X cpos (e::es)) zA0)
  (b_:autoParam ((apos.endLine==cpos.line)=true) zA0) (hs:autoParam (zSE X e es) zA0) (o7:autoParam (zPL X cpos es) zA0):
  DE X (.Call (.Attribute o name apos) (e::es) [] cpos) (dTx r to t):=by
 obtain⟨rv,hm,L⟩:=hm;refine(df PySem.F.plainAttrs_str slot Pj hm ho ha b7 d6 b_ hs o7).anti λs H Q q=>?_;obtain⟨B,F,z,kf,rs,R,h1,h2⟩:=q;refine#[B,F,z,kf,rs,_,h1,λx u F1 H1 g1 hx rx=>?_];split at hx
 .rename_i y;rw[rep_str.mp rx];refine#[rfl,B,F1,z,kf.grow g1,rs.grow g1,_,hx,λds vs F2 H2 g2 hy ry=>?_];exact L y ds vs F2 H2 R Q ry hy λd v rd hR=>h2 d v F2 H2 (g1.trans g2) hR (rd F2)
 .exact hx.elim
def HJ:RTx:=λy ds R=>match ds with|[.str p]=>R (.bl (Txt.startswith y p))|_=>False
def rEnds:RTx:=λy ds R=>match ds with|[.str p]=>R (.bl (Txt.endswith y p))|_=>False
def ms_ends:MtS X "str.endswith" rEnds:=by
 refine#[λx vs H Q=>∃y p,x=.str y/\vs=[.str p]/\Q (.bl (Txt.endswith y p)) H,?_,?_]
 .intro pins s σ H x vs v us Q I rx rv h;obtain⟨y,p,rfl,rfl,q⟩:=h;obtain⟨t,rfl⟩:=rx;obtain⟨u,rfl,t',rfl⟩:=ce rv;exact SC.endswith #[.bl _,H,I,rfl,q]
 .intro y ds vs F H R Q r h q;unfold rEnds at h;split at h
  .obtain⟨v,vr,rfl,h1,h2⟩:=reps_cons.mp r;rw[reps_nil.mp h2,rep_str.mp h1];exact#[_,_,rfl,rfl,q _ _ (λ_=>rep_bl.mpr rfl) h]
  .exact h.elim
def AO(ho:WDE X o to)(ha:WDA X [e] t)(b7:autoParam (Vc o "endswith" X.env (Vd o X.env)=Vd o X.env) zA0)
  (d6:autoParam (zHF X cpos [e]) zA0)
  (b_:autoParam ((apos.endLine==cpos.line)=true) zA0) (hs:autoParam (zSE X e []) zA0):WDE X (.Call (.Attribute o "endswith" apos) [e] [] cpos) (dTx rEnds to t):=#[have ho:=ho.out;have ha:=ha.out;kY PySem.F.slot_str_endswith PySem.F.type_str_endswith ms_ends ho ha b7 d6 b_ hs]
def rSIndex:RTx:=λy ds R=>match ds with|[.str p]=>∃i rest,Builtin.Str.occurrences y p 0 y.length 1=i::rest/\R (.int (i:Nat))|_=>False
def AQ:MtS X "str.index" rSIndex:=by
 refine#[λx vs H Q=>∃y p i rest,x=.str y/\vs=[.str p]/\Builtin.Str.occurrences y p 0 y.length 1=i::rest/\Q (.int (i:Nat)) H,?_,?_]
 .intro pins s σ H x vs v us Q I rx rv h;obtain⟨y,p,i,rest,rfl,rfl,ho,q⟩:=h;obtain⟨t,rfl⟩:=rx;obtain⟨u,rfl,t',rfl⟩:=ce rv;exact SC.index ho #[.int _,H,I.tok _,#[_,rfl],q]
 .intro y ds vs F H R Q r h q;unfold rSIndex at h;split at h
  .obtain⟨i,rest,ho,h⟩:=h;obtain⟨v,vr,rfl,h1,h2⟩:=reps_cons.mp r;rw[reps_nil.mp h2,rep_str.mp h1];exact#[_,_,i,rest,rfl,rfl,ho,q _ _ (λ_=>rep_int.mpr rfl) h]
  .exact h.elim
def kZ(ho:WDE X o to)(ha:WDA X [e] t)(b7:autoParam (Vc o "index" X.env (Vd o X.env)=Vd o X.env) zA0)
  (d6:autoParam (zHF X cpos [e]) zA0)
  (b_:autoParam ((apos.endLine==cpos.line)=true) zA0) (hs:autoParam (zSE X e []) zA0):WDE X (.Call (.Attribute o "index" apos) [e] [] cpos) (dTx rSIndex to t):=#[have ho:=ho.out;have ha:=ha.out;kY PySem.F.slot_str_index PySem.F.type_str_index AQ ho ha b7 d6 b_ hs]
def Reps.init{K:Ex}{F:Hp}:∀{ds:List D} {vs:List V},Reps K F ds vs->Reps K F ds.dropLast vs.dropLast
 |[],vs,r=>by rw[reps_nil.mp r];exact reps_nil.mpr rfl
 |[d],vs,r=>by
  obtain⟨v,vr,rfl,_,h2⟩:=reps_cons.mp r;rw[reps_nil.mp h2];exact reps_nil.mpr rfl
 |d::d2::ds,vs,r=>by
  obtain⟨v,vr,rfl,h1,h2⟩:=reps_cons.mp r;obtain⟨v2,UI,rfl,h3,h4⟩:=reps_cons.mp h2;rw[KR,KR];exact reps_cons.mpr #[v,_,rfl,h1,Reps.init h2]
end
end My
namespace My
open Exc
section
variable {X:Cx}{a b c e:U6}{ta tb tc te:TD}{pos:Vf}{st:U7}{rest:List U7}{t u:TSD}
def aS[Jx]{c:U6}{l r:List U7}{tc:TDT}(hc:WDT X c tc)(ha:WDSs X l t)(hb:WDSs X r u):WDS X (.If c l r pos) (dIfS tc t u):=#[tI (c:=c) (l:=l) (r:=r) (tc:=tc) (hc:=hc.out) (ha:=ha.out) (hb:=hb.out)]
end
section
variable {P:U8}{w:U_}{K:Ex}{mg:Ms->Option Os}{base:Heap}
variable{x qual:Ms}{st:U7}{f:Addr}{fd:Ve}{N ps:List Ms}{k:Nat}
def _root_.L2.Fun.okDW{S:SpD}(T:Fun K x qual st f fd)(F:FnScope N ps (ah st))(len:∀ds R,S ds R->ds.length=ps.length)
  (a8:∀(cdv:Os) (A:Va) (outer:List VS) (s:P3) (H:Hp) (E:XK) (J:Jx),Room k (A.deeper (Vh qual (ah st) s.heap.objs.size f cdv))->
   ∃t,WDSs (cxOf (Exc.CX1 P w) P w K mg base N qual (ah st) f cdv A outer s H E).nox (aK st) t/\∀ds R,S ds R->t {nx:=λ_=>R .non,rt:=R} (startD N ds)):FnOk P w K mg base (Exc.CX1 P w) (k+1) f fd ps (lSp K S):=
 T.okD F len λcdv A outer s H E J hr=>let ⟨t,h,q⟩:=a8 cdv A outer s H E J hr;#[t,h.out,q]
def Tx.okDW{S:SpD}(T:Tx K mg x st ps)(F:FnScope N ps (ah st))(len:∀ds R,S ds R->ds.length=ps.length)
  (a8:∀(f:Addr) (cdv:Os) (A:Va) (outer:List VS) (s:P3) (H:Hp) (E:XK) (J:Jx),Room k (A.deeper (Vh x (ah st) s.heap.objs.size f cdv))->
   ∃t,WDSs (cxOf (Exc.CX1 P w) P w K mg base N x (ah st) f cdv A outer s H E).nox (aK st) t/\∀ds R,S ds R->t {nx:=λ_=>R .non,rt:=R} (startD N ds)):CalD P w K mg base (k+1) x ps S:=
 Tx.okD T F len λf cdv A outer s H E J hr=>let ⟨t,h,q⟩:=a8 f cdv A outer s H E J hr;#[t,h.out,q]
def Tx.okXW{S:SpX}(T:Tx K mg x st ps)(F:FnScope N ps (ah st))(len:∀ds R RX,S ds R RX->ds.length=ps.length)
  (a8:∀(f:Addr) (cdv:Os) (A:Va) (outer:List VS) (s:P3) (H:Hp) (E:XK) (J:Jx),Room k (A.deeper (Vh x (ah st) s.heap.objs.size f cdv))->XOk (cxOf (CX1 P w) P w K mg base N x (ah st) f cdv A outer s H E)->
   ∃t,WDSs (cxOf (CX1 P w) P w K mg base N x (ah st) f cdv A outer s H E) (aK st) t/\∀ds R RX,(∀z,J.RX z=RX)->S ds R RX->t {nx:=λ_=>R .non,rt:=R} (startD N ds)):CalX P w K mg base (k+1) x ps S:=
 Tx.okX T F len λf cdv A outer s H E J hr hx=>let ⟨t,h,q⟩:=a8 f cdv A outer s H E J hr hx;#[t,h.out,q]
def Cls.okIW{C:Addr}{p0:Ms}{S:SiD}(T:Fun K "__init__" qual st f fd)(hb:Binds K fd (p0::ps) [])(F:FnScope (p0::N) (p0::ps) (ah st))(len:∀ds R,S ds R->ds.length=ps.length)
  (hns:nsIn K SB x=be (be (.ref C))) (k8:mg x=be (.ref C)) (mk:Mk K C f)
  (a8:∀(cdv:Os) (A:Va) (outer:List VS) (s:P3) (H:Hp) (E:XK) (J:Jx),Room k (A.deeper (Vh qual (ah st) s.heap.objs.size f cdv))->
   ∃t,WDI (cxOf (Exc.CX1 P w) P w K mg base (p0::N) qual (ah st) f cdv A outer s H E).nox x (aK st) t/\∀ds R,S ds R->t (LH::startD N ds) [] R):CalM P w K mg base (k+1) x (p0::ps) S:=
 Cls.okI T hb F len hns k8 mk λcdv A outer s H E J hr=>let ⟨t,h,q⟩:=a8 cdv A outer s H E J hr;#[t,h.out,q]
def Cls.okEW{C N0:Addr}{bm:List Os}{p0:Ms}{S:SiD}(T:Fun K "__init__" qual st f fd)(hb:Binds K fd (p0::ps) [])(F:FnScope (p0::N) (p0::ps) (ah st))(len:∀ds R,S ds R->ds.length=ps.length)
  (ek:ErrK K mg x C N0 bm) (hi:HR K (.ref C) "__init__"=be (be (.ref f))) (hf:isFn K (.ref f)=true)
  (a8:∀(cdv:Os) (A:Va) (outer:List VS) (s:P3) (H:Hp) (E:XK) (J:Jx),Room k (A.deeper (Vh qual (ah st) s.heap.objs.size f cdv))->
   ∃t,WDX (cxOf (CX1 P w) P w K mg base (p0::N) qual (ah st) f cdv A outer s H E).nox x (aK st) t/\∀ds R,S ds R->t (LH::startD N ds) [] R):CalE P w K mg base (k+1) x (p0::ps) S:=
 Cls.okE T hb F len ek hi hf λcdv A outer s H E J hr=>let ⟨t,h,q⟩:=a8 cdv A outer s H E J hr;#[t,h.out,q]
end
inductive MO where
 |ins (x:Str) (fs:List (Str×D))|lst (ds:List D)|dti (a9:List ((Int×Int)×Int))
abbrev MS:=List (Addr×MO)
def MRep(K:Ex)(F H:Hp)(a:Addr):MO->Prop
 |.ins x fs=>∃C dx ws,nsIn K SB x=be (be (.ref C))/\H a=be (.ins C dx ws)/\RepF K F fs ws
 |.lst ds=>∃vs,H a=be (.lst vs)/\Reps K F ds vs
 |.dti a9=>H a=be (.dT (dtiV a9))
def av(M:MS):List Addr:=M.map (·.1)
def mget:MS->Addr->Option MO
 |[],_=>LH
 |(b,o)::r,a=>if b=a then be o else mget r a
def mput:MS->Addr->MO->MS
 |[],_,_=>[]
 |(b,p)::r,a,o=>if b=a then(b,o)::r else(b,p)::mput r a o
def mdel:MS->Addr->MS
 |[],_=>[]
 |(b,p)::r,a=>if b=a then r else(b,p)::mdel r a
def bC:∀{M:MS} {a:Addr} {o:MO},mget M a=be o->(a,o)∈M
 |[],_,_,h=>by cases h
 |(b,p)::r,a,o,h=>by
  unfold mget at h;split at h
  .rename_i e;subst e;cases h;exact HW
  .exact HU _ (bC h)
variable{M:MS}{a:Addr}{o:MO}
def bX(h:(a,o)∈M):a∈av M:=Ir.mpr #[_,h,rfl]
def il:∀(M:MS) (a:Addr) (o:MO),av (mput M a o)=av M
 |[],_,_=>rfl
 |(b,p)::r,a,o=>by
  unfold mput;split
  .rfl
  .show b::av (mput r a o)=b::av r;rw[il r a o]
def mem_put:∀{M:MS} {a b:Addr} {o q:MO},(av M).Nodup->(b,q)∈mput M a o->(b=a/\q=o/\a∈av M)\/(b≠a/\(b,q)∈M)
 |[],_,_,_,_,_,h=>by cases h
 |(c,p)::r,a,b,o,q,nd,h=>by
  have N6:c∉av r/\(av r).Nodup:=IY.mp nd;unfold mput at h;split at h
  .rename_i e;subst e;rcases HQ.mp h with z|z
   .cases z;exact .inl #[rfl,rfl,HW]
   .have:b∈av r:=bX z;exact .inr #[λe=>N6.1 (e ▸ this),HU _ z]
  .rename_i ne;rcases HQ.mp h with z|z
   .cases z;exact .inr #[ne,HW]
   .rcases mem_put N6.2 z with⟨e1,e2,e3⟩|⟨e1,e2⟩
    .exact .inl #[e1,e2,HU _ e3]
    .exact .inr #[e1,HU _ e2]
def lf:∀{M:MS} {a b:Addr} {q:MO},(av M).Nodup->(b,q)∈mdel M a->b≠a/\(b,q)∈M
 |[],_,_,_,_,h=>by cases h
 |(c,p)::r,a,b,q,nd,h=>by
  have N6:c∉av r/\(av r).Nodup:=IY.mp nd;unfold mdel at h;split at h
  .rename_i e;subst e;exact#[λe=>N6.1 (e ▸ bX h),HU _ h]
  .rename_i ne;rcases HQ.mp h with z|z
   .cases z;exact#[ne,HW]
   .obtain⟨e1,e2⟩:=lf N6.2 z;exact#[e1,HU _ e2]
def del_sub:∀{M:MS} {a:Addr},(av (mdel M a)).Sublist (av M)
 |[],_=>.slnil
 |(c,p)::r,a=>by
  unfold mdel;split
  .exact List.sublist_cons_self _ _
  .exact List.Sublist.cons_cons _ del_sub
variable{K:Ex}{F H F' H':Hp}
def MRep.mono(ff:Same F F')(hh:∀o,H a=be o->H' a=be o):∀{o:MO},MRep K F H a o->MRep K F' H' a o
 |.ins x fs,⟨C,dx,ws,n,h,r⟩=>#[C,dx,ws,n,hh _ h,RepF.mono ff fs ws r]
 |.lst ds,⟨vs,h,r⟩=>#[vs,hh _ h,Reps.mono ff ds vs r]
 |.dti a9,h=>hh _ h
def MRep.there:∀{o:MO},MRep K F H a o->H a≠LH
 |.ins x fs,⟨C,dx,ws,n,h,r⟩=>by rw[h];exact λz=>nomatch z
 |.lst ds,⟨vs,h,r⟩=>by rw[h];exact λz=>nomatch z
 |.dti a9,h=>by rw[show H a=_ from h];exact λz=>nomatch z
structure RepM(K:Ex)(F H:Hp)(M:MS):Prop where
 nd:(av M).Nodup
 ok:∀a o,(a,o)∈M->MRep K F H a o
 fr:∀a,a∈av M->F a=LH
def RepM.nil:RepM K F H []:=#[KL,(λ_ _ h=>nomatch h),(λ_ h=>nomatch h)]
def RepM.here(r:RepM K F H M)(h:a∈av M):H a≠none:=by
 obtain⟨⟨b,o⟩,h1,rfl⟩:=Ir.mp h;exact(r.ok _ _ h1).there
structure GrowM(M M':MS)(F H F' H':Hp):Prop where
 ff:Same F F'
 fh:Same F' H'
 hh:∀b o,b∉av M->H b=be o->H' b=be o
 out:∀b,b∉av M->F b=LH->H b≠LH->F' b=LH
 ks:∀b,b∈av M'->b∈av M\/H b=LH
def Grow.toM(g:Grow F H F' H'):GrowM M M F H F' H':=#[g.ff,g.fh,λb o _ h=>g.hh b o h,λb _ h1 h2=>g.out b h1 h2,λb h=>.inl h]
def GrowM.refl(h:Same F H):GrowM M M F H F H:=(Grow.refl h).toM
def GrowM.trans{M1 M2:MS}{F1 H1 F2 H2:Hp}(g:GrowM M M1 F H F1 H1)(k:GrowM M1 M2 F1 H1 F2 H2):GrowM M M2 F H F2 H2 where
  ff:=g.ff.trans k.ff
  fh:=k.fh
  hh:=λb o nb h=>k.hh b o (λz=>by rcases g.ks b z with q|q;exact nb q;rw[q]at h;cases h) (g.hh b o nb h)
  out:=λb nb h1 h2=>k.out b (λz=>by rcases g.ks b z with q|q;exact nb q;exact h2 q) (g.out b nb h1 h2) (by
    cases e:H b with
    |none=>exact absurd e h2
    |some o=>rw[g.hh b o nb e];exact λz=>nomatch z)
  ks :=λb h=>by
    rcases k.ks b h with q|q
    . exact g.ks b q
    . by_cases nb:b∈av M
      . exact .inl nb
      . right;cases e:H b with
        |none=>rfl
        |some o=>rw[g.hh b o nb e]at q;cases q
def RepM.grow(r:RepM K F H M)(g:Grow F H F' H'):RepM K F' H' M:=
 #[r.nd,λa o h=>(r.ok a o h).mono g.ff λo e=>g.hh a o e,λa h=>g.out a (r.fr a h) (r.here h)]
variable{ho:HO}
def RepM.put{o':MO}(r:RepM K F H M)(e:mget M a=be o)(h:MRep K F (upd H a ho) a o'):RepM K F (upd H a ho) (mput M a o'):=
 ⟨by rw[il];exact r.nd,λb q hb=>by
  rcases mem_put r.nd hb with⟨rfl,rfl,_⟩|⟨ne,hb⟩
  .exact h
  .exact(r.ok b q hb).mono (Same.refl F) λu z=>by rw[ar ne];exact z,λb hb=>r.fr b (by rw[il]at hb;exact hb)⟩
def GrowM.put{o':MO}(fh:Same F H)(fa:F a=LH)(e:mget M a=be o):GrowM M (mput M a o') F H F (upd H a ho) where
 ff:=Same.refl F
 fh:=λb u z=>by
  have ne:b≠a:=by rintro rfl;rw[fa]at z;cases z
  rw[ar ne];exact fh b u z
 hh:=λb u nb z=>by
  have ne:b≠a:=by rintro rfl;exact nb (bX (bC e))
  rw[ar ne];exact z
 out:=λb _ h _=>h
 ks:=λb h=>.inl (by rw[il]at h;exact h)
def RepM.new{p:Addr}(r:RepM K F H M)(fh:Same F H)(hp:H p=LH)(h:MRep K F (upd H p ho) p o):RepM K F (upd H p ho) ((p,o)::M):=by
 have np:p∉av M:=λz=>r.here z hp;refine#[IY.mpr #[np,r.nd],λb q hb=>?_,λb hb=>?_]
 .rcases HQ.mp hb with z|z
  .cases z;exact h
  .exact(r.ok b q z).mono (Same.refl F) λu z'=>by rw[ar (λe:b=p=>np (e ▸ bX z))];exact z'
 .rcases HQ.mp hb with z|z
  .rw[z];exact fh.free hp
  .exact r.fr b z
def GrowM.new{p:Addr}(fh:Same F H)(hp:H p=LH):GrowM M ((p,o)::M) F H F (upd H p ho) where
 ff:=Same.refl F
 fh:=fh.trans (aN hp _)
 hh:=λb u _ z=>aN hp _ b u z
 out:=λb _ h _=>h
 ks:=λb h=>by
  rcases HQ.mp h with z|z
  .exact .inr (by rw[z];exact hp)
  .exact .inl z
structure RepZ(K:Ex)(B F H:Hp)(z:SD)(s:L2.St)(M:MS):Prop where
 rs:RepS K B F H z s
 no:∀(i:Nat) ds,z[i]?≠be (be (.own ds))
 rm:RepM K F H M
 mb:∀a,a∈av M->B a=LH
variable{B:Hp}{M':MS}
def Kept.growM[Jx]{F0:Hp}(k:Kept B F0 F H)(mb:∀a,a∈av M->B a=LH)(g:GrowM M M' F H F' H'):Kept B F0 F' H' where
 bh:=λb o e=>g.hh b o (λz=>by rw[mb b z]at e;cases e) (k.bh b o e)
 fh:=g.fh
 f0:=k.f0.trans g.ff
 out:=λb h1 h2=>g.out b (λz=>h2 (mb b z)) (k.out b h1 h2) (by
  cases e:B b with
  |none=>exact absurd e h2
  |some o=>rw[k.bh b o e];exact λz=>nomatch z)
 eb:=k.eb
 jf:=k.jf
 jo:=k.jo
variable{z:SD}{s:L2.St}
def RepS.growM(r:RepS K B F H z s)(no:∀(i:Nat) ds,z[i]?≠be (be (.own ds)))(g:GrowM M M' F H F' H'):RepS K B F' H' z s where
 len:=r.len
 val:=λi d e n=>let ⟨v,q1,q2⟩:=r.val i d e n;#[v,q1,q2.mono g.ff]
 own:=λi ds e=>absurd e (no i ds)
 apart:=r.apart
def RepZ.growM(r:RepZ K B F H z s M)(bh:Same B H)(g:GrowM M M' F H F' H')(rm:RepM K F' H' M'):RepZ K B F' H' z s M':=
 ⟨r.rs.growM r.no g,r.no,rm,λa h=>by
  rcases g.ks a h with q|q
  .exact r.mb a q
  .exact bh.free q⟩
def RepZ.set{i:Nat}{d:D}{v:V}(r:RepZ K B F H z s M)(rd:Rep K F d v):RepZ K B F H (z.set i (be d)) (s.set i (be v)) M:=
 ⟨r.rs.set rd,λj ds e=>by
  by_cases hj:i=j
  .subst hj;rw[Jf]at e;simp at e;have:=rd.noown;rw[e.2]at this;cases this
  .rw[Ie hj]at e;exact r.no j ds e,r.rm,r.mb⟩
class Jm extends Jx where
 RM:SD->MS->XD
abbrev TME:=SD->MS->(D->MS->Prop)->Prop
abbrev TMT:=SD->MS->(Bool->MS->Prop)->Prop
abbrev TMA:=SD->MS->(List D->MS->Prop)->Prop
structure EndsM where
 nx:SD->MS->Prop
 rt:D->MS->Prop
 bk:SD->MS->Prop:=λ_ _=>False
 ct:SD->MS->Prop:=λ_ _=>False
abbrev TMS:=EndsM->SD->MS->Prop
def mE(K:Ex)[J:Jm](t:TME):TE:=λs H Q=>∃F z M,Kept J.B J.F0 F H/\RepZ K J.B F H z s M/\∃R:D->MS->Prop,t z M R/\∀d v M' F' H',GrowM M M' F H F' H'->R d M'->Rep K F' d v->RepM K F' H' M'->Q v H'
def mT(K:Ex)[J:Jm](t:TMT):TT:=λs H Q=>∃F z M,Kept J.B J.F0 F H/\RepZ K J.B F H z s M/\∃R:Bool->MS->Prop,t z M R/\∀b M' F' H',GrowM M M' F H F' H'->R b M'->RepM K F' H' M'->Q b H'
def mA(K:Ex)[J:Jm](t:TMA):TA:=λs H Q=>∃F z M,Kept J.B J.F0 F H/\RepZ K J.B F H z s M/\∃R:List D->MS->Prop,t z M R/\∀ds vs M' F' H',GrowM M M' F H F' H'->R ds M'->Reps K F' ds vs->RepM K F' H' M'->Q vs H'
structure EndsOkM[J:Jm](K:Ex)(F0:Hp)(ED:EndsM)(E:Ends):Prop where
 nx:∀z' s' M' F' H',Kept J.B F0 F' H'->ED.nx z' M'->RepZ K J.B F' H' z' s' M'->E.nx s' H'
 rt:∀d v M' F' H',Kept J.B F0 F' H'->ED.rt d M'->Rep K F' d v->RepM K F' H' M'->(∀a,a∈av M'->J.B a=LH)->E.rt v H'
 bk:∀z' s' M' F' H',Kept J.B F0 F' H'->ED.bk z' M'->RepZ K J.B F' H' z' s' M'->E.bk s' H'
 ct:∀z' s' M' F' H',Kept J.B F0 F' H'->ED.ct z' M'->RepZ K J.B F' H' z' s' M'->E.ct s' H'
def mS(K:Ex)[J:Jm](t:TMS):TS:=λE s H=>∃F0 F z M,Kept J.B F0 F H/\RepZ K J.B F H z s M/\∃ED:EndsM,t ED z M/\EndsOkM K F0 ED E
structure ME(X:Cx)[Jm](e:U6)(t:TME):Prop where
 out:PE X e (mE X.K t)
structure MT(X:Cx)[Jm](e:U6)(t:TMT):Prop where
 out:PT X e (mT X.K t)
structure MW(X:Cx)[Jm](e:U6)(t:TMT):Prop where
 out:PW X e (mT X.K t)
structure MA(X:Cx)[Jm](es:List U6)(t:TMA):Prop where
 out:PA X es (mA X.K t)
structure MSt(X:Cx)[Jm](st:U7)(t:TMS):Prop where
 out:PS X st (mS X.K t)
structure MSs(X:Cx)[Jm](st:List U7)(t:TMS):Prop where
 out:PSs X st (mS X.K t)
section
variable {X:Cx}{a b c e:U6}{ta tb:TME}{pos:Vf}
def mP(t:TD):TME:=λz M R=>t z λd=>R d M
def mPT(t:TDT):TMT:=λz M R=>t z λd=>R d M
def mPA(t:TDA):TMA:=λz M R=>t z λd=>R d M
def ag[J:Jm]{t:TD}(h:WDE X e t):ME X e (mP t):=⟨PE.anti h.out λs H Q q=>by
 obtain⟨F,z,M,k,r,R,h1,h2⟩:=q;exact#[J.B,F,z,k,r.rs,_,h1,λd v F' H' g hd rd=>h2 d v M F' H' g.toM hd rd (r.rm.grow g)]⟩
def bu[J:Jm]{t:TDT}(h:WDT X e t):MT X e (mPT t):=⟨PT.anti h.out λs H Q q=>by
 obtain⟨F,z,M,k,r,R,h1,h2⟩:=q;exact#[J.B,F,z,k,r.rs,_,h1,λd F' H' g hd=>h2 d M F' H' g.toM hd (r.rm.grow g)]⟩
variable{es:List U6}
def aB[J:Jm]{t:TDA}(h:WDA X es t):MA X es (mPA t):=⟨PA.anti h.out λs H Q q=>by
 obtain⟨F,z,M,k,r,R,h1,h2⟩:=q;exact#[J.B,F,z,k,r.rs,_,h1,λd v F' H' g hd rd=>h2 d v M F' H' g.toM hd rd (r.rm.grow g)]⟩
def mOp(r:RD2)(ta tb:TME):TME:=λz M R=>ta z M λx M1=>tb z M1 λy M2=>r x y λd=>R d M2
variable{r:R2}{rd:RD2}
def uu[J:Jm]{e:U6}{ta tb:TME}(L:aV X.K r rd)(h:PE X e (tOp r (mE X.K ta) (mE X.K tb))):ME X e (mOp rd ta tb):=⟨h.anti λs H Q q=>by
 obtain⟨F,z,M,k,rs,R,h1,h2⟩:=q;refine#[F,z,M,k,rs,_,h1,λx u M1 F1 H1 g1 hx rx m1=>?_];refine#[F1,z,M1,k.growM rs.mb g1,rs.growM k.bh g1 m1,_,hx,λy v M2 F2 H2 g2 hy ry m2=>?_];exact L x y u v F2 H2 _ Q g2.fh hy (rx.mono g2.ff) ry λd w F3 H3 g3 hd rd=>h2 d w M2 F3 H3 ((g1.trans g2).trans g3.toM) hd rd (m2.grow g3)⟩
def uw[J:Jm]{op:Ws}(ho:OpR X (Vr op) r)(L:aV X.K r rd)(ha:ME X a ta)(hb:ME X b tb):ME X (.BinOp a op b pos) (mOp rd ta tb):=uu L (kg ho ha.out hb.out)
def lm[J:Jm](ha:ME X a ta)(hb:ME X b tb)(hs:autoParam (eV b) zA6):ME X (.Subscript a b pos) (mOp rdIx ta tb):=uu sY (pe_ix so ha.out hb.out hs)
def im[Jm](ha:ME X a ta)(hb:ME X b tb):ME X (.BinOp a .Add b pos) (mOp kG ta tb):=uw sJ sK ha hb
def dA[Jm](ha:ME X a ta)(hb:ME X b tb):ME X (.BinOp a .Sub b pos) (mOp kH ta tb):=uw rC sL ha hb
def mTst(t:TME):TMT:=λz M R=>t z M λx M1=>match x with|.bl k=>R k M1|_=>False
def fB[J:Jm]{op:W5}(ho:OpR X (Vm op) r)(L:aV X.K r rd)(ha:ME X a ta)(hb:ME X b tb)(hm:Vu op b=false):MT X (.Compare a [op] [b] pos) (mTst (mOp rd ta tb)):=⟨(rM ho ha.out hb.out hm).anti λs H Q q=>by
 obtain⟨F,z,M,k,rs,R,h1,h2⟩:=q;refine#[F,z,M,k,rs,_,h1,λx u M1 F1 H1 g1 hx rx m1=>?_];refine#[F1,z,M1,k.growM rs.mb g1,rs.growM k.bh g1 m1,_,hx,λy v M2 F2 H2 g2 hy ry m2=>?_];refine L x y u v F2 H2 _ _ g2.fh hy (rx.mono g2.ff) ry λd w F3 H3 g3 hd rd=>?_;dsimp only at hd;split at hd
 .exact#[_,rep_bl.mp rd,h2 _ M2 F3 H3 ((g1.trans g2).trans g3.toM) hd (m2.grow g3)]
 .exact hd.elim⟩
def ux[Jm](ha:ME X a ta)(hb:ME X b tb):MT X (.Compare a [.Lt] [b] pos) (mTst (mOp rdLt ta tb)):=fB rJ sT ha hb (nomark _)
def AR[Jm](ha:ME X a ta)(hb:ME X b tb):MT X (.Compare a [.Gt] [b] pos) (mTst (mOp rdGt ta tb)):=fB rK sU ha hb (nomark _)
def io[Jm](ha:ME X a ta)(hb:ME X b tb):MT X (.Compare a [.Eq] [b] pos) (mTst (mOp rdEq ta tb)):=fB kh kI ha hb (nomark _)
def lr[Jm](ha:ME X a ta)(hb:ME X b tb):MT X (.Compare a [.NotEq] [b] pos) (mTst (mOp rdNe ta tb)):=fB rH sV ha hb (nomark _)
def lu[Jm](ha:ME X a ta)(hb:ME X b tb):MT X (.Compare a [.Is] [b] pos) (mTst (mOp (rdIs id) ta tb)):=fB rL sX ha hb (nomark _)
def AS[Jm](ha:ME X a ta)(hb:ME X b tb)(hm:autoParam (Vu .NotIn b=false) zA0):MT X (.Compare a [.NotIn] [b] pos) (mTst (mOp (rdIn true) ta tb)):=fB AK AJ ha hb hm
variable {tA tB:TMT}{rest:List U6}
def mt_w[Jm](h:MW X a tA):MT X a tA:=#[PW.pt h.out]
def AT[Jm](ha:MT X a tA):MW X (.BoolOp .And [a] pos) tA:=#[qX ha.out]
def ip[Jm](ha:MT X a tA):MW X (.BoolOp .Or [a] pos) tA:=#[qY ha.out]
def mAnd(tA tB:TMT):TMT:=λz M R=>tA z M λk M1=>if k=true then tB z M1 R else R false M1
def mOr(tA tB:TMT):TMT:=λz M R=>tA z M λk M1=>if k=true then R true M1 else tB z M1 R
def AU[J:Jm](ha:MT X a tA)(hb:MW X (.BoolOp .And (b::rest) pos) tB):MW X (.BoolOp .And (a::b::rest) pos) (mAnd tA tB):=⟨(qZ ha.out hb.out).anti λs H Q q=>by
 obtain⟨F,z,M,k,rs,R,h1,h2⟩:=q;refine#[F,z,M,k,rs,_,h1,λx M1 F1 H1 g1 hx m1=>?_];cases x with
 |true=>exact#[F1,z,M1,k.growM rs.mb g1,rs.growM k.bh g1 m1,R,hx,λy M2 F2 H2 g2 hy m2=>h2 y M2 F2 H2 (g1.trans g2) hy m2]
 |false=>exact h2 _ M1 F1 H1 g1 hx m1⟩
def iq[J:Jm](ha:MT X a tA)(hb:MW X (.BoolOp .Or (b::rest) pos) tB):MW X (.BoolOp .Or (a::b::rest) pos) (mOr tA tB):=⟨(ra ha.out hb.out).anti λs H Q q=>by
 obtain⟨F,z,M,k,rs,R,h1,h2⟩:=q;refine#[F,z,M,k,rs,_,h1,λx M1 F1 H1 g1 hx m1=>?_];cases x with
 |false=>exact#[F1,z,M1,k.growM rs.mb g1,rs.growM k.bh g1 m1,R,hx,λy M2 F2 H2 g2 hy m2=>h2 y M2 F2 H2 (g1.trans g2) hy m2]
 |true=>exact h2 _ M1 F1 H1 g1 hx m1⟩
def mIf(tc:TMT)(ta tb:TME):TME:=λz M R=>tc z M λk M1=>if k=true then ta z M1 R else tb z M1 R
def gq[J:Jm]{tc:TMT}(hc:MT X c tc)(ha:ME X a ta)(hb:ME X b tb):ME X (.IfExp c a b pos) (mIf tc ta tb):=⟨(xx hc.out ha.out hb.out).anti λs H Q q=>by
 obtain⟨F,z,M,k,rs,R,h1,h2⟩:=q;refine#[F,z,M,k,rs,_,h1,λx M1 F1 H1 g1 hx m1=>?_];cases x with
 |true=>exact#[F1,z,M1,k.growM rs.mb g1,rs.growM k.bh g1 m1,R,hx,λd v M2 F2 H2 g2 hy rd m2=>h2 d v M2 F2 H2 (g1.trans g2) hy rd m2]
 |false=>exact#[F1,z,M1,k.growM rs.mb g1,rs.growM k.bh g1 m1,R,hx,λd v M2 F2 H2 g2 hy rd m2=>h2 d v M2 F2 H2 (g1.trans g2) hy rd m2]⟩
def mNil:TMA:=λ_ M R=>R [] M
def AV(ta:TME)(tr:TMA):TMA:=λz M R=>ta z M λx M1=>tr z M1 λxs M2=>R (x::xs) M2
def bg[J:Jm]:MA X [] mNil:=⟨pa_nil.anti λs H Q q=>by
 obtain⟨F,z,M,k,rs,R,h1,h2⟩:=q;exact h2 [] [] M F H (GrowM.refl k.fh) h1 (reps_nil.mpr rfl) rs.rm⟩
variable{t:TMA}
def aF[J:Jm]{e:U6}{te:TME}(ha:ME X e te)(hr:MA X es t)(hs:autoParam (zSE X e es) zA0):MA X (e::es) (AV te t):=⟨(bt ha.out hr.out hs).anti λs H Q q=>by
 obtain⟨F,z,M,k,rs,R,h1,h2⟩:=q;refine#[F,z,M,k,rs,_,h1,λx u M1 F1 H1 g1 hx rx m1=>?_];refine#[F1,z,M1,k.growM rs.mb g1,rs.growM k.bh g1 m1,_,hx,λxs us M2 F2 H2 g2 hy ry m2=>?_];exact h2 _ _ M2 F2 H2 (g1.trans g2) hy (reps_cons.mpr #[_,_,rfl,rx.mono g2.ff,ry]) m2⟩
def mTup(t:TMA):TME:=λz M R=>t z M λxs M1=>xs.length<=1000/\R (.tup xs) M1
def uy[J:Jm]{x1}(h:MA X es t):ME X (.Tuple es x1 pos) (mTup t):=⟨(rV h.out).anti λs H Q q=>by
 obtain⟨F,z,M,k,rs,R,h1,h2⟩:=q;refine#[F,z,M,k,rs,_,h1,λds vs M1 F1 H1 g1 hx rx m1=>?_];have hl:=rx.length;refine#[sz (by rw[hl];exact hx.1),λp hp=>?_];have gn:=Grow.new g1.fh hp (.tup vs);exact h2 _ _ M1 _ _ (g1.trans gn.toM) hx.2 (rep_tupS.mpr #[p,vs,rfl,aC,rx.mono (aN (g1.fh.free hp) _)]) (m1.grow gn)⟩
def mLst(t:TMA):TME:=λz M R=>t z M λxs M1=>xs.length<=1000/\∀p,p∉av M1->R (.ptr p) ((p,.lst xs)::M1)
def lv[J:Jm](h:MA X es t):ME X (.List es pos) (mLst t):=⟨(kq h.out).anti λs H Q q=>by
 obtain⟨F,z,M,k,rs,R,h1,h2⟩:=q;refine#[F,z,M,k,rs,_,h1,λds vs M1 F1 H1 g1 hx rx m1=>?_];have hl:=rx.length;refine#[sz (by rw[hl];exact hx.1),λp hp=>?_];exact h2 _ _ _ F1 _ (g1.trans (GrowM.new g1.fh hp)) (hx.2 p λz=>m1.here z hp) (rep_ptr.mpr rfl) (m1.new g1.fh hp #[vs,aC,rx])⟩
def mCB(r:RDn)(t:TMA):TME:=λz M R=>t z M λds M1=>r ds λd=>R d M1
variable{x:Ms}{p:Vf}
def AW[J:Jm]{e:U6}{id:String}{r:List V->Hp->VK->Prop}{rd:RDn}(hc:bH X (.builtin id) r)(L:cA X.K r rd)(hm:X.mg x=LH)(hv:Vo x=be (.builtin id))(ha:MA X (e::es) t)(hg:autoParam (Gl X x) zA0)(hn:autoParam (x≠"__name__") zA1)(c9:autoParam (zND x) zA1)
  (he:autoParam (zSE X e es) zA0) (c5:autoParam (zPL X pos es) zA0):ME X (.Call (.Name x p) (e::es) [] pos) (mCB rd t):=⟨(eU hc hg hm hv ha.out hn c9 he c5).anti λs H Q h=>by
 obtain⟨F,z,M,k,rs,R,h1,h2⟩:=h;refine#[F,z,M,k,rs,_,h1,λds vs M1 F1 H1 g1 hx rx m1=>?_];exact L ds vs F1 H1 _ Q g1.fh hx rx λd w F' H' g hd rd=>h2 d w M1 F' H' (g1.trans g.toM) hd rd (m1.grow g)⟩
def uz[Jm]{e:U6}(hm:X.mg "len"=LH)(ha:MA X [e] t)(hg:autoParam (Gl X "len") zA0)(he:autoParam (zSE X e []) zA0):ME X (.Call (.Name "len" p) [e] [] pos) (mCB kK t):=AW ki tf hm PySem.boot_len ha hg Mx Mx he
def AX[J:Jm]{e:U6}{T:String}{r:List V->Hp->VK->Prop}{rd:RDn}(hc:bH X (.type T) r)(L:cA X.K r rd)(hm:X.mg x=LH)(hv:Vo x=be (.type T))(ha:MA X (e::es) t)(hg:autoParam (Gl X x) zA0)(hn:autoParam (x≠"__name__") zA1)(c9:autoParam (zND x) zA1)
  (he:autoParam (zSE X e es) zA0) (c5:autoParam (zPL X pos es) zA0):ME X (.Call (.Name x p) (e::es) [] pos) (mCB rd t):=⟨(kr hc hg hm hv ha.out hn c9 he c5).anti λs H Q h=>by
 obtain⟨F,z,M,k,rs,R,h1,h2⟩:=h;refine#[F,z,M,k,rs,_,h1,λds vs M1 F1 H1 g1 hx rx m1=>?_];exact L ds vs F1 H1 _ Q g1.fh hx rx λd w F' H' g hd rd=>h2 d w M1 F' H' (g1.trans g.toM) hd rd (m1.grow g)⟩
def va[Jm](hm:X.mg "int"=LH)(ha:MA X [e] t)(hg:autoParam (Gl X "int") zA0)(he:autoParam (zSE X e []) zA0):ME X (.Call (.Name "int" p) [e] [] pos) (mCB kQ t):=AX tJ tK hm PyProof.Rows.boot_int ha hg Mx Mx he
def dB(M:MS)(d:D)(x:Ms)(fs:List (Ms×D)):Prop:=match d with|.ptr a=>mget M a=be (.ins x fs)|.obj y gs=>y=x/\gs=fs|_=>False
def mFld(x f:Ms)(te:TME):TME:=λz M R=>te z M λd M1=>∃fs,dB M1 d x fs/\∃d',fs.lookup f=be d'/\R d' M1
def ir{K:Ex}{F H:Hp}{M:MS}{d:D}{v:V}{fs:List (Ms×D)}(fh:Same F H)(rm:RepM K F H M)(rd:Rep K F d v)(h:dB M d x fs):∃a C dx ws,v=.ref a/\nsIn K SB x=be (be (.ref C))/\H a=be (.ins C dx ws)/\RepF K F fs ws:=by
 unfold dB at h;split at h
 .rename_i a;obtain⟨C,dx,ws,n,h1,h2⟩:=rm.ok _ _ (bC h);exact#[a,C,dx,ws,rep_ptr.mp rd,n,h1,h2]
 .obtain⟨rfl,rfl⟩:=h;obtain⟨a,C,dx,ws,e,n,h1,h2⟩:=rep_obj.mp rd;exact#[a,C,dx,ws,e,n,fh _ _ h1,h2]
 .exact h.elim
def aE[J:Jm]{f:Ms}(hA:ClsA X.K x f)(he:ME X e ta)(hb:autoParam (Vc e f X.env (Vd e X.env)=Vd e X.env) zA0):ME X (.Attribute e f pos) (mFld x f ta):=⟨(rR he.out hb).anti λs H Q q=>by
 obtain⟨C,hn,hc,hf⟩:=hA;obtain⟨F,z,M,k,rs,R,h1,h2⟩:=q;refine#[F,z,M,k,rs,_,h1,λd u M1 F1 H1 g1 hx rx m1=>?_];obtain⟨fs,hi,d',hl,hR⟩:=hx;obtain⟨a,C',dx,ws,rfl,gV,hH,rf⟩:=ir g1.fh m1 rx hi;rw[hn]at gV;cases gV;obtain⟨v,l,rv⟩:=rf.look hl;exact#[a,C,dx,ws,v,rfl,hH,hc,hf,l,h2 d' v M1 F1 H1 g1 hR rv m1]⟩
end
abbrev XDM:=Ms->List (Ms×D)->MS->Prop
abbrev SpM:=List D->MS->(D->MS->Prop)->XDM->Prop
def lSpM(K:Ex)(S:SpM):Sp:=λvs H Q E=>∃F ds M,Same F H/\Reps K F ds vs/\RepM K F H M/\∃(R:D->MS->Prop) (RX:XDM),S ds M R RX/\(∀d v M' F' H',GrowM M M' F H F' H'->R d M'->Rep K F' d v->RepM K F' H' M'->Q v H')/\
 ∀x fs C od M' F' H',GrowM M M' F H F' H'->RX x fs M'->ErrD K F' x fs C od->RepM K F' H' M'->E (.ref C) od H'
abbrev CalMM(P:U8)(w:U_)(K:Ex)(mg:Ms->Option Os)(base:Heap)(n:Nat)(x:Ms)(ps:List Ms)(S:SpM):Prop:=Cal P w K mg base n x ps (lSpM K S)
def ofX(S:SpX):SpM:=λds M R RX=>S ds (λd=>R d M) λx fs=>RX x fs M
def ofD(S:SpD):SpM:=λds M R _=>S ds λd=>R d M
variable{vs:List V}
def AY{S:SpX}{Q:VK}{E:XK}(h:lSpM K (ofX S) vs H Q E):lSpX K S vs H Q E:=by
 obtain⟨F,ds,M,fh,rs,rm,R,RX,hS,q,qx⟩:=h;exact#[F,ds,fh,rs,_,_,hS,λd v F' H' g hd rd=>q d v M F' H' g.toM hd rd (rm.grow g),λx fs C od F' H' g hR er=>qx x fs C od M F' H' g.toM hR er (rm.grow g)]
def AZ{S:SpD}{Q:VK}{E:XK}(h:lSpM K (ofD S) vs H Q E):lSp K S vs H Q E:=by
 obtain⟨F,ds,M,fh,rs,rm,R,RX,hS,q,qx⟩:=h;exact#[F,ds,fh,rs,_,hS,λd v F' H' g hd rd=>q d v M F' H' g.toM hd rd (rm.grow g)]
section
variable {P:U8}{w:U_}{K:Ex}{mg:Ms->Option Os}{base:Heap}{n:Nat}{x:Ms}{ps:List Ms}
def CalX.toM{S:SpX}(C:CalX P w K mg base n x ps S):CalMM P w K mg base n x ps (ofX S):=by
 obtain⟨f,fd,F,hb,hk,hm⟩:=C;exact#[f,fd,F.imp λvs H Q E h=>AY h,hb,hk,hm]
def CalD.toM{S:SpD}(C:CalD P w K mg base n x ps S):CalMM P w K mg base n x ps (ofD S):=by
 obtain⟨f,fd,F,hb,hk,hm⟩:=C;exact#[f,fd,F.imp λvs H Q E h=>AZ h,hb,hk,hm]
def CalMth(P:U8)(w:U_)(K:Ex)(mg:Ms->Option Os)(base:Heap)(n:Nat)(x m:Ms)(ps:List Ms)(sp:Sp):Prop:=
 ∃C f fd,nsIn K SB x=be (be (.ref C))/\Cls K C/\Meth K C m f/\FnOk P w K mg base (CX1 P w) n f fd ps sp/\Binds K fd ps []
variable{sp:Sp}
def Cal.mono{n':Nat}(h:Cal P w K mg base n x ps sp)(hn:n<=n'):Cal P w K mg base n' x ps sp:=by
 obtain⟨f,fd,F,h⟩:=h;exact#[f,fd,F.mono hn,h]
def Cal.imp{Ma:Sp}(h:Cal P w K mg base n x ps sp)(i:∀vs H Q E,Ma vs H Q E->sp vs H Q E):Cal P w K mg base n x ps Ma:=by
 obtain⟨f,fd,F,h⟩:=h;exact#[f,fd,F.imp i,h]
def CalMth.imp{m:Ms}{Ma:Sp}(h:CalMth P w K mg base n x m ps sp)(i:∀vs H Q E,Ma vs H Q E->sp vs H Q E):CalMth P w K mg base n x m ps Ma:=by
 obtain⟨C,f,fd,h1,h2,h3,h4,h5⟩:=h;exact#[C,f,fd,h1,h2,h3,h4.imp i,h5]
end
def XOkM(X:Cx)[J:Jm]:Prop:=∀(σ:L2.St) (z:SD) (M:MS) (F H:Hp) (s:P3) (e C:Addr) (od:Option Addr) (x:Ms) (fs:List (Ms×D)),Inv X [] σ H s->Kept J.B J.F0 F H->RepZ X.K J.B F H z σ M->J.RM z M x fs->ErrD X.K F x fs C od->Exd X H s e C od->X.xe (.ref e) s
def EX(X:Cx)[J:Jm](z:SD)(σ:L2.St):XK:=λCv od H'=>∃x fs C M' F',Cv=.ref C/\Kept J.B J.F0 F' H'/\RepZ X.K J.B F' H' z σ M'/\J.RM z M' x fs/\ErrD X.K F' x fs C od
def XOkM.out{X:Cx}[J:Jm](hx:XOkM X)(d9:X.ex=[]){pins:List (Addr×Vn)}{σ:L2.St}{s s':P3}{ev:Os}(I:Inv X pins σ H s)
  (h:CX1 X.prog X.w X.stack H s (EX X z σ) ev s'):X.xe ev s':=by
 obtain⟨e,C,od,T,H',rfl,LJ,hb,un,hok,PK,ne,nT,He,HT,x,fs,C',M',F',hC,kk,rr,hR,er⟩:=h;cases hC;have I':Inv X pins σ H' s':=I.call' LJ un hok hb (λb z=>absurd z MF);exact hx σ z M' F' H' s' e C od x fs (Inv.nopins I') kk rr hR er #[He,cL I d9 ne,pn_free I ne,.inr #[T,PK,cL I d9 nT,HT,pn_free I nT]]
section
variable {X:Cx}[J:Jm]{a b c e o:U6}{ta tb te:TME}{pos p apos cpos:Vf}{n m:Nat}{ps:List Ms}{S:SpM}{x:Ms}{es:List U6}{t:TMA}
def A1(S:SpM)(t:TMA):TME:=λz M R=>t z M λds M1=>S ds M1 R λx fs M'=>J.RM z M' x fs
variable{ds:List My.D}{vs:List V}
def iu{σ:L2.St}{z:SD}{M M1:MS}{F H F1 H1:Hp}{Q:VK}{R:D->MS->Prop}(k:Kept J.B J.F0 F H)(rs:RepZ X.K J.B F H z σ M)(g1:GrowM M M1 F H F1 H1)(m1:RepM X.K F1 H1 M1)(rx:Reps X.K F1 ds vs)
  (hS:S ds M1 R λx fs M'=>J.RM z M' x fs) (h2:∀d v M' F' H',GrowM M M' F H F' H'->R d M'->Rep X.K F' d v->RepM X.K F' H' M'->Q v H'):lSpM X.K S vs H1 Q (EX X z σ):=
 #[F1,ds,M1,g1.fh,rx,m1,R,_,hS,λd v M' F' H' g hd rd m'=>h2 d v M' F' H' (g1.trans g) hd rd m',λy fs C od M' F' H' g hR er m'=>#[y,fs,C,M',F',rfl,(k.growM rs.mb g1).growM (rs.growM k.bh g1 m1).mb g,(rs.growM k.bh g1 m1).growM (k.growM rs.mb g1).bh g m',hR,er]]
def aM(C:CalMM X.prog X.w X.K X.mg X.base n x ps S)(hx:XOkM X)(hr:Room m X.A)(ha:MA X (e::es) t)(d9:autoParam (X.ex=[]) zA0)(hg:autoParam (Gl X x) zA0)(hn:autoParam (n<=m) zA1)(c9:autoParam (zND x) zA1)
  (he:autoParam (zSE X e es) zA0) (c5:autoParam (zPL X pos es) zA0):
  ME X (.Call (.Name x p) (e::es) [] pos) (A1 S t):=by
 obtain⟨f,fd,F,hb,hk,hm⟩:=C;refine#[λpins s σ H Q I h=>?_];obtain⟨Fr,z,M,k,rs,R,h1,h2⟩:=h;refine Vg (cz I hg hm ?_ c9);refine callWith_K (h₀:=X.base) I.ok.mod.kin hk (thn (ha.out pos pins s σ H (λvs H1=>lSpM X.K S vs H1 Q (EX X z σ)) I #[Fr,z,M,k,rs,_,h1,λds vs M1 F1 H1 g1 hx rx m1=>iu k rs g1 m1 rx hx h2]) λus s1 hh=>#[hh.elim λ_ h=>h.elim λ_ h=>h.1.kIn,?_]) he c5;obtain⟨vs,H1,I1,r,q⟩:=hh;exact ic F (hr.mono hn) hb (λe s' hq=>hx.out d9 I1 hq) I1 r q
def vb(cs:List Ms)(m:Ms)(S:Ms->SpM)(to:TME)(t:TMA):TME:=λz M R=>to z M λd M1=>∃x,x∈cs/\∃fs,dB M1 d x fs/\fs.lookup m=LH/\t z M1 λds M2=>S x (d::ds) M2 R λx fs M'=>J.RM z M' x fs
variable{cs:List Ms}{pl:WH Bool}
def aT{nm:Ms}{S:Ms->SpM}(C:∀x,x∈cs->CalMth X.prog X.w X.K X.mg X.base n x nm ps (lSpM X.K (S x)))(hx:XOkM X)(hr:Room m X.A)(ho:ME X o te)(ha:MA X (e::es) t)(d9:autoParam (X.ex=[]) zA0)(hn:autoParam (n<=m) zA1)
  (l5:autoParam (zSE X e es) zA0) (c5:autoParam (zPL X pos es) zA0)
  (ht:Vd (.Call (.Attribute o nm apos) (e::es) [] pos) X.env=(do
   let ov <-Vd o X.env
   VR apos.atName
   let (f,first) <-Vv [ov] (V' ov nm pl)
   WM pos f first (Vz pos (U' (e::es) X.env)) (V1 pos (VG [] X.env))):=by rfl):
  ME X (.Call (.Attribute o nm apos) (e::es) [] pos) (vb cs nm S te t):=by
 refine#[λpins s σ H Q I h=>?_];obtain⟨Fr,z,M,k,rs,R,h1,h2⟩:=h;refine methodCall_KW (pl:=pl) (thn (ho.out pins s σ H (λv H1=>∃d M1 F1,GrowM M M1 Fr H F1 H1/\Rep X.K F1 d v/\RepM X.K F1 H1 M1/\∃x,x∈cs/\∃fs,dB M1 d x fs/\fs.lookup nm=LH/\t z M1 λds M2=>S x (d::ds) M2 R λx fs M'=>J.RM z M' x fs) I #[Fr,z,M,k,rs,_,h1,λd v M1 F1 H1 g1 hd rd m1=>#[d,M1,F1,g1,rd,m1,hd]]) λu s1 hh=>?_) ht;obtain⟨v,H1,I1,rv,d,M1,F1,g1,rd,m1,x,P5,fs,hi,hl,hq⟩:=hh;obtain⟨C',f,fd,hns,g_,Md,F,hb⟩:=C x P5;obtain⟨a,C2,dx,ws,rfl,n6,hH,rf⟩:=ir g1.fh m1 rd hi;rw[hns]at n6;cases n6;obtain rfl:u=Value.ref a:=rv;refine ko I1 hH g_ Md (rf.none hl) ?_;refine callWith_K (first:=[.ref a]) (h₀:=X.base) I.ok.mod.kin Md.kp (thn (ha.out pos pins s1 σ H1 (λvs H2=>lSpM X.K (S x) (.ref a::vs) H2 Q (EX X z σ)) I1 #[F1,z,M1,k.growM rs.mb g1,rs.growM k.bh g1 m1,_,hq,λds vs M2 F2 H2 g2 hx rx m2=>iu k rs (g1.trans g2) m2 (reps_cons.mpr #[_,_,rfl,rd.mono g2.ff,rx]) hx h2]) λus s2 hh=>#[hh.elim λ_ h=>h.elim λ_ h=>h.1.kIn,?_]) l5 c5;obtain⟨vs,H2,I2,r,q2⟩:=hh;exact ic (us:=.ref a::us) (vs:=.ref a::vs) F (hr.mono hn) hb (λe s' hq=>hx.out d9 I2 hq) I2 (.cons rfl r) q2
def cu{nm:Ms}{S:Ms->SpM}(C:∀x,x∈cs->CalMth X.prog X.w X.K X.mg X.base n x nm ps (lSpM X.K (S x)))(hx:XOkM X)(hr:Room m X.A)(ho:ME X o te)(d9:autoParam (X.ex=[]) zA0)(hn:autoParam (n<=m) zA1)
  (ht:Vd (.Call (.Attribute o nm apos) [] [] pos) X.env=(do
   let ov <-Vd o X.env
   VR apos.atName
   let (f,first) <-Vv [ov] (V' ov nm pl)
   WM pos f first (Vz pos (U' [] X.env)) (V1 pos (VG [] X.env))):=by rfl):
  ME X (.Call (.Attribute o nm apos) [] [] pos) (vb cs nm S te mNil):=by
 refine#[λpins s σ H Q I h=>?_];obtain⟨Fr,z,M,k,rs,R,h1,h2⟩:=h;refine methodCall_KW (pl:=pl) (thn (ho.out pins s σ H (λv H1=>∃d M1 F1,GrowM M M1 Fr H F1 H1/\Rep X.K F1 d v/\RepM X.K F1 H1 M1/\∃x,x∈cs/\∃fs,dB M1 d x fs/\fs.lookup nm=LH/\S x [d] M1 R λx fs M'=>J.RM z M' x fs) I #[Fr,z,M,k,rs,_,h1,λd v M1 F1 H1 g1 hd rd m1=>#[d,M1,F1,g1,rd,m1,hd]]) λu s1 hh=>?_) ht;obtain⟨v,H1,I1,rv,d,M1,F1,g1,rd,m1,x,P5,fs,hi,hl,hq⟩:=hh;obtain⟨C',f,fd,hns,g_,Md,F,hb⟩:=C x P5;obtain⟨a,C2,dx,ws,rfl,n6,hH,rf⟩:=ir g1.fh m1 rd hi;rw[hns]at n6;cases n6;obtain rfl:u=Value.ref a:=rv;refine ko I1 hH g_ Md (rf.none hl) ?_;refine callWith_K0 (first:=[.ref a]) I1.kIn Md.kp (ic (E:=EX X z σ) (us:=[.ref a]) (vs:=[.ref a]) F (hr.mono hn) hb (λe s' hq=>hx.out d9 I1 hq) I1 (.cons rfl .nil) ?_);exact iu k rs g1 m1 (fk rd) hq h2
def make_of{C:Addr}{S:SiD}{x:Ms}{σ:L2.St}{z:SD}{M M1:MS}{F H F1 H1:Hp}{a dx:Addr}{Q:VK}{E:XK}{T:List (Ms×D)->Prop}(g1:GrowM M M1 F H F1 H1)(m1:RepM X.K F1 H1 M1)(rx:Reps X.K F1 ds vs)(hS:S ds T)
  (ha:H1 a=LH) (o9:H1 dx=LH) (k6:dx≠a) (q:∀fs ws dx F' H',Grow F1 H1 F' H'->T fs->H' a=be (.ins C dx ws)->F' a=LH->RepF X.K F' fs ws->Q (.ref a) H'):
  lSi X.K C S (.ref a::(vs++[])) (upd (upd H1 dx (.own a)) a (.ins C dx [])) (λv H2=>v=.non/\Q (.ref a) H2) E:=
 #[a,dx,vs,H1,F1,ds,by rw[Iz],rfl,ha,o9,k6,g1.fh,rx,_,hS,λfs ws LS F' H' g hR e8 j3 rf=>#[rfl,q fs ws LS F' H' g hR e8 j3 rf]]
def A2(x:Ms)(S:SiD)(t:TMA):TME:=λz M R=>t z M λds M1=>S ds λfs=>R (.obj x fs) M1
def iy{S:SiD}(M:CalM X.prog X.w X.K X.mg X.base n x ps S)(hr:Room m X.A)(ha:MA X (e::es) t)(hg:autoParam (Gl X x) zA0)(hn:autoParam (n+1<=m) zA1)(c9:autoParam (zND x) zA1)
  (he:autoParam (zSE X e es) zA0) (c5:autoParam (zPL X pos es) zA0):
  ME X (.Call (.Name x p) (e::es) [] pos) (A2 x S t):=by
 obtain⟨C,f,fd,hns,k8,mk,F,hb⟩:=M;refine#[(gQ mk F (hr.mono hn) hg k8 hb .nil eX ha.out c9 he c5).anti λs H Q q=>?_];obtain⟨F,z,M,k,rs,R,h1,h2⟩:=q;refine#[F,z,M,k,rs,_,h1,λds vs M1 F1 H1 g1 hx rx m1=>?_];intro a dx ha o9 k6;refine make_of (σ:=s) (z:=z) (x:=x) g1 m1 rx hx ha o9 k6 λfs ws dx F' H' g hR e8 j3 rf=>?_;have s1:Same F' (upd F' a (.ins C dx ws)):=aN j3 _;have g2:Grow F1 H1 (upd F' a (.ins C dx ws)) H':=⟨g.ff.trans s1,λb o q=>by
  by_cases hb:b=a
  .subst hb;rw[aC]at q;cases q;exact e8
  .rw[ar hb]at q;exact g.fh b o q,g.hh,λb q1 q2=>by
  by_cases hb:b=a
  .subst hb;exact absurd ha q2
  .rw[ar hb];exact g.out b q1 q2⟩
 exact h2 (.obj x fs) (.ref a) M1 (upd F' a (.ins C dx ws)) H' (g1.trans g2.toM) hR (rep_obj.mpr #[a,C,dx,ws,rfl,hns,aC,RepF.mono s1 fs ws rf]) (m1.grow g2)
def A3(x:Ms)(S:SiD)(t:TMA):TME:=λz M R=>t z M λds M1=>S ds λfs=>∀a,a∉av M1->R (.ptr a) ((a,.ins x fs)::M1)
def A5{S:SiD}(M:CalM X.prog X.w X.K X.mg X.base n x ps S)(hr:Room m X.A)(ha:MA X (e::es) t)(hg:autoParam (Gl X x) zA0)(hn:autoParam (n+1<=m) zA1)(c9:autoParam (zND x) zA1)
  (he:autoParam (zSE X e es) zA0) (c5:autoParam (zPL X pos es) zA0):
  ME X (.Call (.Name x p) (e::es) [] pos) (A3 x S t):=by
 obtain⟨C,f,fd,hns,k8,mk,F,hb⟩:=M;refine#[(gQ mk F (hr.mono hn) hg k8 hb .nil eX ha.out c9 he c5).anti λs H Q q=>?_];obtain⟨F,z,M,k,rs,R,h1,h2⟩:=q;refine#[F,z,M,k,rs,_,h1,λds vs M1 F1 H1 g1 hx rx m1=>?_];intro a dx ha o9 k6;refine make_of (σ:=s) (z:=z) (x:=x) g1 m1 rx hx ha o9 k6 λfs ws dx F' H' g hR e8 j3 rf=>?_;have na:a∉av M1:=λz=>m1.here z ha;have m2:=m1.grow g;refine h2 (.ptr a) (.ref a) _ F' H' (g1.trans #[g.ff,g.fh,λb o _ q=>g.hh b o q,λb _ q1 q2=>g.out b q1 q2,λb q=>?_]) (hR a na) (rep_ptr.mpr rfl) #[IY.mpr #[na,m2.nd],λb o q=>?_,λb q=>?_]
 .rcases HQ.mp q with q|q
  .exact .inr (by rw[q];exact ha)
  .exact .inl q
 .rcases HQ.mp q with q|q
  .cases q;exact#[C,dx,ws,hns,e8,rf]
  .exact m2.ok b o q
 .rcases HQ.mp q with q|q
  .rw[q];exact j3
  .exact m2.fr b q
end
section
variable {X:Cx}{x:Ms}{e:U6}{es:List U6}{t:TA}{p cpos pos:Vf}{n m:Nat}{ps:List Ms}{S:SiD}
def iz(X:Cx)(σ:L2.St)(F1 H1:Hp)(x:Ms)(fs:List (Ms×D)):Prop:=∀F' H' s' e C od,Inv X [] σ H' s'->Grow F1 H1 F' H'->ErrD X.K F' x fs C od->Exd X H' s' e C od->X.xe (.ref e) s'
def A6(M:CalE X.prog X.w X.K X.mg X.base n x ps S)(hr:Room m X.A)(hc:X.calm=true)(ha:PA X (e::es) t)(d9:autoParam (X.ex=[]) zA0)(hg:autoParam (Gl X x) zA0)(hn:autoParam (n+1<=m) zA1)(c9:autoParam (zND x) zA1)
  (he:autoParam (zSE X e es) zA0) (c5:autoParam (zPL X cpos es) zA0):
  PS X (.Raise (be (.Call (.Name x p) (e::es) [] cpos)) LH pos) (λ_ σ H=>t σ H λvs H1=>vs.length<=1000/\∃F1 ds,Same F1 H1/\Reps X.K F1 ds vs/\∃T:List (Ms×D)->Prop,S ds T/\∀fs,T fs->iz X σ F1 H1 x fs):=by
 obtain⟨C,N,bm,f,fd,k,hi,ND,Fn,hb⟩:=M;intro pins s σ H D I h;obtain⟨nm,q,bs,sn,sub,ab,col,dd,k0,k1,k2,k3,k5,lk⟩:=k.obj;refine kE (nm:=nm) (q:=q) (C:=C) (N:=N) (bs:=bs) (bm:=bm) (hdct:=true) (sn:=sn) (sub:=sub) (ab:=ab) (col:=col) (dd:=dd) (k0:=k0) (k1:=k1) (k2:=k2) (k3:=k3) (k5:=k5) (newId:="ValueError.__new__") k.base (I.ok.hd hc) ?_;refine Vg (cz I hg k.mg ?_ c9);refine callWith_K (h₀:=X.base) I.ok.mod.kin k.kp (thn (ha cpos pins s σ H _ I h) λus s1 hh=>#[hh.elim λ_ h=>h.elim λ_ h=>h.1.kIn,?_]) he c5;obtain⟨vs,H1,I1,r,hl,F1,ds,P6,rx,T,hS,hT⟩:=hh;have hC:=I1.kIn _ _ lk;have Ts:us.length<=sizeLine:=by rw[<-L2.Vals.length r];exact sz hl
 refine zq (g:=s1.gens) (d:=s1.drawn) (t:=s1.toks) (os:=s1.os) (rest:=us) I1.kIn (tail_of_in I1.kIn k.tail) hC hi (beq_iff_eq.mp ND) (λh' ea hm=>?_) Ts;have I2:=Inv.newx I1 d9 hm;have r2:Vals (V.ref ea::vs) (Value.ref ea::us):=.cons rfl r;have He:H1 ea=none:=gm I1.hok hm.new;have y7:lEi X.K C S (V.ref ea::vs) (upd H1 ea (XN ea C LH)) (λv H'=>v=.non/\∃fs od F',Grow F1 H1 F' H'/\iz X σ F1 H1 x fs/\H' ea=be (XN ea C od)/\F' ea=LH/\ErrF X.K F' fs od) (λ_ _ _=>False):=
  #[ea,vs,H1,F1,ds,rfl,rfl,He,P6,rx,_,hS,λfs od F' H' g hR h1 h2 h3=>#[rfl,fs,od,F',g,hT fs hR,h1,h2,h3]]
 have b8:(Value.ref ea::us).length=ps.length:=by rw[<-L2.Vals.length r2];exact Fn.len _ _ _ _ y7
 have f_:=hb {s1 with heap:=h'} (Value.ref ea::us) I2.kIn (by rw[Iz];exact b8);rw[Iz]at f_;refine Vw (VH (Fn.run _ X.stack _ _ #[Value.ref ea::us,[]] (Value.ref ea::us) _ _ _ ((hr.mono hn).make C us []) (I2.env0.make C us []) f_ r2 y7) λrr s' hq=>?_);cases rr with
 |error e'=>exact(eX (X:=X) pins σ _ _ e' s' I2 hq:X.xe e' s')
 |ok fl=>
  cases fl with
  |next=>exact False.elim hq
  |brk=>exact False.elim hq
  |cont=>exact False.elim hq
  |ret u=>
   obtain⟨v,H',I3,rv,rfl,fs,od,F',g,hR,t7,Tt,er⟩:=I2.after hq;obtain rfl:u=Value.none:=rv;refine#[rfl,?_];have e0:X.s₀.heap.get? ea=none:=cL I1 d9 hm.new;have I4:=Inv.drop I3 t7 e0;obtain⟨ta,sl,g6⟩:=XN.get I3.hok t7;have g4:Grow F1 H1 F' (del H' ea):=⟨g.ff,λb o q=>by
    have:b≠ea:=λz=>by rw[z,Tt]at q;cases q
    rw[cr this];exact g.fh b o q,λb o q=>by
    have:b≠ea:=λz=>by rw[z,He]at q;cases q
    rw[cr this];exact g.hh b o q,g.out⟩
   refine#[ea,ta,od,sl,rfl,I3.kIn _ _ lk,g6,?_];exact hR F' (del H' ea) s' ea C od (Inv.nopins I4) g4 #[k.ns,er] #[gp,e0,pn_free I1 hm.new,.inl #[sl,_,g6,rfl]]
def A7(h:∃C N bm,ErrK X.K X.mg x C N bm/\ErrN X.K N)(hc:X.calm=true)(ha:PA X (e::es) t)(d9:autoParam (X.ex=[]) zA0)(hg:autoParam (Gl X x) zA0)(c9:autoParam (zND x) zA1)
  (he:autoParam (zSE X e es) zA0) (c5:autoParam (zPL X cpos es) zA0):
  PS X (.Raise (be (.Call (.Name x p) (e::es) [] cpos)) LH pos) (λ_ σ H=>t σ H λvs H1=>vs.length<=1000/\∃F1,Same F1 H1/\iz X σ F1 H1 x []):=by
 obtain⟨C,N,bm,k,kn⟩:=h;intro pins s σ H D I h;obtain⟨nm,q,bs,sn,sub,ab,col,dd,k0,k1,k2,k3,k5,lk⟩:=k.obj;refine kE (nm:=nm) (q:=q) (C:=C) (N:=N) (bs:=bs) (bm:=bm) (hdct:=true) (sn:=sn) (sub:=sub) (ab:=ab) (col:=col) (dd:=dd) (k0:=k0) (k1:=k1) (k2:=k2) (k3:=k3) (k5:=k5) (newId:="ValueError.__new__") k.base (I.ok.hd hc) ?_;refine Vg (cz I hg k.mg ?_ c9);refine callWith_K (h₀:=X.base) I.ok.mod.kin k.kp (thn (ha cpos pins s σ H _ I h) λus s1 hh=>#[hh.elim λ_ h=>h.elim λ_ h=>h.1.kIn,?_]) he c5;obtain⟨vs,H1,I1,r,hl,F1,P6,hR⟩:=hh;have hC:=I1.kIn _ _ lk;obtain⟨hp,gg,dr,tk,os⟩:=s1;refine WR PySem.F.excBase_ValueError (tail_of_in I1.kIn k.tail) hC (.of_isNs (isNs_of_in I1.kIn kn.ok)) (nsMap_none_of_in I1.kIn kn.ok kn.no) (λh' ea hm=>?_) (by show us.length<=_;rw[<-L2.Vals.length r];exact sz hl);obtain⟨ta,h1,h2,h3⟩:=hm.there;have I2:Inv X pins σ H1 #[h',gg,dr,tk,os]:=I1.kept (t':=tk) hm.keeps;refine#[ea,ta,LH,[].toArray,rfl,hm.keeps _ _ hC,h1,?_];exact hR F1 H1 _ ea C LH (Inv.nopins I2) (Grow.refl P6) #[k.ns,[],repf_nil.mpr rfl,.inl #[rfl,rfl]] #[gm I1.hok hm.new,cL I1 d9 hm.new,pn_free I1 hm.new,.inl #[[].toArray,_,h1,rfl]]
end
section
variable {X:Cx}[J:Jm]{x:Ms}{e:U6}{es:List U6}{t:TMA}{p cpos pos:Vf}{n m:Nat}{ps:List Ms}{S:SiD}
def A8(x:Ms)(S:SiD)(t:TMA):TMS:=λ_ z M=>t z M λds M1=>ds.length<=1000/\S ds λfs=>J.RM z M1 x fs
def vc{σ:L2.St}{z:SD}{M M1:MS}{F H F1 H1:Hp}{fs:List (Ms×D)}(hx:XOkM X)(k:Kept J.B J.F0 F H)(rs:RepZ X.K J.B F H z σ M)(g1:GrowM M M1 F H F1 H1)(m1:RepM X.K F1 H1 M1)(hR:J.RM z M1 x fs):iz X σ F1 H1 x fs:=λF' H' s' e C od I g er ex=>
 hx σ z M1 F' H' s' e C od x fs I ((k.growM rs.mb g1).grow g) ((rs.growM k.bh g1 m1).growM (k.growM rs.mb g1).bh g.toM (m1.grow g)) hR er ex
def A9(M:CalE X.prog X.w X.K X.mg X.base n x ps S)(hr:Room m X.A)(hx:XOkM X)(hc:X.calm=true)(ha:MA X (e::es) t)(d9:autoParam (X.ex=[]) zA0)(hg:autoParam (Gl X x) zA0)(hn:autoParam (n+1<=m) zA1)(c9:autoParam (zND x) zA1)
  (he:autoParam (zSE X e es) zA0) (c5:autoParam (zPL X cpos es) zA0):
  MSt X (.Raise (be (.Call (.Name x p) (e::es) [] cpos)) LH pos) (A8 x S t):=⟨(A6 M hr hc ha.out d9 hg hn c9 he c5).anti λE s H q=>by
 obtain⟨F0,F,z,M,k,rs,ED,h,ee⟩:=q;exact#[F,z,M,k.kf,rs,_,h,λds vs M1 F1 H1 g1 f8 rx m1=>#[by rw[rx.length];exact f8.1,F1,ds,g1.fh,rx,_,f8.2,λfs hR=>vc hx k.kf rs g1 m1 hR]]⟩
def Ba(x:Ms)(t:TMA):TMS:=λ_ z M=>t z M λds M1=>ds.length<=1000/\J.RM z M1 x []
def Bb(h:∃C N bm,ErrK X.K X.mg x C N bm/\ErrN X.K N)(hx:XOkM X)(hc:X.calm=true)(ha:MA X (e::es) t)(d9:autoParam (X.ex=[]) zA0)(hg:autoParam (Gl X x) zA0)(c9:autoParam (zND x) zA1)
  (he:autoParam (zSE X e es) zA0) (c5:autoParam (zPL X cpos es) zA0):
  MSt X (.Raise (be (.Call (.Name x p) (e::es) [] cpos)) LH pos) (Ba x t):=⟨(A7 h hc ha.out d9 hg c9 he c5).anti λE s H q=>by
 obtain⟨F0,F,z,M,k,rs,ED,h,ee⟩:=q;exact#[F,z,M,k.kf,rs,_,h,λds vs M1 F1 H1 g1 f8 rx m1=>#[by rw[rx.length];exact f8.1,F1,g1.fh,vc hx k.kf rs g1 m1 f8.2]]⟩
end
section
variable {X:Cx}[J:Jm]{a b c e:U6}{ta tb tc te:TME}{pos:Vf}{st:U7}{rest:List U7}{t u:TMS}
def Bc:TMS:=λE z M=>E.nx z M
def mSeq(t u:TMS):TMS:=λE z M=>t {E with nx:=u E} z M
def aU:MSs X [] Bc:=⟨pss_nil.anti λE s H q=>by
 obtain⟨F0,F,z,M,k,rs,ED,h,e⟩:=q;exact e.nx z s M F H k h rs⟩
def aq(h1:MSt X st t)(h2:MSs X rest u):MSs X (st::rest) (mSeq t u):=⟨(eL h1.out h2.out).anti λE s H q=>by
 obtain⟨F0,F,z,M,k,rs,ED,h,e⟩:=q;exact#[F0,F,z,M,k,rs,{ED with nx:=u ED},h,#[λz' s' M' F' H' k' hz r'=>#[F0,F',z',M',k',r',ED,hz,e],e.rt,e.bk,e.ct]]⟩
def au(h1:MSt X st t):MSs X [st] t:=#[rg h1.out]
def mRet(te:TME):TMS:=λE z M=>te z M E.rt
def aG(he:ME X e te):MSt X (.Return (be e) pos) (mRet te):=⟨(rh he.out).anti λE s H q=>by
 obtain⟨F0,F,z,M,k,rs,ED,h,e⟩:=q;exact#[F,z,M,k.kf,rs,_,h,λd v M' F' H' g hd rd m'=>e.rt d v M' F' H' (k.growM rs.mb g) hd rd m' (rs.growM k.bh g m').mb]⟩
def Bd(te:TME):TMS:=λE z M=>te z M λ_ M1=>E.nx z M1
def bY(he:ME X e te)(hs:autoParam (Vl e LH pos.line X.env=pure false) zA0):MSt X (.Expr e pos) (Bd te):=⟨(jY he.out hs).anti λE s H q=>by
 obtain⟨F0,F,z,M,k,rs,ED,h,e⟩:=q;exact#[F,z,M,k.kf,rs,_,h,λd v M' F' H' g hd rd m'=>e.nx z s M' F' H' (k.growM rs.mb g) hd (rs.growM k.bh g m')]⟩
def mIfS(c:TMT)(t u:TMS):TMS:=λE z M=>c z M λb M1=>if b=true then t E z M1 else u E z M1
variable{l r:List U7}
def bj{c:U6}{tc:TMT}(hc:MT X c tc)(ha:MSs X l t)(hb:MSs X r u):MSt X (.If c l r pos) (mIfS tc t u):=⟨(rj hc.out ha.out hb.out).anti λE s H q=>by
 obtain⟨F0,F,z,M,k,rs,ED,h,e⟩:=q;refine#[F,z,M,k.kf,rs,_,h,λb M1 F1 H1 g hk m1=>?_];cases b with
 |true=>exact#[F0,F1,z,M1,k.growM rs.mb g,rs.growM k.bh g m1,ED,hk,e]
 |false=>exact#[F0,F1,z,M1,k.growM rs.mb g,rs.growM k.bh g m1,ED,hk,e]⟩
def mIfJ(c:TMT)(t u:TMS):TMS:=λE z M=>∃J:SD->MS->Prop,(c z M λb M1=>if b=true then t {E with nx:=J} z M1 else u {E with nx:=J} z M1)/\∀z' M',J z' M'->E.nx z' M'
def dW{c:U6}{tc:TMT}(hc:MT X c tc)(ha:MSs X l t)(hb:MSs X r u):MSt X (.If c l r pos) (mIfJ tc t u):=⟨(bj hc ha hb).out.anti λE s H q=>by
 obtain⟨F0,F,z,M,k,rs,ED,⟨J,h,j⟩,e⟩:=q;exact#[F0,F,z,M,k,rs,{ED with nx:=J},h,#[λz' s' M' F' H' k' hz r'=>e.nx z' s' M' F' H' k' (j z' M' hz) r',e.rt,e.bk,e.ct]]⟩
def mSet(i:Nat)(te:TME):TMS:=λE z M=>∃P:D->MS->Prop,te z M P/\∀d M',P d M'->E.nx (z.set i (be d)) M'
def aH(i:Nat){x:Ms}{c7:Vf}(hN:X.N.Nodup)(he:ME X e te)(hi:autoParam (X.N[i]?=be x) zA0)(hx:autoParam (Loc X.env.scope x) zA4)(hs:autoParam (Vl e (be (.Name x c7)) pos.line X.env=pure false) zA0)
  (hf:autoParam (zFN X x) zA2):MSt X (.Assign [.Name x c7] e pos) (mSet i te):=⟨(gN hN hi hx he.out hs hf).anti λE s H q=>by
 obtain⟨F0,F,z,M,k,rs,ED,⟨P,h,j⟩,e⟩:=q;exact#[F,z,M,k.kf,rs,P,h,λd v M' F' H' g hd rd m'=>e.nx _ _ M' F' H' (k.growM rs.mb g) (j d M' hd) ((rs.growM k.bh g m').set rd)]⟩
def Be(x f:Ms)(to te:TME):TMS:=λE z M=>te z M λd M1=>to z M1 λo M2=>match o with|.ptr a=>∃fs,mget M2 a=be (.ins x fs)/\fs.length<1000/\E.nx z (mput M2 a (.ins x (putD f d fs)))|_=>False
def bZ{x f:Ms}{o:U6}{to:TME}{c7:Vf}(hA:ClsA X.K x f)(ho:ME X o to)(he:ME X e te)(hs:autoParam (Vl e (be (.Attribute o f c7)) pos.line X.env=pure false) zA0):
  MSt X (.Assign [.Attribute o f c7] e pos) (Be x f to te):=⟨(rS ho.out he.out hs).anti λE s H q=>by
 obtain⟨C,hn,hc,hf⟩:=hA;obtain⟨F0,F,z,M,k,rs,ED,h,ee⟩:=q;refine#[F,z,M,k.kf,rs,_,h,λd v M1 F1 H1 g1 hx rd m1=>?_];have k1:=k.growM rs.mb g1;have n5:=rs.growM k.bh g1 m1;refine#[F1,z,M1,k1.kf,n5,_,hx,λo' v' M2 F2 H2 g2 hy ro m2=>?_];have k2:=k1.growM n5.mb g2;have M_:=n5.growM k1.bh g2 m2;split at hy
 .rename_i a;obtain⟨fs,hm,hl,MJ⟩:=hy;obtain⟨C',dx,ws,gV,hH,rf⟩:=m2.ok _ _ (bC hm);rw[hn]at gV;cases gV;have fa:=m2.fr a (bX (bC hm));refine#[a,C,dx,ws,rep_ptr.mp ro,hH,hc,hf,by rw[rf.length];exact hl,?_];have m3:RepM X.K F2 (upd H2 a (.ins C dx (putF f v ws))) (mput M2 a (.ins x (putD f d fs))):=m2.put hm #[C,dx,_,hn,aC,RepF.put (rd.mono g2.ff) rf];have g3:GrowM M2 (mput M2 a (.ins x (putD f d fs))) F2 H2 F2 (upd H2 a (.ins C dx (putF f v ws))):=GrowM.put k2.fh fa hm;exact ee.nx z s _ F2 _ (k2.growM M_.mb g3) MJ (M_.growM k2.bh g3 m3)
 .exact hy.elim⟩
def Bf(c:TMT)(tb:TMS):TMS:=λE z M=>∃W:Nat->SD->MS->Prop,(∃m,W m z M)/\∀m z M,W m z M->
 c z M λb M1=>if b=true then tb {E with nx:=λz' M'=>∃m',m'<m/\W m' z' M',ct:=λz' M'=>∃m',m'<m/\W m' z' M',bk:=E.nx} z M1 else E.nx z M1
def Bg{c:U6}{body:List U7}{tc:TMT}{tb:TMS}(hp:Vs (SZ X.prog X.w) X.A X.env X.xe)(hc:MT X c tc)(hb:MSs X body tb):MSt X (.While c body [] pos) (Bf tc tb):=⟨(rk hp hc.out hb.out).anti λE s H q=>by
 obtain⟨F0,F,z,M,k,rs,ED,⟨W,⟨m0,w0⟩,c8⟩,e⟩:=q;refine#[λm s' H'=>∃F' z' M',Kept J.B F0 F' H'/\RepZ X.K J.B F' H' z' s' M'/\W m z' M',#[m0,F,z,M,k,rs,w0],?_];rintro m s1 H1⟨F1,z1,M1,k1,r1,w1⟩;refine#[F1,z1,M1,k1.kf,r1,_,c8 m z1 M1 w1,λb M2 F2 H2 g2 hk m2=>?_];cases b with
 |true=>
  refine#[λs3 H3=>∃F3 z3 M3,Kept J.B F0 F3 H3/\RepZ X.K J.B F3 H3 z3 s3 M3/\∃m',m'<m/\W m' z3 M3,λs3 H3 ⟨F3,z3,M3,k3,r3,m',l,w3⟩=>#[m',l,F3,z3,M3,k3,r3,w3],?_];exact#[F0,F2,z1,M2,k1.growM r1.mb g2,r1.growM k1.bh g2 m2,_,hk,#[λz3 s3 M3 F3 H3 k3 h3 r3=>#[F3,z3,M3,k3,r3,h3],e.rt,e.nx,λz3 s3 M3 F3 H3 k3 h3 r3=>#[F3,z3,M3,k3,r3,h3]]]
 |false=>exact e.nx z1 s1 M2 F2 H2 (k1.growM r1.mb g2) hk (r1.growM k1.bh g2 m2)⟩
end
section
variable {X:Cx}[J:Jm]{a b c e o:U6}{ta tb tc te to:TME}{pos:Vf}{st:U7}{rest:List U7}{t u:TMS}
abbrev TMI:=SD->MS->(List D->MS->Prop)->Prop
def mItR(t:TME):TMI:=λz M R=>t z M λx M1=>match x with|.int n=>(0<=n/\n<2^62)/\R ((HS n.toNat).map λk=>D.int ((k:Nat):Int)) M1|_=>False
def mFor(i:Nat)(ti:TMI)(tb:TMS):TMS:=λE z M=>ti z M λds M1=>∃W:Nat->SD->MS->Prop,W 0 z M1/\(∀k x z M,ds[k]?=be x->W k z M->tb {E with nx:=W (k+1),ct:=W (k+1),bk:=E.nx} (z.set i (be x)) M)/\∀z M,W ds.length z M->E.nx z M
def Bh(i:Nat){x:Ms}{p p1 p2:Vf}{body:List U7}{tb:TMS}(hp:Vs (SZ X.prog X.w) X.A X.env X.xe)(hc:X.calm=true)(hN:X.N.Nodup)(hm:X.mg "range"=LH)(he:ME X e te)(hb:MSs X body tb)(hg:autoParam (Gl X "range") zA0)(hi:autoParam (X.N[i]?=be x) zA0)(hx:autoParam (Loc X.env.scope x) zA4)
  (hf:autoParam (zFN X x) zA2) (hs:autoParam (∀y,zFS X (.Call (.Name "range" p1) [e] [] p2) y) zA3) (t6:autoParam (zSE X e []) zA0) (g9:autoParam (U' [e] X.env=[(false,Vd e X.env)]) zA0):
  MSt X (.For (.Name x p) (.Call (.Name "range" p1) [e] [] p2) body [] pos) (mFor i (mItR te) tb):=⟨(db hp hc (kd hg hm (bt he.out pa_nil t6) g9) (eN hN hi hx hf) hb.out hs).anti λE s H q=>by
 obtain⟨F0,F,z,M,kp,rs,ED,h,e⟩:=q;refine#[F,z,M,kp.kf,rs,_,h,λd v M1 F1 H1 g1 hd rd m1=>?_];split at hd
 .rename_i n;obtain⟨⟨b1,b2⟩,W,w0,c8,out⟩:=hd;have hl:((HS n.toNat).map λk=>D.int ((k:Nat):Int)).length=n.toNat:=by simp
  refine#[n,by rw[rep_int.mp rd],v4,b2,ke (lo:=0) (n:=n.toNat) (λk s' H'=>∃F' z' M',Kept J.B F0 F' H'/\RepZ X.K J.B F' H' z' s' M'/\W k z' M') #[F1,z,M1,kp.growM rs.mb g1,rs.growM kp.bh g1 m1,w0] ?_ ?_]
  .rintro k s' H' hk⟨F',z',M',k',r',w'⟩;have e1:(0:Int)+(k:Int)=(k:Int):=by lia
   exact#[F0,F',_,M',k',r'.set (d:=.int (k:Int)) (rep_int.mpr (by rw[e1])),_,c8 k (.int (k:Int)) z' M' (by simp[hk]) w',#[λz3 s3 M3 F3 H3 k3 h3 r3=>#[F3,z3,M3,k3,r3,h3],e.rt,e.nx,λz3 s3 M3 F3 H3 k3 h3 r3=>#[F3,z3,M3,k3,r3,h3]]]
  .rintro s' H'⟨F',z',M',k',r',w'⟩;exact e.nx z' s' M' F' H' k' (out z' M' (by rw[hl];exact w')) r'
 .exact hd.elim⟩
def Bi(te:TME):TME:=λz M R=>te z M λd M1=>match d with|.ptr a=>∃ds,mget M1 a=be (.lst ds)/\R (.int ds.length) M1|_=>False
def vd{p:Vf}(hm:X.mg "len"=LH)(ha:ME X e te)(hg:autoParam (Gl X "len") zA0)(he:autoParam (zSE X e []) zA0):ME X (.Call (.Name "len" p) [e] [] pos) (Bi te):=⟨(eU ki hg hm PySem.boot_len (bt ha.out pa_nil he) Mx Mx he).anti λs H Q h=>by
 obtain⟨F,z,M,k,rs,R,h1,h2⟩:=h;refine#[F,z,M,k,rs,_,h1,λd v M1 F1 H1 g1 hx rx m1=>?_];split at hx
 .rename_i a;obtain⟨ds,hm,hR⟩:=hx;obtain⟨vs,hH,rr⟩:=m1.ok _ _ (bC hm);exact#[.ref a,vs.length,by rw[rep_ptr.mp rx],.inl #[vs,SqL.of hH,rfl],h2 _ _ M1 F1 H1 g1 hR (rep_int.mpr (by rw[rr.length])) m1]
 .exact hx.elim⟩
def mIxP(ta tb:TME):TME:=λz M R=>ta z M λx M1=>tb z M1 λy M2=>kdP x λa=>kdI y λi=>∃ds,mget M2 a=be (.lst ds)/\∃d,atI ds i=be d/\R d M2
def Bj(ha:ME X a ta)(hb:ME X b tb)(hs:autoParam (eV b) zA6):ME X (.Subscript a b pos) (mIxP ta tb):=⟨(pe_ix ix_list ha.out hb.out hs).anti λs H Q h=>by
 obtain⟨F,z,M,k,rs,R,h1,h2⟩:=h;refine#[F,z,M,k,rs,_,h1,λx u M1 F1 H1 g1 hx rx m1=>?_];refine#[F1,z,M1,k.growM rs.mb g1,rs.growM k.bh g1 m1,_,hx,λy v M2 F2 H2 g2 hy ry m2=>?_];obtain⟨p,rfl,N7⟩:=kdP.of hy;obtain⟨i,rfl,ds,hm,d,hd,hR⟩:=kdI.of N7;obtain⟨vs,hH,rr⟩:=m2.ok _ _ (bC hm);obtain⟨w,e2,i6⟩:=rr.at hd;exact#[p,vs,_,w,rep_ptr.mp rx,rep_int.mp ry,SqL.of hH,e2,h2 d w M2 F2 H2 (g1.trans g2) hR i6 m2]⟩
def Bk(to te:TME):TME:=λz M R=>to z M λo M1=>match o with|.ptr a=>(∃ds,mget M1 a=be (.lst ds))/\te z M1 λd M2=>∃ds,mget M2 a=be (.lst ds)/\ds.length<=100000/\R .non (mput M2 a (.lst (ds++[d])))|_=>False
def Bl{apos cpos:Vf}(ho:ME X o to)(he:ME X e te)(i8:autoParam (zSE X e []) zA0)
  (b7:autoParam (Vc o "append" X.env (Vd o X.env)=Vd o X.env) zA0)
  (d6:autoParam (zHF X cpos [e]) zA0)
  (b_:autoParam ((apos.endLine==cpos.line)=true) zA0):
  ME X (.Call (.Attribute o "append" apos) [e] [] cpos) (Bk to te):=⟨(df PySem.F.plainAttrs_list PySem.F.slot_list_append PySem.F.type_list_append kA ho.out (bt he.out pa_nil i8) b7 d6 b_ i8).anti λs H Q h=>by
 obtain⟨F,z,M,k,rs,R,h1,h2⟩:=h;refine#[F,z,M,k,rs,_,h1,λx u M1 F1 H1 g1 hx rx m1=>?_];split at hx
 .rename_i a;obtain⟨⟨UJ,P7⟩,hx⟩:=hx;obtain⟨Tu,Tv,UK⟩:=m1.ok _ _ (bC P7);rw[rep_ptr.mp rx];refine#[.inl #[rfl,Tu,SqL.of Tv],?_];refine#[F1,z,M1,k.growM rs.mb g1,rs.growM k.bh g1 m1,_,hx,λd v M2 F2 H2 g2 hd rd m2=>?_];obtain⟨ds,hm,hl,hR⟩:=hd;obtain⟨vs,hH,rr⟩:=m2.ok _ _ (bC hm);have hz:vs.length<sizeLine:=by
   rw[rr.length];have h2:(100000:Nat)<sizeLine:=Mx
   lia
  refine#[a,vs,v,rfl,rfl,hH,hz,?_];exact h2 _ _ _ F2 _ (g1.trans (g2.trans (GrowM.put g2.fh (m2.fr a (bX (bC hm))) hm))) hR (rep_non.mpr rfl) (m2.put hm #[_,aC,rr.append (fk rd)])
 .exact hx.elim⟩
def frzD:MO->D|.ins x fs=>.obj x fs|.lst ds=>.lst ds|.dti a9=>.dti a9
def mFrz(i:Nat)(t:TMS):TMS:=λE z M=>match z[i]? with|some (be (.ptr a))=>∃o,mget M a=be o/\t E (z.set i (be (frzD o))) (mdel M a)|_=>False
def ve(i:Nat){NV:List U7}(h:MSs X NV t):MSs X NV (mFrz i t):=⟨PSs.anti h.out λE s H q=>by
 obtain⟨F0,F,z,M,k,rs,ED,h,e⟩:=q;unfold mFrz at h;split at h
 .rename_i a ez;obtain⟨o,hm,h⟩:=h;have mem:=bC hm;have fa:=rs.rm.fr a (bX mem);have ba:=rs.mb a (bX mem);obtain⟨v,hv,rv⟩:=rs.rs.val i _ ez rfl;have Tw:=rep_ptr.mp rv;subst Tw;have hok:=rs.rm.ok a o mem;obtain⟨ho,e8,P8⟩:∃ho,H a=be ho/\∀F',Same F F'->F' a=be ho->Rep X.K F' (frzD o) (.ref a):=by
   cases o with
   |ins x fs=>obtain⟨C,dx,ws,n,h1,h2⟩:=hok;exact#[_,h1,λF' s' hF=>rep_obj.mpr #[a,C,dx,ws,rfl,n,hF,RepF.mono s' fs ws h2]]
   |lst ds=>obtain⟨vs,h1,h2⟩:=hok;exact#[_,h1,λF' s' hF=>rep_lst.mpr #[a,vs,rfl,hF,h2.mono s']]
   |dti a9=>exact#[_,hok,λF' s' hF=>rep_dti.mpr #[a,rfl,hF]]
  have s1:Same F (upd F a ho):=aN fa _;have hs:s.set i (be (.ref a))=s:=by
   apply Jq;intro n;by_cases hn:i=n
   .subst hn;rw[IG (Ia.mp hv).1,hv]
   .rw[Ie hn]
  have k1:Kept J.B F0 (upd F a ho) H:=⟨k.bh,λb u q=>by
   by_cases hb:b=a
   .subst hb;rw[aC]at q;cases q;exact e8
   .rw[ar hb]at q;exact k.fh b u q,k.f0.trans s1,λb h1 h2=>by
   by_cases hb:b=a
   .subst hb;exact absurd ba h2
   .rw[ar hb];exact k.out b h1 h2,k.eb,k.jf,k.jo⟩
  have r0:RepS X.K J.B (upd F a ho) H z s:=#[rs.rs.len,λi d e n=>let ⟨v,q1,q2⟩:=rs.rs.val i d e n;#[v,q1,q2.mono s1],λi ds e=>absurd e (rs.no i ds),rs.rs.apart];have Tz:RepM X.K (upd F a ho) H (mdel M a):=⟨rs.rm.nd.sublist del_sub,λb q hb=>by
   obtain⟨ne,hb⟩:=lf rs.rm.nd hb;exact(rs.rm.ok b q hb).mono s1 λ_ z=>z,λb hb=>by
   obtain⟨⟨b',q⟩,f_,rfl⟩:=Ir.mp hb;obtain⟨ne,R8⟩:=lf rs.rm.nd f_;rw[ar ne];exact rs.rm.fr _ (bX R8)⟩
  have z0:RepZ X.K J.B (upd F a ho) H z s (mdel M a):=#[r0,rs.no,Tz,λb hb=>rs.mb b (del_sub.subset hb)];have z1:=z0.set (i:=i) (P8 _ s1 aC);rw[hs]at z1;exact#[F0,_,_,_,k1,z1,ED,h,e]
 .exact h.elim⟩
end
def lx{N:List Ms}{ds:List D}(rs:Reps K F ds vs):∀(i:Nat) d,(startD N ds)[i]?≠be (be (.own d)):=by
 intro i d e;unfold startD at e;by_cases hi:i<ds.length
 .rw[IE (by simpa using hi),H9]at e;cases q:ds[i]? with
  |none=>rw[q]at e;cases e
  |some x=>
   rw[q]at e;cases e;obtain⟨v,_,q2⟩:=rs.get q;exact rep_own q2
 .rw[IZ (by simpa using hi),Ka]at e;split at e
  .cases e
  .cases e
def growM_nil(g:GrowM [] M' F H F' H'):Grow F H F' H':=#[g.ff,g.fh,λb o h=>g.hh b o (λz=>nomatch z) h,λb h1 h2=>g.out b (λz=>nomatch z) h1 h2]
section
variable {P:U8}{w:U_}{K:Ex}{mg:Ms->Option Os}{base:Heap}
variable{x:Ms}{ps:List Ms}{S:SpM}
def CalMM.toX{n:Nat}{S0:SpX}(C:CalMM P w K mg base n x ps S)(h:∀ds R RX,S0 ds R RX->S ds [] (λd _=>R d) λx fs _=>RX x fs):CalX P w K mg base n x ps S0:=by
 obtain⟨f,fd,F,hb,hk,hm⟩:=C;refine#[f,fd,F.imp λvs H Q E q=>?_,hb,hk,hm];obtain⟨F,ds,fh,rs,R,RX,hS,q1,q2⟩:=q;exact#[F,ds,[],fh,rs,RepM.nil,_,_,h ds R RX hS,λd v M' F' H' g hd rd _=>q1 d v F' H' (growM_nil g) hd rd,λy fs C od M' F' H' g hR er _=>q2 y fs C od F' H' (growM_nil g) hR er]
open Classical in
def Fun.okM{x qual:Ms}{st:U7}{f:Addr}{fd:Ve}{N ps:List Ms}{k:Nat}{S:SpM}{dV:Os}(T:FunG K dV x qual st f fd)(F:FnScope N ps (ah st))(len:∀ds M R RX,S ds M R RX->ds.length=ps.length)
  (a8:∀(cdv:Os) (A:Va) (outer:List VS) (s:P3) (H:Hp) (E:XK) (J:Jm),Room k (A.deeper (Vh qual (ah st) s.heap.objs.size f cdv))->XOkM (cxOf (CX1 P w) P w K mg base N qual (ah st) f cdv A outer s H E)->
   ∃t,MSs (cxOf (CX1 P w) P w K mg base N qual (ah st) f cdv A outer s H E) (aK st) t/\∀ds M R RX,(∀z,J.RM z=λM' x fs=>RX x fs M')->S ds M R RX->t {nx:=λ_ M'=>R .non M',rt:=R} (startD N ds) M):FnOk P w K mg base (CX1 P w) (k+1) f fd ps (lSpM K S):=by
 refine Fun.okC T F (λvs H Q E h=>?_) (λcdv A outer s H vs Q E hr h=>?_)
 .obtain⟨F,ds,M,fh,rs,rm,R,RX,h,_⟩:=h;rw[rs.length];exact len ds M R RX h
 .obtain⟨F,ds,M,fh,rs,rm,R,RX,h,q,qx⟩:=h
  let B:Hp:=λb=>if b∈av M then LH else H b
  have R9:∀{b:Addr},b∈av M->B b=none:=λ{b} h=>if_pos h;have OV:∀{b:Addr},b∉av M->B b=H b:=λ{b} h=>if_neg h
  letI:Jm:={B:=B,F0:=F,RX:=λ_ _ _=>False,RM:=λ_ M' x fs=>RX x fs M'}
  have gr:∀{M':MS} {F' H':Hp},Kept B F F' H'->(∀a,a∈av M'->B a=LH)->GrowM M M' F H F' H':=λ{M' F' H'} k mb=>⟨k.f0,k.fh,λb o nb e=>k.bh b o (by rw[OV nb];exact e),λb nb h1 h2=>k.out b h1 (by rw[OV nb];exact h2),λb hb=>by
   by_cases nb:b∈av M
   .exact .inl nb
   .right;rw[<-OV nb];exact mb b hb⟩
  have hx:XOkM (cxOf (CX1 P w) P w K mg base N qual (ah st) f cdv A outer s H E):=by
   intro σ z M' F' H' s' e C od y fs I kk rr hR er ⟨He,ne,_,hx⟩;have hE:E (.ref C) od H':=qx y fs C od M' F' H' (gr kk rr.mb) hR er rr.rm;rcases hx with⟨sl,vs,h1,h2⟩|⟨T,h1,h2,h3,_⟩
   .exact sH I h1 h2 He ne hE
   .exact uf I h1 ne h2 He h3 hE
  obtain⟨t,ht,hq⟩:=a8 cdv A outer s H E inferInstance hr hx;have k0:Kept B F F H:=⟨λb o e=>by
   by_cases nb:b∈av M
   .rw[R9 nb]at e;cases e
   .rw[OV nb]at e;exact e,fh,Same.refl F,λ_ h _=>h,rfl,Same.refl F,λ_ h _=>h⟩
  have r0:RepZ K B F H (startD N ds) (L2.start N vs) M:=#[dQ rs,lx rs,rm,λa h=>R9 h];exact#[_,ht.out,F,F,startD N ds,M,k0,r0,_,hq ds M R RX (λ_=>rfl) h,#[λz' s' M' F' H' k hn r=>q _ _ M' F' H' (gr k r.mb) hn (rep_non.mpr rfl) r.rm,λd v M' F' H' k hd rd P9 mb=>q d v M' F' H' (gr k mb) hd rd P9,λ_ _ _ _ _ _ h _=>h.elim,λ_ _ _ _ _ _ h _=>h.elim]]
variable{N:List Ms}
def Tx.okM{st:U7}{k:Nat}(T:Tx K mg x st ps)(F:FnScope N ps (ah st))(len:∀ds M R RX,S ds M R RX->ds.length=ps.length)
  (a8:∀(f:Addr) (cdv:Os) (A:Va) (outer:List VS) (s:P3) (H:Hp) (E:XK) (J:Jm),Room k (A.deeper (Vh x (ah st) s.heap.objs.size f cdv))->XOkM (cxOf (CX1 P w) P w K mg base N x (ah st) f cdv A outer s H E)->
   ∃t,MSs (cxOf (CX1 P w) P w K mg base N x (ah st) f cdv A outer s H E) (aK st) t/\∀ds M R RX,(∀z,J.RM z=λM' x fs=>RX x fs M')->S ds M R RX->t {nx:=λ_ M'=>R .non M',rt:=R} (startD N ds) M):CalMM P w K mg base (k+1) x ps S:=by
 obtain⟨f,fd,T,hb,hm⟩:=T;exact#[f,fd,Fun.okM T F len λcdv A outer s H E J hr hx=>a8 f cdv A outer s H E J hr hx,hb,T.kp,hm]
def Txm(K:Ex)(x m:Ms)(qual:Ms)(st:U7)(ps:List Ms):Prop:=
 ∃C f fd,nsIn K SB x=be (be (.ref C))/\Cls K C/\Meth K C m f/\Fun K m qual st f fd/\Binds K fd ps []
def Txm.okM{m qual:Ms}{st:U7}{k:Nat}(T:Txm K x m qual st ps)(F:FnScope N ps (ah st))(len:∀ds M R RX,S ds M R RX->ds.length=ps.length)
  (a8:∀(f:Addr) (cdv:Os) (A:Va) (outer:List VS) (s:P3) (H:Hp) (E:XK) (J:Jm),Room k (A.deeper (Vh qual (ah st) s.heap.objs.size f cdv))->XOkM (cxOf (CX1 P w) P w K mg base N qual (ah st) f cdv A outer s H E)->
   ∃t,MSs (cxOf (CX1 P w) P w K mg base N qual (ah st) f cdv A outer s H E) (aK st) t/\∀ds M R RX,(∀z,J.RM z=λM' x fs=>RX x fs M')->S ds M R RX->t {nx:=λ_ M'=>R .non M',rt:=R} (startD N ds) M):CalMth P w K mg base (k+1) x m ps (lSpM K S):=by
 obtain⟨C,f,fd,h1,h2,h3,T,hb⟩:=T;exact#[C,f,fd,h1,h2,h3,Fun.okM T F len λcdv A outer s H E J hr hx=>a8 f cdv A outer s H E J hr hx,hb]
end
end My
namespace L2
section
variable {X:Cx}{pins:List (Addr×Vn)}{σ:St}{H:Hp}{s:P3}{h':Heap}
def Inv.turned2{t':Nat}{e it:Addr}(I:Inv X pins σ H s)(k:∀b o,b≠e->b≠it->s.heap.get? b=be o->h'.get? b=be o)(he:FpOk X pins H e)(hi:FpOk X pins H it):Inv X pins σ H {s with heap:=h',toks:=t'}:=by
 obtain⟨e0,e1,e2,e3,e4,e5⟩:=he;obtain⟨i0,i1,i2,i3,i4,i5⟩:=hi;have Mq:∀b u,H b=be u->b≠e/\b≠it:=λb u q=>#[(λz=>by rw[z,e0]at q;cases q),(λz=>by rw[z,i0]at q;cases q)];have nc:∀{b:Addr},b∉[e,it]->b≠e/\b≠it:=λ{b} h=>#[λz=>h (by simp[z]),λz=>h (by simp[z])];refine I.step (g':=s.gens) (d':=s.drawn) (ch:=[e,it]) (λb hb=>?_) (λb o _ _ hc q _=>k b o (nc hc).1 (nc hc).2 q) (λb o _ _ hc q _=>#[o.slots,k b o (nc hc).1 (nc hc).2 q]) (λ_ _ _ _ n=>n)
  (λb o hc q=>#[o,k b o (nc hc).1 (nc hc).2 q]) (λ_ _ q=>q) (λ_ _ _ q=>q) (λb ps q=>#[[].toArray,by rw[q];simp]) (λm hm=>?_) (λb u q=>?_) I.bare
 .rcases HQ.mp hb with z|z
  .rw[z];exact#[e3,e1,e4,e5]
  .rw[HN.mp z];exact#[i3,i1,i4,i5]
 .obtain⟨o,es,ep,ho,r⟩:=hm;exact#[o,es,ep,k _ o (Ne.symm e1) (Ne.symm i1) ho,r]
 .refine(I.hok b u q).stay (λc v hc q'=>k c v ?_ ?_ q') (λ_ q=>q) λ_ _ q=>q
  .rcases hc with z|z
   .rw[z];exact(Mq b u q).1
   .exact(Mq c _ z).1
  .rcases hc with z|z
   .rw[z];exact(Mq b u q).2
   .exact(Mq c _ z).2
end
def Itel(K:Ex)(a:Addr):It:=
 #[λi H=>∃xs x,SqL K H a xs/\xs[i]?=be x,λi H x H'=>∃T v,H T=LH/\x=.ref T/\H'=upd H T (.tup [.int i,v])/\∀xs,SqL K H a xs->xs[i]?=be v,λi H=>∃xs,SqL K H a xs/\xs.length<=i]
def Ites(x:Ms):It:=#[λi _=>i<x.length,λi H v H'=>∃T c,H T=LH/\v=.ref T/\H'=upd H T (.tup [.int i,.str #[[c].toArray]])/\x.cps[i]?=be c,λi _=>i=x.length]
variable{P:U8}{w:U_}
def Bm{H:Hp}{h:Heap}{T:Addr}{i:Int}{t:W4}{v:V}{u:Os}(r:RelV v u)(q:h.get? T=be {cls:=.type "tuple",data:=.seq [.int i t,u].toArray}):ObjOk P w H h T (.tup [.int i,v]):=
 #[by show 2<=sizeLine;decide,[.int i t,u],.cons #[t,rfl] (.cons r .nil),#[_,q,rfl,_,rfl]]
def vf{X:Cx}{pins:List (Addr×Vn)}{σ:St}{H:Hp}{s:P3}{h':Heap}{t':Nat}{e it:Addr}{i:Int}{t:W4}{v:V}{u:Os}(I:Inv X pins σ H s)(he:FpOk X pins H e)(hi:FpOk X pins H it)(le:e<s.heap.objs.size)(li:it<s.heap.objs.size)(r:RelV v u)
  (hT:h'.get? s.heap.objs.size=be {cls:=.type "tuple",data:=.seq [.int i t,u].toArray}) (hk:∀b o,b≠e->b≠it->s.heap.get? b=be o->h'.get? b=be o):Inv X pins σ (upd H s.heap.objs.size (.tup [.int i,v])) {s with heap:=h',toks:=t'}:=by
 have I1:Inv X pins σ (upd H s.heap.objs.size (.tup [.int i,v])) {s with heap:=s.heap.push {cls:=.type "tuple",data:=.seq [.int i t,u].toArray},toks:=t'}:=
  I.laid (λb o q=>Heap.get?_push_of_some _ q) (HP _) (Bm r (Heap.get?_push_size _ rfl))
 have fp:∀{b:Addr},FpOk X pins H b->b<s.heap.objs.size->FpOk X pins (upd H s.heap.objs.size (.tup [.int i,v])) b:=λ{b} h l=>#[by rw[ar (HY l)];exact h.1,h.2];refine I1.turned2 (h':=h') (t':=t') (λb o h1 h2 q=>?_) (fp he le) (fp hi li);rcases Heap.get?_push_cases (show(s.heap.push {cls:=.type "tuple",data:=.seq [.int i t,u].toArray}).get? b=be o from q)with⟨rfl,rfl⟩|q2
 .exact hT
 .exact hk b o h1 h2 q2
variable{t9:List U6}
def Bn{K:Ex}{x1:Nat}{tp:Vf}(a e it:Addr)(Na:e≠it):Turn P w K (.Tuple t9 x1 tp) (Itel K a) [e,it] e (λi h=>(∃d8,IsEnum h e it i d8)/\h.IsListIter it a i) where
 mem:=MF
 obj:=λi h st b hb=>by
  obtain⟨⟨d8,he⟩,hit⟩:=st;rcases HQ.mp hb with z|z
  .rw[z];exact#[_,he,λv z=>by cases z]
  .rw[HN.mp z];obtain⟨o,ho,c,d⟩:=hit;exact#[o,ho,λv z=>by rw[d]at z;cases z]
 keep:=λi h h' st k=>#[let ⟨d8,he⟩:=st.1;#[d8,k e MF _ he],st.2.at λo q=>k it MF o q]
 item:=by
  intro X hP hw hK hc i pins s σ H E I hf st hg;subst hP hw hK;obtain⟨xs,x,hq,hx⟩:=hg;obtain⟨its,rv,p,hz⟩:=I.list hq;obtain⟨u,hu,ru⟩:=rv.get hx;obtain⟨⟨d8,he⟩,hit⟩:=st;have fe:=hf e MF;have fi:=hf it MF;have le:e<s.heap.objs.size:=Heap.lt_size he;have li:it<s.heap.objs.size:=by obtain⟨o,ho,_⟩:=hit;exact Heap.lt_size ho
  refine wpAny_pyNext_enum_item he hit p.isList (x:=u) (by simpa using hu) Na λh' H_ MQ hT j9 hk=>?_;refine#[_,rfl,Wn H_ λh2 P' i_=>?_];have o_:Heap.SameBut e h' h2:=i_;have nT:s.heap.objs.size≠e:=IW le;have I1:Inv X pins σ (upd H s.heap.objs.size (.tup [.int i,x])) {s with heap:=h2,toks:=s.toks+1}:=vf I fe fi le li ru ((o_.2 _ nT).trans hT) λb o h1 h3 q=>(o_.2 b h1).trans (hk b o h1 h3 q);refine#[.ref s.heap.objs.size,_,I1,rfl,#[_,x,I.hok.fresh (HP _),rfl,rfl,λys hy=>by rw[I.list_inj hy hq];exact hx],#[#[u,by simpa using P'],MQ.at λo q=>(o_.2 it (Ne.symm Na)).trans q],λb hb=>?_];rcases HQ.mp hb with z|z
  .rw[z,ar (HY le)];exact fe.1
  .rw[HN.mp z,ar (HY li)];exact fi.1
 done:=by
  intro X hP hw hK hc i pins s σ H E I hf st hg;subst hP hw hK;obtain⟨xs,hq,hx⟩:=hg;obtain⟨its,rv,p,hz⟩:=I.list hq;obtain⟨⟨d8,he⟩,hit⟩:=st;have hl:=rv.length;obtain⟨f0,f1,f2,f3,f4,f5⟩:=hf it MF;exact wpAny_pyNext_enum_end (I.ok.hd hc) he hit p.isList UD λh' eb=>#[rfl,I.turned (t':=s.toks) (λb o hb q=>eb b o hb q) f0 f1 f3 f4 f5]
 self:=λ_ _ _ _ _ st h=>let ⟨⟨d8,he⟩,_⟩:=st;VV he h
def Bo{K:Ex}{x1:Nat}{tp:Vf}(x:Ms)(t:W4)(e it:Addr)(Na:e≠it):Turn P w K (.Tuple t9 x1 tp) (Ites x) [e,it] e (λi h=>(∃d8,IsEnum h e it i d8)/\h.IsStrIter it "str_ascii_iterator" x t i) where
 mem:=MF
 obj:=λi h st b hb=>by
  obtain⟨⟨d8,he⟩,hit⟩:=st;rcases HQ.mp hb with z|z
  .rw[z];exact#[_,he,λv z=>by cases z]
  .rw[HN.mp z];obtain⟨o,ho,c,d⟩:=hit;exact#[o,ho,λv z=>by rw[d]at z;cases z]
 keep:=λi h h' st k=>#[let ⟨d8,he⟩:=st.1;#[d8,k e MF _ he],let ⟨o,ho,r⟩:=st.2;#[o,k it MF o ho,r]]
 item:=by
  intro X hP hw hK hc i pins s σ H E I hf st hg;subst hP hw hK;have hi:i<x.cps.size:=hg;obtain⟨⟨d8,he⟩,hit⟩:=st;have fe:=hf e MF;have fi:=hf it MF;have le:e<s.heap.objs.size:=Heap.lt_size he;have li:it<s.heap.objs.size:=by obtain⟨o,ho,_⟩:=hit;exact Heap.lt_size ho
  refine wpAny_pyNext_enum_itemD (Draws.strAscii (A:=X.A.in1) (by exact I.ok.hd hc) it x t) he hit hi Na (by simp[Na]) λu h' tk hP H_ MQ hT j9 hk=>?_;obtain⟨c,tu,J_,rfl⟩:=hP;refine#[_,rfl,Wn H_ λh2 P' i_=>?_];have o_:Heap.SameBut e h' h2:=i_;have nT:s.heap.objs.size≠e:=IW le;have I1:Inv X pins σ (upd H s.heap.objs.size (.tup [.int i,.str #[[c].toArray]])) {s with heap:=h2,toks:=tk+1}:=vf I fe fi le li #[tu,rfl] ((o_.2 _ nT).trans hT) λb o h1 h3 q=>(o_.2 b h1).trans (hk b o h1 h3 q);refine#[.ref s.heap.objs.size,_,I1,rfl,#[_,c,I.hok.fresh (HP _),rfl,rfl,J_],#[#[_,by simpa using P'],let ⟨o,ho,r⟩:=MQ;#[o,(o_.2 it (Ne.symm Na)).trans ho,r]],λb hb=>?_];rcases HQ.mp hb with z|z
  .rw[z,ar (HY le)];exact fe.1
  .rw[HN.mp z,ar (HY li)];exact fi.1
 done:=by
  intro X hP hw hK hc i pins s σ H E I hf st hg;subst hP hw hK;have hi:i=x.cps.size:=hg;subst hi;obtain⟨⟨d8,he⟩,hit⟩:=st;obtain⟨f0,f1,f2,f3,f4,f5⟩:=hf it MF;exact wpAny_pyNext_enum_endD (Draws.strAscii (A:=X.A.in1) (by exact I.ok.hd hc) it x t) he hit λh' eb=>#[rfl,I.turned (t':=s.toks) (λb o hb q=>eb b o hb q) f0 f1 f3 f4 f5]
 self:=λ_ _ _ _ _ st h=>let ⟨⟨d8,he⟩,_⟩:=st;VV he h
def iEnL(K:Ex)(ta:TA):TI:=λσ H R=>ta σ H λvs H1=>∃a,vs=[.ref a]/\(∃xs,SqL K H1 a xs)/\R (Itel K a) H1
def iEnS(ta:TA):TI:=λσ H R=>ta σ H λvs H1=>∃x,vs=[.str x]/\x.cps.all (·<128)=true/\R (Ites x) H1
section
variable {X:Cx}{t9:List U6}{x1:Nat}{tp p pos:Vf}{l:U6}{ta:TA}
def Bp(hg:Gl X "enumerate")(hm:X.mg "enumerate"=LH)(ha:PA X [l] ta)(hs:autoParam (U' [l] X.env=[(false,Vd l X.env)]) zA0):PI X (.Tuple t9 x1 tp) (.Call (.Name "enumerate" p) [l] [] pos) (iEnL X.K ta):=by
 intro pins s σ H R I h;refine Call_ (dP I hg hm PyProof.Rows.boot_enumerate (PyProof.Rows.callWith_type1 (thn (ha pos pins s σ H _ I h) λus s1 ⟨vs,H1,I1,r1,q1⟩=>?_) hs rfl));obtain⟨a,rfl,⟨xs,hq⟩,q⟩:=q1;obtain⟨u,rfl,ru⟩:=ce r1;cases ru;obtain⟨its,rv,pl,hz⟩:=I1.list hq;refine call_enumerate_list pl.isList λh' he hit j9 hk=>?_;have I2:Inv X pins σ H1 {s1 with heap:=h'}:=I1.kept (t':=s1.toks) hk;refine VV he ?_;have ne:s1.heap.objs.size+1≠s1.heap.objs.size:=KS _;refine#[s1.heap.objs.size+1,[s1.heap.objs.size+1,s1.heap.objs.size],_,_,H1,rfl,I2,Bn a _ _ ne,#[#[_,he],hit],λb hb=>?_,q];rcases HQ.mp hb with z|z
 .rw[z];exact I1.fpOk (Jd _) (I1.hok.fresh (Jd _))
 .rw[HN.mp z];exact I1.fpOk (HP _) (I1.hok.fresh (HP _))
def vg(hg:Gl X "enumerate")(hm:X.mg "enumerate"=LH)(ha:PA X [l] ta)(hs:autoParam (U' [l] X.env=[(false,Vd l X.env)]) zA0):PI X (.Tuple t9 x1 tp) (.Call (.Name "enumerate" p) [l] [] pos) (iEnS ta):=by
 intro pins s σ H R I h;refine Call_ (dP I hg hm PyProof.Rows.boot_enumerate (PyProof.Rows.callWith_type1 (thn (ha pos pins s σ H _ I h) λus s1 ⟨vs,H1,I1,r1,q1⟩=>?_) hs rfl));obtain⟨x,rfl,P_,q⟩:=q1;obtain⟨u,rfl,t,rfl⟩:=ce r1;refine call_enumerate_str λh' he hit j9 hk=>?_;have I2:Inv X pins σ H1 {s1 with heap:=h'}:=I1.kept (t':=s1.toks) hk;refine VV he ?_;have ne:s1.heap.objs.size+1≠s1.heap.objs.size:=KS _;have TB:strIterType x="str_ascii_iterator":=by unfold strIterType;rw[P_];rfl
 rw[TB]at hit;refine#[s1.heap.objs.size+1,[s1.heap.objs.size+1,s1.heap.objs.size],_,_,H1,rfl,I2,Bo x t _ _ ne,#[#[_,he],hit],λb hb=>?_,q];rcases HQ.mp hb with z|z
 .rw[z];exact I1.fpOk (Jd _) (I1.hok.fresh (Jd _))
 .rw[HN.mp z];exact I1.fpOk (HP _) (I1.hok.fresh (HP _))
end
end L2
namespace My
open Exc
section
variable {X:Cx}[J:Jm]{a b c e o:U6}{ta tb tc te to:TME}{pos:Vf}{st:U7}{rest:List U7}{t u:TMS}
def ly{K:Ex}{F:Hp}:∀(is:List Nat) (ds:List D) (vs:List V) (z:SD),Reps K F ds vs->(∀(i:Nat) d,z[i]?≠be (be (.own d)))->∀(i:Nat) d,(aW is ds z)[i]?≠be (be (.own d))
 |[],_,_,z,_,h=>h
 |_::_,[],_,z,_,h=>h
 |i::is,d::ds,vs,z,r,h=>by
  obtain⟨v,vr,rfl,r1,r2⟩:=reps_cons.mp r;refine ly is ds vr _ r2 λj q e=>?_;by_cases hj:i=j
  .subst hj;rw[Jf]at e;simp at e;have:=r1.noown;rw[e.2]at this;cases this
  .rw[Ie hj]at e;exact h j q e
def mItE(t:TME):TMI:=λz M R=>t z M λx M1=>match x with|.lst ds=>R ds M1|_=>False
def Bq(t:TME):TMI:=λz M R=>t z M λx M1=>match x with|.str x=>x.cps.all (·<128)=true/\R (bS x) M1|_=>False
def vh(is:List Nat)(ti:TMI)(tb:TMS):TMS:=λE z M=>ti z M λds M1=>∃W:Nat->SD->MS->Prop,W 0 z M1/\(∀(k:Nat) x z M,ds[k]?=be x->W k z M->tb {E with nx:=W (k+1),ct:=W (k+1),bk:=E.nx} (aW is [.int k,x] z) M)/\∀z M,W ds.length z M->E.nx z M
variable{is:List Nat}
def vi{K:Ex}{F0 F1 H1:Hp}{z:SD}{s:L2.St}{M1:MS}{E:Ends}{ED:EndsM}{It':It}{g:TG}{tb:TMS}{N8:TS}{ds:List D}(hK:K=X.K)(k1:Kept J.B F0 F1 H1)(n5:RepZ K J.B F1 H1 z s M1)(e:EndsOkM K F0 ED E)(b8:is.length=2)
  (go:∀k F' H',Same F1 F'->Same F' H'->k<ds.length->It'.go k H') (stop:∀F' H',Same F1 F'->Same F' H'->It'.stop ds.length H')
  (yld:∀k F' H' x H'',Same F1 F'->Same F' H'->k<ds.length->It'.yld k H' x H''->∃T d v,H' T=LH/\x=.ref T/\H''=upd H' T (.tup [.int k,v])/\ds[k]?=be d/\Rep K F' d v)
  (hg:∀(dd:List D) (vs:List V) (T:Addr) (z:SD) (s:L2.St) (F H:Hp) (Q:L2.St->Hp->Prop),dd.length=2->H T=be (.tup vs)->Reps K F dd vs->RepS K J.B F H z s->(∀s',RepS K J.B F H (aW is dd z) s'->Q s' H)->g (.ref T) s H Q)
  (Qa:∀E s H,mS K tb E s H->N8 E s H)
  (hd:∃W:Nat->SD->MS->Prop,W 0 z M1/\(∀(k:Nat) x z M,ds[k]?=be x->W k z M->tb {ED with nx:=W (k+1),ct:=W (k+1),bk:=ED.nx} (aW is [.int k,x] z) M)/\∀z M,W ds.length z M->ED.nx z M):
  ∃W:Nat->Nat->L2.St->Hp->Prop,(∃m,W 0 m s H1)/\∀i m σ H,W i m σ H->
   (It'.stop i H/\E.nx σ H)\/(It'.go i H/\∃N:L2.St->Hp->Prop,(∀σ' H',N σ' H'->∃m',m'<m/\W (i+1) m' σ' H')/\∀x H',It'.yld i H x H'->g x σ H' λσ2 H2=>N8 {E with nx:=N,ct:=N,bk:=E.nx} σ2 H2):=by
 obtain⟨W,w0,c8,out⟩:=hd;refine#[λk m s' H'=>m=ds.length-k/\k<=ds.length/\∃F' z' M',Kept J.B F0 F' H'/\Same F1 F'/\RepZ K J.B F' H' z' s' M'/\W k z' M',#[ds.length,MF,Iq _,F1,z,M1,k1,Same.refl F1,n5,w0],?_];rintro k m s' H'⟨rfl,hk,F',z',M',k',g',r',w'⟩;by_cases f9:k<ds.length
 .refine .inr #[go k F' H' g' k'.fh f9,λs3 H3=>∃F3 z3 M3,Kept J.B F0 F3 H3/\Same F1 F3/\RepZ K J.B F3 H3 z3 s3 M3/\W (k+1) z3 M3,λs3 H3 h3=>#[ds.length-(k+1),v4,rfl,f9,h3],λx H'' hy=>?_];obtain⟨T,d,v,hT,rfl,rfl,hd,rd⟩:=yld k F' H' x H'' g' k'.fh f9 hy;have gn:=Grow.new k'.fh hT (.tup [.int k,v]);have k2:=k'.grow gn;have r2:=r'.growM k'.bh gn.toM (r'.rm.grow gn);have rp:Reps K (upd F' T (.tup [.int k,v])) [.int k,d] [.int k,v]:=reps_cons.mpr #[_,_,rfl,rep_int.mpr rfl,fk (rd.mono gn.ff)];refine hg [.int k,d] _ T z' s' _ _ _ rfl aC rp r2.rs λs2 M_=>Qa _ _ _ ?_;have gF:Same F1 (upd F' T (.tup [.int k,v])):=g'.trans gn.ff;refine#[upd F' T (.tup [.int k,v]),upd F' T (.tup [.int k,v]),_,M',#[k2.bh,k2.fh,Same.refl _,λb h1 _=>h1,k2.eb,k2.jf.trans k2.f0,λb h1 h2=>k2.out b (k2.jo b h1 h2) h2],#[M_,ly is _ _ z' rp r2.no,r2.rm,r2.mb],_,c8 k d z' M' hd w',?_];have up:∀{F3 H3:Hp},Kept J.B (upd F' T (.tup [.int k,v])) F3 H3->Kept J.B F0 F3 H3:=λk3=>#[k3.bh,k3.fh,k2.f0.trans k3.f0,λb h1 h2=>k3.out b (k2.out b h1 h2) h2,k2.eb,k2.jf,k2.jo];exact#[λz3 s3 M3 F3 H3 k3 h3 r3=>#[F3,z3,M3,up k3,gF.trans k3.f0,r3,h3],λd v M3 F3 H3 k3=>e.rt d v M3 F3 H3 (up k3),λz3 s3 M3 F3 H3 k3=>e.nx z3 s3 M3 F3 H3 (up k3),λz3 s3 M3 F3 H3 k3 h3 r3=>#[F3,z3,M3,up k3,gF.trans k3.f0,r3,h3]]
 .have ek:k=ds.length:=by lia
  subst ek;exact .inl #[stop F' H' g' k'.fh,e.nx z' s' M' F' H' k' (out z' M' w') r']
variable{es:List U6}{body:List U7}
def Br{x1:Nat}{tp p1 p2:Vf}{tb:TMS}(hp:Vs (SZ X.prog X.w) X.A X.env X.xe)(hc:X.calm=true)(hm:X.mg "enumerate"=LH)(he:ME X e te)(hG:DGs X es is)(hb:MSs X body tb)(b8:autoParam (is.length=2) zA0)(hg:autoParam (Gl X "enumerate") zA0)
  (hn:autoParam ((Vb es X.env).length=2) zA0) (l5:autoParam ((Vb es X.env).findIdx? (·.1)=none) zA0)
  (hs:autoParam (∀y,zFS X (.Call (.Name "enumerate" p1) [e] [] p2) y) zA3) (t6:autoParam (zSE X e []) zA0) (g9:autoParam (U' [e] X.env=[(false,Vd e X.env)]) zA0):
  MSt X (.For (.Tuple es x1 tp) (.Call (.Name "enumerate" p1) [e] [] p2) body [] pos) (vh is (mItE te) tb):=by
 obtain⟨ug,N9,kk⟩:=hG;refine#[(db hp hc (Bp hg hm (bt he.out pa_nil t6) g9) (gL hc N9 hn l5) hb.out hs).anti λE s H q=>?_];obtain⟨F0,F,z,M,kp,rs,ED,h,e⟩:=q;refine#[F,z,M,kp.kf,rs,_,h,λd v M1 F1 H1 g1 hd rd m1=>?_];split at hd
 .rename_i ds;obtain⟨p,vs,rfl,hq,rr⟩:=rep_lst.mp rd;refine#[p,rfl,#[vs,SqL.of (g1.fh _ _ hq)],vi (It':=Itel X.K p) rfl (kp.growM rs.mb g1) (rs.growM kp.bh g1 m1) e b8 (λk F' H' s1 s2 hk=>?_) (λF' H' s1 s2=>?_) (λk F' H' x H'' s1 s2 hk hy=>?_) (λdd n4 T z s F H Q hl hT rp B_ hQ=>?_) (λ_ _ _ h=>h) hd]
  .have o8:k<vs.length:=by rw[rr.length];exact hk
   exact#[vs,vs[k],SqL.of (s2 _ _ (s1 _ _ hq)),by simp[o8]]
  .exact#[vs,SqL.of (s2 _ _ (s1 _ _ hq)),by rw[rr.length];exact HP _]
  .obtain⟨T,v,hT,e1,e2,hv⟩:=hy;obtain⟨d,hd,rd⟩:=rr.get' (hv vs (SqL.of (s2 _ _ (s1 _ _ hq))));exact#[T,d,v,hT,e1,e2,hd,rd.mono s1]
  .exact#[T,n4,rfl,SqT.of hT,by rw[rp.length];exact hl,kk dd n4 z s J.B F H Q (by rw[hl,b8]) rp B_ hQ]
 .exact hd.elim
def Bs{x1:Nat}{tp p1 p2:Vf}{tb:TMS}(hp:Vs (SZ X.prog X.w) X.A X.env X.xe)(hc:X.calm=true)(hm:X.mg "enumerate"=LH)(he:ME X e te)(hG:DGs X es is)(hb:MSs X body tb)(b8:autoParam (is.length=2) zA0)(hg:autoParam (Gl X "enumerate") zA0)
  (hn:autoParam ((Vb es X.env).length=2) zA0) (l5:autoParam ((Vb es X.env).findIdx? (·.1)=none) zA0)
  (hs:autoParam (∀y,zFS X (.Call (.Name "enumerate" p1) [e] [] p2) y) zA3) (t6:autoParam (zSE X e []) zA0) (g9:autoParam (U' [e] X.env=[(false,Vd e X.env)]) zA0):
  MSt X (.For (.Tuple es x1 tp) (.Call (.Name "enumerate" p1) [e] [] p2) body [] pos) (vh is (Bq te) tb):=by
 obtain⟨ug,N9,kk⟩:=hG;refine#[(db hp hc (vg hg hm (bt he.out pa_nil t6) g9) (gL hc N9 hn l5) hb.out hs).anti λE s H q=>?_];obtain⟨F0,F,z,M,kp,rs,ED,h,e⟩:=q;refine#[F,z,M,kp.kf,rs,_,h,λd v M1 F1 H1 g1 hd rd m1=>?_];split at hd
 .rename_i x;obtain⟨ha,hd⟩:=hd;have hl:=fA x;refine#[x,by rw[rep_str.mp rd],ha,vi (It':=Ites x) rfl (kp.growM rs.mb g1) (rs.growM kp.bh g1 m1) e b8 (λk F' H' s1 s2 hk=>?_) (λF' H' s1 s2=>?_) (λk F' H' x H'' s1 s2 hk hy=>?_) (λdd n4 T z s F H Q hl hT rp B_ hQ=>?_) (λ_ _ _ h=>h) hd]
  .rw[hl]at hk;exact hk
  .exact hl
  .obtain⟨T,c,hT,e1,e2,hc⟩:=hy;exact#[T,.str #[[c].toArray],.str #[[c].toArray],hT,e1,e2,ik hc,rep_str.mpr rfl]
  .exact#[T,n4,rfl,SqT.of hT,by rw[rp.length];exact hl,kk dd n4 z s J.B F H Q (by rw[hl,b8]) rp B_ hQ]
 .exact hd.elim
end
end My
namespace L2
section
variable {prog:U8}{w:U_}{K:Type}[DecidableEq K]{l7:HeapKind prog w K}{A:Va}{E:Os->P3->Prop}{s:P3}{d a:Addr}{k:K}{xs:List (K×Addr×Os)}
def Bt{v:Os}{Q:Os->P3->Prop}(hu:l7.room A)(o6:l7.is s.heap k a)(hm:s.heap.DictOfH l7 d xs)
  (h1:∀p,Wk xs k=be p->Q p.2 {s with toks:=s.toks+l7.draws k})
  (h2:Wk xs k=LH->∀h',h'.DictOfH l7 d (xs++[(k,a,v)])->Heap.SameBut d s.heap h'->Q v {s with heap:=h',toks:=s.toks+l7.draws k})
  (j9:xs.length<=sizeLine):U9 (SZ prog w) A (Wp d (.ref a) v) Q E s:=by
 obtain⟨o,es,ep,ho,hc,hd,he,R_,hn⟩:=hm;unfold Wp
 try with_reducible refine Vi ?_
 refine Pi (l7.pyHash hu o6 ?_);refine Pi (wpAny_dictFind_heap (s:={s with toks:=s.toks+l7.draws k}) hu o6 ho hd he R_ hn ?_ ?_)
 .intro M7;have Qb:k∉xs.map (·.1):=not_mem_keys_of_get M7;refine Pi (WS (Pi (wpAny_updateDictKeys (hz:=by have e:=size_of_entries he;lia) (s:={s with toks:=s.toks+l7.draws k}) ho hd (SL (h2 (atKey_none_of_get M7) _ ⟨_,_,ep+1,Heap.get?_update_self _ ho (Obj.isFreed_of_dict (Obj.data_mapDictKeys hd _)),
   hc.mapDictKeys _,Obj.data_mapDictKeys hd _,?_,?_,?_⟩ (Heap.SameBut.update ..))))))
  .simp[he,entryOfKey]
  .intro x hx;rcases Iw.mp hx with hx|hx
   .exact l7.keeps (R_ x hx) ho hd (Heap.SameBut.update ..)
   .simp only[HN]at hx;subst hx;exact l7.keeps o6 ho hd (Heap.SameBut.update ..)
  .rw[IA,Js];refine#[hn,MF,?_];intro x hx y hy;simp only[Ik,Jo,HN]at hy;subst hy;exact λe=>Qb (e ▸ hx)
 .intro j p hj;refine Pi (wpAny_dictEntries (s:={s with toks:=s.toks+l7.draws k}) ho hd ?_);rw[entry_at he j,hj];exact Pi (WS (SL (h1 p (atKey_of_get hn hj))))
def Bu(l7:HeapKind prog w K)(d a:Addr)(hd:(d==Vx)=false)(v:Os):
  MeetsIn prog w (Builtin.«dict.setdefault» #[[.ref d,.ref a,v],[]]) (λA R s=>l7.room A.in1/\∃k xs,l7.is s.heap k a/\s.heap.DictOfH l7 d xs/\xs.length<=sizeLine/\
   (∀p,Wk xs k=be p->R (.ok (.ret p.2)) {s with toks:=s.toks+l7.draws k})/\
   (Wk xs k=LH->∀h',h'.DictOfH l7 d (xs++[(k,a,v)])->Heap.SameBut d s.heap h'->R (.ok (.ret v)) {s with heap:=h',toks:=s.toks+l7.draws k})):=
 .of_wp λA R s hh=>by
  obtain⟨hu,k,xs,o6,hm,hz,h1,h2⟩:=hh;unfold Builtin.«dict.setdefault»;refine Pi ?_;unfold Builtin.Dict.keyAndDefault;refine Pi (wpAny_notOrdered_dict hm.typeIs ?_);show U9 _ _ (pure (d,Value.ref a,be v)) _ _ s;refine SL ?_;show U9 _ _ (if(d==Vx)=true then _ else(Wp d (.ref a) v>>=_)) _ _ s;rw[if_neg (by rw[hd];exact Ib)];exact Pi (Bt hu o6 hm (λp hp=>SL #[p.2,rfl,h1 p hp]) (λhn h' Mz Mc=>SL #[v,rfl,h2 hn h' Mz Mc]) hz)
end
end L2
namespace My
open Exc
def lookD:List ((Int×Int)×Int)->Int->Int->Option Int
 |[],_,_=>LH
 |((a,b),h)::r,x,y=>if a=x/\b=y then be h else lookD r x y
def lz(x y:Int):∀a9:List ((Int×Int)×Int),valV (dtiV a9) [.inl x,.inl y]=(lookD a9 x y).map V.int
 |[]=>rfl
 |((a,b),h)::r=>by
  show valV (([.inl a,.inl b],V.int h)::dtiV r) _=_;unfold lookD;by_cases e:a=x/\b=y
  .rw[if_pos e,kB (by rw[e.1,e.2])];rfl
  .rw[if_neg e,kC (λz=>e (by
    have z':([Sum.inl a,Sum.inl b]:List Key)=[.inl x,.inl y]:=z;injection z' with z1 z2;injection z2 with z2 _;exact#[Sum.inl.inj z1,Sum.inl.inj z2])),lz x y r]
def sdD(a9:List ((Int×Int)×Int))(x y v:Int):List ((Int×Int)×Int):=if(lookD a9 x y).isSome then a9 else a9++[((x,y),v)]
def Bv:V->List V->Hp->VK->Prop:=λx vs H Q=>∃a b i j d a9,x=.ref a/\vs=[.ref b,.int d]/\H a=be (.dT (dtiV a9))/\H b=be (.tup [.int i,.int j])/\Q (.int ((lookD a9 i j).getD d)) H
def Bw{X:Cx}(hu:X.A.units+1<Wb):MtR X "dict.get" Bv:=by
 intro pins s σ H x vs v us Q I rx rv h;obtain⟨a,b,i,j,d,a9,rfl,rfl,ha,hb,q⟩:=h;obtain⟨u,u',rfl,ru,rd⟩:=eQ rv;cases(show v=Value.ref a from rx);refine zl hu I (DGet.t (k:=[.inl i,.inl j]) ha hb) ru rd λw' s' I' i6=>#[.int ((lookD a9 i j).getD d),H,I',?_,q];rw[lz]at i6;cases e:lookD a9 i j with
 |none=>rw[e]at i6;exact i6
 |some z=>rw[e]at i6;exact i6
def rSdT:V->List V->Hp->VK->Prop:=λx vs H Q=>∃a b i j d a9,x=.ref a/\vs=[.ref b,.int d]/\H a=be (.dT (dtiV a9))/\H b=be (.tup [.int i,.int j])/\a9.length<100000/\∀w,Q (.int w) (upd H a (.dT (dtiV (sdD a9 i j d))))
variable{H:Hp}{a:Addr}
def By{o:HO}(h:H a=be o):upd H a o=H:=by
 funext b;by_cases e:b=a
 .subst e;rw[aC,h]
 .rw[ar e]
def Bz{X:Cx}(hu:X.A.units+1<Wb):MtR X "dict.setdefault" rSdT:=by
 intro pins s σ H x vs v us Q I rx rv h;obtain⟨a,b,i,j,d,a9,rfl,rfl,ha,hb,hl,q⟩:=h;obtain⟨u,u',rfl,ru,t,rfl⟩:=eQ rv;cases(show v=Value.ref a from rx);cases(show u=Value.ref b from ru);obtain⟨z,hd,xs,s_,dd⟩:=zh I.hok ha;have b8:xs.length=a9.length:=by rw[<-Paired.length s_];simp[dtiV]
 have big:(100000:Nat)<sizeLine:=Mx
 have f_:H b=be (.tup (([.inl i,.inl j]:List Key).map kV)):=hb;have l8:=s_.val [.inl i,.inl j];rw[lz]at l8;refine WG PySem.F.slot_dict_setdefault dd.typeIs PySem.F.entry_dict_setdefault (PySem.F.args_dict_setdefault_3 _ _ _) (Bu (VZ (bN X.prog X.w)) a b hd (.int d t)) #[WW hu,[.inl i,.inl j],xs,key_of I.hok f_,dd,v4,λp hp=>?_,λhn h' N2 hs=>?_]
 .rw[hp]at l8;cases e:lookD a9 i j with
  |none=>rw[e]at l8;exact l8.elim
  |some w=>
   rw[e]at l8;have:=q w;unfold sdD at this;rw[e]at this;have e2:(if(be w:Option Int).isSome then a9 else a9++[((i,j),d)])=a9:=rfl;rw[e2,By ha]at this;exact#[.int w,H,I.tok _,l8,this]
 .rw[hn]at l8;cases e:lookD a9 i j with
  |some w=>rw[e]at l8;exact l8.elim
  |none=>
   have e2:sdD a9 i j d=a9++[((i,j),d)]:=by unfold sdD;rw[e];rfl
   have e3:dtiV (sdD a9 i j d)=dtiV a9++[([.inl i,.inl j],.int d)]:=by rw[e2];simp[dtiV]
   obtain⟨o,es,ep,ho,hx,h3,h4,_,h5⟩:=N2;have new:ObjOk X.prog X.w (upd H a (.dT (dtiV (sdD a9 i j d)))) h' a (.dT (dtiV (sdD a9 i j d))):=by
    refine#[by rw[e3,Ic];simp[dtiV];lia,hd,_,?_,o,es,ep,ho,hx,h3,h4,h5];rw[e3];refine KT.keeps (H:=H) (Paired.snoc (a:=(([.inl i,.inl j]:List Key),V.int d)) (b:=(([.inl i,.inl j]:List Key),b,Value.int d t)) s_ #[rfl,f_,#[t,rfl]]) λc ys ec=>?_;rw[ar (xh ec ha (λz=>nomatch z))];exact ec
   exact#[.int d,_,zi I (by rw[ha];exact True.intro) hs #[o,ho] new,#[t,rfl],q d]
section
variable {X:Cx}[J:Jm]{a b c e o f:U6}{ta tb tc te to:TME}{pos apos cpos:Vf}{t:TMA}
def mD0:TME:=λ_ M R=>R (.dti []) M
def BA:ME X (.Dict [] [] pos) mD0:=⟨pe_dnewT.anti λs H Q q=>by
 obtain⟨F,z,M,k,rs,R,h1,h2⟩:=q;intro p hp;have gn:=Grow.new k.fh hp (.dT []);exact h2 _ _ M _ _ gn.toM h1 (rep_dti.mpr #[p,rfl,aC]) (rs.rm.grow gn)⟩
def mDN:TME:=λ_ M R=>∀p,p∉av M->R (.ptr p) ((p,.dti [])::M)
def BB:ME X (.Dict [] [] pos) mDN:=⟨pe_dnewT.anti λs H Q q=>by
 obtain⟨F,z,M,k,rs,R,h1,h2⟩:=q;intro p hp;exact h2 _ _ _ F _ (GrowM.new k.fh hp) (h1 p λz=>rs.rm.here z hp) (rep_ptr.mpr rfl) (rs.rm.new k.fh hp aC)⟩
def kdK(ds:List D)(k:Int->Int->Int->Prop):Prop:=kd2 ds λa b=>kdT a λl=>kd2 l λx y=>kdI x λi=>kdI y λj=>kdI b (k i j)
def kdK.of{ds:List D}{k:Int->Int->Int->Prop}(h:kdK ds k):∃i j x,ds=[.tup [.int i,.int j],.int x]/\k i j x:=by
 obtain⟨a,b,rfl,h2⟩:=kd2.of h;obtain⟨l,rfl,h3⟩:=kdT.of h2;obtain⟨x,y,rfl,h4⟩:=kd2.of h3;obtain⟨i,rfl,h5⟩:=kdI.of h4;obtain⟨j,rfl,h6⟩:=kdI.of h5;obtain⟨v,rfl,h7⟩:=kdI.of h6;exact#[i,j,v,rfl,h7]
def BC(to:TME)(t:TMA):TME:=λz M R=>to z M λd M1=>match d with|.dti a9=>(t z M1 λds M2=>kdK ds λi j x=>R (.int ((lookD a9 i j).getD x)) M2)|_=>False
def BD(hu:X.A.units+1<Wb)(ho:ME X o to)(ha:MA X [e,f] t)(b7:autoParam (Vc o "get" X.env (Vd o X.env)=Vd o X.env) zA0)
  (d6:autoParam (zHF X cpos [e,f]) zA0)
  (b_:autoParam ((apos.endLine==cpos.line)=true) zA0) (i8:autoParam (zSE X e [f]) zA0) (c5:autoParam (zPL X cpos [f]) zA0):
  ME X (.Call (.Attribute o "get" apos) [e,f] [] cpos) (BC to t):=⟨(df PySem.F.plainAttrs_dict PySem.F.slot_dict_get PySem.F.type_dict_get (Bw hu) ho.out ha.out b7 d6 b_ i8 c5).anti λs H Q h=>by
 obtain⟨F,z,M,k,rs,R,h1,h2⟩:=h;refine#[F,z,M,k,rs,_,h1,λx u M1 F1 H1 g1 hx rx m1=>?_];split at hx
 .rename_i a9;obtain⟨p,rfl,hp⟩:=rep_dti.mp rx;refine#[.inr (.inr (.inl #[rfl,.inr #[_,g1.fh _ _ hp]])),?_];refine#[F1,z,M1,k.growM rs.mb g1,rs.growM k.bh g1 m1,_,hx,λds vs M2 F2 H2 g2 hd rd m2=>?_];obtain⟨i,j,x,rfl,hd⟩:=kdK.of hd
  focus
   obtain⟨v1,r1,rfl,q1,q2⟩:=reps_cons.mp rd;obtain⟨v2,r2,rfl,q3,q4⟩:=reps_cons.mp q2;rw[reps_nil.mp q4,rep_int.mp q3];obtain⟨b,us,rfl,hb,ru⟩:=rep_tupS.mp q1;have Qc:us=[.int i,.int j]:=(Reps.ints (ns:=[i,j])).mp ru;subst Qc;exact#[p,b,i,j,x,a9,rfl,rfl,g2.fh _ _ (g2.ff _ _ hp),g2.fh _ _ hb,h2 _ _ M2 F2 H2 (g1.trans g2) hd (rep_int.mpr rfl) m2]
 .exact hx.elim⟩
def mDsd(to:TME)(t:TMA):TME:=λz M R=>to z M λd M1=>match d with|.ptr a=>(∃a9,mget M1 a=be (.dti a9))/\(t z M1 λds M2=>kdK ds λi j x=>∃a9,mget M2 a=be (.dti a9)/\a9.length<100000/\∀w,R (.int w) (mput M2 a (.dti (sdD a9 i j x))))|_=>False
def BE(hu:X.A.units+1<Wb)(ho:ME X o to)(ha:MA X [e,f] t)(b7:autoParam (Vc o "setdefault" X.env (Vd o X.env)=Vd o X.env) zA0)
  (d6:autoParam (zHF X cpos [e,f]) zA0)
  (b_:autoParam ((apos.endLine==cpos.line)=true) zA0) (i8:autoParam (zSE X e [f]) zA0) (c5:autoParam (zPL X cpos [f]) zA0):
  ME X (.Call (.Attribute o "setdefault" apos) [e,f] [] cpos) (mDsd to t):=⟨(df PySem.F.plainAttrs_dict PySem.F.slot_dict_setdefault PySem.F.type_dict_setdefault (Bz hu) ho.out ha.out b7 d6 b_ i8 c5).anti λs H Q h=>by
 obtain⟨F,z,M,k,rs,R,h1,h2⟩:=h;refine#[F,z,M,k,rs,_,h1,λx u M1 F1 H1 g1 hx rx m1=>?_];split at hx
 .rename_i a;obtain⟨⟨UL,P7⟩,hx⟩:=hx;rw[rep_ptr.mp rx];refine#[.inr (.inr (.inl #[rfl,.inr #[_,m1.ok _ _ (bC P7)]])),?_];refine#[F1,z,M1,k.growM rs.mb g1,rs.growM k.bh g1 m1,_,hx,λds vs M2 F2 H2 g2 hd rd m2=>?_];obtain⟨i,j,x,rfl,a9,hm,hl,hR⟩:=kdK.of hd
  focus
   obtain⟨v1,r1,rfl,q1,q2⟩:=reps_cons.mp rd;obtain⟨v2,r2,rfl,q3,q4⟩:=reps_cons.mp q2;rw[reps_nil.mp q4,rep_int.mp q3];obtain⟨b,us,rfl,hb,ru⟩:=rep_tupS.mp q1;have Qc:us=[.int i,.int j]:=(Reps.ints (ns:=[i,j])).mp ru;subst Qc;refine#[a,b,i,j,x,a9,rfl,rfl,m2.ok _ _ (bC hm),g2.fh _ _ hb,hl,λw=>?_];exact h2 _ _ _ F2 _ (g1.trans (g2.trans (GrowM.put g2.fh (m2.fr a (bX (bC hm))) hm))) (hR w) (rep_int.mpr rfl) (m2.put hm aC)
 .exact hx.elim⟩
end
section
variable {P:U8}{w:U_}{K:Ex}{mg:Ms->Option Os}{base:Heap}
open Classical in
def Cls.okIM{x qual:Ms}{st:U7}{f C:Addr}{fd:Ve}{N:List Ms}{p0:Ms}{ps:List Ms}{k:Nat}{S:SiD}(T:Fun K "__init__" qual st f fd)(hb:Binds K fd (p0::ps) [])(F:FnScope N (p0::ps) (ah st))(len:∀ds R,S ds R->ds.length=ps.length)
  (hns:nsIn K SB x=be (be (.ref C))) (k8:mg x=be (.ref C)) (mk:Mk K C f)
  (a8:∀(cdv:Os) (A:Va) (outer:List VS) (s:P3) (H:Hp) (E:XK) (J:Jm),Room k (A.deeper (Vh qual (ah st) s.heap.objs.size f cdv))->XOkM (cxOf (CX1 P w) P w K mg base N qual (ah st) f cdv A outer s H E).nox->
   ∃t,MSs (cxOf (CX1 P w) P w K mg base N qual (ah st) f cdv A outer s H E).nox (aK st) t/\∀a ds R,(∀z M x fs,¬J.RM z M x fs)->S ds R->t {nx:=λ_ M'=>∃fs,M'=[(a,.ins x fs)]/\R fs,rt:=λ_ _=>False} (startD N (.ptr a::ds)) [(a,.ins x [])]):CalM P w K mg base (k+1) x (p0::ps) S:=by
 refine#[C,f,fd,hns,k8,mk,Fun.okC T F (λvs H Q E h=>?_) (λcdv A outer s H vs Q E hr h=>?_),hb]
 .obtain⟨a,dx,us,H1,F,ds,rfl,_,_,_,_,_,rs,R,h,_⟩:=h;rw[HX,HX,rs.length,len ds R h]
 .obtain⟨a,dx,us,H1,F1,ds,rfl,rfl,ha,o9,k6,fh,rs,R,h,q⟩:=h
  let H:Hp:=upd (upd H1 dx (.own a)) a (.ins C dx [])
  let B:Hp:=λb=>if b=a then LH else H b
  have N_:B a=none:=if_pos rfl;have hB:∀{b:Addr},b≠a->B b=H b:=λ{b} h=>if_neg h;have m_:∀{b:Addr} {o:HO},H1 b=be o->b≠a/\H b=be o:=λ{b o} e=>by
   have n1:b≠a:=bG e ha;exact#[n1,by show upd _ _ _ b=_;rw[ar n1,ar (bG e o9)];exact e]
  letI:Jm:={B:=B,F0:=F1,RX:=λ_ _ _=>False,RM:=λ_ _ _ _=>False}
  have hx:XOkM (cxOf (CX1 P w) P w K mg base N qual (ah st) f cdv A outer s H E).nox:=λσ z M' F' H' s' e C od y fs I kk rr hR er _=>hR.elim;obtain⟨t,ht,hq⟩:=a8 cdv A outer s H E inferInstance hr hx;have Fa:F1 a=none:=fh.free ha;have k0:Kept B F1 F1 H:=⟨λb o e=>by
   by_cases n:b=a
   .rw[n,N_]at e;cases e
   .rw[hB n]at e;exact e,λb o e=>(m_ (fh b o e)).2,Same.refl F1,λ_ h _=>h,rfl,Same.refl F1,λ_ h _=>h⟩
  have B_:Reps K F1 (.ptr a::ds) (.ref a::us):=reps_cons.mpr #[_,_,rfl,rep_ptr.mpr rfl,rs];have Qe:RepM K F1 H [(a,.ins x [])]:=⟨by simp[av],λb o hb=>by
   have e:=HN.mp hb;cases e;exact#[C,dx,[],hns,aC,repf_nil.mpr rfl],λb hb=>by
   have e:b=a:=by simpa[av]using hb
   rw[e];exact Fa⟩
  have r0:RepZ K B F1 H (startD N (.ptr a::ds)) (L2.start N (.ref a::us)) [(a,.ins x [])]:=⟨dQ B_,lx B_,Qe,λb hb=>by
   have e:b=a:=by simpa[av]using hb
   rw[e];exact N_⟩
  refine#[_,ht.out.nox,F1,F1,_,_,k0,r0,_,hq a ds R (λ_ _ _ _ z=>z) h,#[λz' s' M' F' H' kk hn r=>?_,λd v M' F' H' kk hd rd P9 mb=>hd.elim,λ_ _ _ _ _ _ h _=>h.elim,λ_ _ _ _ _ _ h _=>h.elim]];obtain⟨fs,rfl,hR⟩:=hn;obtain⟨C',LS,ws,gV,e8,rf⟩:=r.rm.ok a _ (HN.mpr rfl);have Mt:nsIn K SB x=be (be (.ref C')):=gV;rw[hns]at Mt;cases Mt;exact q fs ws LS F' H' ⟨kk.f0,kk.fh,λb o e=>kk.bh b o (by show B b=be o;rw[hB (m_ e).1];exact(m_ e).2),λb h1 h2=>kk.out b h1 (by
   show B b≠LH;cases e:H1 b with
   |none=>exact absurd e h2
   |some o=>rw[hB (m_ e).1,(m_ e).2];exact λz=>nomatch z)⟩ hR e8 (r.rm.fr a (by simp[av])) rf
end
section
variable {P:U8}{w:U_}{K:Ex}{mg:Ms->Option Os}{base:Heap}{n:Nat}{x m:Ms}{ps:List Ms}
variable{S:SpM}
def CalMth.one(h:CalMth P w K mg base n x m ps (lSpM K S)):∀y,y∈[x]->CalMth P w K mg base n y m ps (lSpM K ((λ_=>S) y)):=λy hy=>by
 rw[HN.mp hy];exact h
def vj{f:Addr}{fd:Ve}{sp:Sp}(h:∀vs H Q E,¬sp vs H Q E):FnOk P w K mg base (CX1 P w) n f fd ps sp:=#[λvs H Q E q=>(h _ _ _ _ q).elim,λA outer s H args us vs Q E _ _ _ _ q=>(h _ _ _ _ q).elim]
def vk(h:∀ds M R RX,¬S ds M R RX):∀vs H Q E,¬lSpM K S vs H Q E:=by
 rintro vs H Q E⟨F,ds,M,_,_,_,R,RX,q,_⟩;exact h ds M R RX q
def CalMth.never{qual:Ms}{st:U7}(T:Txm K x m qual st ps)(h:∀ds M R RX,¬S ds M R RX):CalMth P w K mg base n x m ps (lSpM K S):=by
 obtain⟨C,f,fd,h1,h2,h3,T,hb⟩:=T;exact#[C,f,fd,h1,h2,h3,vj (vk h),hb]
def CalMM.never{st:U7}(T:Tx K mg x st ps)(h:∀ds M R RX,¬S ds M R RX):CalMM P w K mg base n x ps S:=by
 obtain⟨f,fd,T,hb,hm⟩:=T;exact#[f,fd,vj (vk h),hb,T.kp,hm]
end
section
variable {X:Cx}[J:Jm]{a b c e:U6}{ta tb:TME}{pos:Vf}
def mUn(r:D->(D->Prop)->Prop)(ta:TME):TME:=λz M R=>ta z M λx M1=>r x λd=>R d M1
end
def lC(S:SpM):SpM:=λds M R RX=>∃M1 M2,M=M1++M2/\S ds M2 (λd M'=>R d (M1++M')) λx fs M'=>RX x fs (M1++M')
def keys_app{M1 M2:MS}:a∈av (M1++M2)↔a∈av M1\/a∈av M2:=by unfold av;rw[IA,Iw]
variable{K:Ex}{vs:List V}
def vm{S:SpM}{Q:VK}{E:XK}(h:lSpM K (lC S) vs H Q E):lSpM K S vs H Q E:=by
 obtain⟨F,ds,M,fh,rs,rm,R,RX,⟨M1,M2,rfl,hS⟩,q,qx⟩:=h;have nd:(av M1++av M2).Nodup:=by have:=rm.nd;unfold av at this ⊢;rw[IA]at this;exact this
 have Qf:∀{a:Addr},a∈av M1->a∉av M2:=λ{a} h1 h2=>(Js.mp nd).2.2 a h1 a h2 rfl;have TC:RepM K F H M2:=#[(Js.mp nd).2.1,λa o h=>rm.ok a o (Ip _ h),λa h=>rm.fr a (keys_app.mpr (.inr h))];have up:∀{M':MS} {F' H':Hp},GrowM M2 M' F H F' H'->RepM K F' H' M'->GrowM (M1++M2) (M1++M') F H F' H'/\RepM K F' H' (M1++M'):=λ{M' F' H'} g r=>by
  have Sa:∀{a:Addr},a∈av M1->H a≠none:=λ{a} h=>rm.here (keys_app.mpr (.inl h));have Qg:∀{a:Addr},a∈av M1->a∉av M':=λ{a} h1 h2=>by
   rcases g.ks a h2 with z|z
   .exact Qf h1 z
   .exact Sa h1 z
  refine#[#[g.ff,g.fh,λb o nb e=>g.hh b o (λz=>nb (keys_app.mpr (.inr z))) e,λb nb h1 h2=>g.out b (λz=>nb (keys_app.mpr (.inr z))) h1 h2,λb hb=>?_],#[?_,λa o h=>?_,λa h=>?_]]
  .rcases keys_app.mp hb with z|z
   .exact .inl (keys_app.mpr (.inl z))
   .exact(g.ks b z).imp (λz=>keys_app.mpr (.inr z)) id
  .unfold av;rw[IA];exact Js.mpr #[(Js.mp nd).1,r.nd,λa h1 b h2 e=>Qg h1 (e ▸ h2)]
  .rcases Iw.mp h with z|z
   .have ka:a∈av M1:=bX z;exact(rm.ok a o (Jl _ z)).mono g.ff λo e=>g.hh a o (Qf ka) e
   .exact r.ok a o z
  .rcases keys_app.mp h with z|z
   .exact g.out a (Qf z) (rm.fr a (keys_app.mpr (.inl z))) (Sa z)
   .exact r.fr a z
 exact#[F,ds,M2,fh,rs,TC,_,_,hS,λd v M' F' H' g hd rd m'=>q d v _ F' H' (up g m').1 hd rd (up g m').2,λx fs C od M' F' H' g hR er m'=>qx x fs C od _ F' H' (up g m').1 hR er (up g m').2]
section
variable {P:U8}{w:U_}{K:Ex}{mg:Ms->Option Os}{base:Heap}{n:Nat}{x m:Ms}{ps:List Ms}{S:SpM}
def CalMM.frame(C:CalMM P w K mg base n x ps S):CalMM P w K mg base n x ps (lC S):=C.imp λ_ _ _ _ h=>vm h
def CalMth.frame(C:CalMth P w K mg base n x m ps (lSpM K S)):CalMth P w K mg base n x m ps (lSpM K (lC S)):=C.imp λ_ _ _ _ h=>vm h
end
def nilX(S:SpX):SpM:=λds M R RX=>M=[]/\∃(R0:D->Prop) (LY:XD),S ds R0 LY/\(∀d M',R0 d->R d M')/\∀x fs M',LY x fs->RX x fs M'
def CalMM.nilX{P:U8}{w:U_}{mg:Ms->Option Os}{base:Heap}{n:Nat}{x:Ms}{ps:List Ms}{S:SpX}(C:CalMM P w K mg base n x ps (nilX S)):CalX P w K mg base n x ps S:=C.toX λ_ R RX h=>#[rfl,R,RX,h,λ_ _ h=>h,λ_ _ _ h=>h]
mutual
def cw:D->Bool
 |.non=>true|.bl _=>true|.int _=>true|.str _=>true|.ptr _=>true
 |.tup ds=>flats ds
 |.lst ds=>flats ds
 |_=>false
def flats:List D->Bool
 |[]=>true
 |d::ds=>cw d&&flats ds
end
def cutF(F:Hp)(a:Addr):Hp:=λb=>if b=a then LH else F b
variable{F:Hp}
def gu{b:Addr}(h:b≠a):cutF F a b=F b:=if_neg h
mutual
def Rep.cutF{K:Ex}{F:Hp}{a:Addr}{C:Addr}{dx:Addr}{ws:List (Ms×V)}(ea:F a=be (.ins C dx ws)):∀(d:D) (v:V),cw d=true->Rep K F d v->Rep K (My.cutF F a) d v
 |.non,v,_,h=>by unfold Rep at h ⊢;exact h
 |.bl b,v,_,h=>by unfold Rep at h ⊢;exact h
 |.int b,v,_,h=>by unfold Rep at h ⊢;exact h
 |.str b,v,_,h=>by unfold Rep at h ⊢;exact h
 |.ptr b,v,_,h=>by unfold Rep at h ⊢;exact h
 |.tup ds,v,n,h=>by
  unfold Rep at h ⊢;obtain⟨p,vs,e,q,r⟩:=h;have ne:p≠a:=λz=>by rw[z,ea]at q;cases q
  exact#[p,vs,e,by rw[gu ne];exact q,Reps.cutF ea ds vs (by unfold cw at n;exact n) r]
 |.lst ds,v,n,h=>by
  unfold Rep at h ⊢;obtain⟨p,vs,e,q,r⟩:=h;have ne:p≠a:=λz=>by rw[z,ea]at q;cases q
  exact#[p,vs,e,by rw[gu ne];exact q,Reps.cutF ea ds vs (by unfold cw at n;exact n) r]
 |.rol _,_,n,_=>by unfold cw at n;cases n
 |.obj _ _,_,n,_=>by unfold cw at n;cases n
 |.exc _ _,_,n,_=>by unfold cw at n;cases n
 |.own _,_,n,_=>by unfold cw at n;cases n
 |.dti _,_,n,_=>by unfold cw at n;cases n
def Reps.cutF{K:Ex}{F:Hp}{a:Addr}{C:Addr}{dx:Addr}{ws:List (Ms×V)}(ea:F a=be (.ins C dx ws)):∀(ds:List D) (vs:List V),flats ds=true->Reps K F ds vs->Reps K (My.cutF F a) ds vs
 |[],vs,_,h=>by unfold Reps at h ⊢;exact h
 |d::ds,vs,n,h=>by
  unfold flats at n;rw[Io]at n;unfold Reps at h ⊢;obtain⟨v,r,e,q1,q2⟩:=h;exact#[v,r,e,Rep.cutF ea d v n.1 q1,Reps.cutF ea ds r n.2 q2]
end
def lendD(a:Addr)(o:D)(d:D):D:=match d with|.ptr b=>if b=a then o else .ptr b|d=>d
def lend(S:SpX):SpM:=λds M R _=>∃a x fs,mget M a=be (.ins x fs)/\S (ds.map (lendD a (.obj x fs))) (λd=>cw d=true/\R d M) λ_ _=>False
def BF{F2:Hp}{o d:D}{v:V}(g:Same F F2)(ro:Rep K F2 o (.ref a))(h:Rep K F d v):Rep K F2 (lendD a o d) v:=by
 unfold lendD;split
 .rename_i b;split
  .rename_i e;rw[rep_ptr.mp h,e];exact ro
  .exact rep_ptr.mpr (rep_ptr.mp h)
 .exact h.mono g
def BG{F2:Hp}{o:D}(g:Same F F2)(ro:Rep K F2 o (.ref a)){ds:List D}:∀{vs:List V},Reps K F ds vs->Reps K F2 (ds.map (lendD a o)) vs:=by
 induction ds with
 |nil=>intro vs h;rw[reps_nil.mp h];exact reps_nil.mpr rfl
 |cons d ds ih=>
  intro vs h;obtain⟨v,r,rfl,q1,q2⟩:=reps_cons.mp h;exact reps_cons.mpr #[v,r,rfl,BF g ro q1,ih q2]
def BH{S:SpX}{Q:VK}{E:XK}(h:lSpM K (lend S) vs H Q E):lSpX K S vs H Q E:=by
 obtain⟨F,ds,M,fh,rs,rm,R,RX,⟨a,x,fs,hm,hS⟩,q,qx⟩:=h;have ma:=bC hm;obtain⟨C,dx,ws,n,hH,rf⟩:=rm.ok _ _ ma;have fa:=rm.fr a (bX ma);have g:Same F (upd F a (.ins C dx ws)):=aN fa _;have g2:Same (upd F a (.ins C dx ws)) H:=λb o e=>by
  by_cases hb:b=a
  .subst hb;rw[aC]at e;cases e;exact hH
  .rw[ar hb]at e;exact fh b o e
 have ro:Rep K (upd F a (.ins C dx ws)) (.obj x fs) (.ref a):=by
  unfold Rep;exact#[a,C,dx,ws,rfl,n,aC,RepF.mono g fs ws rf]
 refine#[upd F a (.ins C dx ws),_,g2,BG g ro rs,_,_,hS,λd v F' H' g' hd rd=>?_,λ_ _ _ _ _ _ _ z=>z.elim];have ea:F' a=be (.ins C dx ws):=g'.ff a _ aC;have ff:Same F (cutF F' a):=λb o e=>by
  have ne:b≠a:=λz=>by rw[z,fa]at e;cases e
  rw[gu ne];exact g'.ff b o (by rw[ar ne];exact e)
 have TF:Same (cutF F' a) H':=λb o e=>by
  by_cases hb:b=a
  .subst hb;unfold cutF at e;rw[if_pos rfl]at e;cases e
  .rw[gu hb]at e;exact g'.fh b o e
 have out:∀b,F b=LH->H b≠LH->cutF F' a b=none:=λb h1 h2=>by
  by_cases hb:b=a
  .subst hb;exact if_pos rfl
  .rw[gu hb];exact g'.out b (by rw[ar hb];exact h1) h2
 exact q d v M (cutF F' a) H' #[ff,TF,λb o _ e=>g'.hh b o e,λb _ h1 h2=>out b h1 h2,λb z=>.inl z] hd.2 (Rep.cutF ea d v hd.1 rd)
  #[rm.nd,λb o hb=>(rm.ok b o hb).mono ff λo e=>g'.hh b o e,λb hb=>out b (rm.fr b hb) (rm.here hb)]
def NoOwn(z:SD):Prop:=∀(i:Nat) ds,z[i]?≠be (be (.own ds))
def ofB(B H:Hp)(M:MS):Hp:=λb=>if b∈av M then H b else B b
def jOf(B H F:Hp)(M:MS):Jx:=#[ofB B H M,F,λ_ _ _=>False]
def endD(E:EndsM)(M:MS):EndsD:=#[λz=>E.nx z M/\NoOwn z,λd=>E.rt d M,λz=>E.bk z M/\NoOwn z,λz=>E.ct z M/\NoOwn z]
section
variable {X:Cx}[J:Jm]
variable{B H:Hp}{M:MS}
def lD{b:Addr}(h:b∈av M):ofB B H M b=H b:=if_pos h
def lF{b:Addr}(h:b∉av M):ofB B H M b=B b:=if_neg h
variable{K:Ex}{F0 F:Hp}{z:SD}{s:L2.St}
def dD{F' H':Hp}(k:Kept J.B F0 F H)(rz:RepZ K J.B F H z s M)(k':@Kept (jOf J.B H F M) (ofB J.B H M) F F' H'):Kept J.B F0 F' H'/\RepM K F' H' M:=by
 have nk:∀b,J.B b≠LH->b∉av M:=λb e z=>e (rz.mb b z);obtain⟨bh,fh,f0,out,_,_,_⟩:=k';refine#[#[λb o e=>?_,fh,k.f0.trans f0,λb h1 h2=>?_,k.eb,k.jf,k.jo],rz.rm.nd,λb o hb=>(rz.rm.ok b o hb).mono f0 λo e=>?_,λb hb=>?_]
 .exact bh b o (by rw[lF (nk b (by rw[e];exact λz=>nomatch z))];exact e)
 .exact out b (k.out b h1 h2) (by rw[lF (nk b h2)];exact h2)
 .exact bh b o (by rw[lD (bX hb)];exact e)
 .exact out b (rz.rm.fr b hb) (by rw[lD hb];exact rz.rm.here hb)
def iA{B':Hp}(r:RepS K B F H z s)(no:NoOwn z):RepS K B' F H z s:=#[r.len,r.val,λi ds e=>absurd e (no i ds),r.apart]
def BI(k:Kept J.B F0 F H):@Kept (jOf J.B H F M) (ofB J.B H M) F F H:=
 @Kept.mk (jOf J.B H F M) _ _ _ _ (λb o e=>by
  by_cases hb:b∈av M
  .rw[lD hb]at e;exact e
  .rw[lF hb]at e;exact k.bh b o e) k.fh (Same.refl F) (λ_ h _=>h) rfl (Same.refl F) (λ_ h _=>h)
def BJ{ED:EndsM}{D:Ends}(k:Kept J.B F0 F H)(rz:RepZ K J.B F H z s M)(e:EndsOkM K F0 ED D):@EndsOk (jOf J.B H F M) K (ofB J.B H M) F (endD ED M) D:=
 @EndsOk.mk (jOf J.B H F M) _ _ _ _ _ (λz' s' F' H' k' hz r'=>e.nx z' s' M F' H' (dD k rz k').1 hz.1 #[iA r' hz.2,hz.2,(dD k rz k').2,rz.mb])
  (λd v F' H' k' hd rd=>e.rt d v M F' H' (dD k rz k').1 hd rd (dD k rz k').2 rz.mb)
  (λz' s' F' H' k' hz r'=>e.bk z' s' M F' H' (dD k rz k').1 hz.1 #[iA r' hz.2,hz.2,(dD k rz k').2,rz.mb])
  (λz' s' F' H' k' hz r'=>e.ct z' s' M F' H' (dD k rz k').1 hz.1 #[iA r' hz.2,hz.2,(dD k rz k').2,rz.mb])
def mTry(tb:Jm->TMS)(th:TH):TMS:=λE z M=>∃RM:SD->MS->XD,(∀J':Jm,J'.RM=RM->tb J' E z M)/\∀z' M' x fs,RM z' M' x fs->th x fs (endD E M') z'
def jTry(B F0:Hp)(RM:SD->MS->XD):Jm:={B:=B,F0:=F0,RX:=λ_ _ _=>False,RM:=RM}
variable{RM:SD->MS->XD}
def Kept.reM(k:Kept J.B F0 F H):@Kept (jTry J.B F0 RM).toJx J.B F0 F H:=@Kept.mk (jTry J.B F0 RM).toJx J.B F0 F H k.bh k.fh k.f0 k.out rfl (Same.refl F0) (λ_ h _=>h)
def Kept.unM{F' H':Hp}(k:Kept J.B F0 F H)(k':@Kept (jTry J.B F0 RM).toJx J.B F0 F' H'):Kept J.B F0 F' H':=by
 obtain⟨a,b,c,d,_,_,_⟩:=k';exact#[a,b,c,d,k.eb,k.jf,k.jo]
def vn{body:List U7}{h₀:VE}{hs:List VE}{pos:Vf}{tb:Jm->TMS}{th:TH}
  (hb:∀(pn:List (Addr×Vn)) (xe:Os->P3->Prop) (J':Jm),Vs (SZ X.prog X.w) X.A X.env xe->@XOkM (X.tried pn xe) J'->@MSs (X.tried pn xe) J' body (tb J'))
  (hh:∀J':Jx,@WDH X J' (h₀::hs) th) (d9:autoParam (X.ex=[]) zA0) (z9:autoParam (X.stack=X.env::X.outer) zA0) (m4:autoParam (X.env.frame=be X.env.locals) zA0):MSt X (.Try body (h₀::hs) [] [] pos) (mTry tb th):=⟨by
 intro pins s σ H D I h;obtain⟨F0,F,z,M,k,rz,ED,⟨RM,h1,h2⟩,ee⟩:=h;have ok:=I.ok;have hx:@XOkM (X.tried (X.pn++pins) (λe s₁=>U9 (SZ X.prog X.w) X.A (V0 e X.env) (λ_ s₂=>U9 (SZ X.prog X.w) X.A (Wh e LH) (λ_ s₃=>U9 (SZ X.prog X.w) X.A (Wo e X.env (h₀::hs)) (SP X pins D) X.xe s₃) X.xe s₂) X.xe s₁)) (jTry J.B F0 RM):=by
  intro σ' z' M' F' H' s' e C od x fs I1 kk rr hR er hd;have k2:Kept J.B F0 F' H':=Kept.unM k kk;exact AC (Inv.untried ok I1) hd d9 z9 m4 λs4 T2 I4 hl=>@WDH.out X (jOf J.B H' F' M') _ _ (hh _) pins s4 σ' H' D e C od T2 x fs (ofB J.B H' M') F' F' z' (endD ED M') I4 hl (BI k2) (iA rr.rs rr.no) er (h2 z' M' x fs hR) (BJ k2 rr ee)
 refine wpAny_Try_except (Vk (@MSs.out _ (jTry J.B F0 RM) _ _ (hb (X.pn++pins) _ (jTry J.B F0 RM) PassesOwn.looking hx) [] s σ H D (Inv.tried I) ?_) (λf s1 q=>?_) λe s1 q=>q)
 .exact#[F0,F,z,M,Kept.reM k,rz,ED,h1 (jTry J.B F0 RM) rfl,@EndsOkM.mk (jTry J.B F0 RM) _ _ _ _ (λz' s' M' F' H' k'=>ee.nx z' s' M' F' H' (Kept.unM k k')) (λd v M' F' H' k'=>ee.rt d v M' F' H' (Kept.unM k k')) (λz' s' M' F' H' k'=>ee.bk z' s' M' F' H' (Kept.unM k k')) (λz' s' M' F' H' k'=>ee.ct z' s' M' F' H' (Kept.unM k k'))]
 .have q:=SP.untried ok q;cases f with
  |next=>exact VP q
  |ret v=>exact q
  |brk=>exact q
  |cont=>exact q⟩
end
end My
namespace My
section
variable {K:Ex}{h:Heap}{mg:Ms->Option Os}{x y m q f:Ms}{st:U7}{ps:List Ms}
abbrev NsC(K:Ex)(x:Ms)(C:Addr):Prop:=nsIn K SB x=be (be (.ref C))
variable{C:Addr}
def NsC.uniq{D:Addr}(a:NsC K x C)(b:NsC K x D):C=D:=by
 have e:=a.symm.trans b;cases e;rfl
abbrev BindA(x q:Ms)(st:U7)(ps:List Ms):Prop:=∀(kV doc pm:Os) (an:Option Addr) (cdv ct:Os) (us:List Os),us.length=ps.length->VN (fnOf x q (bA st) (aK st) (ah st) .none kV doc pm an cdv ct) #[us,[]]=pure (ps.zip us)
def FnIn(K:Ex)(x:Ms)(st:U7):Prop:=∃f fd,NsC K x f/\Fun K x x st f fd
variable{oc kV dc pm cd ct:Os}{od an:Option Addr}{sl:Array (Option Os)}
def fnIn_mk{f:Addr}(a:nsIn K SB x=be (be (.ref f)))(l:K.lookup f=be #[oc,od,.func (fnOf x x (bA st) (aK st) (ah st) .none kV dc pm an cd ct),sl])(c:codeIn K cd x=true)(k:keepIn K (.ref f)=true):FnIn K x st:=#[f,_,a,gU l c k]
def FnIn.tx(T:FnIn K x st)(X:K.In h)(G:h.Ns SB mg)(b:BindA x x st ps):Tx K mg x st ps:=by
 obtain⟨f,fd,a,F⟩:=T;exact#[f,fd,F,F.binds b,mg_of X G a]
def FnIn.law{p:Ms}(T:FnIn K x st)(X:K.In h)(G:h.Ns SB mg){fa:Addr}(MK:mg x=be (.ref fa))(b:∀(kV doc pm:Os) (an:Option Addr) (cdv ct v:Os),VN (fnOf x x (bA st) (aK st) (ah st) .none kV doc pm an cdv ct) #[[v],[]]=pure [(p,v)]):∃fd,(∀(s:P3) (v:Os),V4 s fd #[[v],[]] [(p,v)])/\Fun K x x st fa fd:=by
 obtain⟨f,fd,a,F⟩:=T;have e:=MK.symm.trans (mg_of X G a);cases e;refine#[fd,λs v=>?_,F];obtain⟨oc,od,kV,doc,pm,an,cdv,ct,osl,rfl,lk,g5⟩:=F.ex;exact .of_eq (b _ _ _ _ _ _ v)
variable{us:List Os}
def br{x:Ms}{xs:List Ms}(h:us.length=(x::xs).length):∃u t,us=u::t/\t.length=xs.length:=by
 cases us with
 |nil=>cases h
 |cons u t=>exact#[u,t,rfl,Nat.succ.inj h]
def len_0(h:us.length=([]:List Ms).length):us=[]:=JY h
variable{x0:Ms}
def BK(b:∀(kV doc pm:Os) (an:Option Addr) (cdv ct u0:Os),VN (fnOf x q (bA st) (aK st) (ah st) .none kV doc pm an cdv ct) #[[u0],[]]=pure [(x0,u0)]):BindA x q st [x0]:=λkV doc pm an cdv ct us hl=>by
 obtain⟨u0,t0,rfl,h0⟩:=br hl;cases len_0 h0;exact b kV doc pm an cdv ct u0
variable{x1:Ms}
def bind2(b:∀(kV doc pm:Os) (an:Option Addr) (cdv ct u0 u1:Os),VN (fnOf x q (bA st) (aK st) (ah st) .none kV doc pm an cdv ct) #[[u0,u1],[]]=pure [(x0,u0),(x1,u1)]):BindA x q st [x0,x1]:=λkV doc pm an cdv ct us hl=>by
 obtain⟨u0,t0,rfl,h0⟩:=br hl;obtain⟨u1,t1,rfl,h1⟩:=br h0;cases len_0 h1;exact b kV doc pm an cdv ct u0 u1
variable{x2:Ms}
def bind3(b:∀(kV doc pm:Os) (an:Option Addr) (cdv ct u0 u1 u2:Os),VN (fnOf x q (bA st) (aK st) (ah st) .none kV doc pm an cdv ct) #[[u0,u1,u2],[]]=pure [(x0,u0),(x1,u1),(x2,u2)]):BindA x q st [x0,x1,x2]:=λkV doc pm an cdv ct us hl=>by
 obtain⟨u0,t0,rfl,h0⟩:=br hl;obtain⟨u1,t1,rfl,h1⟩:=br h0;obtain⟨u2,t2,rfl,h2⟩:=br h1;cases len_0 h2;exact b kV doc pm an cdv ct u0 u1 u2
variable{x3:Ms}
def bind4(b:∀(kV doc pm:Os) (an:Option Addr) (cdv ct u0 u1 u2 u3:Os),VN (fnOf x q (bA st) (aK st) (ah st) .none kV doc pm an cdv ct) #[[u0,u1,u2,u3],[]]=pure [(x0,u0),(x1,u1),(x2,u2),(x3,u3)]):BindA x q st [x0,x1,x2,x3]:=λkV doc pm an cdv ct us hl=>by
 obtain⟨u0,t0,rfl,h0⟩:=br hl;obtain⟨u1,t1,rfl,h1⟩:=br h0;obtain⟨u2,t2,rfl,h2⟩:=br h1;obtain⟨u3,t3,rfl,h3⟩:=br h2;cases len_0 h3;exact b kV doc pm an cdv ct u0 u1 u2 u3
def bind5{x4:Ms}(b:∀(kV doc pm:Os) (an:Option Addr) (cdv ct u0 u1 u2 u3 u4:Os),VN (fnOf x q (bA st) (aK st) (ah st) .none kV doc pm an cdv ct) #[[u0,u1,u2,u3,u4],[]]=pure [(x0,u0),(x1,u1),(x2,u2),(x3,u3),(x4,u4)]):BindA x q st [x0,x1,x2,x3,x4]:=λkV doc pm an cdv ct us hl=>by
 obtain⟨u0,t0,rfl,h0⟩:=br hl;obtain⟨u1,t1,rfl,h1⟩:=br h0;obtain⟨u2,t2,rfl,h2⟩:=br h1;obtain⟨u3,t3,rfl,h3⟩:=br h2;obtain⟨u4,t4,rfl,h4⟩:=br h3;cases len_0 h4;exact b kV doc pm an cdv ct u0 u1 u2 u3 u4
def bind6{x4 x5:Ms}(b:∀(kV doc pm:Os) (an:Option Addr) (cdv ct u0 u1 u2 u3 u4 u5:Os),VN (fnOf x q (bA st) (aK st) (ah st) .none kV doc pm an cdv ct) #[[u0,u1,u2,u3,u4,u5],[]]=pure [(x0,u0),(x1,u1),(x2,u2),(x3,u3),(x4,u4),(x5,u5)]):BindA x q st [x0,x1,x2,x3,x4,x5]:=λkV doc pm an cdv ct us hl=>by
 obtain⟨u0,t0,rfl,h0⟩:=br hl;obtain⟨u1,t1,rfl,h1⟩:=br h0;obtain⟨u2,t2,rfl,h2⟩:=br h1;obtain⟨u3,t3,rfl,h3⟩:=br h2;obtain⟨u4,t4,rfl,h4⟩:=br h3;obtain⟨u5,t5,rfl,h5⟩:=br h4;cases len_0 h5;exact b kV doc pm an cdv ct u0 u1 u2 u3 u4 u5
structure ClF(K:Ex)(x:Str)(C:Addr):Prop where
 ns:NsC K x C
 cl:Cls K C
 ha:HR K (.ref C) "__class__"=be (be (.builtin "object.__class__"))
 hn:IN K (.builtin "object.__class__") "__get__"=be (be (.builtin "getset_descriptor.__get__"))
 ht:Jn K (.builtin "object.__class__")=be true
 hm:IB K C (.type "object")=be true
def ClIn(K:Ex)(x:Ms):Prop:=∃C,ClF K x C
def clIn_mk(a:nsIn K SB x=be (be (.ref C)))(pg:plainGet K C Str.empty=true)(hd:hasDictIn K C=true)(po:plainOver K C=true)(sa:HR K (.ref C) "__setattr__"=be (be (.builtin "object.__setattr__")))
  (ha:HR K (.ref C) "__class__"=be (be (.builtin "object.__class__"))) (hn:IN K (.builtin "object.__class__") "__get__"=be (be (.builtin "getset_descriptor.__get__"))) (ht:Jn K (.builtin "object.__class__")=be true) (hm:IB K C (.type "object")=be true):ClIn K x:=#[C,a,#[pg,hd,po,sa],ha,hn,ht,hm]
def NoIn(K:Ex)(x f:Ms):Prop:=∃C,NsC K x C/\HR K (.ref C) f=be LH
def noIn_mk(a:nsIn K SB x=be (be (.ref C)))(b:HR K (.ref C) f=be LH):NoIn K x f:=#[C,a,b]
def ClIn.a(c:ClIn K x)(n:NoIn K x f):ClsA K x f:=by
 obtain⟨C,k⟩:=c;obtain⟨D,a,b⟩:=n;cases NsC.uniq k.ns a;exact#[C,a,k.cl,b]
def NoIn.all(n:NoIn K x f):∀C,nsIn K SB x=be (be (.ref C))->HR K (.ref C) f=be none:=λC hC=>by
 obtain⟨D,a,b⟩:=n;cases NsC.uniq hC a;exact b
def MtIn(K:Ex)(x m q:Ms)(st:U7):Prop:=∃C f fd,NsC K x C/\Meth K C m f/\Fun K m q st f fd
def mtIn_mk{f:Addr}(a:nsIn K SB x=be (be (.ref C)))(b:HR K (.ref C) m=be (be (.ref f)))(i:isFn K (.ref f)=true)(l:K.lookup f=be #[oc,od,.func (fnOf m q (bA st) (aK st) (ah st) .none kV dc pm an cd ct),sl])(c:codeIn K cd q=true)(k:keepIn K (.ref f)=true):MtIn K x m q st:=#[C,f,_,a,#[b,i,k],gU l c k]
def MtIn.txm(T:MtIn K x m q st)(c:ClIn K x)(b:BindA m q st ps):Txm K x m q st ps:=by
 obtain⟨C,k⟩:=c;obtain⟨D,f,fd,a,mt,F⟩:=T;cases NsC.uniq k.ns a;exact#[C,f,fd,a,k.cl,mt,F,F.binds b]
def InIn(K:Ex)(x q:Ms)(st:U7):Prop:=∃C f fd,NsC K x C/\Mk K C f/\Fun K "__init__" q st f fd
def inIn_mk{f:Addr}(a:nsIn K SB x=be (be (.ref C)))(mk:makesIn K C=true)(b:HR K (.ref C) "__init__"=be (be (.ref f)))(i:isFn K (.ref f)=true)(kp:keepIn K (.ref C)=true)(l:K.lookup f=be #[oc,od,.func (fnOf "__init__" q (bA st) (aK st) (ah st) .none kV dc pm an cd ct),sl])(c:codeIn K cd q=true)(k:keepIn K (.ref f)=true):InIn K x q st:=#[C,f,_,a,#[mk,b,i,kp],gU l c k]
def Txi(K:Ex)(mg:Ms->Option Os)(x q:Ms)(st:U7)(ps:List Ms):Prop:=∃C f fd,NsC K x C/\mg x=be (.ref C)/\Mk K C f/\Fun K "__init__" q st f fd/\Binds K fd ps []
def InIn.txi(T:InIn K x q st)(X:K.In h)(G:h.Ns SB mg)(b:BindA "__init__" q st ps):Txi K mg x q st ps:=by
 obtain⟨C,f,fd,a,mk,F⟩:=T;exact#[C,f,fd,a,mg_of X G a,mk,F,F.binds b]
def CiIn(K:Ex)(x:Ms)(i:Int):Prop:=∃t,nsIn K SB x=be (be (.int i t))
def CsIn(K:Ex)(x y:Ms):Prop:=∃t,nsIn K SB x=be (be (.str y t))
def ciIn_mk{i:Int}{t:W4}(a:nsIn K SB x=be (be (.int i t))):CiIn K x i:=#[t,a]
def csIn_mk{t:W4}(a:nsIn K SB x=be (be (.str y t))):CsIn K x y:=#[t,a]
def CiIn.g{i:Int}(c:CiIn K x i)(X:K.In h)(G:h.Ns SB mg):∃t,mg x=be (.int i t):=let ⟨t,a⟩:=c;#[t,mg_of X G a]
def CsIn.g(c:CsIn K x y)(X:K.In h)(G:h.Ns SB mg):∃t,mg x=be (.str y t):=let ⟨t,a⟩:=c;#[t,mg_of X G a]
def NnIn(K:Ex)(x:Ms):Prop:=nsIn K SB x=be LH
def nnIn_mk(a:nsIn K SB x=be LH):NnIn K x:=a
structure ErF(K:Ex)(x:Str)(bm:List Os)(C N:Addr):Prop where
 ns:NsC K x C
 kp:keepIn K (.ref C)=true
 ob:∃nm q bs sn sub ab col dd k0 k1 k2 k3 k5,K.lookup C=be (Vq nm q C N bs bm true sn sub ab col dd k0 k1 k2 k3 k5 "ValueError.__new__")
structure ErN(K:Ex)(N:Addr):Prop where
 ok:nsOkIn K N=true
 no:nsIn K N "__init__"=be LH
def EbIn(K:Ex):Prop:=∃C N,ErF K "MotifError" Exc.veLine C N/\ErN K N
def EdIn(K:Ex)(x:Ms)(C N:Addr):Prop:=∃B,NsC K "MotifError" B/\ErF K x (.ref B::Exc.veLine) C N
def E0In(K:Ex)(x:Ms):Prop:=∃C N,EdIn K x C N/\ErN K N
def E1In(K:Ex)(x q:Ms)(st:U7):Prop:=∃C N f fd,EdIn K x C N/\HR K (.ref C) "__init__"=be (be (.ref f))/\isFn K (.ref f)=true/\Fun K "__init__" q st f fd
def EaIn(K:Ex)(x:Ms):Prop:=∃C,NsC K x C/\HR K (.ref C) "__setattr__"=be (be (.builtin "object.__setattr__"))
def EgIn(K:Ex)(x:Ms):Prop:=∃C,NsC K x C/\HR K (.ref C) "__getattribute__"=be (be (.builtin "BaseException.__getattribute__"))/\HR K (.ref C) "__getattr__"=be LH
def EiIn(K:Ex)(x:Ms):Prop:=∃M,NsC K x M/\readsIn K M (.type "type")=true/\findCls K (.ref M) (.type "type") "__init__"=be (.val (.builtin "ValueError.__init__"))/\IN K (.ref M) "__getattribute__"=be (be (.builtin "type.__getattribute__"))
def EmIn(K:Ex)(x y:Ms):Prop:=∃C D,NsC K x C/\NsC K y D/\IB K C (.ref D)=be (subE x y)
section
variable {B C D N:Addr}{nm qn:Ms}{bs:List Os}{sn:List Ms}{sub:List Os}{ab:Bool}{col:Option Bool}{dd:Option Addr}{k0 k1 k2 k3 k5:Option Os}{nc:Os}{nd:Option Addr}{ne:Array DictEntry}{np:Nat}{nl:Array (Option Os)}
def ebIn_mk(a:nsIn K SB "MotifError"=be (be (.ref C)))(kp:keepIn K (.ref C)=true)(o:K.lookup C=be (Vq nm qn C N bs Exc.veLine true sn sub ab col dd k0 k1 k2 k3 k5 "ValueError.__new__"))(nk:K.lookup N=be #[nc,nd,.dict ne np,nl])(al:ne.toList.all (λe=>match e.key with|.str _ _=>true|_=>false)=true)(ni:nsIn K N "__init__"=be LH):EbIn K:=#[C,N,#[a,kp,_,_,_,_,_,_,_,_,_,_,_,_,_,o],um nk al,ni]
def e0In_mk(b:nsIn K SB "MotifError"=be (be (.ref B)))(a:nsIn K SB x=be (be (.ref C)))(kp:keepIn K (.ref C)=true)(o:K.lookup C=be (Vq nm qn C N bs (.ref B::Exc.veLine) true sn sub ab col dd k0 k1 k2 k3 k5 "ValueError.__new__"))(nk:K.lookup N=be #[nc,nd,.dict ne np,nl])(al:ne.toList.all (λe=>match e.key with|.str _ _=>true|_=>false)=true)(ni:nsIn K N "__init__"=be LH):E0In K x:=#[C,N,#[B,b,a,kp,_,_,_,_,_,_,_,_,_,_,_,_,_,o],um nk al,ni]
def e1In_mk{f:Addr}{oc:Os}{od an:Option Addr}{sl:Array (Option Os)}{kV dc pm cd ct:Os}(b:nsIn K SB "MotifError"=be (be (.ref B)))(a:nsIn K SB x=be (be (.ref C)))(kp:keepIn K (.ref C)=true)(o:K.lookup C=be (Vq nm qn C N bs (.ref B::Exc.veLine) true sn sub ab col dd k0 k1 k2 k3 k5 "ValueError.__new__"))
  (j:HR K (.ref C) "__init__"=be (be (.ref f))) (i:isFn K (.ref f)=true) (l:K.lookup f=be #[oc,od,.func (fnOf "__init__" q (bA st) (aK st) (ah st) .none kV dc pm an cd ct),sl]) (c:codeIn K cd q=true) (k:keepIn K (.ref f)=true):E1In K x q st:=#[C,N,f,_,#[B,b,a,kp,_,_,_,_,_,_,_,_,_,_,_,_,_,o],j,i,gU l c k]
def eaIn_mk(a:nsIn K SB x=be (be (.ref C)))(b:HR K (.ref C) "__setattr__"=be (be (.builtin "object.__setattr__"))):EaIn K x:=#[C,a,b]
def egIn_mk(a:nsIn K SB x=be (be (.ref C)))(b:HR K (.ref C) "__getattribute__"=be (be (.builtin "BaseException.__getattribute__")))(c:HR K (.ref C) "__getattr__"=be LH):EgIn K x:=#[C,a,b,c]
def eiIn_mk(a:nsIn K SB x=be (be (.ref C)))(b:readsIn K C (.type "type")=true)(c:findCls K (.ref C) (.type "type") "__init__"=be (.val (.builtin "ValueError.__init__")))(d:IN K (.ref C) "__getattribute__"=be (be (.builtin "type.__getattribute__"))):EiIn K x:=#[C,a,b,c,d]
def emIn_mkT(e:subE x y=true)(a:nsIn K SB x=be (be (.ref C)))(c:nsIn K SB y=be (be (.ref D)))(d:IB K C (.ref D)=be true):EmIn K x y:=#[C,D,a,c,e ▸ d]
def emIn_mkF(e:subE x y=false)(a:nsIn K SB x=be (be (.ref C)))(c:nsIn K SB y=be (be (.ref D)))(d:IB K C (.ref D)=be false):EmIn K x y:=#[C,D,a,c,e ▸ d]
end
def EbIn.k(e:EbIn K)(X:K.In h)(G:h.Ns SB mg):∃C N bm,ErrK K mg "MotifError" C N bm/\ErrN K N:=by
 obtain⟨C,N,k,n⟩:=e;exact#[C,N,_,#[k.ns,mg_of X G k.ns,k.kp,k.ob,ul],n.ok,n.no]
def EdIn.k{N:Addr}(e:EdIn K x C N)(b:EbIn K)(X:K.In h)(G:h.Ns SB mg):∃bm,ErrK K mg x C N bm:=by
 obtain⟨B,hB,k⟩:=e;obtain⟨B',N',kb,n⟩:=b;cases NsC.uniq kb.ns hB;obtain⟨_,_,_,_,_,_,_,_,_,_,_,_,_,o⟩:=kb.ob;exact#[_,k.ns,mg_of X G k.ns,k.kp,k.ob,AE o rfl n.ok n.no]
def E0In.k(e:E0In K x)(b:EbIn K)(X:K.In h)(G:h.Ns SB mg):∃C N bm,ErrK K mg x C N bm/\ErrN K N:=by
 obtain⟨C,N,k,n⟩:=e;obtain⟨bm,z⟩:=k.k b X G;exact#[C,N,bm,z,n.ok,n.no]
def Txe(K:Ex)(mg:Ms->Option Os)(x q:Ms)(st:U7)(ps:List Ms):Prop:=∃C N bm f fd,ErrK K mg x C N bm/\HR K (.ref C) "__init__"=be (be (.ref f))/\isFn K (.ref f)=true/\Fun K "__init__" q st f fd/\Binds K fd ps []
def E1In.txe(e:E1In K x q st)(b:EbIn K)(X:K.In h)(G:h.Ns SB mg)(bi:BindA "__init__" q st ps):Txe K mg x q st ps:=by
 obtain⟨C,N,f,fd,k,i,j,F⟩:=e;obtain⟨bm,z⟩:=k.k b X G;exact#[C,N,bm,f,fd,z,i,j,F,F.binds bi]
def ErrK.a'{N:Addr}{bm:List Os}(k:ErrK K mg x C N bm)(a:EaIn K x):∃C cd,ErrA K x C cd:=by
 obtain⟨D,hD,sa⟩:=a;cases NsC.uniq k.ns hD;exact#[C,k.a sa]
def E1In.a(e:E1In K x q st)(b:EbIn K)(a:EaIn K x)(X:K.In h)(G:h.Ns SB mg):∃C cd,ErrA K x C cd:=by
 obtain⟨C,N,f,fd,k,_⟩:=e;obtain⟨bm,z⟩:=k.k b X G;exact z.a' a
def E1In.c(e:E1In K x q st)(b:EbIn K)(X:K.In h)(G:h.Ns SB mg):∃C N bm,ErrK K mg x C N bm:=by
 obtain⟨C,N,f,fd,k,_⟩:=e;obtain⟨bm,z⟩:=k.k b X G;exact#[C,N,bm,z]
def EiIn.b(e:EiIn K x)(X:K.In h)(G:h.Ns SB mg):∃M,BaseK K mg x M:=by
 obtain⟨M,a,b,c,d⟩:=e;exact#[M,mg_of X G a,b,c,d]
def EgIn.g(e:EgIn K x)(a:∃C cd,ErrA K x C cd)(n:NoIn K x f):ErrG K f x:=by
 obtain⟨C,h1,h2,h3⟩:=e;obtain⟨D,cd,ea⟩:=a;cases NsC.uniq ea.ns h1;exact#[C,cd,ea,h2,h3,n.all C h1]
def AllP(p:Ms->Prop):List Ms->Prop
 |[]=>True
 |a::l=>p a/\AllP p l
def AllP.mem{p:Ms->Prop}:∀{l:List Ms},AllP p l->∀x∈l,p x
 |_::_,h,_,.head _=>h.1
 |_::_,h,_,.tail _ m=>AllP.mem h.2 _ m
def BL{es:List Ms}(c:AllP (λx=>∃C N bm,ErrK K mg x C N bm) es)(s:AllP (λx=>AllP (λy=>EmIn K x y) es) es):ErrsK K mg es:=by
 refine#[c.mem,λx hx y hy C C' h1 h2=>?_];obtain⟨A,B,a,b,m⟩:=(s.mem x hx).mem y hy;cases NsC.uniq a h1;cases NsC.uniq b h2;exact m
end
structure Bx where
 P:U8
 w:U_
 K:Ex
 mg:Ms->Option Os
 base:Heap
abbrev Bx.T(V:Bx)(x:Ms)(st:U7)(ps:List Ms):Prop:=Tx V.K V.mg x st ps
abbrev Bx.Tm(V:Bx)(x m q:Ms)(st:U7)(ps:List Ms):Prop:=Txm V.K x m q st ps
abbrev Bx.Ti(V:Bx)(x q:Ms)(st:U7)(ps:List Ms):Prop:=Txi V.K V.mg x q st ps
abbrev Bx.Te(V:Bx)(x q:Ms)(st:U7)(ps:List Ms):Prop:=Txe V.K V.mg x q st ps
abbrev Bx.Ek(V:Bx)(es:List Ms):Prop:=ErrsK V.K V.mg es
abbrev Bx.m(V:Bx)(x:Ms):Prop:=V.mg x=LH
abbrev Bx.gi(V:Bx)(x:Ms)(i:Int):Prop:=∃t,V.mg x=be (.int i t)
abbrev Bx.gs(V:Bx)(x y:Ms):Prop:=∃t,V.mg x=be (.str y t)
abbrev Bx.a(V:Bx)(x f:Ms):Prop:=ClsA V.K x f
abbrev Bx.D(V:Bx)(n:Nat)(x:Ms)(ps:List Ms)(S:SpD):Prop:=CalD V.P V.w V.K V.mg V.base n x ps S
abbrev Bx.X(V:Bx)(n:Nat)(x:Ms)(ps:List Ms)(S:SpX):Prop:=CalX V.P V.w V.K V.mg V.base n x ps S
abbrev Bx.MM(V:Bx)(n:Nat)(x:Ms)(ps:List Ms)(S:SpM):Prop:=CalMM V.P V.w V.K V.mg V.base n x ps S
abbrev Bx.M(V:Bx)(n:Nat)(x:Ms)(ps:List Ms)(S:SiD):Prop:=CalM V.P V.w V.K V.mg V.base n x ps S
abbrev Bx.E(V:Bx)(n:Nat)(x:Ms)(ps:List Ms)(S:SiD):Prop:=CalE V.P V.w V.K V.mg V.base n x ps S
abbrev Bx.Q(V:Bx)(n:Nat)(x m:Ms)(ps:List Ms)(S:SpM):Prop:=CalMth V.P V.w V.K V.mg V.base n x m ps (lSpM V.K S)
abbrev Bx.n(V:Bx)(x:Ms):Prop:=∃C N bm,ErrK V.K V.mg x C N bm/\ErrN V.K N
abbrev Bx.b(V:Bx)(x:Ms):Prop:=∃M,BaseK V.K V.mg x M
abbrev Bx.ea(V:Bx)(x:Ms):Prop:=∃C cd,ErrA V.K x C cd
abbrev Bx.xf(V:Bx)(x f:Ms):Prop:=∀C,nsIn V.K SB x=be (be (.ref C))->HR V.K (.ref C) f=be LH
abbrev Bx.x(V:Bx)(f:Ms)(ys:List Ms):Prop:=∀y∈ys,ErrG V.K f y
section
variable {P:U8}{w:U_}{K:Ex}{mg:Ms->Option Os}{base:Heap}
variable{x qual p0:Ms}{st:U7}{N ps:List Ms}{k:Nat}{S:SiD}
def Txi.okI(T:Txi K mg x qual st (p0::ps))(F:FnScope (p0::N) (p0::ps) (ah st))(len:∀ds R,S ds R->ds.length=ps.length)
  (a8:∀(f:Addr) (cdv:Os) (A:Va) (outer:List VS) (s:P3) (H:Hp) (E:XK) (J:Jx),Room k (A.deeper (Vh qual (ah st) s.heap.objs.size f cdv))->
   ∃t,WDI (cxOf (Exc.CX1 P w) P w K mg base (p0::N) qual (ah st) f cdv A outer s H E).nox x (aK st) t/\∀ds R,S ds R->t (LH::startD N ds) [] R):CalM P w K mg base (k+1) x (p0::ps) S:=by
 obtain⟨C,f,fd,a,b,c,d,e⟩:=T;exact Cls.okIW d e F len a b c (a8 f)
def Txi.okIM(T:Txi K mg x qual st (p0::ps))(F:FnScope N (p0::ps) (ah st))(len:∀ds R,S ds R->ds.length=ps.length)
  (a8:∀(f:Addr) (cdv:Os) (A:Va) (outer:List VS) (s:P3) (H:Hp) (E:XK) (J:Jm),Room k (A.deeper (Vh qual (ah st) s.heap.objs.size f cdv))->XOkM (cxOf (Exc.CX1 P w) P w K mg base N qual (ah st) f cdv A outer s H E).nox->
   ∃t,MSs (cxOf (Exc.CX1 P w) P w K mg base N qual (ah st) f cdv A outer s H E).nox (aK st) t/\∀a ds R,(∀z M x fs,¬J.RM z M x fs)->S ds R->t {nx:=λ_ M'=>∃fs,M'=[(a,.ins x fs)]/\R fs,rt:=λ_ _=>False} (startD N (.ptr a::ds)) [(a,.ins x [])]):CalM P w K mg base (k+1) x (p0::ps) S:=by
 obtain⟨C,f,fd,a,b,c,d,e⟩:=T;exact Cls.okIM d e F len a b c (a8 f)
def Txe.okE(T:Txe K mg x qual st (p0::ps))(F:FnScope (p0::N) (p0::ps) (ah st))(len:∀ds R,S ds R->ds.length=ps.length)
  (a8:∀(f:Addr) (cdv:Os) (A:Va) (outer:List VS) (s:P3) (H:Hp) (E:XK) (J:Jx),Room k (A.deeper (Vh qual (ah st) s.heap.objs.size f cdv))->
   ∃t,WDX (cxOf (Exc.CX1 P w) P w K mg base (p0::N) qual (ah st) f cdv A outer s H E).nox x (aK st) t/\∀ds R,S ds R->t (LH::startD N ds) [] R):CalE P w K mg base (k+1) x (p0::ps) S:=by
 obtain⟨C,N',bm,f,fd,a,b,c,d,e⟩:=T;exact Cls.okEW d e F len a b c (a8 f)
end
section
variable {X:Cx}[J:Jx]{a b c e o h_ iter:U6}{es:List U6}{ta tb tc te to ti tj:TD}{tt:TDT}{t:TDA}{pos px:Vf}{x:Ms}{scope:VA}
def vo(ix:Nat)(LR:TDI)(te:TD):TSD:=λE z=>LR z (cmpP te z λd=>match d with|.lst ys=>E.nx (z.set ix (be (.own ys)))|_=>False)
def BM{K:Ex}{E:Ends}{s:L2.St}{H:Hp}{ix:Nat}{wi:TI}{LR:TDI}(hI:ItOk K wi LR)(q:lS K (vo ix LR te) E s H):tAsg (gk wi (lT K dT1) (lE K te)) (fQ ix) E s H:=by
 obtain⟨B,F0,F,z,k,rs,ED,h,e⟩:=q;refine hI k.kf rs h λitems J F1 H1 g1 hg it=>tV (Q:=λv H=>E.nx (s.set ix (be v)) H) k.kf g1 rs (λD ys us F' H' hH hF GG hu ry hR=>?_) it (cmpP.g hg);have r2:=(rs.grow GG).setOwn (i:=ix) (a:=D) (k.bh.free hH) hF ry λj dj _ q1 q2=>by
  obtain⟨a,vs,p1,p2,_⟩:=rs.own j dj q1;rw[p1]at q2;cases q2;rw[hH]at p2;cases p2
 rw[uh hu]at r2;exact e.nx _ _ F' H' (k.grow GG) hR r2
def BN(ix:Nat){y:Ms}{py m9:Vf}(hc:X.calm=true)(S:CompScope X scope x)(hN:X.N.Nodup)(hi:WDE X iter ti)(he:∀cl s₀ H₀ fp,WDE (cf X scope cl x s₀ H₀ fp) h_ te)(NY:autoParam (X.N[ix]?=be y) zA0)(hy:autoParam (Loc X.env.scope y) zA4)
  (hf:autoParam (zFN X y) zA2) (LN:autoParam (Vl (.ListComp h_ [#[.Name x px,iter,[],0]] scope pos) (be (.Name y py)) m9.line X.env=pure true) zA0) (hs:autoParam (∀y,zFS X iter y) zA3):
  WDS X (.Assign [.Name y py] (.ListComp h_ [#[.Name x px,iter,[],0]] scope pos) m9) (vo ix (dItS ti) te):=#[(tU hc S (ut hi.out) (λ_ _ _ _=>kW) (λa b c d=>(he a b c d).out) hN NY hy hf LN hs).anti λE s H q=>BM itS q]
def HK:RDn:=λds R=>match ds with|[.lst xs]=>∃ns:List Int,xs=ns.map D.int/\0<ns.length/\∀m,m∈ns->(∀a∈ns,m<=a)->R (.int m)|_=>False
def HL:RDn:=λds R=>match ds with|[.lst xs]=>R (.tup xs)|[.tup xs]=>R (.tup xs)|_=>False
def rSCount:RTx:=λy ds R=>match ds with|[.str p]=>R (.int (Builtin.Str.occurrences y p 0 y.length (y.length+1)).length)|_=>False
def BO:MtS X "str.count" rSCount:=by
 refine#[λx vs H Q=>∃y p,x=.str y/\vs=[.str p]/\Q (.int (Builtin.Str.occurrences y p 0 y.length (y.length+1)).length) H,?_,?_]
 .intro pins s σ H x vs v us Q I rx rv h;obtain⟨y,p,rfl,rfl,q⟩:=h;obtain⟨t,rfl⟩:=rx;obtain⟨u,rfl,t',rfl⟩:=ce rv;exact SC.count #[.int _,H,I.tok _,#[_,rfl],q]
 .intro y ds vs F H R Q r h q;unfold rSCount at h;split at h
  .obtain⟨v,vr,rfl,h1,h2⟩:=reps_cons.mp r;rw[reps_nil.mp h2,rep_str.mp h1];exact#[_,_,rfl,rfl,q _ _ (λ_=>rep_int.mpr rfl) h]
  .exact h.elim
def vp{apos cpos:Vf}(ho:WDE X o to)(ha:WDA X [e] t)(b7:autoParam (Vc o "count" X.env (Vd o X.env)=Vd o X.env) zA0)
  (d6:autoParam (zHF X cpos [e]) zA0)
  (b_:autoParam ((apos.endLine==cpos.line)=true) zA0) (hs:autoParam (zSE X e []) zA0):WDE X (.Call (.Attribute o "count" apos) [e] [] cpos) (dTx rSCount to t):=#[kY PySem.F.slot_str_count PySem.F.type_str_count BO ho.out ha.out b7 d6 b_ hs]
def BP(is:List Nat)(ti:TDI)(tb:TSD):TSD:=λE z=>ti z λds=>∃W:Nat->SD->Prop,W 0 z/\(∀(k:Nat) x z,ds[k]?=be x->W k z->tb {E with nx:=W (k+1),ct:=W (k+1),bk:=E.nx} (aW is [.int k,x] z))/\∀z,W ds.length z->E.nx z
variable{is:List Nat}
def BQ{K:Ex}{B F0 F1 H1:Hp}{z:SD}{s:L2.St}{E:Ends}{ED:EndsD}{It':It}{g:TG}{tb:TSD}{N8:TS}{ds:List D}(k1:Kept B F0 F1 H1)(n5:RepS K B F1 H1 z s)(e:EndsOk K B F0 ED E)
  (go:∀k F' H',Same F1 F'->Same F' H'->k<ds.length->It'.go k H') (stop:∀F' H',Same F1 F'->Same F' H'->It'.stop ds.length H')
  (yld:∀k F' H' x H'',Same F1 F'->Same F' H'->k<ds.length->It'.yld k H' x H''->∃T d v,H' T=LH/\x=.ref T/\H''=upd H' T (.tup [.int k,v])/\ds[k]?=be d/\Rep K F' d v)
  (hg:∀(dd:List D) (vs:List V) (T:Addr) (z:SD) (s:L2.St) (F H:Hp) (Q:L2.St->Hp->Prop),dd.length=2->H T=be (.tup vs)->Reps K F dd vs->RepS K B F H z s->(∀s',RepS K B F H (aW is dd z) s'->Q s' H)->g (.ref T) s H Q)
  (Qa:∀E s H,lS K tb E s H->N8 E s H)
  (hd:∃W:Nat->SD->Prop,W 0 z/\(∀(k:Nat) x z,ds[k]?=be x->W k z->tb {ED with nx:=W (k+1),ct:=W (k+1),bk:=ED.nx} (aW is [.int k,x] z))/\∀z,W ds.length z->ED.nx z):
  ∃W:Nat->Nat->L2.St->Hp->Prop,(∃m,W 0 m s H1)/\∀i m σ H,W i m σ H->
   (It'.stop i H/\E.nx σ H)\/(It'.go i H/\∃N:L2.St->Hp->Prop,(∀σ' H',N σ' H'->∃m',m'<m/\W (i+1) m' σ' H')/\∀x H',It'.yld i H x H'->g x σ H' λσ2 H2=>N8 {E with nx:=N,ct:=N,bk:=E.nx} σ2 H2):=by
 obtain⟨W,w0,c8,out⟩:=hd;refine#[λk m s' H'=>m=ds.length-k/\k<=ds.length/\∃F' z',Kept B F0 F' H'/\Same F1 F'/\RepS K B F' H' z' s'/\W k z',#[ds.length,MF,Iq _,F1,z,k1,Same.refl F1,n5,w0],?_];rintro k m s' H'⟨rfl,hk,F',z',k',g',r',w'⟩;by_cases f9:k<ds.length
 .refine .inr #[go k F' H' g' k'.fh f9,λs3 H3=>∃F3 z3,Kept B F0 F3 H3/\Same F1 F3/\RepS K B F3 H3 z3 s3/\W (k+1) z3,λs3 H3 h3=>#[ds.length-(k+1),v4,rfl,f9,h3],λx H'' hy=>?_];obtain⟨T,d,v,hT,rfl,rfl,hd,rd⟩:=yld k F' H' x H'' g' k'.fh f9 hy;have gn:=Grow.new k'.fh hT (.tup [.int k,v]);have k2:=k'.grow gn;have rp:Reps K (upd F' T (.tup [.int k,v])) [.int k,d] [.int k,v]:=reps_cons.mpr #[_,_,rfl,rep_int.mpr rfl,fk (rd.mono gn.ff)];refine hg [.int k,d] _ T z' s' _ _ _ rfl aC rp (r'.grow gn) λs2 M_=>Qa _ _ _ ?_;have gF:Same F1 (upd F' T (.tup [.int k,v])):=g'.trans gn.ff;refine#[B,upd F' T (.tup [.int k,v]),upd F' T (.tup [.int k,v]),_,#[k2.bh,k2.fh,Same.refl _,λb h1 _=>h1,k2.eb,k2.jf.trans k2.f0,λb h1 h2=>k2.out b (k2.jo b h1 h2) h2],M_,_,c8 k d z' hd w',?_];have up:∀{F3 H3:Hp},Kept B (upd F' T (.tup [.int k,v])) F3 H3->Kept B F0 F3 H3:=λk3=>#[k3.bh,k3.fh,k2.f0.trans k3.f0,λb h1 h2=>k3.out b (k2.out b h1 h2) h2,k2.eb,k2.jf,k2.jo];exact#[λz3 s3 F3 H3 k3 h3 r3=>#[F3,z3,up k3,gF.trans k3.f0,r3,h3],λd v F3 H3 k3=>e.rt d v F3 H3 (up k3),λz3 s3 F3 H3 k3=>e.nx z3 s3 F3 H3 (up k3),λz3 s3 F3 H3 k3 h3 r3=>#[F3,z3,up k3,gF.trans k3.f0,r3,h3]]
 .have ek:k=ds.length:=by lia
  subst ek;exact .inl #[stop F' H' g' k'.fh,e.nx z' s' F' H' k' (out z' w') r']
variable{p2:Vf}
def BR{es:List U6}{x1:Nat}{tp p1:Vf}{body:List U7}{tb:TSD}(hp:Vs (SZ X.prog X.w) X.A X.env X.xe)(hc:X.calm=true)(hm:X.mg "enumerate"=LH)(he:WDE X e te)(hG:DGs X es is)(hb:WDSs X body tb)(b8:autoParam (is.length=2) zA0)(hg:autoParam (Gl X "enumerate") zA0)
  (hn:autoParam ((Vb es X.env).length=2) zA0) (l5:autoParam ((Vb es X.env).findIdx? (·.1)=none) zA0)
  (hs:autoParam (∀y,zFS X (.Call (.Name "enumerate" p1) [e] [] p2) y) zA3) (t6:autoParam (zSE X e []) zA0) (g9:autoParam (U' [e] X.env=[(false,Vd e X.env)]) zA0):
  WDS X (.For (.Tuple es x1 tp) (.Call (.Name "enumerate" p1) [e] [] p2) body [] pos) (BP is (dItS te) tb):=by
 obtain⟨ug,N9,kk⟩:=hG;refine#[(db hp hc (vg hg hm (bt he.out pa_nil t6) g9) (gL hc N9 hn l5) hb.out hs).anti λE s H q=>?_];obtain⟨B,F0,F,z,kp,rs,ED,h,e⟩:=q;refine#[B,F,z,kp.kf,rs,_,h,λd v F1 H1 g1 hd rd=>?_];split at hd
 .rename_i x;obtain⟨ha,hd⟩:=hd;have hl:=fA x;refine#[x,by rw[rep_str.mp rd],ha,BQ (It':=Ites x) (kp.grow g1) (rs.grow g1) e (λk F' H' s1 s2 hk=>?_) (λF' H' s1 s2=>?_) (λk F' H' x H'' s1 s2 hk hy=>?_) (λdd n4 T z s F H Q hl hT rp B_ hQ=>?_) (λ_ _ _ h=>h) hd]
  .rw[hl]at hk;exact hk
  .exact hl
  .obtain⟨T,c,hT,e1,e2,hc⟩:=hy;exact#[T,.str #[[c].toArray],.str #[[c].toArray],hT,e1,e2,ik hc,rep_str.mpr rfl]
  .exact#[T,n4,rfl,SqT.of hT,by rw[rp.length];exact hl,kk dd n4 z s B F H Q (by rw[hl,b8]) rp B_ hQ]
 .exact hd.elim
def BS(K:Ex):R2:=λx y H Q=>∃p xs i z,x=.ref p/\y=.int i/\0<=i/\SqL K H p xs/\xs[i.toNat]?=be z/\Q z H
def BT:PGet X (BS X.K):=by
 intro pins s σ H x y v u Q I rx ry h;obtain⟨p,xs,i,z,rfl,rfl,h0,hq,he,q⟩:=h;cases rx;obtain⟨t,rfl⟩:=ry;obtain⟨its,r,pl,hz⟩:=I.list hq;obtain⟨w,ew,i6⟩:=r.get he;have hl:=r.length;have hn:=line63;have hi:=(Ia.mp he).1;exact wpAny_getItem_list pl.isList h0 v4 (by simpa using ew) #[z,H,I,i6,q]
def vq(i:Nat)(ti te:TD):TSD:=λE z=>match z[i]? with
 |some (be (.own ds))=>ti z λy=>(match y with|.int k=>∃n,0<=k/\ds[k.toNat]?=be (.int n)/\te z λd=>(match d with|.int m=>E.nx (z.set i (be (.own (ds.set k.toNat (.int (n+m))))))|_=>False)|_=>False)
 |_=>False
def BU(i:Nat){x:Ms}{p1:Vf}(hb:WDE X b tb)(he:WDE X e te)(hN:autoParam (X.N[i]?=be x) zA0)(hv:autoParam (Vis X.env.scope x) zA5)(hd:autoParam (zND x) zA1)
  (g5:autoParam (zNC x) zA1)
  (ha:autoParam (∀ov iv new,augStore b ov iv new=(do Vv [new,ov,iv] (WA ov iv new);W0 [new,ov,iv] [];pure .next)) zA7):
  WDS X (.AugAssign (.Subscript (.Name x p1) b p2) .Add e pos) (vq i tb te):=⟨(xH (cS hN hv hd g5) hb.out BT he.out xI sq ha).anti λE s H q=>by
 obtain⟨B,F0,F,z,k,rs,ED,h,e⟩:=q;unfold vq at h;split at h
 .rename_i ds ez;obtain⟨a,vs,q1,q2,q3,q4,q5⟩:=rs.own i ds ez;refine#[.ref a,q1,B,F,z,k.kf,rs,_,h,λy w F2 H2 g2 hy ry=>?_];split at hy
  .rename_i k';obtain⟨n,k0,en,hn⟩:=hy;have LQ:F2 a=none:=g2.out a q4 (by rw[q2];exact λz=>nomatch z);obtain⟨v,ev,rv⟩:=q5.get en;refine#[a,vs,_,v,rfl,rep_int.mp ry,k0,SqL.of (g2.hh _ _ q2),ev,B,F2,z,k.kf.grow g2,rs.grow g2,_,hn,λd u F3 H3 g3 hd rd=>?_];split at hd
   .have r2:=(rs.grow g2).grow g3;have k2:=(k.grow g2).grow g3;have OS:F3 a=none:=g3.out a LQ (by rw[g2.hh _ _ q2];exact λz=>nomatch z);rw[rep_int.mp rv,rep_int.mp rd];have f9:=(Ia.mp en).1;refine#[_,_,rfl,rfl,a,vs,_,k'.toNat,rfl,rep_int.mp ry,g3.hh _ _ (g2.hh _ _ q2),by unfold ixN;rw[q5.length,if_pos k0,if_pos v4],?_];obtain⟨k3,r3⟩:=r2.change k2 ez q1 q3 OS (Reps.put (d:=.int _) (v:=.int _) (rep_int.mpr rfl) k'.toNat ((q5.mono g2.ff).mono g3.ff));exact e.nx _ s F3 _ k3 hd r3
   .exact hd.elim
  .exact hy.elim
 .exact h.elim⟩
def BV(i:Nat)(t:TDA):TSD:=λE z=>t z λds=>match ds with
 |[.lst xs]=>E.nx (z.set i (be (.own xs)))
 |[.tup xs]=>E.nx (z.set i (be (.own xs)))
 |_=>False
def BW[Jx](i:Nat){x:Ms}{c7 p:Vf}{t:TDA}(hm:X.mg "list"=LH)(hN:X.N.Nodup)(ha:WDA X [e] t)(hi:autoParam (X.N[i]?=be x) zA0)(hx:autoParam (Loc X.env.scope x) zA4)(hg:autoParam (Gl X "list") zA0)(he:autoParam (zSE X e []) zA0)(hs:autoParam (Vl (.Call (.Name "list" p) [e] [] p2) (be (.Name x c7)) pos.line X.env=pure false) zA0)
  (hf:autoParam (zFN X x) zA2):WDS X (.Assign [.Name x c7] (.Call (.Name "list" p) [e] [] p2) pos) (BV i t):=⟨have ha:=ha.out;(gN hN hi hx (kr sr hg hm PyProof.Rows.boot_list ha Mx Mx he) hs hf).anti λE s H q=>by
 obtain⟨B,F0,F,z,k,rs,ED,h,e⟩:=q;refine#[B,F,z,k.kf,rs,_,h,λds vs F1 H1 g hd rd=>?_];have k1:=k.grow g;have r1:=rs.grow g;have d_:∀{xs:List D} {us:List V},Reps X.K F1 xs us->ED.nx (z.set i (be (.own xs)))->∀l,H1 l=LH->E.nx (s.set i (be (.ref l))) (upd H1 l (.lst us)):=λ{xs us} rr hn p hp=>by
  have hB:B p=none:=k1.bh.free hp;have hF:F1 p=none:=k1.fh.free hp;refine e.nx _ _ F1 _ #[k1.bh.trans (aN hp _),k1.fh.trans (aN hp _),k1.f0,k1.out,k1.eb,k1.jf,k1.jo] hn (r1.setOwn hB hF rr λj dj hj e1 e2=>?_);obtain⟨a,us,q1,q2,_⟩:=r1.own j dj e1;rw[e2]at q1;cases q1;rw[hp]at q2;cases q2
 split at hd
 .obtain⟨v,r,rfl,h1,h2⟩:=reps_cons.mp rd;rw[reps_nil.mp h2];obtain⟨a,us,rfl,hq,rr⟩:=rep_lst.mp h1;exact#[a,us,rfl,.inl (g.fh.seq (SqL.of hq)),d_ rr hd]
 .obtain⟨v,r,rfl,h1,h2⟩:=reps_cons.mp rd;rw[reps_nil.mp h2];obtain⟨a,us,rfl,hq,rr⟩:=rep_tup_mp h1;exact#[a,us,rfl,.inr (g.fh.tup hq),d_ rr hd]
 .exact hd.elim⟩
end
section
variable {X:Cx}[J:Jx]{a b c e o:U6}{es:List U6}{ta tb tc te to:TD}{t:TDA}{pos:Vf}
def rLIx(K:Ex):V->List V->Hp->VK->Prop:=λx vs H Q=>∃l xs y,x=.ref l/\vs=[y]/\SqL K H l xs/\bw y=true/\xs.all bw=true/\xs.findIdx (λw=>eqV w y)<xs.length/\Q (.int (xs.findIdx (λw=>eqV w y):Nat)) H
def BX{x:V}{xs:List V}{us:List Os}(h:Vals xs us)(f:xs.all bw=true):us.findIdx (eqU x)=xs.findIdx λy=>eqV y x:=by
 induction h with
 |nil=>rfl
 |cons r _ ih=>
  rw[IJ,Io]at f;rw[JZ,JZ,gT r f.1,ih f.2]
def BY:MtR X "list.index" (rLIx X.K):=by
 intro pins s σ H x vs v us Q I rx rv h;obtain⟨l,xs,y,rfl,rfl,hq,fy,fs,hj,q⟩:=h;cases rx;obtain⟨u,rfl,ry⟩:=Vals.one rv;obtain⟨its,r,pl,hz⟩:=I.list hq;obtain⟨⟨cls,dd,data,sl⟩,ho,hc,n,hd⟩:=pl.isList;simp only at hc hd;subst hc hd;have e:=BX (x:=y) r fs;have hl:=r.length;rw[<-e]at hj q;have LZ:its.findIdx (eqU y)<its.length:=v4
 have UM:sizeLine<2^63-1:=Mx
 refine Wq PySem.F.slot_list_index #[_,ho,rfl] PySem.F.entry_list_index (PySem.F.args_list_index_2 _ _)
  (SeqAt.list_indexAt l its.toArray n dd sl u (eqU y) (its.findIdx (eqU y)) (by simpa using LZ) v4 ?_ ?_) #[ho,λw hw=>mem_eqAt ry fy r fs w (by simpa using hw),#[.int _,H,I.tok _,#[_,rfl],q]]
 .simpa using List.findIdx_getElem (w:=LZ)
 .intro m hm f9;simpa using List.not_of_lt_findIdx f9
def dLIx(to te:TD):TD:=λz R=>to z λx=>match x with|.lst ys=>te z λy=>(bq y=true/\ys.all bq=true)/\ys.findIdx (λw=>eqF w y)<ys.length/\R (.int (ys.findIdx (λw=>eqF w y):Nat))|_=>False
def BZ{K:Ex}{H:Hp}{x:D}{u:V}(rx:Rep K H x u)(fx:bq x=true){ys:List D}:∀{vs:List V},Reps K H ys vs->ys.all bq=true->vs.findIdx (λw=>eqV w u)=ys.findIdx λy=>eqF y x:=by
 induction ys with
 |nil=>intro vs r _;rw[reps_nil.mp r];rfl
 |cons y ys ih=>
  intro vs r f;obtain⟨v,vr,rfl,r1,r2⟩:=reps_cons.mp r;rw[IJ,Io]at f;rw[JZ,JZ,ih r2 f.2,hU r1 rx f.1 fx]
def B0{apos cpos:Vf}(ho:WDE X o to)(he:WDE X e te)(b7:autoParam (Vc o "index" X.env (Vd o X.env)=Vd o X.env) zA0)
  (d6:autoParam (zHF X cpos [e]) zA0)
  (b_:autoParam ((apos.endLine==cpos.line)=true) zA0) (hs:autoParam (zSE X e []) zA0):WDE X (.Call (.Attribute o "index" apos) [e] [] cpos) (dLIx to te):=⟨(df PySem.F.plainAttrs_list PySem.F.slot_list_index PySem.F.type_list_index BY ho.out (bt he.out pa_nil hs) b7 d6 b_ hs).anti λs H Q q=>by
 obtain⟨B,F,z,kf,rs,R,h1,h2⟩:=q;refine#[B,F,z,kf,rs,_,h1,λx u F1 H1 g1 hx rx=>?_];split at hx
 .obtain⟨l,vs,rfl,hq,rr⟩:=rep_lst.mp rx;refine#[.inl #[rfl,vs,g1.fh.seq (SqL.of hq)],B,F1,z,kf.grow g1,rs.grow g1,_,hx,λd v F2 H2 g2 hd rd=>?_];obtain⟨⟨f1,f2⟩,hj,hR⟩:=hd;have Nb:=rr.mono g2.ff;have e:=BZ rd f1 Nb f2;have hl:=Nb.length;refine#[l,vs,v,rfl,rfl,g2.fh.seq (g2.ff.seq (SqL.of hq)),fg rd f1,dh Nb f2,by rw[e];lia,?_];rw[e];exact h2 _ _ F2 H2 (g1.trans g2) hR (rep_int.mpr rfl)
 .exact hx.elim⟩
end
mutual
def noL:D->Bool
 |.non=>true|.bl _=>true|.int _=>true|.str _=>true|.ptr _=>true|.dti _=>true
 |.tup ds=>noLs ds
 |.obj _ fs=>noLF fs
 |_=>false
def noLs:List D->Bool
 |[]=>true
 |d::ds=>noL d&&noLs ds
def noLF:List (Ms×D)->Bool
 |[]=>true
 |(_,d)::ds=>noL d&&noLF ds
end
def nlF(F:Hp):Hp:=λb=>match F b with|some (.lst _)=>LH|o=>o
def lG{F:Hp}{b:Addr}{o:HO}(e:F b=be o)(h:∀vs,o≠.lst vs):nlF F b=be o:=by
 unfold nlF;rw[e];cases o with
 |lst vs=>exact absurd rfl (h vs)
 |_=>rfl
mutual
def Rep.nl{K:Ex}{F:Hp}:∀(d:D) (v:V),noL d=true->Rep K F d v->Rep K (nlF F) d v
 |.non,v,_,h=>by unfold Rep at h ⊢;exact h
 |.bl b,v,_,h=>by unfold Rep at h ⊢;exact h
 |.int b,v,_,h=>by unfold Rep at h ⊢;exact h
 |.str b,v,_,h=>by unfold Rep at h ⊢;exact h
 |.ptr b,v,_,h=>by unfold Rep at h ⊢;exact h
 |.dti a9,v,_,h=>by
  unfold Rep at h ⊢;obtain⟨a,e,q⟩:=h;exact#[a,e,lG q λ_ z=>nomatch z]
 |.tup ds,v,n,h=>by
  unfold Rep at h ⊢;obtain⟨a,vs,e,q,r⟩:=h;exact#[a,vs,e,lG q (λ_ z=>nomatch z),Reps.nl ds vs (by unfold noL at n;exact n) r]
 |.obj x fs,v,n,h=>by
  unfold Rep at h ⊢;obtain⟨a,C,dx,vs,e,n1,q,r⟩:=h;exact#[a,C,dx,vs,e,n1,lG q (λ_ z=>nomatch z),RepF.nl fs vs (by unfold noL at n;exact n) r]
 |.lst _,_,n,_=>by unfold noL at n;cases n
 |.rol _,_,n,_=>by unfold noL at n;cases n
 |.exc _ _,_,n,_=>by unfold noL at n;cases n
 |.own _,_,n,_=>by unfold noL at n;cases n
def RepF.nl{K:Ex}{F:Hp}:∀(ds:List (Ms×D)) (vs:List (Ms×V)),noLF ds=true->RepF K F ds vs->RepF K (nlF F) ds vs
 |[],vs,_,h=>by unfold RepF at h ⊢;exact h
 |(f,d)::ds,vs,n,h=>by
  unfold noLF at n;rw[Io]at n;unfold RepF at h ⊢;obtain⟨v,r,e,q1,q2⟩:=h;exact#[v,r,e,Rep.nl d v n.1 q1,RepF.nl ds r n.2 q2]
def Reps.nl{K:Ex}{F:Hp}:∀(ds:List D) (vs:List V),noLs ds=true->Reps K F ds vs->Reps K (nlF F) ds vs
 |[],vs,_,h=>by unfold Reps at h ⊢;exact h
 |d::ds,vs,n,h=>by
  unfold noLs at n;rw[Io]at n;unfold Reps at h ⊢;obtain⟨v,r,e,q1,q2⟩:=h;exact#[v,r,e,Rep.nl d v n.1 q1,Reps.nl ds r n.2 q2]
end
end My
end
section
namespace My
open PySem PySem.Spec PyProof.Rows L2
variable{w:Int}
def b64B(h:0<w)(h':w<=33554432):-(2^64)<w/\w<2^64:=v4
variable{s:Int}
def s64B(h:0<=s)(h':s<w)(UN:w<=33554432):-(2^64)<s/\s<2^64:=v4
def d30B(h:0<w)(h':w<=33554432):0<w/\w<1073741824:=v4
variable{x y:Int}
def ab24(h:x.natAbs<=12)(h':y.natAbs<=12):(x+y).natAbs<=24:=HZ (Kh x y) (J0 h h')
def sq0(a:Int):0<=a*a:=(Int.le_total 0 a).elim (λq=>Ki q q) (λq=>Int.mul_nonneg_of_nonpos_of_nonpos q q)
def u64(h:w=1\/w=-1\/w=0):-(2^64)<w/\w<2^64:=v4
def n64{k:Nat}(h:w.natAbs<=k)(hk:autoParam (k<=1073741823) zA1):-(2^64)<w/\w<2^64:=v4
variable{a b:Int}
def i64(h:a<=w)(h':w<=b)(ha:autoParam ( -1000000000001<=a) zA1)(hb:autoParam (b<=1000000000001) zA1):-(2^64)<w/\w<2^64:=v4
def B1{X Y Z A B r:Nat}(h1:X<=Y)(h2:X=Z+2*B)(h3:1*A<=Z)(h5:Y<=A+r)(h6:r<B):False:=MD
def fdm(a b:Int)(hb:b≠0):(a-a.fdiv b*b).natAbs<b.natAbs/\(a.fdiv b).natAbs<=a.natAbs+1:=by
 have e:=Int.fmod_def a b;have e2:a-a.fdiv b*b=a.fmod b:=by rw[e,Iu]
 rw[e2];have r:(a.fmod b).natAbs<b.natAbs:=by
  rcases(v4:0<b\/b<0)with h|h
  .have h1:=KU a h;have h2:=KW a h;lia
  .have h1:=KU (-a) (show 0< -b by lia);have h2:=KW (-a) (show 0< -b by lia);rw[Int.neg_fmod_neg]at h1 h2;lia
 refine#[r,?_];have e3:(b*a.fdiv b).natAbs=b.natAbs*(a.fdiv b).natAbs:=IR _ _;have e4:=Int.mul_fdiv_self a b;rcases Jr (a.natAbs+1) (a.fdiv b).natAbs with c|c
 .have h1:b.natAbs*(a.natAbs+2)<=b.natAbs*(a.fdiv b).natAbs:=Nat.mul_le_mul_left _ c;have h2:b.natAbs*(a.natAbs+2)=b.natAbs*a.natAbs+2*b.natAbs:=by rw[Nat.mul_add,Nat.mul_comm _ 2]
  have h3:1*a.natAbs<=b.natAbs*a.natAbs:=KY _ v4;have h5:(b*a.fdiv b).natAbs<=a.natAbs+(a.fmod b).natAbs:=by rw[e4];exact KZ a _
  rw[e3]at h5;exact(B1 h1 h2 h3 h5 r).elim
 .exact c
def Uni(a b c d p0 p1 q0 q1:Int):Prop:=∃m n k l:Int,(m*l-n*k=1\/m*l-n*k=-1)/\p0=m*a+n*c/\p1=m*b+n*d/\q0=k*a+l*c/\q1=k*b+l*d
def Uni.refl(a b c d:Int):Uni a b c d a b c d:=#[1,0,0,1,.inl Mx,v4,v4,v4,v4]
variable{c d p0 p1 q0 q1:Int}
def Uni.step(t:Int)(h:Uni a b c d p0 p1 q0 q1):Uni a b c d q0 q1 (p0-t*q0) (p1-t*q1):=by
 obtain⟨m,n,k,l,hd,rfl,rfl,rfl,rfl⟩:=h;refine#[k,l,m-t*k,n-t*l,?_,rfl,rfl,NW,NW];rcases hd with h|h
 .right;grind
 .left;grind
def Uni.neg(h:Uni a b c d p0 p1 q0 q1):Uni a b c d (-p0) (-p1) q0 q1:=by
 obtain⟨m,n,k,l,hd,rfl,rfl,rfl,rfl⟩:=h;refine#[-m,-n,k,l,?_,NW,NW,rfl,rfl];rcases hd with h|h
 .right;grind
 .left;grind
def Uni.inv(h:Uni a b c d p0 p1 q0 q1):Uni p0 p1 q0 q1 a b c d:=by
 obtain⟨m,n,k,l,hd,rfl,rfl,rfl,rfl⟩:=h;rcases hd with h|h
 .exact#[l,-n,-k,m,.inl NW,NW,NW,NW,NW]
 .exact#[-l,n,k,-m,.inr NW,NW,NW,NW,NW]
def Uni.det(h:Uni a b c d p0 p1 q0 q1):p0*q1-p1*q0=a*d-b*c\/p0*q1-p1*q0=-(a*d-b*c):=by
 obtain⟨m,n,k,l,hd,rfl,rfl,rfl,rfl⟩:=h;rcases hd with h|h
 .left;grind
 .right;grind
def Lev(a b c d p0 p1 q0:Int):Prop:=0<=p1/\Uni a b c d p0 p1 q0 0
def FamOf(a b c d w h s:Int):Prop:=0<w/\0<h/\0<=s/\s<w/\Uni a b c d w 0 s h
def B2(x:Int):(if x<0 then -x else x)=x\/(if x<0 then -x else x)=-x:=by
 split<;>simp
def B3(h:x≠0):0<(if x<0 then -x else x):=by split<;>lia
def gv(hn:¬a*d=b*c)(h:Lev a b c d p0 p1 q0):FamOf a b c d (if q0<0 then -q0 else q0) p1 (p0%(if q0<0 then -q0 else q0)):=by
 obtain⟨hp,hu⟩:=h;have dt:=hu.det;have TJ:q0≠0:=by
  rintro rfl;simp at dt;lia
 have UO:p1≠0:=by
  rintro rfl;simp at dt;lia
 have hw:=B3 TJ;have hs:=B2 q0;generalize (if q0<0 then -q0 else q0)=w at hw hs;refine#[hw,v4,IS _ v4,IT _ hw,?_];have em:=Ji p0 w;generalize p0%w=s at em;generalize p0/w=t at em;obtain⟨m,n,k,l,hd,e1,e2,e3,e4⟩:=hu;rcases hs with e|e
 .refine#[k,l,m-t*k,n-t*l,?_,NW,NW,NW,NW];rcases hd with h|h
  .right;grind
  .left;grind
 .refine#[-k,-l,m+t*k,n+t*l,?_,NW,NW,NW,NW];rcases hd with h|h
  .left;grind
  .right;grind
variable{h i j:Int}
def in_fam(hh:0<h)(ex:x=i*w+j*s)(ey:y=j*h):y%h=0/\(x-y/h*s)%w=0:=by
 subst ex ey;rw[IC _ v4];refine#[K0 _ _,?_];have e:i*w+j*s-j*s=i*w:=v4
 rw[e];exact K0 _ _
variable{u v:Int}
def vt(eu:u=i*a+j*c)(ev:v=i*b+j*d):(u*d-v*c).fmod (a*d-b*c)=0/\(a*v-b*u).fmod (a*d-b*c)=0:=by
 subst eu ev;refine#[Kj #[i,NW],Kj #[j,NW]]
def FamOf.cells(f:FamOf a b c d w h s):w*h=a*d-b*c\/w*h=-(a*d-b*c):=by
 have:=f.2.2.2.2.det;simpa using this
def bT{A B:Nat}(h1:a.natAbs<=A)(h2:d.natAbs<=B):(a*d).natAbs<=A*B:=by
 rw[IR];exact Jt h1 h2
variable{g:Int}
def B4{gap:Int}{N:Nat}(hg:0<g)(c0:0<=c)(cg:c<=g)(h:gap.natAbs<=N):(c*gap/g).natAbs<=N:=by
 have h1:(c*gap).natAbs<=g.natAbs*N:=by rw[IR];exact Jt MD h
 have e:((g.natAbs*N:Nat):Int)=N*g:=by rw[Kk,Int.natAbs_of_nonneg MD,Iu]
 have l1:=Int.le_ediv_of_mul_le (a:=-(N:Int)) (b:=c*gap) hg (by rw[Kl];omega);have l2:=Int.ediv_le_of_le_mul (a:=c*gap) (b:=(N:Int)) hg MD;omega
def dE(hw:0<w)(hh:0<h):w<=w*h/\h<=w*h:=by
 have h1:=K1 (show 1<=h by lia) (show 0<=w by lia);have h2:=Ix (show 1<=w by lia) (show 0<=h by lia);lia
def FamOf.bd(f:FamOf a b c d w h s){N:Nat}(hN:(a*d-b*c).natAbs<=N):w<=N/\h<=N/\s<N:=by
 obtain⟨h1,h2⟩:=dE f.1 f.2.1;have h3:w*h<=N:=by
  rcases f.cells with e|e<;>rw[e]
  .exact IM K2 (K3.mpr hN)
  .exact IM K2 (K3.mpr (by rw[Km];exact hN))
 exact#[IM h1 h3,IM h2 h3,Int.lt_of_lt_of_le f.2.2.2.1 (IM h1 h3)]
def Meas(x y g u:Int):Prop:=0<=g/\(∃i,x=i*g)/\(∃j,y=j*g)/\∃n,g=u*x+n*y
variable{q:Int}
def vw(h:0<=g/\∃m n k l:Int,(m*l-n*k=1\/m*l-n*k=-1)/\u=m*1+n*0/\g=m*x+n*y/\q=k*1+l*0/\0=k*x+l*y):Meas x y g u:=by
 obtain⟨h0,m,n,k,l,hd,e1,e2,e3,e4⟩:=h;refine#[h0,?_,?_,n,NW]
 .rcases hd with h|h
  .exact#[l,NW]
  .exact#[-l,NW]
 .rcases hd with h|h
  .exact#[-k,NW]
  .exact#[k,NW]
def Meas.pos(h:Meas x y g u)(hx:0<x):0<g:=by
 obtain⟨h0,⟨i,hi⟩,_⟩:=h;rcases(v4:g=0\/0<g)with e|e
 .subst e;simp at hi;lia
 .exact e
def Meas.le(h:Meas x y g u)(hx:0<x):g<=x:=by
 have hg:=h.pos hx;obtain⟨h0,⟨i,hi⟩,_⟩:=h;have UP:0<i:=by
  rcases(v4:i<=0\/0<i)with e|e
  .have:=Jj e h0;lia
  .exact e
 have:=Ix (show 1<=i by lia) h0;lia
structure MetR(w1 h1 s1 w2 h2 s2 w h s A:Int):Prop where
 w0:0<w
 h0:0<h
 s0:0<=s
 sw:s<w
 in1:∃i,w=i*w1
 in2:∃i,w=i*w2
 up1:∃i j,s=i*w1+j*s1/\h=j*h1
 up2:∃i j,s=i*w2+j*s2/\h=j*h2
 A0:0<A
 cells:w*h*A=w1*h1*w2*h2
 d11:A∣w1*h1
 d12:A∣w1*h2
 d21:A∣w2*h1
 d22:A∣w2*h2
 ds:A∣s1*h2-h1*s2
 all:∀x y:Int,(∃i j,x=i*w1+j*s1/\y=j*h1)->(∃i j,x=i*w2+j*s2/\y=j*h2)->∃i j,x=i*w+j*s/\y=j*h
 comb:∀G:Int,G∣w1*h1->G∣w1*h2->G∣w2*h1->G∣w2*h2->G∣s1*h2-h1*s2->G∣A
def dX(h:0<x*y)(hy:0<y):0<x:=by
 rcases(v4:x<=0\/0<x)with e|e
 .have:=Jj e (show 0<=y by lia);lia
 .exact e
def lH(ha:0<a)(h:a*b=a*c):b=c:=Kn v4 h
def r1(k j c:Int):k*(j*c)=j*(c*k):=NW
def r2(j u c n d:Int):j*(u*c+n*d)=u*(j*c)+n*d*j:=NW
def r3(u j d n j1:Int):u*(j*d)+n*d*j1=d*(u*j+n*j1):=NW
def r4(j u c n d:Int):j*(u*c+n*d)=u*c*j+n*(j*d):=NW
def r5(u c j n j1:Int):u*c*j+n*(j1*c)=c*(u*j+n*j1):=NW
def r6(g e i1 a i2 b d T s1 c s2:Int)(q:i1*(a*(e*g))+d*T*s1=i2*(b*(e*g))+c*T*s2):g*(e*(i1*a-i2*b))=T*(c*s2-d*s1):=NW
def r7(g T f:Int):g*(T*f)=T*(f*g):=NW
def r8(T v e q f:Int):T*(v*e+q*f)=v*T*e+q*(T*f):=NW
def r9(v T e q m:Int):v*T*e+q*(e*m)=e*(v*T+q*m):=NW
def r10(e r f:Int):e*r*f=e*(r*f):=NW
def r11(i u a n b:Int):i*(u*a+n*b)=u*(i*a)+n*b*i:=NW
def r12(u r f i2 b n i1:Int):u*(r*f+i2*b)+n*b*i1=u*(r*f)+b*(u*i2+n*i1):=NW
def r13(u r f b M a e g d s1 t:Int):(u*(r*f)+b*M)*(a*(e*g))+d*(e*r)*s1=(M+r*t)*(a*b*(e*g))+r*(e*(d*s1)+f*u*(a*(e*g))-a*b*(e*g)*t):=NW
def r14(d e r c k:Int):d*(e*r)*(c*k)=r*(c*d*k*e):=NW
variable{k e f gg u' s1 s2:Int}
def B5{n n' t i1 j1 i2 j2:Int}(hk:0<k)(L4:0<gg)(he:0<e)
  (t_:u*a+n*b=1) (p6:u'*c+n'*d=1) (gap:c*s2-d*s1=f*gg) (u6:v*e+q*f=1)
  (hs:s=e*(d*s1)+f*u*(a*(e*gg))-a*b*(e*gg)*t) (x1:x=i1*(a*(e*gg))+j1*s1) (y1:y=j1*(c*k)) (x2:x=i2*(b*(e*gg))+j2*s2) (y2:y=j2*(d*k)):
  ∃i j,x=i*(a*b*(e*gg))+j*s/\y=j*(c*d*k*e):=by
 have h1:j1*c=j2*d:=lH hk (by rw[r1 k j1 c,r1 k j2 d,<-y1,<-y2]);have OW:j1=d*(u'*j2+n'*j1):=by
  have p:=r2 j1 u' c n' d;rw[p6,h1,r3]at p;lia
 have Sb:j2=c*(u'*j2+n'*j1):=by
  have p:=r4 j2 u' c n' d;rw[p6,<-h1,r5]at p;lia
 generalize u'*j2+n'*j1=T at OW Sb;have q1:i1*(a*(e*gg))+d*T*s1=i2*(b*(e*gg))+c*T*s2:=by rw[<-OW,<-Sb,<-x1,<-x2]
 have h2:e*(i1*a-i2*b)=T*f:=lH L4 (by rw[r6 gg e i1 a i2 b d T s1 c s2 q1,r7,gap]);have eT:T=e*(v*T+q*(i1*a-i2*b)):=by
  have p:=r8 T v e q f;rw[u6,<-h2,r9]at p;lia
 generalize hr:v*T+q*(i1*a-i2*b)=r at eT;have h3:i1*a-i2*b=r*f:=lH he (by rw[h2,eT,r10]);have h4:i1=u*(r*f)+b*(u*i2+n*i1):=by
  have p:=r11 i1 u a n b;have q3:i1*a=r*f+i2*b:=v4
  rw[t_,q3,r12]at p;lia
 generalize u*i2+n*i1=M at h4;refine#[M+r*t,r,?_,?_]
 .rw[hs,x1,OW,eT,<-r13,<-h4]
 .rw[y1,OW,eT,r14]
def B6{n n' t:Int}(ha:0<a)(hb:0<b)(hc:0<c)(hd:0<d)(he:0<e)(hk:0<k)(L4:0<gg)
  (t_:u*a+n*b=1) (p6:u'*c+n'*d=1) (gap:c*s2-d*s1=f*gg) (u6:v*e+q*f=1)
  (hs:s=e*(d*s1)+f*u*(a*(e*gg))-a*b*(e*gg)*t) (m1:0<=s) (m2:s<a*b*(e*gg)):
  MetR (a*(e*gg)) (c*k) s1 (b*(e*gg)) (d*k) s2 (a*b*(e*gg)) (c*d*k*e) s (k*gg):=by
 have hg:0<e*gg:=Ii he L4;have hW:0<a*b*(e*gg):=Ii (Ii ha hb) hg;have Qh:d*s1=c*s2-f*gg:=v4
 have ua:u*a=1-n*b:=v4
 refine#[hW,Ii (Ii (Ii hc hd) hk) he,m1,m2,#[b,?_],#[a,?_],#[f*u-t*b,d*e,?_,?_],#[-(f*n)-t*a,c*e,?_,?_],Ii hk L4,?_,#[a*e*c,?_],#[a*e*d,?_],#[b*e*c,?_],#[b*e*d,?_],#[-f,?_],?_,?_]
 .grind
 .grind
 .grind
 .grind
 .rw[hs,Qh];have x2:f*u*(a*(e*gg))=f*(u*a)*(e*gg):=by grind
  rw[x2,ua];grind
 .grind
 .grind
 .grind
 .grind
 .grind
 .grind
 .have:s1*(d*k)-c*k*s2=-(k*(c*s2-d*s1)):=by grind
  rw[this,gap];grind
 .rintro x y⟨i1,j1,x1,z1⟩ ⟨i2,j2,x2,z2⟩;exact B5 hk L4 he t_ p6 gap u6 hs x1 z1 x2 z2
 .rintro G⟨y1,z1⟩ ⟨y2,z2⟩ ⟨y3,z3⟩ ⟨y4,z4⟩ ⟨y5,z5⟩;refine#[v*(u'*u*y1+n'*u*y2+u'*n*y3+n'*n*y4)-q*y5,?_];have k1:k*(e*gg)=G*(u'*u*y1+n'*u*y2+u'*n*y3+n'*n*y4):=by
   have p1:k*(e*gg)=(u'*c+n'*d)*(u*a+n*b)*(k*(e*gg)):=by rw[t_,p6];grind
   have p2:(u'*c+n'*d)*(u*a+n*b)*(k*(e*gg))=u'*u*(a*(e*gg)*(c*k))+n'*u*(a*(e*gg)*(d*k))+u'*n*(b*(e*gg)*(c*k))+n'*n*(b*(e*gg)*(d*k)):=NW
   rw[p1,p2,z1,z2,z3,z4];grind
  have k2:k*(f*gg)=-(G*y5):=by
   rw[<-z5,<-gap];grind
  have k3:k*gg=(v*e+q*f)*(k*gg):=by rw[u6];grind
  have k4:(v*e+q*f)*(k*gg)=v*(k*(e*gg))+q*(k*(f*gg)):=NW
  rw[k3,k4,k1,k2];grind
variable{w1 h1 w2 h2:Int}
def lJ{v8:Int}(OX:0<w1)(Oa:0<w2)(Sc:0<h1)(Ly:0<h2)
  (M1:Meas w1 w2 g u) (M2:Meas h1 h2 k u')
  (M3:Meas g (h1*h2/k/h2*s2-h1*h2/k/h1*s1) gg v8):
  MetR w1 h1 s1 w2 h2 s2 (w1*w2/g) (h1*h2/k*(g/gg)) ((g/gg*(h1*h2/k/h1*s1)+g/gg*(h1*h2/k/h2*s2-h1*h2/k/h1*s1)/g*u*w1)%(w1*w2/g)) (k*gg):=by
 have hg:=M1.pos OX;have hk:=M2.pos Sc;have L4:=M3.pos hg;obtain⟨_,⟨a,ea⟩,⟨b,eb⟩,n,en⟩:=M1;obtain⟨_,⟨c,ec⟩,⟨d,ed⟩,n',UQ⟩:=M2;have ha:0<a:=dX (ea ▸ OX) hg;have hb:0<b:=dX (eb ▸ Oa) hg;have hc:0<c:=dX (ec ▸ Sc) hk;have hd:0<d:=dX (ed ▸ Ly) hk;have t_:u*a+n*b=1:=by
  have p:(u*a+n*b)*g=1*g:=by
   have:(u*a+n*b)*g=u*(a*g)+n*(b*g):=by grind
   rw[this,<-ea,<-eb];lia
  exact Ju v4 p
 have p6:u'*c+n'*d=1:=by
  have p:(u'*c+n'*d)*k=1*k:=by
   have:(u'*c+n'*d)*k=u'*(c*k)+n'*(d*k):=by grind
   rw[this,<-ec,<-ed];lia
  exact Ju v4 p
 have eW:w1*w2/g=a*b*g:=by
  have:w1*w2=(a*b*g)*g:=by rw[ea,eb];grind
  rw[this];exact IC _ v4
 have eR:h1*h2/k=c*d*k:=by
  have:h1*h2=(c*d*k)*k:=by rw[ec,ed];grind
  rw[this];exact IC _ v4
 have TK:h1*h2/k/h1=d:=by
  rw[eR];have:c*d*k=d*h1:=by rw[ec];grind
  rw[this];exact IC _ v4
 have TL:h1*h2/k/h2=c:=by
  rw[eR];have:c*d*k=c*h2:=by rw[ed];grind
  rw[this];exact IC _ v4
 rw[TK,TL]at M3 ⊢;obtain⟨_,⟨e,ee⟩,⟨f,ef⟩,q,eq⟩:=M3;have he:0<e:=dX (ee ▸ hg) L4;have u6:v8*e+q*f=1:=by
  have p:(v8*e+q*f)*gg=1*gg:=by
   have:(v8*e+q*f)*gg=v8*(e*gg)+q*(f*gg):=by grind
   rw[this,<-ee,<-ef];lia
  exact Ju v4 p
 have eC:g/gg=e:=by rw[ee];exact IC _ v4
 have eS:e*(c*s2-d*s1)/g=f:=by
  have:e*(c*s2-d*s1)=f*g:=by rw[ef,ee];grind
  rw[this];exact IC _ v4
 rw[eC,eS,eW,eR];have hW:0<a*b*g:=Ii (Ii ha hb) hg;have em:=Ji (e*(d*s1)+f*u*w1) (a*b*g);have m1:=IS (e*(d*s1)+f*u*w1) (show a*b*g≠0 by lia);have m2:=IT (e*(d*s1)+f*u*w1) hW;generalize (e*(d*s1)+f*u*w1)%(a*b*g)=s at em m1 m2 ⊢;generalize (e*(d*s1)+f*u*w1)/(a*b*g)=t at em;subst ea eb ec ed;subst ee;exact B6 ha hb hc hd he hk L4 t_ p6 ef u6 em m1 m2
def lK(hx:0<x)(hy:0<y)(M:Meas x y g u):0<x*y/g/\x*y/g<=x*y/\x*y/g/x*1<=y/\0<=x*y/g/x/\x*y/g/y<=x/\0<=x*y/g/y:=by
 have hg:=M.pos hx;obtain⟨_,⟨a,ea⟩,⟨b,eb⟩,_⟩:=M;have ha:0<a:=dX (ea ▸ hx) hg;have hb:0<b:=dX (eb ▸ hy) hg;have e1:x*y/g=a*b*g:=by
  have:x*y=(a*b*g)*g:=by rw[ea,eb];grind
  rw[this];exact IC _ v4
 have e2:a*b*g/x=b:=by
  have:a*b*g=b*x:=by rw[ea];grind
  rw[this];exact IC _ v4
 have e3:a*b*g/y=a:=by
  have:a*b*g=a*y:=by rw[eb];grind
  rw[this];exact IC _ v4
 have p1:0<a*b*g:=Ii (Ii ha hb) hg;have q1:=(dE (w:=b) (h:=g) hb hg).1;have q2:=(dE (w:=a) (h:=g) ha hg).1;have q3:x*y=a*b*g*g:=by rw[ea,eb];grind
 have q4:=(dE (w:=a*b*g) (h:=g) p1 hg).1;rw[e1,e2,e3];lia
def cell(ns:List Int)(k:Int):Int:=ns.getD k.toNat 0
variable{ns:List Int}
def vx(h0:0<=k)(h1:k<(ns.length:Int)):atI (ns.map D.int) k=be (.int (cell ns k)):=by
 obtain⟨j,rfl⟩:∃j:Nat,k=(j:Int):=#[k.toNat,v4];have hk:j<ns.length:=v4
 refine bD ?_;rw[H9,Ih hk];simp[cell,IL,Ih hk]
def B7(h1:(ns.length:Int)<=k):cell ns k=0:=by
 have hk:ns.length<=k.toNat:=v4
 simp[cell,IL,IF hk]
def HM(k:Int):∃m,atI [D.int 12,D.int 720] (k%2)=be (.int m)/\(m=12\/m=720):=by
 rcases(v4:k%2=0\/k%2=1)with e|e
 .rw[e];exact#[12,rfl,.inl rfl]
 .rw[e];exact#[720,rfl,.inr rfl]
def cU(h:0<b):0<=a%b:=IS a v4
def cV(h:0<b):a%b<b:=IT a h
def B8:SpD:=λds R=>∃(ns:List Int) (k:Int),ds=[.rol (ns.map D.int),.int k]/\0<=k/\R (.int (cell ns k))
def B9:SpD:=λds R=>∃i:Int,ds=[.int i]/\R (.bl true)
def Ca:SpD:=λds R=>∃w h s x y:Int,ds=[.tup [.int w,.int h,.int s],.int x,.int y]/\0<w/\0<h/\h<1073741824/\0<=s/\s<1073741824/\
 R (.bl (decide (y%h=0/\(x-y/h*s)%w=0)))
def Cb:SpD:=λds R=>∃a b c d u v:Int,ds=[.tup [.int a,.int b],.tup [.int c,.int d],.int u,.int v]/\a.natAbs<1073741824/\b.natAbs<1073741824/\c.natAbs<1073741824/\d.natAbs<1073741824/\
 ¬a*d=b*c/\R (.bl (decide ((u*d-v*c).fmod (a*d-b*c)=0/\(a*v-b*u).fmod (a*d-b*c)=0)))
def Cd:SpD:=λds R=>∃x y:Int,ds=[.int x,.int y]/\∀g:Int,0<=g->g∣x->g∣y->(∀e,e∣x->e∣y->e∣g)->R (.int g)
def vy:e∣(if x<0 then -x else x)↔e∣x:=by
 split
 .exact Int.dvd_neg
 .exact Iff.rfl
def vz(hb:e∣b):e∣a%b↔e∣a:=by
 have e1:=Ji a b;rw[e1];constructor
 .intro h;have:=Ko h (K4 (c:=a/b) hb);simpa using this
 .intro h;exact Int.dvd_sub h (K4 hb)
def Ce:SpD:=λds R=>∃w h s x y:Int,ds=[.tup [.int w,.int h,.int s],.int x,.int y]/\0<w/\0<h/\h<1073741824/\0<=s/\s<1073741824/\
 R (.tup [.int ((x-y/h*s)%w),.int (y%h)])
def Cf:SpD:=λds R=>∃a b c d:Int,ds=[.tup [.int a,.int b],.tup [.int c,.int d]]/\b.natAbs<4611686018427387904/\d.natAbs<4611686018427387904/\
 ∀p0 p1 q0,Lev a b c d p0 p1 q0->R (.tup [.tup [.int p0,.int p1],.tup [.int q0,.int 0]])
def Cg:SpD:=λds R=>∃a b c d:Int,ds=[.tup [.int a,.int b],.tup [.int c,.int d]]/\a.natAbs<4611686018427387904/\b.natAbs<4611686018427387904/\c.natAbs<4611686018427387904/\d.natAbs<4611686018427387904/\
 (a*d=b*c->R .non)/\(¬a*d=b*c->∀w h s,FamOf a b c d w h s->R (.tup [.int w,.int h,.int s]))
def Ch:SpD:=λds R=>∃w h s:Int,ds=[.tup [.int w,.int h,.int s]]/\0<w/\R (.tup [.int w,.int h,.int (-s%w)])
def Ci:SpD:=λds R=>∃w h s:Int,ds=[.tup [.int w,.int h,.int s]]/\0<w/\0<h/\w<4611686018427387904/\h<4611686018427387904/\0<=s/\s<4611686018427387904/\
 ∀w' h' s',FamOf 0 w (-h) s w' h' s'->R (.tup [.int w',.int h',.int s'])
def Cj:SpD:=λds R=>∃x y:Int,ds=[.int x,.int y]/\x.natAbs<4611686018427387904/\y.natAbs<4611686018427387904/\∀g u,Meas x y g u->R (.tup [.int g,.int u])
def Ck:SpD:=λds R=>∃w1 h1 s1 w2 h2 s2:Int,ds=[.tup [.int w1,.int h1,.int s1],.tup [.int w2,.int h2,.int s2]]/\0<w1/\w1<=33554432/\0<h1/\h1<=33554432/\0<=s1/\s1<w1/\0<w2/\w2<=33554432/\0<h2/\h2<=33554432/\0<=s2/\s2<w2/\
 ∀w h s A,MetR w1 h1 s1 w2 h2 s2 w h s A->R (.tup [.int w,.int h,.int s])
def Drawn(xs:List Int):Prop:=∀x∈xs,0<=x/\x<5040
variable{xs:List Int}
def Drawn.at(h:Drawn xs)(k:Int):0<=cell xs k/\cell xs k<5040:=by
 by_cases hk:k.toNat<xs.length
 .have:cell xs k=xs[k.toNat]:=by simp[cell,IL,Ih hk]
  rw[this];exact h _ (Iv hk)
 .have:cell xs k=0:=by simp[cell,IL,IF (JT hk)]
  lia
def cM(h0:0<=k)(h:k.toNat<xs.length):atI (xs.map D.int) k=be (.int (cell xs k)):=vx h0 v4
def vA:xs.map D.int++[D.int v]=(xs++[v]).map D.int:=MF
def vB(h:Drawn xs)(h1:0<=v)(h2:v<5040):Drawn (xs++[v]):=by
 intro x hx;rcases Iw.mp hx with q|q
 .exact h x q
 .rw[HN.mp q];exact#[h1,h2]
def Cl:SpD:=λds R=>∃(ns:List Int) (k:Int) (n:Nat),ds=[.rol (ns.map D.int),.int k,.int n]/\0<=k/\n<=100/\∀xs:List Int,xs.length=n->Drawn xs->R (.lst (xs.map D.int))
def Cm:SpD:=λds R=>∃xs:List Int,ds=[.lst (xs.map D.int)]/\8<=xs.length/\Drawn xs/\
 ∀a b c d:Int,(-12<=a/\a<=12)->(-12<=b/\b<=12)->(-12<=c/\c<=12)->(-12<=d/\d<=12)->¬a*d=b*c->R (.lst [.tup [.int a,.int b],.tup [.int c,.int d]])
abbrev cs(x:Ms):List Nat:=x.cps.toList
def bn(x:Ms):(cs x).length=x.length:=by simp[Str.length]
def vC:cs ""=[]:=rfl
def bF(x y:Ms):cs (x++y)=cs x++cs y:=by
 show((x++y:Ms)).cps.toList=_;rw[show(x++y:Ms).cps=x.cps++y.cps from rfl,Array.toList_append]
def aI(x y:Ms):(x++y).length=x.length+y.length:=by rw[<-bn,bF,Ic,bn,bn]
def bb(c:Nat):Prop:=c=46\/(49<=c/\c<=54)
def lL:∀(L:List Ms),cT (L.map D.str)=be L
 |[]=>rfl
 |x::L=>by simp[cT,lL L]
def fC(x:Ms):Prop:=0<x.length/\x.length<=7/\∀c∈cs x,bb c
def Cn{x:Ms}(h:fC x)(v:Int):∃c,(x.length<=1000000/\atI (cs x) (v%(x.length:Int))=be c)/\bb c:=by
 have h1:=cU (a:=v) (show 0<(x.length:Int)by have:=h.1;lia);have h2:=cV (a:=v) (show 0<(x.length:Int)by have:=h.1;lia);obtain⟨j,ej⟩:∃j:Nat,v%(x.length:Int)=(j:Int):=#[(v%(x.length:Int)).toNat,v4];have hj:j<(cs x).length:=by rw[bn];lia
 refine#[(cs x)[j],#[by have:=h.2.1;lia,?_],h.2.2 _ (Iv hj)];rw[ej];exact bD (Ih hj)
def Co:fC "1.23456":=#[KK,KK,by unfold bb;decide+kernel]
def Cp:fC "12":=#[KK,KK,by unfold bb;decide+kernel]
def Cq:fC "1.":=#[KK,KK,by unfold bb;decide+kernel]
def Cr:fC "...2":=#[KK,KK,by unfold bb;decide+kernel]
def Cs(k:Int):∃x,atI [D.str "1.23456",D.str "12",D.str "1.",D.str "...2"] (k%4)=be (.str x)/\fC x:=by
 rcases(v4:k%4=0\/k%4=1\/k%4=2\/k%4=3)with e|e|e|e<;>rw[e]
 .exact#[_,rfl,Co]
 .exact#[_,rfl,Cp]
 .exact#[_,rfl,Cq]
 .exact#[_,rfl,Cr]
def Ct(k:Int):∃m,atI [D.int 1,D.int 70] (k%2)=be (.int m)/\(m=1\/m=70):=by
 rcases(v4:k%2=0\/k%2=1)with e|e<;>rw[e]
 .exact#[1,rfl,.inl rfl]
 .exact#[70,rfl,.inr rfl]
structure Rows(L:List Str):Prop where
 many:1<=L.length/\L.length<=8
 wide:∃w,(1<=w/\w<=8)/\∀l∈L,l.length=w/\∀c∈cs l,bb c
variable{L:List Ms}
def Rows.of{w t:Nat}(h1:1<=t)(h2:t<=8)(hl:L.length=t)(w1:1<=w)(w2:w<=8)(h:∀l∈L,l.length=w/\∀c∈cs l,bb c):Rows L:=#[v4,w,#[w1,w2],h]
def Cu{x:Ms}{c:Nat}{i:Nat}(h1:x.length=i)(h2:∀c∈cs x,bb c)(hc:bb c):(x++#[[c].toArray]:Ms).length=i+1/\∀c'∈cs (x++#[[c].toArray]),bb c':=by
 refine#[by rw[aI,h1];rfl,λc' q=>?_];rw[bF]at q;rcases Iw.mp q with q|q
 .exact h2 _ q
 .have:c'=c:=by simpa[cs]using q
  rw[this];exact hc
def Cw{x:Ms}:L.map D.str++[D.str x]=(L++[x]).map D.str:=MF
def dF(L:List Ms)(a b c d:Int):Str:=("["++Txt.join "/" L)++((((((((";":Ms)++(toString a:String))++",")++(toString b:String))++";")++(toString c:String))++",")++(toString d:String))++"]"
def bJ(h:-12<=a/\a<=12):((toString a:String):Ms).length<=3:=by
 have key:∀k:Fin 25,((toString (((k.val:Nat):Int)-12):String):Ms).length<=3:=KK
 have:=key #[(a+12).toNat,v4];have e:(((a+12).toNat:Nat):Int)-12=a:=v4
 rw[e]at this;exact this
def B12(a:Int):Prop:=-12<=a/\a<=12
def B12.lt(h:B12 a):a.natAbs<1073741824:=by unfold B12 at h;lia
def vD{w:Nat}(h:∀l∈L,l.length=w):(L.map (·.length)).sum=L.length*w:=by
 induction L with
 |nil=>simp
 |cons x L ih=>
  rw[Ik,List.sum_cons,ih (λl hl=>h l (HU _ hl)),h x HW,HX,JG,Kp]
def vE(h:Rows L):(L.map (·.length)).sum+L.length*("/":Ms).length<=72:=by
 obtain⟨h1,w,hw,h2⟩:=h;rw[vD (λl hl=>(h2 l hl).1)];have e:("/":Ms).length=1:=rfl;rw[e];have:=Jt h1.2 hw.2;lia
def Cy:SpD:=λds R=>∃xs:List Int,ds=[.lst (xs.map D.int)]/\40<=xs.length/\Drawn xs/\∀L:List Ms,Rows L->R (.lst (L.map D.str))
def Cz:SpD:=λds R=>∃(L:List Ms) (a b c d:Int),ds=[.lst (L.map D.str),.tup [.int a,.int b],.tup [.int c,.int d]]/\Rows L/\B12 a/\B12 b/\B12 c/\B12 d/\R (.str (dF L a b c d))
structure Leaf where
 rows:List Ms
 a:Int
 b:Int
 c:Int
 d:Int
 w0:Int
 w1:Int
 w2:Int
 w3:Int
 w4:Int
 w5:Int
 hues:List Int
def Leaf.D(l:Leaf):My.D:=.tup [.lst (l.rows.map D.str),.tup [.int l.a,.int l.b],.tup [.int l.c,.int l.d],.tup [.int l.w0,.int l.w1,.int l.w2,.int l.w3,.int l.w4,.int l.w5],.lst (l.hues.map D.int)]
structure Leaf.Ok(l:Leaf):Prop where
 rows:Rows l.rows
 a:B12 l.a
 b:B12 l.b
 c:B12 l.c
 d:B12 l.d
 ne:¬l.a*l.d=l.b*l.c
 w0:l.w0.natAbs<=1
 w1:l.w1.natAbs<=1
 w2:l.w2.natAbs<=1
 w3:l.w3.natAbs<=1
 w4:l.w4.natAbs<=1000
 w5:l.w5.natAbs<=1000
 many:l.hues.length=7
 hue:∀h∈l.hues,0<=h/\h<=6
def onB(a b c d u v:Int):Bool:=decide ((u*d-v*c).fmod (a*d-b*c)=0/\(a*v-b*u).fmod (a*d-b*c)=0)
def scanRow(f:Int->Bool):Nat->List Nat->Option Nat
 |_,[]=>LH
 |i,c::r=>if c≠46/\f i=true then be c else scanRow f (i+1) r
def bU(f:Int->Int->Bool):Nat->List Ms->Option Nat
 |_,[]=>LH
 |j,l::r=>match scanRow (λi=>f i j) 0 (cs l)with|some c=>be c|none=>bU f (j+1) r
def Leaf.hit(l:Leaf)(x y:Int):Option Nat:=bU (λi j=>onB l.a l.b l.c l.d (l.w0*x+l.w1*y+l.w4-i) (l.w2*x+l.w3*y+l.w5-j)) 0 l.rows
def Leaf.shows(l:Leaf)(x y:Int):Int:=match l.hit x y with|some c=>cell l.hues ((c:Int)-48)|none=>0
def one_sign{c:Nat}:(#[[c].toArray]:Ms)="."↔c=46:=by
 constructor
 .intro h;have:([c].toArray:Array Nat)=(".":Ms).cps:=congrArg Str.cps h;have e:([c].toArray:Array Nat).toList=(".":Ms).cps.toList:=by rw[this]
  have e2:(".":Ms).cps.toList=[46]:=rfl;rw[e2]at e;simpa using e
 .rintro rfl;rfl
def digit_of{c:Nat}(h:49<=c/\c<=54):PySem.intText? (#[[c].toArray]:Ms)=be ((c:Int)-48):=by
 rcases(v4:c=49\/c=50\/c=51\/c=52\/c=53\/c=54)with e|e|e|e|e|e<;>subst e<;>decide+kernel
def at_str{j:Nat}{x:Ms}(h:L[j]?=be x):atI (L.map D.str) (j:Int)=be (.str x):=bD (by rw[H9,h];rfl)
def bK{n:Int}{k:Nat}{x:D}(h:((HS n.toNat).map λk=>D.int ((k:Nat):Int))[k]?=be x):k<n.toNat/\x=.int (k:Int):=by
 have hk:k<n.toNat:=by simpa using(Ia.mp h).1
 refine#[hk,?_];simp[hk]at h;exact h.symm
def bL{n:Int}:((HS n.toNat).map λk=>D.int ((k:Nat):Int)).length=n.toNat:=MF
def aX:List Leaf->Int->Int->Int
 |[],_,_=>0
 |l::r,x,y=>if l.shows x y≠0 then l.shows x y else aX r x y
variable{hs:List Int}
def CA(h:∀h∈hs,0<=h/\h<=6)(k:Int):0<=cell hs k/\cell hs k<=6:=by
 by_cases hk:k.toNat<hs.length
 .have:cell hs k=hs[k.toNat]:=by simp[cell,IL,Ih hk]
  rw[this];exact h _ (Iv hk)
 .have:cell hs k=0:=by simp[cell,IL,IF (JT hk)]
  lia
variable{l:Leaf}
def Leaf.shows_le(h:l.Ok)(x y:Int):0<=l.shows x y/\l.shows x y<=6:=by
 unfold Leaf.shows;split
 .exact CA h.hue _
 .lia
def vF:∀{ls:List Leaf} (x y:Int),(∀l∈ls,l.Ok)->0<=aX ls x y/\aX ls x y<=6
 |[],_,_,_=>by simp[aX]
 |l::r,x,y,h=>by
  unfold aX;split
  .exact Leaf.shows_le (h l HW) x y
  .exact vF x y λl' q=>h l' (HU _ q)
def bz(L:List Ms)(a b c d:Int):Leaf:=#[L,a,b,c,d,1,0,0,1,0,0,[0,1,2,3,4,5,6]]
def CB:SpD:=λds R=>∃(ns:List Int) (k:Int),ds=[.rol (ns.map D.int),.int k]/\0<=k/\
 ∀(L:List Ms) (a b c d:Int),Rows L->B12 a->B12 b->B12 c->B12 d->¬a*d=b*c->R (.lst [.str (dF L a b c d),.int 0,.lst [(bz L a b c d).D]])
def CC:SpD:=λds R=>∃(l:Leaf) (x y:Int),ds=[l.D,.int x,.int y]/\l.Ok/\R (.int (l.shows x y))
def CD:SpD:=λds R=>∃(ls:List Leaf) (x y:Int),ds=[.lst (ls.map Leaf.D),.int x,.int y]/\(∀l∈ls,l.Ok)/\R (.int (aX ls x y))
inductive Pat where
 |mot (L:List Str) (a b c d:Int)
 |over (p q:Pat)
 |sh (a b:Int) (p:Pat)
 |mir (p:Pat)
 |tur (p:Pat)
 |hue (f g:Int) (p:Pat)
def Pat.text:Pat->Ms
 |.mot L a b c d=>dF L a b c d
 |.over p q=>(((("(":Ms)++p.text)++"|")++q.text)++")"
 |.sh a b p=>((((("s":Ms)++(toString a:String))++",")++(toString b:String))++":")++p.text
 |.mir p=>("m":Ms)++p.text
 |.tur p=>("t":Ms)++p.text
 |.hue f g p=>((("h":Ms)++(toString f:String))++(toString g:String))++p.text
def Pat.depth:Pat->Nat
 |.mot ..=>0
 |.over p q=>1+max p.depth q.depth
 |.sh _ _ p=>p.depth+1
 |.mir p=>p.depth+1
 |.tur p=>p.depth+1
 |.hue _ _ p=>p.depth+1
def Leaf.by(l:Leaf)(b0 b1 b2 b3 b4 b5:Int):Leaf:=
 {l with w0:=l.w0*b0+l.w1*b2,w1:=l.w0*b1+l.w1*b3,w2:=l.w2*b0+l.w3*b2,w3:=l.w2*b1+l.w3*b3,w4:=l.w4+l.w0*b4+l.w1*b5,w5:=l.w5+l.w2*b4+l.w3*b5}
def bM(f g h:Int):Int:=if h=f then g else h
def Leaf.dye(l:Leaf)(f g:Int):Leaf:={l with hues:=l.hues.map (bM f g)}
def Pat.leaves:Pat->List Leaf
 |.mot L a b c d=>[bz L a b c d]
 |.over p q=>p.leaves++q.leaves
 |.sh a b p=>p.leaves.map (λl=>l.by 1 0 0 1 (-a) (-b))
 |.mir p=>p.leaves.map (λl=>l.by (-1) 0 0 1 0 0)
 |.tur p=>p.leaves.map (λl=>l.by 0 1 (-1) 0 0 0)
 |.hue f g p=>p.leaves.map (λl=>(l.by 1 0 0 1 0 0).dye f g)
def Pat.show:Pat->Int->Int->Int
 |.mot L a b c d,x,y=>(bz L a b c d).shows x y
 |.over p q,x,y=>if p.show x y≠0 then p.show x y else q.show x y
 |.sh a b p,x,y=>p.show (x-a) (y-b)
 |.mir p,x,y=>p.show (-x) y
 |.tur p,x,y=>p.show y (-x)
 |.hue f g p,x,y=>bM f g (p.show x y)
def Pat.Wf:Pat->Prop
 |.mot L a b c d=>Rows L/\B12 a/\B12 b/\B12 c/\B12 d/\¬a*d=b*c
 |.over p q=>p.Wf/\q.Wf
 |.sh a b p=>B12 a/\B12 b/\p.Wf
 |.mir p=>p.Wf
 |.tur p=>p.Wf
 |.hue f g p=>(1<=f/\f<=6)/\(1<=g/\g<=6)/\p.Wf
def Leaf.by_shows(l:Leaf)(b0 b1 b2 b3 b4 b5 x y:Int):(l.by b0 b1 b2 b3 b4 b5).shows x y=l.shows (b0*x+b1*y+b4) (b2*x+b3*y+b5):=by
 have e1:(l.w0*b0+l.w1*b2)*x+(l.w0*b1+l.w1*b3)*y+(l.w4+l.w0*b4+l.w1*b5)=l.w0*(b0*x+b1*y+b4)+l.w1*(b2*x+b3*y+b5)+l.w4:=NW
 have e2:(l.w2*b0+l.w3*b2)*x+(l.w2*b1+l.w3*b3)*y+(l.w5+l.w2*b4+l.w3*b5)=l.w2*(b0*x+b1*y+b4)+l.w3*(b2*x+b3*y+b5)+l.w5:=NW
 simp only[Leaf.shows,Leaf.hit,Leaf.by,e1,e2]
def gw(b0 b1 b2 b3 b4 b5 x y:Int):∀ls:List Leaf,aX (ls.map (λl=>l.by b0 b1 b2 b3 b4 b5)) x y=aX ls (b0*x+b1*y+b4) (b2*x+b3*y+b5)
 |[]=>rfl
 |l::r=>by
  rw[Ik,aX,aX,Leaf.by_shows,gw b0 b1 b2 b3 b4 b5 x y r]
def scanRow_sign{f:Int->Bool}:∀{cs:List Nat} {i c:Nat},(∀c∈cs,bb c)->scanRow f i cs=be c->49<=c/\c<=54
 |[],_,_,_,h=>by cases h
 |a::r,i,c,hs,h=>by
  rw[scanRow]at h;split at h
  .rename_i q;cases h;have:=hs a HW;unfold bb at this;have:=q.1;lia
  .exact scanRow_sign (λc q=>hs c (HU _ q)) h
def lM{f:Int->Int->Bool}:∀{L:List Ms} {j c:Nat},(∀l∈L,∀c∈cs l,bb c)->bU f j L=be c->49<=c/\c<=54
 |[],_,_,_,h=>by cases h
 |a::r,j,c,hs,h=>by
  rw[bU]at h;split at h
  .rename_i q;cases h;exact scanRow_sign (hs a HW) q
  .exact lM (λl q=>hs l (HU _ q)) h
def CF(h:k.toNat<hs.length):cell (hs.map (bM f g)) k=bM f g (cell hs k):=by
 simp[cell,IL,H9,Ih h]
def Leaf.dye_shows(ok:l.Ok)(hf:1<=f)(x y:Int):(l.dye f g).shows x y=bM f g (l.shows x y):=by
 have e:(l.dye f g).hit x y=l.hit x y:=rfl;unfold Leaf.shows;rw[e];cases h:l.hit x y with
 |none=>simp[bM];lia
 |some c=>
  have hc:49<=c/\c<=54:=lM (λl' q=>let ⟨_,_,_,h⟩:=ok.rows;(h l' q).2) h;exact CF (by rw[ok.many];lia)
def vG(hf:1<=f)(hg:1<=g):bM f g h=0↔h=0:=by
 unfold bM;split<;>lia
def vH{f g:Int}(hf:1<=f)(hg:1<=g)(x y:Int):∀ls:List Leaf,(∀l∈ls,l.Ok)->aX (ls.map (λl=>l.dye f g)) x y=bM f g (aX ls x y)
 |[],_=>by simp[aX,bM];lia
 |l::r,h=>by
  rw[Ik,aX,aX,Leaf.dye_shows (h l HW) hf,vH hf hg x y r λl q=>h l (HU _ q)];by_cases z:l.shows x y=0
  .rw[if_neg (λq=>q ((vG hf hg).mpr z)),if_neg (λq=>q z)]
  .rw[if_pos (λq=>z ((vG hf hg).mp q)),if_pos z]
def vI(x y:Int):∀(a b:List Leaf),aX (a++b) x y=if aX a x y≠0 then aX a x y else aX b x y
 |[],b=>by simp[aX]
 |l::r,b=>by
  rw[List.cons_append,aX,aX];by_cases z:l.shows x y≠0
  .rw[if_pos z,if_pos z,if_pos z]
  .rw[if_neg z,if_neg z,vI x y r b]
structure Leaf.Near(l:Leaf)(n:Nat):Prop where
 u0:(l.w0.natAbs=1/\l.w1=0/\l.w2=0/\l.w3.natAbs=1)\/(l.w0=0/\l.w1.natAbs=1/\l.w2.natAbs=1/\l.w3=0)
 w4:l.w4.natAbs<=24*n
 w5:l.w5.natAbs<=24*n
variable{n:Nat}
def Leaf.Near.mono{m:Nat}(h:l.Near n)(k:n<=m):l.Near m:=#[h.u0,by have:=h.w4;lia,by have:=h.w5;lia]
def Leaf.Near.unit(h:l.Near n):(l.w0=1\/l.w0=-1\/l.w0=0)/\(l.w1=1\/l.w1=-1\/l.w1=0)/\(l.w2=1\/l.w2=-1\/l.w2=0)/\(l.w3=1\/l.w3=-1\/l.w3=0):=by
 have k:∀{w:Int},w.natAbs=1->w=1\/w=-1\/w=0:=λ{w} e=>(Int.natAbs_eq w).imp (λz=>by rw[z,e];rfl) λz=>.inl (by rw[z,e];rfl);rcases h.u0 with⟨p,q,r,t⟩|⟨p,q,r,t⟩
 .exact#[k p,.inr (.inr q),.inr (.inr r),k t]
 .exact#[.inr (.inr p),k q,k r,.inr (.inr t)]
def vJ(h:w=1\/w=-1\/w=0):w.natAbs<=1:=by rcases h with rfl|rfl|rfl<;>decide
def near_add(h:e.natAbs<=24*n)(hw:w=1\/w=-1\/w=0)(hv:v=1\/v=-1\/v=0)(ha:B12 a)(hb:B12 b):(e+w* -a+v* -b).natAbs<=24*(n+1):=by
 have m:∀{w a:Int},(w=1\/w=-1\/w=0)->B12 a->(w* -a).natAbs<=12:=λ{w a} hw ha=>by
  rw[IR,Km];exact Jt (vJ hw) (show a.natAbs<=12 by unfold B12 at ha;clear hw;lia)
 rw[show 24*(n+1)=24*n+12+12 from rfl];exact HZ (Kh _ _) (J0 (HZ (Kh _ _) (J0 h (m hw ha))) (m hv hb))
def CG(h:l.Near n)(ha:B12 a)(hb:B12 b):(l.by 1 0 0 1 (-a) (-b)).Near (n+1):=by
 obtain⟨h0,h1,h2,h3⟩:=h.unit;exact#[by simpa[Leaf.by]using h.u0,near_add h.w4 h0 h1 ha hb,near_add h.w5 h2 h3 ha hb]
def CH(h:l.Near n):(l.by (-1) 0 0 1 0 0).Near (n+1):=by
 have p:=h.w4;have q:=h.w5;exact#[by simpa[Leaf.by]using h.u0,by simp[Leaf.by];lia,by simp[Leaf.by];lia]
def CI(h:l.Near n):(l.by 0 1 (-1) 0 0 0).Near (n+1):=by
 have p:=h.w4;have q:=h.w5;refine#[?_,by simp[Leaf.by];lia,by simp[Leaf.by];lia];rcases h.u0 with⟨a,b,c,d⟩|⟨a,b,c,d⟩
 .exact .inr (by simp[Leaf.by,a,b,c,d])
 .exact .inl (by simp[Leaf.by,a,b,c,d])
def vK(h:l.Near n):((l.by 1 0 0 1 0 0).dye f g).Near (n+1):=by
 have p:=h.w4;have q:=h.w5;exact#[by simpa[Leaf.by,Leaf.dye]using h.u0,by simp[Leaf.by,Leaf.dye];lia,by simp[Leaf.by,Leaf.dye];lia]
structure Leaf.Good(l:Leaf):Prop where
 rows:Rows l.rows
 a:B12 l.a
 b:B12 l.b
 c:B12 l.c
 d:B12 l.d
 ne:¬l.a*l.d=l.b*l.c
 many:l.hues.length=7
 hue:∀h∈l.hues,0<=h/\h<=6
def Leaf.ok_of(g:l.Good)(h:l.Near n)(hn:n<=40):l.Ok:=by
 have:=h.u0;have:=h.w4;have:=h.w5;exact#[g.rows,g.a,g.b,g.c,g.d,g.ne,v4,v4,v4,v4,v4,v4,g.many,g.hue]
def Pat.leaf_good:∀{p:Pat},p.Wf->∀l∈p.leaves,l.Good/\l.Near p.depth
 |.mot L a b c d,h,l,q=>by
  have:l=bz L a b c d:=by simpa[Pat.leaves]using q
  subst this;obtain⟨h1,h2,h3,h4,h5,h6⟩:=h;exact#[#[h1,h2,h3,h4,h5,h6,rfl,by intro h q;simp[bz]at q;lia],#[by simp[bz],by simp[bz],by simp[bz]]]
 |.over p r,h,l,q=>by
  rcases Iw.mp q with q|q
  .obtain⟨g,n⟩:=Pat.leaf_good h.1 l q;exact#[g,n.mono (by simp only[Pat.depth];lia)]
  .obtain⟨g,n⟩:=Pat.leaf_good h.2 l q;exact#[g,n.mono (by simp only[Pat.depth];lia)]
 |.sh a b p,h,l,q=>by
  obtain⟨l',q',rfl⟩:=Ir.mp q;obtain⟨g,n⟩:=Pat.leaf_good h.2.2 l' q';exact#[#[g.rows,g.a,g.b,g.c,g.d,g.ne,g.many,g.hue],CG n h.1 h.2.1]
 |.mir p,h,l,q=>by
  obtain⟨l',q',rfl⟩:=Ir.mp q;obtain⟨g,n⟩:=Pat.leaf_good (p:=p) h l' q';exact#[#[g.rows,g.a,g.b,g.c,g.d,g.ne,g.many,g.hue],CH n]
 |.tur p,h,l,q=>by
  obtain⟨l',q',rfl⟩:=Ir.mp q;obtain⟨g,n⟩:=Pat.leaf_good (p:=p) h l' q';exact#[#[g.rows,g.a,g.b,g.c,g.d,g.ne,g.many,g.hue],CI n]
 |.hue f k p,h,l,q=>by
  obtain⟨l',q',rfl⟩:=Ir.mp q;obtain⟨g,n⟩:=Pat.leaf_good (p:=p) h.2.2 l' q';refine#[#[g.rows,g.a,g.b,g.c,g.d,g.ne,?_,λv hv=>?_],vK n]
  .show(l'.hues.map _).length=7;rw[HV];exact g.many
  .obtain⟨u,hu,rfl⟩:=Ir.mp hv;have:=g.hue u hu;have:=h.2.1;unfold bM;split<;>lia
variable{p:Pat}
def Pat.leaf_ok(h:p.Wf)(hd:p.depth<=40):∀l∈p.leaves,l.Ok:=λl q=>Leaf.ok_of (Pat.leaf_good h l q).1 (Pat.leaf_good h l q).2 hd
def Pat.show_leaves:∀{p:Pat},p.Wf->p.depth<=40->∀x y,aX p.leaves x y=p.show x y
 |.mot L a b c d,_,_,x,y=>by
  simp only[Pat.leaves,Pat.show,aX];split
  .rfl
  .lia
 |.over p q,h,hd,x,y=>by
  simp only[Pat.depth]at hd;rw[Pat.leaves,vI,Pat.show_leaves h.1 v4,Pat.show_leaves h.2 v4,Pat.show]
 |.sh a b p,h,hd,x,y=>by
  simp only[Pat.depth]at hd;rw[Pat.leaves,gw,Pat.show_leaves h.2.2 v4,Pat.show];congr 1<;>lia
 |.mir p,h,hd,x,y=>by
  simp only[Pat.depth]at hd;rw[Pat.leaves,gw,Pat.show_leaves (p:=p) h v4,Pat.show];congr 1<;>lia
 |.tur p,h,hd,x,y=>by
  simp only[Pat.depth]at hd;rw[Pat.leaves,gw,Pat.show_leaves (p:=p) h v4,Pat.show];congr 1<;>lia
 |.hue f g p,h,hd,x,y=>by
  simp only[Pat.depth]at hd;have e:p.leaves.map (λl=>(l.by 1 0 0 1 0 0).dye f g)=(p.leaves.map (λl=>l.by 1 0 0 1 0 0)).map (λl=>l.dye f g):=by rw[JH];rfl
  rw[Pat.leaves,e,vH h.1.1 h.2.1.1,gw,Pat.show_leaves h.2.2 v4,Pat.show]
  .congr 2<;>lia
  .intro l q;obtain⟨l',q',rfl⟩:=Ir.mp q;obtain⟨g',n⟩:=Pat.leaf_good h.2.2 l' q';have n':=vK (f:=f) (g:=g) n;have:(l'.by 1 0 0 1 0 0).Near (p.depth+1):=#[n'.u0,n'.w4,n'.w5];exact Leaf.ok_of #[g'.rows,g'.a,g'.b,g'.c,g'.d,g'.ne,g'.many,g'.hue] this v4
def Pat.D(p:Pat):My.D:=.lst [.str p.text,.int p.depth,.lst (p.leaves.map Leaf.D)]
def Leaf.T(dy:Bool)(d8 new b0 b1 b2 b3 b4 b5:Int)(l:Leaf):Leaf:=if dy then(l.by b0 b1 b2 b3 b4 b5).dye d8 new else l.by b0 b1 b2 b3 b4 b5
def fD(h:1<=a/\a<=6):((toString a:String):Ms).length<=3:=bJ v4
def Wraps(p:Pat)(H:Prop)(R:My.D->Prop):Prop:=(5<=p.depth->R p.D)/\(p.depth<5->R (Pat.mir p).D/\R (Pat.tur p).D/\(∀a b,B12 a->B12 b->R (Pat.sh a b p).D)/\(H->∀f g:Int,(1<=f/\f<=6)->(1<=g/\g<=6)->R (Pat.hue f g p).D))
variable{A:Int}{R:My.D->Prop}
def CJ(h:Wraps p (j=3) R)(hd:p.depth<5){k B d8 new:Int}(hA:B12 A)(hB:B12 B)(ho:1<=d8/\d8<=6)(hn:1<=new/\new<=6)(hj:0<=j/\j<4):
  ∃(hs:Ms) (b0 b1 b2 b3 b4 b5:Int),atI [D.str "m",D.str "t",D.str ((((("s":Ms)++(toString A:String))++",")++(toString B:String))++":"),D.str ((("h":Ms)++(toString d8:String))++(toString new:String))] j=be (.str hs)/\
   atI ([D.tup [.int (-1),.int 0,.int 0,.int 1,.int 0,.int 0],D.tup [.int 0,.int 1,.int (-1),.int 0,.int 0,.int 0]]++[D.tup [.int 1,.int 0,.int 0,.int 1,.int (-A),.int (-B)],D.tup [.int 1,.int 0,.int 0,.int 1,.int 0,.int 0]]) j=be (.tup [.int b0,.int b1,.int b2,.int b3,.int b4,.int b5])/\
   (b0.natAbs<=1/\b1.natAbs<=1/\b2.natAbs<=1/\b3.natAbs<=1/\b4.natAbs<=12/\b5.natAbs<=12)/\hs.length<=20/\
   R (.lst [.str (hs++p.text),.int (p.depth+1),.lst ((p.leaves.map (Leaf.T (decide (j=3)) d8 new b0 b1 b2 b3 b4 b5)).map Leaf.D)]):=by
 obtain⟨h1,h2,h3,h4⟩:=h.2 hd;have l1:("s":Ms).length=1:=rfl;have l2:(",":Ms).length=1:=rfl;have l3:(":":Ms).length=1:=rfl;have l4:("h":Ms).length=1:=rfl;have lA:=bJ hA;have lB:=bJ hB;have lo:=fD ho;have ln:=fD hn;have eD:∀n:Nat,D.int ((n+1:Nat):Int)=D.int ((n:Int)+1):=λn=>by congr 1
 unfold B12 at hA hB;rcases(v4:j=0\/j=1\/j=2\/j=3)with rfl|rfl|rfl|rfl
 .exact#[_,_,_,_,_,_,_,rfl,rfl,v4,Mx,h1]
 .exact#[_,_,_,_,_,_,_,rfl,rfl,v4,Mx,h2]
 .refine#[_,_,_,_,_,_,_,rfl,rfl,v4,?_,h3 A B hA hB]
  repeat rw[aI]
  lia
 .refine#[_,_,_,_,_,_,_,rfl,rfl,v4,?_,h4 rfl d8 new ho hn]
  repeat rw[aI]
  lia
def CK(h d8 new:Int):atI [D.int h,D.int new] (if decide (h=d8)=true then(1:Int)else 0)=be (.int (bM d8 new h)):=by
 unfold bM;by_cases e:h=d8
 .rw[if_pos e,if_pos (by simpa using e)];rfl
 .rw[if_neg e,if_neg (by simpa using e)];rfl
def lN{α:Type}{xs:List α}{k:Nat}{x:α}(h:xs[k]?=be x):xs.take (k+1)=xs.take k++[x]:=by
 have hk:k<xs.length:=(Ia.mp h).1;rw[KP,h];rfl
def Pat.leaves_len:∀(p:Pat),p.leaves.length<=2^p.depth
 |.mot ..=>HP _
 |.over p q=>by
  have h1:=p.leaves_len;have h2:=q.leaves_len;have m1:2^p.depth<=2^(max p.depth q.depth):=Jv Mx (K5 _ _);have m2:2^q.depth<=2^(max p.depth q.depth):=Jv Mx (K6 _ _);rw[Pat.leaves,Ic,Pat.depth,K7];lia
 |.sh a b p=>by rw[Pat.leaves,HV,Pat.depth,Ja];have:=p.leaves_len;lia
 |.mir p=>by rw[Pat.leaves,HV,Pat.depth,Ja];have:=p.leaves_len;lia
 |.tur p=>by rw[Pat.leaves,HV,Pat.depth,Ja];have:=p.leaves_len;lia
 |.hue f g p=>by rw[Pat.leaves,HV,Pat.depth,Ja];have:=p.leaves_len;lia
def Pat.leaves_32(h:p.depth<=5):p.leaves.length<=32:=HZ p.leaves_len (Jv Mx h)
def CL:SpD:=λds R=>∃(p:Pat) (draw:Int),ds=[p.D,.int draw]/\p.Wf/\p.depth<=5/\p.text.length<=100000/\Wraps p (draw%4=3) R
def vL(hn:¬a*d=b*c)(h:(u*d-v*c).fmod (a*d-b*c)=0/\(a*v-b*u).fmod (a*d-b*c)=0):∃i j,u=i*a+j*c/\v=i*b+j*d:=by
 have hz:a*d-b*c≠0:=MD
 obtain⟨i,ei⟩:(a*d-b*c)∣(u*d-v*c):=#[_,(K8 h.1).symm];obtain⟨j,ej⟩:(a*d-b*c)∣(a*v-b*u):=#[_,(K8 h.2).symm];refine#[i,j,?_,?_]
 .have:(a*d-b*c)*u=(a*d-b*c)*(i*a+j*c):=by
   have q1:(a*d-b*c)*u=a*(u*d-v*c)+c*(a*v-b*u):=NW
   rw[q1,ei,ej];grind
  exact Kn hz this
 .have:(a*d-b*c)*v=(a*d-b*c)*(i*b+j*d):=by
   have q1:(a*d-b*c)*v=b*(u*d-v*c)+d*(a*v-b*u):=NW
   rw[q1,ei,ej];grind
  exact Kn hz this
def Uni.trans{x0 x1 y0 y1:Int}(h:Uni a b c d p0 p1 q0 q1)(k:Uni p0 p1 q0 q1 x0 x1 y0 y1):Uni a b c d x0 x1 y0 y1:=by
 obtain⟨m,n,k1,l,hd,rfl,rfl,rfl,rfl⟩:=h;obtain⟨m',n',k',l',e_,rfl,rfl,rfl,rfl⟩:=k;have dt:(m'*m+n'*k1)*(k'*n+l'*l)-(m'*n+n'*l)*(k'*m+l'*k1)=(m'*l'-n'*k')*(m*l-n*k1):=NW
 refine#[m'*m+n'*k1,m'*n+n'*l,k'*m+l'*k1,k'*n+l'*l,?_,NW,NW,NW,NW];rw[dt];rcases hd with e|e<;>rcases e_ with e'|e'<;>rw[e,e']<;>decide
def fE:∀(n:Nat) (a b c d:Int),d.natAbs<=n->∃p0 p1 q0,Lev a b c d p0 p1 q0
 |n,a,b,c,d,hn=>by
  by_cases hd:d=0
  .subst hd;by_cases hb:0<=b
   .exact#[a,b,c,hb,Uni.refl a b c 0]
   .exact#[-a,-b,c,v4,(Uni.refl a b c 0).neg]
  .match n,hn with
   |0,hn=>exact absurd (v4:d=0) hd
   |n+1,hn=>
    have lt:=(fdm b d hd).1;obtain⟨p0,p1,q0,h0,hu⟩:=fE n c d (a-b.fdiv d*c) (b-b.fdiv d*d) v4;exact#[p0,p1,q0,h0,((Uni.refl a b c d).step (b.fdiv d)).trans hu]
def CM(hn:¬a*d=b*c)(g0:0<=g)(g1:g∣b)(g2:g∣d)(g3:∀e,e∣b->e∣d->e∣g):
  ∃w s,FamOf a b c d w g s:=by
 obtain⟨p0,p1,q0,hL⟩:=fE d.natAbs a b c d (HP _);have hF:=gv hn hL;have hp:=hF.2.1;obtain⟨m,n,k,l,_,e1,e2,e3,e4⟩:=hL.2;obtain⟨m',n',k',l',_,f1,f2,f3,f4⟩:=hL.2.inv;have d1:p1∣g:=g3 p1 #[m',by rw[f2];grind] #[k',by rw[f4];grind];have d2:g∣p1:=by
  rw[e2];exact Ko (J1 g1) (J1 g2)
 have:p1=g:=K9 v4 g0 d1 d2;subst this;exact#[_,_,hF]
def FamOf.uniq_lean(f:FamOf a b c d w h s)(e1:x=i*a+j*c)(e2:h=i*b+j*d)(h0:0<=x)(h1:x<=s):x=s:=by
 obtain⟨hw,hh,hs,LN,hu⟩:=f;obtain⟨m,n,k,l,_,f1,f2,f3,f4⟩:=hu.inv;have ex:x=(i*m+j*k)*w+(i*n+j*l)*s:=by rw[e1,f1,f3];grind
 have eh:h=(i*n+j*l)*h:=by
  have:i*b+j*d=(i*n+j*l)*h:=by rw[f2,f4];grind
  rw[<-this];exact e2
 have one:i*n+j*l=1:=by
  have:(i*n+j*l)*h=1*h:=by lia
  exact Ju v4 this
 rw[one]at ex;generalize i*m+j*k=t at ex;have:t*w=x-s:=v4
 rcases(v4:t<=-1\/t=0\/1<=t)with z|z|z
 .have:=Ix z (show 0<=w by lia);lia
 .subst z;lia
 .have:=Ix z (show 0<=w by lia);lia
def notT{c:Prop}[Decidable c](h:(!decide c)=true):¬c:=by
 intro q;rw[decide_eq_true q]at h;cases h
def notF{c:Prop}[Decidable c](h:¬(!decide c)=true):c:=by
 rcases Classical.em c with q|q
 .exact q
 .rw[decide_eq_false q]at h;exact absurd rfl h
def Leaf.o0(l:Leaf):Int:=l.w0*l.a+l.w2*l.b
def Leaf.o1(l:Leaf):Int:=l.w1*l.a+l.w3*l.b
def Leaf.t0(l:Leaf):Int:=l.w0*l.c+l.w2*l.d
def Leaf.t1(l:Leaf):Int:=l.w1*l.c+l.w3*l.d
def dG(h:w=1\/w=-1\/w=0)(ha:B12 a):(w*a).natAbs<=12:=by
 rw[IR];exact Jt (vJ h) (show a.natAbs<=12 by unfold B12 at ha;clear h;lia)
def vM(ha:B12 a)(hb:B12 b):(a*b).natAbs<=144:=by
 unfold B12 at ha hb;rw[IR];exact HZ (Jt (show a.natAbs<=12 by lia) (show b.natAbs<=12 by lia)) Mx
def Leaf.sizes(g:l.Good)(h:l.Near n):l.o0.natAbs<=24/\l.o1.natAbs<=24/\l.t0.natAbs<=24/\l.t1.natAbs<=24/\¬l.o0*l.t1=l.o1*l.t0/\(l.o0*l.t1-l.o1*l.t0).natAbs<=288:=by
 obtain⟨h0,h1,h2,h3⟩:=h.unit;have a0:=dG h0 g.a;have a1:=dG h1 g.a;have b2:=dG h2 g.b;have b3:=dG h3 g.b;have c0:=dG h0 g.c;have c1:=dG h1 g.c;have d2:=dG h2 g.d;have d3:=dG h3 g.d;have dt:l.o0*l.t1-l.o1*l.t0=(l.w0*l.w3-l.w1*l.w2)*(l.a*l.d-l.b*l.c):=by unfold Leaf.o0 Leaf.o1 Leaf.t0 Leaf.t1;grind
 have dw:(l.w0*l.w3-l.w1*l.w2).natAbs=1:=by
  rcases h.u0 with⟨p,q,r,t⟩|⟨p,q,r,t⟩
  .rw[q,La,Int.sub_zero,IR,p,t]
  .rw[p,La,Int.zero_sub,Km,IR,q,r]
 have da:(l.o0*l.t1-l.o1*l.t0).natAbs=(l.a*l.d-l.b*l.c).natAbs:=by rw[dt,IR,dw,Nat.one_mul]
 refine#[ab24 a0 b2,ab24 a1 b3,ab24 c0 d2,ab24 c1 d3,λz=>g.ne ?_,?_]
 .rw[z,Lb]at da;exact Int.sub_eq_zero.mp (KN.mp da.symm)
 .rw[da];exact HZ (KZ _ _) (J0 (vM g.a g.d) (vM g.b g.c))
def CN:SpD:=λds R=>∃(l:Leaf) (n:Nat),ds=[l.D]/\l.Good/\l.Near n/\∀w h s:Int,FamOf l.o0 l.o1 l.t0 l.t1 w h s->w*h<=288->R (.tup [.int w,.int h,.int s])
def CO(h1:y%h=0/\(x-y/h*s)%w=0):∃i j,x=i*w+j*s/\y=j*h:=by
 refine#[(x-y/h*s)/w,y/h,?_,?_]
 .have:=Jw (x-y/h*s) w;rw[h1.2]at this;rw[Iu w]at this;lia
 .have:=Jw y h;rw[h1.1,Iu h]at this;lia
def fF(x y:Int):∃g u,Meas x y g u:=by
 obtain⟨p0,p1,q0,hL⟩:=fE y.natAbs 1 x 0 y (HP _);exact#[p1,p0,vw #[hL.1,hL.2]]
def Meas.gcd{G:Int}(h:Meas x y g u)(g0:0<=G)(g1:G∣x)(g2:G∣y)(g3:∀e,e∣x->e∣y->e∣G):G=g:=by
 obtain⟨h0,⟨i,ei⟩,⟨j,ej⟩,n,en⟩:=h;refine K9 g0 h0 ?_ (g3 g #[i,by rw[ei,Iu]] #[j,by rw[ej,Iu]]);rw[en];exact Ko (J1 g1) (J1 g2)
structure Fm(w h s:Int):Prop where
 w0:0<w
 w1:w<=720
 h0:0<h
 h1:h<=720
 s0:0<=s
 sw:s<w
def CP(f:Fm w1 h1 s1)(k:Fm w2 h2 s2):∃g u w h s A,Meas w1 w2 g u/\w=w1*w2/g/\MetR w1 h1 s1 w2 h2 s2 w h s A:=by
 obtain⟨g,u,M1⟩:=fF w1 w2;obtain⟨k',u',M2⟩:=fF h1 h2;obtain⟨gg,v8,M3⟩:=fF g (h1*h2/k'/h2*s2-h1*h2/k'/h1*s1);exact#[g,u,_,_,_,_,M1,rfl,lJ f.w0 k.w0 f.h0 k.h0 M1 M2 M3]
def MetR.high(M:MetR w1 h1 s1 w2 h2 s2 w h s A)(hh:0<h1)(hj:1<=j)(e1:∃i,x=i*w1+j*s1)(e2:∃i k,x=i*w2+k*s2/\j*h1=k*h2):h<=j*h1/\(j*h1=h->0<=x->x<w->x=s):=by
 obtain⟨i,e1⟩:=e1;obtain⟨i',k,e3,e4⟩:=e2;obtain⟨a,b,e5,e6⟩:=M.all x (j*h1) #[i,j,e1,rfl] #[i',k,e3,e4];have hp:0<j*h1:=Ii v4 hh;have hb:1<=b:=by
  rcases(v4:b<=0\/1<=b)with z|z
  .have:=Jj z (show 0<=h by have:=M.h0;lia);lia
  .exact z
 refine#[?_,λe x0 x1=>?_]
 .have:=Ix hb (show 0<=h by have:=M.h0;lia);lia
 .have ob:b=1:=by
   have:b*h=1*h:=by lia
   exact Ju (by have:=M.h0;lia) this
  rw[ob]at e5;have s0:=M.s0;have sw:=M.sw;have:a*w=x-s:=v4
  rcases(v4:a<=-1\/a=0\/1<=a)with z|z|z
  .have:=Ix z (show 0<=w by lia);lia
  .subst z;lia
  .have:=Ix z (show 0<=w by lia);lia
def CQ:SpD:=λds R=>∃w1 h1 s1 w2 h2 s2:Int,ds=[.tup [.int w1,.int h1,.int s1],.tup [.int w2,.int h2,.int s2]]/\Fm w1 h1 s1/\Fm w2 h2 s2/\
 ∀w h s A,MetR w1 h1 s1 w2 h2 s2 w h s A->(w*h<=720->R (.tup [.int w,.int h,.int s]))/\(720<w*h->R .non)
def CS{S:Int}(hw:0<w1)(hx:x<w1)(x0:0<=x)(hS:0<=S)(e:S=i*w1+s)(e2:∃i',x=i'*w1+s):∃k,S=x+k*w1/\0<=k:=by
 obtain⟨i',e2⟩:=e2;refine#[i-i',NW,?_];rcases(v4:i-i'<=-1\/0<=i-i')with z|z
 .have:=Ix z (show 0<=w1 by lia);have:(i-i')*w1=S-x:=by grind
  lia
 .exact z
def InF(w h s x y:Int):Prop:=∃i j,x=i*w+j*s/\y=j*h
def Leaf.Lat(l:Leaf)(x y:Int):Prop:=∃i j,x=i*l.o0+j*l.t0/\y=i*l.o1+j*l.t1
def FamOf.lat(f:FamOf a b c d w h s)(x y:Int):InF w h s x y↔∃i j,x=i*a+j*c/\y=i*b+j*d:=by
 obtain⟨_,_,_,_,hu⟩:=f;obtain⟨m,n,k,l,_,e1,e2,e3,e4⟩:=id hu;obtain⟨m',n',k',l',_,f1,f2,f3,f4⟩:=hu.inv;constructor
 .rintro⟨i,j,rfl,rfl⟩;refine#[i*m+j*k,i*n+j*l,by rw[e1,e3];grind,?_];have z:i*0+j*h=(i*m+j*k)*b+(i*n+j*l)*d:=by rw[e2,e4];grind
  lia
 .rintro⟨i,j,rfl,rfl⟩;refine#[i*m'+j*k',i*n'+j*l',by rw[f1,f3];grind,by rw[f2,f4];grind]
def MetR.lat(M:MetR w1 h1 s1 w2 h2 s2 w h s A)(x y:Int):InF w h s x y↔InF w1 h1 s1 x y/\InF w2 h2 s2 x y:=by
 constructor
 .rintro⟨i,j,rfl,rfl⟩;obtain⟨a1,e1⟩:=M.in1;obtain⟨a2,e2⟩:=M.in2;obtain⟨b1,c1,e3,e4⟩:=M.up1;obtain⟨b2,c2,e5,e6⟩:=M.up2;refine#[#[i*a1+j*b1,j*c1,?_,?_],#[i*a2+j*b2,j*c2,?_,?_]]
  .rw[e1,e3];grind
  .rw[e4];grind
  .rw[e2,e5];grind
  .rw[e6];grind
 .rintro⟨h1,h2⟩;exact M.all x y h1 h2
variable{w' h' s':Int}
def InF.le(hw:0<w)(hh:0<h)(Qi:0<w')(Qj:0<h')(sub:∀x y,InF w' h' s' x y->InF w h s x y):w*h<=w'*h'/\w<=w'/\h<=h':=by
 obtain⟨i,j,e1,e2⟩:=sub w' 0 #[1,0,v4,v4];have j0:j=0:=by
  rcases Kq.mp e2.symm with z|z
  .exact z
  .lia
 subst j0;have i1:1<=i:=by
  rcases(v4:i<=0\/1<=i)with z|z
  .have:=Jj z (show 0<=w by lia);lia
  .exact z
 obtain⟨i',j',e3,e4⟩:=sub s' h' #[0,1,v4,v4];have j1:1<=j':=by
  rcases(v4:j'<=0\/1<=j')with z|z
  .have:=Jj z (show 0<=h by lia);lia
  .exact z
 have a1:=Ix i1 (show 0<=w by lia);have a2:=Ix j1 (show 0<=h by lia);have b1:w<=w':=v4
 have b2:h<=h':=v4
 exact#[Int.mul_le_mul b1 b2 v4 v4,b1,b2]
def InF.uniq(hw:0<w)(hh:0<h)(hs:0<=s)(LN:s<w)(Qi:0<w')(Qj:0<h')(Mc:0<=s')(TM:s'<w')(e:∀x y,InF w h s x y↔InF w' h' s' x y):w=w'/\h=h'/\s=s':=by
 obtain⟨_,a1,a2⟩:=InF.le hw hh Qi Qj (λx y q=>(e x y).mpr q);obtain⟨_,b1,b2⟩:=InF.le Qi Qj hw hh (λx y q=>(e x y).mp q);have ew:w=w':=v4
 have eh:h=h':=v4
 subst ew eh;refine#[rfl,rfl,?_];obtain⟨i,j,e1,e2⟩:=(e s h).mp #[0,1,v4,v4];have j1:j=1:=by
  have:j*h=1*h:=by lia
  exact Ju v4 this
 subst j1;have:i*w=s-s':=v4
 rcases(v4:i<=-1\/i=0\/1<=i)with z|z|z
 .have:=Ix z (show 0<=w by lia);lia
 .subst z;lia
 .have:=Ix z (show 0<=w by lia);lia
structure Fam0(w h s:Int):Prop where
 w0:0<w
 h0:0<h
 s0:0<=s
 sw:s<w
def vN(f:Fam0 w1 h1 s1)(k:Fam0 w2 h2 s2):∃w h s,Fam0 w h s/\∀x y,InF w h s x y↔InF w1 h1 s1 x y/\InF w2 h2 s2 x y:=by
 obtain⟨g,u,M1⟩:=fF w1 w2;obtain⟨k',u',M2⟩:=fF h1 h2;obtain⟨gg,v8,M3⟩:=fF g (h1*h2/k'/h2*s2-h1*h2/k'/h1*s1);have M:=lJ f.w0 k.w0 f.h0 k.h0 M1 M2 M3;exact#[_,_,_,#[M.w0,M.h0,M.s0,M.sw],M.lat]
def Leaf.fam_ex(g:l.Good)(h:l.Near n):∃w k s,Fam0 w k s/\∀x y,InF w k s x y↔l.Lat x y:=by
 obtain⟨_,_,_,_,ne,_⟩:=Leaf.sizes g h;obtain⟨p0,p1,q0,hL⟩:=fE l.t1.natAbs l.o0 l.o1 l.t0 l.t1 (HP _);have f:=gv ne hL;exact#[_,_,_,#[f.1,f.2.1,f.2.2.1,f.2.2.2.1],f.lat]
def bV(ls:List Leaf)(x y:Int):Prop:=∀l∈ls,l.Lat x y
def vO{n:Nat}:∀(ls:List Leaf) (w h s:Int),Fam0 w h s->(∀l∈ls,l.Good/\l.Near n)->∃w' h' s',Fam0 w' h' s'/\∀x y,InF w' h' s' x y↔InF w h s x y/\bV ls x y
 |[],w,h,s,f,_=>#[w,h,s,f,λx y=>#[λq=>#[q,λl z=>by cases z],λq=>q.1]]
 |l::r,w,h,s,f,g=>by
  obtain⟨w1,h1,s1,f1,e1⟩:=Leaf.fam_ex (g l HW).1 (g l HW).2;obtain⟨w2,h2,s2,f2,e2⟩:=vN f f1;obtain⟨w3,h3,s3,f3,e3⟩:=vO r w2 h2 s2 f2 λl' q=>g l' (HU _ q);refine#[w3,h3,s3,f3,λx y=>?_];rw[e3,e2,e1];constructor
  .rintro⟨⟨a,b⟩,c⟩;exact#[a,λl' q=>(HQ.mp q).elim (λz=>z ▸ b) (c l')]
  .rintro⟨a,b⟩;exact#[#[a,b l HW],λl' q=>b l' (HU _ q)]
def cut1(d:D)(ds:List D):cutD (d::ds) (be 1) LH=ds:=by
 unfold cutD;have e1:HT.sIx (d::ds).length 0 (be 1)=1:=by simp[HT.sIx]
 have e2:HT.sIx (d::ds).length (d::ds).length LH=(d::ds).length:=by simp[HT.sIx]
 rw[e1,e2,List.drop_one,List.tail_cons,HX,Ld,J2]
def lP:SpD:=λds R=>∃(ls:List Leaf) (n:Nat),ds=[.lst (ls.map Leaf.D)]/\ls≠[]/\(∀l∈ls,l.Good/\l.Near n)/\
 ∀w h s:Int,Fam0 w h s->(∀x y,InF w h s x y↔bV ls x y)->(w*h<=720->R (.tup [.int w,.int h,.int s]))/\(720<w*h->R .non)
def Pat.Lat:Pat->Int->Int->Prop
 |.mot _ a b c d,x,y=>∃i j,x=i*a+j*c/\y=i*b+j*d
 |.over p q,x,y=>p.Lat x y/\q.Lat x y
 |.sh _ _ p,x,y=>p.Lat x y
 |.mir p,x,y=>p.Lat (-x) y
 |.tur p,x,y=>p.Lat y (-x)
 |.hue _ _ p,x,y=>p.Lat x y
def Leaf.by_lat(l:Leaf)(b0 b1 b2 b3 b4 b5 x y:Int):(l.by b0 b1 b2 b3 b4 b5).Lat x y↔∃u v,l.Lat u v/\x=b0*u+b2*v/\y=b1*u+b3*v:=by
 have e0:(l.by b0 b1 b2 b3 b4 b5).o0=b0*l.o0+b2*l.o1:=by simp only[Leaf.o0,Leaf.o1,Leaf.by];grind
 have e1:(l.by b0 b1 b2 b3 b4 b5).o1=b1*l.o0+b3*l.o1:=by simp only[Leaf.o0,Leaf.o1,Leaf.by];grind
 have e2:(l.by b0 b1 b2 b3 b4 b5).t0=b0*l.t0+b2*l.t1:=by simp only[Leaf.t0,Leaf.t1,Leaf.by];grind
 have e3:(l.by b0 b1 b2 b3 b4 b5).t1=b1*l.t0+b3*l.t1:=by simp only[Leaf.t0,Leaf.t1,Leaf.by];grind
 unfold Leaf.Lat;rw[e0,e1,e2,e3];generalize l.o0=o0;generalize l.o1=o1;generalize l.t0=t0;generalize l.t1=t1;constructor
 .rintro⟨i,j,rfl,rfl⟩;exact#[_,_,#[i,j,rfl,rfl],NW,NW]
 .rintro⟨_,_,⟨i,j,rfl,rfl⟩,rfl,rfl⟩;exact#[i,j,NW,NW]
def Leaf.dye_lat(l:Leaf)(f g x y:Int):(l.dye f g).Lat x y↔l.Lat x y:=Iff.rfl
def CT(a b:List Leaf)(x y:Int):bV (a++b) x y↔bV a x y/\bV b x y:=by
 constructor
 .intro h;exact#[λl q=>h l (Jl _ q),λl q=>h l (Ip _ q)]
 .rintro⟨h1,h2⟩ l q;rcases Iw.mp q with q|q
  .exact h1 l q
  .exact h2 l q
def latAll_map{f:Leaf->Leaf}(hf:∀l:Leaf,(f l).Lat x y↔l.Lat u v)(ls:List Leaf):bV (ls.map f) x y↔bV ls u v:=by
 constructor
 .intro h l q;exact(hf l).mp (h _ (Ir.mpr #[l,q,rfl]))
 .intro h l q;obtain⟨l',q',rfl⟩:=Ir.mp q;exact(hf l').mpr (h l' q')
def vP(l:Leaf)(e f x y:Int):(l.by 1 0 0 1 e f).Lat x y↔l.Lat x y:=by
 rw[Leaf.by_lat];constructor
 .rintro⟨u,v,h,e1,e2⟩;have e1:x=u:=by lia
  have e2:y=v:=v4
  rw[e1,e2];exact h
 .intro h;exact#[x,y,h,v4,v4]
def Pat.lat_leaves:∀(p:Pat) (x y:Int),bV p.leaves x y↔p.Lat x y
 | .mot L a b c d,x,y=>by
  have e0:(bz L a b c d).o0=a:=by simp[Leaf.o0,bz]
  have e1:(bz L a b c d).o1=b:=by simp[Leaf.o1,bz]
  have e2:(bz L a b c d).t0=c:=by simp[Leaf.t0,bz]
  have e3:(bz L a b c d).t1=d:=by simp[Leaf.t1,bz]
  have e:(bz L a b c d).Lat x y↔(Pat.mot L a b c d).Lat x y:=by
   unfold Leaf.Lat;rw[e0,e1,e2,e3];exact Iff.rfl
  rw[<-e];constructor
  .intro h;exact h _ HW
  .intro h l q;rw[HN.mp q];exact h
 |.over p q,x,y=>by rw[Pat.leaves,CT,Pat.lat_leaves p,Pat.lat_leaves q,Pat.Lat]
 |.sh a b p,x,y=>by rw[Pat.leaves,latAll_map (λl=>vP l _ _ x y),Pat.lat_leaves p,Pat.Lat]
 | .mir p,x,y=>by
  have e:∀l:Leaf,(l.by (-1) 0 0 1 0 0).Lat x y↔l.Lat (-x) y:=λl=>by
   rw[Leaf.by_lat];constructor
   .rintro⟨u,v,h,e1,e2⟩;have e1:-x=u:=by lia
    have e2:y=v:=v4
    rw[e1,e2];exact h
   .intro h;exact#[-x,y,h,v4,v4]
  rw[Pat.leaves,latAll_map e,Pat.lat_leaves p,Pat.Lat]
 | .tur p,x,y=>by
  have e:∀l:Leaf,(l.by 0 1 (-1) 0 0 0).Lat x y↔l.Lat y (-x):=λl=>by
   rw[Leaf.by_lat];constructor
   .rintro⟨u,v,h,e1,e2⟩;have e1:-x=v:=by lia
    have e2:y=u:=v4
    rw[e1,e2];exact h
   .intro h;exact#[y,-x,h,v4,v4]
  rw[Pat.leaves,latAll_map e,Pat.lat_leaves p,Pat.Lat]
 |.hue f g p,x,y=>by
  rw[Pat.leaves,latAll_map (λl=>(Leaf.dye_lat _ f g x y).trans (vP l _ _ x y)),Pat.lat_leaves p,Pat.Lat]
structure Pat.Fam(p:Pat)(w h s:Int):Prop where
 f:Fam0 w h s
 lat:∀x y,InF w h s x y↔p.Lat x y
def Pat.Fam.uniq(a:p.Fam w h s)(b:p.Fam w' h' s'):w=w'/\h=h'/\s=s':=
 InF.uniq a.f.w0 a.f.h0 a.f.s0 a.f.sw b.f.w0 b.f.h0 b.f.s0 b.f.sw λx y=>(a.lat x y).trans (b.lat x y).symm
def Pat.Fam.mot(k:FamOf a b c d w h s):(Pat.mot L a b c d).Fam w h s:=#[#[k.1,k.2.1,k.2.2.1,k.2.2.2.1],k.lat]
def Pat.Fam.sh(a b:Int)(k:p.Fam w h s):(Pat.sh a b p).Fam w h s:=#[k.f,k.lat]
def Pat.Fam.hue(a b:Int)(k:p.Fam w h s):(Pat.hue a b p).Fam w h s:=#[k.f,k.lat]
def Pat.Fam.mir(k:p.Fam w h s):(Pat.mir p).Fam w h (-s%w):=by
 refine#[#[k.f.w0,k.f.h0,cU k.f.w0,cV k.f.w0],λx y=>?_];show _↔p.Lat (-x) y;rw[<-k.lat];have e:=Ji (-s) w;generalize -s%w=r at e;generalize -s/w=t at e;constructor
 .rintro⟨i,j,rfl,rfl⟩;exact#[j*t-i,j,by rw[e];grind,rfl]
 .rintro⟨i,j,ex,rfl⟩;exact#[j*t-i,j,by rw[e];grind,rfl]
def Pat.Fam.tur(k:p.Fam w h s)(f:FamOf 0 w (-h) s w' h' s'):(Pat.tur p).Fam w' h' s':=by
 refine#[#[f.1,f.2.1,f.2.2.1,f.2.2.2.1],λx y=>?_];show _↔p.Lat y (-x);rw[<-k.lat,f.lat];constructor
 .rintro⟨i,j,rfl,rfl⟩;exact#[i,j,NW,NW]
 .rintro⟨i,j,ex,ey⟩;exact#[i,j,NW,NW]
def Pat.Fam.over{q:Pat}(k1:p.Fam w1 h1 s1)(k2:q.Fam w2 h2 s2)(M:MetR w1 h1 s1 w2 h2 s2 w h s A):(Pat.over p q).Fam w h s:=by
 refine#[#[M.w0,M.h0,M.s0,M.sw],λx y=>?_];rw[M.lat,k1.lat,k2.lat];exact Iff.rfl
def lQ(hw:0<w)(hh:0<h):∃w' h' s',FamOf 0 w (-h) s w' h' s'/\w'*h'=w*h:=by
 have hp:0<w*h:=Ii hw hh;have hn:¬0*s=w* -h:=by rw[J3];lia
 obtain⟨p0,p1,q0,hL⟩:=fE s.natAbs 0 w (-h) s (HP _);have f:=gv hn hL;refine#[_,_,_,f,?_];have M9:=Ii f.1 f.2.1;have c:=f.cells;rw[J3]at c;lia
def vQ(hn:¬a*d=b*c):∃w h s,FamOf a b c d w h s/\(Pat.mot L a b c d).Fam w h s:=by
 obtain⟨p0,p1,q0,hL⟩:=fE d.natAbs a b c d (HP _);have f:=gv hn hL;exact#[_,_,_,f,.mot f]
def Pat.fam_ex:∀{p:Pat},p.Wf->∃w h s,p.Fam w h s
 |.mot L a b c d,h=>by
  obtain⟨w,k,s,_,f⟩:=vQ (L:=L) h.2.2.2.2.2;exact#[w,k,s,f]
 |.over p q,h=>by
  obtain⟨w1,h1,s1,f1⟩:=Pat.fam_ex h.1;obtain⟨w2,h2,s2,f2⟩:=Pat.fam_ex h.2;obtain⟨w,k,s,f,e⟩:=vN f1.f f2.f;refine#[w,k,s,f,λx y=>?_];rw[e,f1.lat,f2.lat];exact Iff.rfl
 |.sh a b p,h=>by
  obtain⟨w,k,s,f⟩:=Pat.fam_ex h.2.2;exact#[w,k,s,f.sh a b]
 |.mir p,h=>by
  obtain⟨w,k,s,f⟩:=Pat.fam_ex (p:=p) h;exact#[w,k,_,f.mir]
 |.tur p,h=>by
  obtain⟨w,k,s,f⟩:=Pat.fam_ex (p:=p) h;obtain⟨w',k',s',f',_⟩:=lQ (s:=s) f.f.w0 f.f.h0;exact#[w',k',s',f.tur f']
 |.hue a b p,h=>by
  obtain⟨w,k,s,f⟩:=Pat.fam_ex h.2.2;exact#[w,k,s,f.hue a b]
def Pat.Fits(p:Pat):Prop:=∃w h s,p.Fam w h s/\w*h<=720
def Pat.fits_mot(ha:B12 a)(hb:B12 b)(hc:B12 c)(hd:B12 d)(hn:¬a*d=b*c):(Pat.mot L a b c d).Fits:=by
 obtain⟨w,h,s,k,f⟩:=vQ (L:=L) hn;refine#[w,h,s,f,?_];have kc:=k.cells;unfold B12 at*;have m1:=bT (a:=a) (d:=d) (A:=12) (B:=12) v4 v4;have m2:=bT (a:=b) (d:=c) (A:=12) (B:=12) v4 v4;lia
def Pat.Fits.sh(a b:Int)(k:p.Fits):(Pat.sh a b p).Fits:=by
 obtain⟨w,h,s,f,q⟩:=k;exact#[w,h,s,f.sh a b,q]
def Pat.Fits.hue(a b:Int)(k:p.Fits):(Pat.hue a b p).Fits:=by
 obtain⟨w,h,s,f,q⟩:=k;exact#[w,h,s,f.hue a b,q]
def Pat.Fits.mir(k:p.Fits):(Pat.mir p).Fits:=by
 obtain⟨w,h,s,f,q⟩:=k;exact#[w,h,_,f.mir,q]
def Pat.Fits.tur(k:p.Fits):(Pat.tur p).Fits:=by
 obtain⟨w,h,s,f,q⟩:=k;obtain⟨w',k',s',f',e⟩:=lQ (s:=s) f.f.w0 f.f.h0;exact#[w',k',s',f.tur f',v4]
def CU(hL:Rows L)(ha:B12 a)(hb:B12 b)(hc:B12 c)(hd:B12 d):(dF L a b c d).length<=100:=by
 have la:=bJ ha;have lb:=bJ hb;have lc:=bJ hc;have ld:=bJ hd;have l1:(";":Ms).length=1:=rfl;have l2:(",":Ms).length=1:=rfl;have l3:("[":Ms).length=1:=rfl;have l4:("]":Ms).length=1:=rfl;have ls:=vE hL;have lj:=StrLaws.join_length_le "/" L;have lg:(Txt.join "/" L).length<=72:=by
  have e:Txt.join "/" L=Str.join "/" L:=StrLaws.glued_eq_join _ _;rw[e];exact HZ lj ls
 unfold dF
 repeat rw[aI]
 lia
def Pat.text_len:∀{p:Pat},p.Wf->p.text.length+10<=110*2^p.depth
 |.mot L a b c d,h=>by
  have:=CU h.1 h.2.1 h.2.2.1 h.2.2.2.1 h.2.2.2.2.1;show(dF L a b c d).length+10<=110*2^0;lia
 |.over p q,h=>by
  have h1:=Pat.text_len h.1;have h2:=Pat.text_len h.2;have m1:2^p.depth<=2^(max p.depth q.depth):=Jv Mx (K5 _ _);have m2:2^q.depth<=2^(max p.depth q.depth):=Jv Mx (K6 _ _);have l1:("(":Ms).length=1:=rfl;have l2:("|":Ms).length=1:=rfl;have l3:(")":Ms).length=1:=rfl;rw[Pat.text,Pat.depth,K7]
  repeat rw[aI]
  lia
 |.sh a b p,h=>by
  have h1:=Pat.text_len h.2.2;have la:=bJ h.1;have lb:=bJ h.2.1;have l1:("s":Ms).length=1:=rfl;have l2:(",":Ms).length=1:=rfl;have l3:(":":Ms).length=1:=rfl;have:0<2^p.depth:=J4 Mx;rw[Pat.text,Pat.depth,Ja]
  repeat rw[aI]
  lia
 |.mir p,h=>by
  have h1:=Pat.text_len (p:=p) h;have l1:("m":Ms).length=1:=rfl;have:0<2^p.depth:=J4 Mx;rw[Pat.text,Pat.depth,Ja,aI];lia
 |.tur p,h=>by
  have h1:=Pat.text_len (p:=p) h;have l1:("t":Ms).length=1:=rfl;have:0<2^p.depth:=J4 Mx;rw[Pat.text,Pat.depth,Ja,aI];lia
 |.hue f g p,h=>by
  have h1:=Pat.text_len h.2.2;have la:=fD h.1;have lb:=fD h.2.1;have l1:("h":Ms).length=1:=rfl;have:0<2^p.depth:=J4 Mx;rw[Pat.text,Pat.depth,Ja]
  repeat rw[aI]
  lia
def Pat.leaves_pos:∀p:Pat,0<p.leaves.length
 |.mot ..=>Nat.zero_lt_one
 |.over p q=>by rw[Pat.leaves,Ic];have:=p.leaves_pos;lia
 |.sh _ _ p=>by rw[Pat.leaves,HV];exact p.leaves_pos
 |.mir p=>by rw[Pat.leaves,HV];exact p.leaves_pos
 |.tur p=>by rw[Pat.leaves,HV];exact p.leaves_pos
 |.hue _ _ p=>by rw[Pat.leaves,HV];exact p.leaves_pos
def Pat.text_short(h:p.Wf)(hd:p.depth<=5):p.text.length<=3510:=by
 have h1:=Pat.text_len h;have h2:2^p.depth<=2^5:=Jv Mx hd;lia
structure Pat.Ok(p:Pat):Prop where
 wf:p.Wf
 deep:p.depth<=5
 fits:p.Fits
def Wraps.of{H:Prop}(h:p.Ok)(hR:∀q:Pat,q.Ok->R q.D):Wraps p H R:=by
 refine#[λ_=>hR p h,λhd=>#[hR _ #[h.wf,?_,h.fits.mir],hR _ #[h.wf,?_,h.fits.tur],λa b ha hb=>hR _ #[#[ha,hb,h.wf],?_,h.fits.sh a b],λ_ f g hf hg=>hR _ #[#[hf,hg,h.wf],?_,h.fits.hue f g]]]<;>(simp only[Pat.depth];lia)
def vR:SpD:=λds R=>∃p q:Pat,ds=[p.D,q.D]/\p.Wf/\q.Wf/\p.depth<=5/\q.depth<=5/\R p.D/\(p.depth<5->q.depth<5->(Pat.over p q).Fits->R (Pat.over p q).D)
def CV:SpD:=λds R=>∃(ns:List Int) (k:Int),ds=[.rol (ns.map D.int),.int k]/\0<=k/\∀p:Pat,p.Ok->R p.D
end My
end
section
open PySem PySem.Spec PyProof.Rows L2
namespace My
def CW:TMS:=λ_ _ _=>False
def iB{X:Cx}[Jm]{st:U7}:MSt X st CW:=⟨ps_never.anti λE s H q=>by
 obtain⟨F0,F,z,M,k,rs,ED,h,e⟩:=q;exact h.elim⟩
end My
end
section
namespace My
open PySem PySem.Spec PyProof.Rows L2
abbrev isSg(c:Nat):Bool:=c==46||(49<=c&&c<=54)
def numL(a:Int):List Nat:=cs (toString a:String)
variable{a:Int}
def vS(h:B12 a){P:Int->Prop}(hP:∀k:Fin 25,P (((k.val:Nat):Int)-12)):P a:=by
 unfold B12 at h;have:=hP #[(a+12).toNat,v4];have e:(((a+12).toNat:Nat):Int)-12=a:=v4
 rw[e]at this;exact this
def isNumL(l:List Nat):Prop:=(∃c,(48<=c/\c<=57)/\l=[c])\/(∃c,(48<=c/\c<=50)/\l=[49,c])\/(∃c,(49<=c/\c<=57)/\l=[45,c])\/∃c,(48<=c/\c<=50)/\l=[45,49,c]
def numL_is(h:B12 a):isNumL (numL a):=by
 have key:∀k:Fin 25,(numL (((k.val:Nat):Int)-12))∈([[45,49,50],[45,49,49],[45,49,48],[45,57],[45,56],[45,55],[45,54],[45,53],[45,52],[45,51],[45,50],[45,49],[48],[49],[50],[51],[52],[53],[54],[55],[56],[57],[49,48],[49,49],[49,50]]:List (List Nat)):=KK
 have h1:=vS (P:=λa=>numL a∈([[45,49,50],[45,49,49],[45,49,48],[45,57],[45,56],[45,55],[45,54],[45,53],[45,52],[45,51],[45,50],[45,49],[48],[49],[50],[51],[52],[53],[54],[55],[56],[57],[49,48],[49,49],[49,50]]:List (List Nat))) h key;revert h1;generalize numL a=l;intro h1;unfold isNumL;simp only[HQ,Jy,or_false]at h1;rcases h1 with e|e|e|e|e|e|e|e|e|e|e|e|e|e|e|e|e|e|e|e|e|e|e|e|e<;>subst e
 all_goals first
  |exact .inl ⟨_,Mx,rfl⟩
  |exact .inr (.inl ⟨_,Mx,rfl⟩)
  |exact .inr (.inr (.inl ⟨_,Mx,rfl⟩))
  |exact .inr (.inr (.inr ⟨_,Mx,rfl⟩))
def endS(c:Nat):Prop:=c=44\/c=59\/c=58\/c=93
def rowsL:List (List Nat)->List Nat
 |[]=>[]
 |[x]=>x
 |x::y::r=>x++47::rowsL (y::r)
variable{c:Nat}
def CY(h:bb c):isSg c=true:=by
 unfold bb at h;unfold isSg;rcases h with h|h
 .subst h;rfl
 .have:(decide (49<=c)&&decide (c<=54))=true:=by simp[h]
  rw[this,JU]
def motL(L:List (List Nat))(a b c d:Int):List Nat:=91::(rowsL L++59::(numL a++44::(numL b++59::(numL c++44::(numL d++[93])))))
def Pat.tl:Pat->List Nat
 |.mot L a b c d=>motL (L.map cs) a b c d
 |.over p q=>40::(p.tl++124::(q.tl++[41]))
 |.sh a b p=>115::(numL a++44::(numL b++58::p.tl))
 |.mir p=>109::p.tl
 |.tur p=>116::p.tl
 |.hue f g p=>104::(numL f++(numL g++p.tl))
def vT:∀L:List Ms,cs (Str.join "/" L)=rowsL (L.map cs)
 |[]=>rfl
 |[x]=>rfl
 |x::y::L=>by
  show cs (x++"/"++Str.join "/" (y::L))=cs x++47::rowsL ((y::L).map cs);rw[bF,bF,vT (y::L),IU];rfl
def cx:∀p:Pat,cs p.text=p.tl
 |.mot L a b c d=>by
  show cs (dF L a b c d)=motL (L.map cs) a b c d;unfold dF motL;have e:Txt.join "/" L=Str.join "/" L:=StrLaws.glued_eq_join _ _;rw[e]
  repeat rw[bF]
  rw[vT];simp only[IU];rfl
 |.over p q=>by
  rw[Pat.text,Pat.tl]
  repeat rw[bF]
  rw[cx p,cx q];simp only[IU];rfl
 |.sh a b p=>by
  rw[Pat.text,Pat.tl]
  repeat rw[bF]
  rw[cx p];simp only[IU];rfl
 |.mir p=>by
  rw[Pat.text,Pat.tl,bF,cx p];rfl
 |.tur p=>by
  rw[Pat.text,Pat.tl,bF,cx p];rfl
 |.hue f g p=>by
  rw[Pat.text,Pat.tl]
  repeat rw[bF]
  rw[cx p];simp only[IU];rfl
def hueL{f:Int}(h:1<=f/\f<=6):numL f=[(48+f).toNat]:=by
 have key:∀k:Fin 6,numL (((k.val:Nat):Int)+1)=[49+k.val]:=KK
 have:=key #[(f-1).toNat,v4];have e:(((f-1).toNat:Nat):Int)+1=f:=v4
 rw[e]at this;rw[this];congr 1;show 49+(f-1).toNat=(48+f).toNat;lia
def rowsT(L:List (List Nat)):List Nat:=L.flatMap λy=>47::y
def vU:∀(x:List Nat) (L:List (List Nat)),rowsL (x::L)=x++rowsT L
 |x,[]=>by simp[rowsL,rowsT]
 |x,y::L=>by
  rw[rowsL,vU y L];simp[rowsT]
def gx{x y:Ms}(h:cs x=cs y):x=y:=by
 obtain⟨a⟩:=x;obtain⟨b⟩:=y;have:a=b:=Le.mp h;rw[this]
variable{x:Int}
def numS(h:B12 x):numL x=[48]\/∃pre c y,(pre=[]\/pre=[45])/\(49<=c/\c<=57)/\numL x=pre++c::y/\(y=[]\/(c=49/\∃d,(48<=d/\d<=50)/\y=[d])):=by
 rcases numL_is h with⟨c,hc,e⟩|⟨c,hc,e⟩|⟨c,hc,e⟩|⟨c,hc,e⟩
 .by_cases z:c=48
  .exact .inl (by rw[e,z])
  .exact .inr #[[],c,[],.inl rfl,v4,e,.inl rfl]
 .exact .inr #[[],49,[c],.inl rfl,Mx,e,.inr #[rfl,c,hc,rfl]]
 .exact .inr #[[45],c,[],.inr rfl,hc,e,.inl rfl]
 .exact .inr #[[45],49,[c],.inr rfl,Mx,e,.inr #[rfl,c,hc,rfl]]
variable{A B:Prop}
def ifT{c:Prop}[Decidable c](h:c)(a:A):if c then A else B:=by rw[if_pos h];exact a
def ifdT{p:Prop}[Decidable p](h:p)(a:A):if decide p=true then A else B:=by rw[if_pos (decide_eq_true h)];exact a
def ifdF{p:Prop}[Decidable p](h:¬p)(b:B):if decide p=true then A else B:=by rw[if_neg (by simpa using h)];exact b
def rdF(t:Ms)(k:Nat):List (Ms×D):=[("text",.str t),("place",.int k)]
def RdM(a:Addr)(t:Ms)(k:Nat):MS:=[(a,.ins "Reading" (rdF t k))]
variable{o:MO}
def dY{a:Addr}:mget [(a,o)] a=be o:=by unfold mget;rw[if_pos rfl]
def iC{a:Addr}{o':MO}:mput [(a,o)] a o'=[(a,o')]:=by unfold mput;rw[if_pos rfl]
variable{t:Ms}{k:Nat}
def aY{a:Addr}:mget (RdM a t k) a=be (.ins "Reading" (rdF t k)):=dY
def lR:(rdF t k).lookup ("text":Ms)=be (.str t):=rfl
def fG:(rdF t k).lookup ("place":Ms)=be (.int k):=by
 unfold rdF;rw[Ig,show(("place":Ms)==("text":Ms))=false by decide+kernel];rfl
def CZ:putD ("place":Ms) (.int ((k:Int)+1)) (rdF t k)=rdF t (k+1):=by
 unfold rdF putD;rw[if_neg KK];unfold putD;rw[if_pos rfl];rfl
def dH:(rdF t k).lookup ("may_take":Ms)=none:=by
 unfold rdF;rw[Ig,show(("may_take":Ms)==("text":Ms))=false by decide+kernel,Ig,show(("may_take":Ms)==("place":Ms))=false by decide+kernel];rfl
def cy:(rdF t k).lookup ("take":Ms)=none:=by
 unfold rdF;rw[Ig,show(("take":Ms)==("text":Ms))=false by decide+kernel,Ig,show(("take":Ms)==("place":Ms))=false by decide+kernel];rfl
structure At(t:Str)(k:Nat)(l:List Nat):Prop where
 eq:(cs t).drop k=l
 le:k<=t.length
 sz:t.length<=100000
def At.nil(h:At t k []):k=t.length:=by
 have h1:=congrArg JB h.eq;rw[Je,bn]at h1;have:=h.le;simp at h1;lia
variable{l:List Nat}
def At.lt(h:At t k (c::l)):k<t.length:=by
 have h1:=congrArg JB h.eq;rw[Je,bn]at h1;simp at h1;lia
def At.get(h:At t k (c::l)):(cs t)[k]?=be c:=by
 have h1:=congrArg (·[0]?) h.eq;simpa using h1
def At.next(h:At t k (c::l)):At t (k+1) l:=by
 refine#[?_,h.lt,h.sz];have h1:=congrArg (Jg 1) h.eq;rw[List.drop_drop]at h1;simpa using h1
def At.app{t:Ms}:∀{x l:List Nat} {k:Nat},At t k (x++l)->At t (k+x.length) l
 |[],_,_,h=>h
 |c::x,l,k,h=>by
  have h1:At t (k+1+x.length) l:=At.app (At.next h);have e:k+1+x.length=k+(c::x).length:=by rw[HX];lia
  rw[e]at h1;exact h1
variable{al:Ms}
def vV:(!(!(Builtin.Str.occurrences al #[[c].toArray] 0 al.length 1).isEmpty))=!decide (c∈cs al):=by
 rw[StrLaws.found_one]
def mayS(al:Ms):List Nat->Ms|c::_=>if c∈cs al then#[[c].toArray]else ""|[]=>""
def mayN(al:Ms):List Nat->Nat|c::_=>if c∈cs al then 1 else 0|[]=>0
def fH(h:c∈cs al):mayS al (c::l)=#[[c].toArray]:=if_pos h
def fJ(h:c∈cs al):mayN al (c::l)=1:=if_pos h
def dZ(h:c∉cs al):mayS al (c::l)="":=if_neg h
def eg(h:c∉cs al):mayN al (c::l)=0:=if_neg h
def C0:SiD:=λds R=>∃t:Ms,ds=[.str t]/\R (rdF t 0)
def C1:SpM:=λds M R RX=>∃(a:Addr) (t:Ms) (k:Nat) (l:List Nat) (al:Ms),ds=[.ptr a,.str al]/\M=RdM a t k/\At t k l/\R (.str (mayS al l)) (RdM a t (k+mayN al l))
def C3:SpM:=λds M R _=>∃(a:Addr) (t:Ms) (k c:Nat) (l:List Nat) (al:Ms),ds=[.ptr a,.str al]/\M=RdM a t k/\At t k (c::l)/\c∈cs al/\R (.str #[[c].toArray]) (RdM a t (k+1))
def C4(h:B12 x):PySem.intText? #[(numL x).toArray]=be x:=
 vS (P:=λx=>PySem.intText? #[(numL x).toArray]=be x) h KK
def gy(x y:List Nat):((#[x.toArray]:Ms)++#[y.toArray]:Ms)=#[(x++y).toArray]:=by
 apply gx;rw[bF]
def digits19:c∈cs "123456789"↔49<=c/\c<=57:=by
 refine#[λh=>?_,λ⟨h1,h2⟩=>?_]
 .exact(show ∀c∈cs "123456789",49<=c/\c<=57 by decide+kernel) c h
 .obtain⟨k,rfl⟩:=Nat.le.dest h1;exact(show ∀k,k<9->49+k∈cs "123456789" by decide+kernel) k v4
def digits02:c∈cs "012"↔48<=c/\c<=50:=by
 have e:cs "012"=[48,49,50]:=rfl;rw[e];simp;lia
def C5(w:List Nat)(c:Nat):Txt.endswith #[(w++[c]).toArray] "1"=decide (c=49):=by
 unfold Txt.endswith;have e1:("1":Ms).length=1:=rfl;have e2:(#[(w++[c]).toArray]:Ms).length=w.length+1:=by simp[Str.length]
 rw[e1,e2];have e3:decide (0+1<=w.length+1)=true:=MF
 rw[e3,Bool.true_and,Ld];unfold Builtin.Str.subAt;have e4:(#[(w++[c]).toArray]:Ms).cps.extract w.length (w.length+("1":Ms).length)=[c].toArray:=by
  apply Le.mp;simp[Array.toList_extract,e1]
 rw[e4];have e5:("1":Ms).cps=[49].toArray:=rfl;rw[e5];by_cases h:c=49
 .subst h;rfl
 .simp[h]
def C6:SpM:=λds M R _=>∃(a:Addr) (t:Ms) (k:Nat) (x:Int) (e:Nat) (l:List Nat),ds=[.ptr a]/\M=RdM a t k/\B12 x/\endS e/\At t k (numL x++e::l)/\R (.int x) (RdM a t (k+(numL x).length))
def C7:SpM:=λds M R _=>∃(a:Addr) (t:Ms) (k:Nat) (x y:Int) (e:Nat) (l:List Nat),ds=[.ptr a]/\M=RdM a t k/\B12 x/\B12 y/\endS e/\At t k (numL x++44::(numL y++e::l))/\R (.tup [.int x,.int y]) (RdM a t (k+(numL x).length+1+(numL y).length))
def signs_is:c∈cs ".123456"↔isSg c=true:=by
 have e:cs ".123456"=[46,49,50,51,52,53,54]:=rfl;rw[e];simp;lia
def fK(x:List Nat):(#[x.toArray]:Ms).length=x.length:=by simp[Str.length]
def vW(h:isSg c=false):c∉cs ".123456":=λz=>by rw[signs_is.mp z]at h;cases h
def S_line_from:SpM:=λds M R _=>∃(a:Addr) (t:Ms) (k n m:Nat) (x l:List Nat),ds=[.ptr a,.int n,.int m]/\M=RdM a t k/\At t k (x++l)/\(∀c∈x,bb c)/\n<=x.length/\x.length<=m/\m<=8/\(x.length=m\/∃c l',l=c::l'/\isSg c=false)/\R (.str #[x.toArray]) (RdM a t (k+x.length))
def C8{p a:Addr}(h:p≠a):mget ((p,o)::RdM a t k) a=be (.ins "Reading" (rdF t k)):=by
 unfold mget;rw[if_neg h];exact dY
variable{M:MS}
def cX{p:Addr}:mget ((p,o)::M) p=be o:=by unfold mget;rw[if_pos rfl]
def vX{p:Addr}{o':MO}:mput ((p,o)::M) p o'=(p,o')::M:=by unfold mput;rw[if_pos rfl]
def lU{p:Addr}:mdel ((p,o)::M) p=M:=by unfold mdel;rw[if_pos rfl]
structure RowsL(L:List (List Nat))(w:Nat):Prop where
 many:1<=L.length/\L.length<=8
 w1:1<=w
 w8:w<=8
 each:∀x∈L,x.length=w/\∀c∈x,bb c
def lstD(L:List (List Nat)):List D:=L.map λx=>D.str #[x.toArray]
def C9:SpM:=λds M R _=>∃(a:Addr) (t:Ms) (k:Nat) (L:List (List Nat)) (w:Nat) (l:List Nat),ds=[.ptr a]/\M=RdM a t k/\RowsL L w/\At t k (rowsL L++59::l)/\R (.lst (lstD L)) (RdM a t (k+(rowsL L).length))
def hmX(w h s:Int)(i j:Int):Int:=(i-j/h*s)%w
def hRow(w h s:Int)(j:Nat):Nat->List Nat->List ((Int×Int)×Int)->List ((Int×Int)×Int)
 |_,[],kv=>kv
 |i,c::r,kv=>hRow w h s j (i+1) r (if c=46 then kv else sdD kv (hmX w h s i j) ((j:Int)%h) ((c:Int)-48))
def hAll(w h s:Int):Nat->List (List Nat)->List ((Int×Int)×Int)->List ((Int×Int)×Int)
 |_,[],kv=>kv
 |j,x::r,kv=>hAll w h s (j+1) r (hRow w h s j 0 x kv)
def vY(kv:List ((Int×Int)×Int))(x y v:Int):(sdD kv x y v).length<=kv.length+1:=by
 unfold sdD;split
 .lia
 .rw[Ic];simp
def Da(h:49<=c/\c<=54):∃i rest,Builtin.Str.occurrences ".123456" #[[c].toArray] 0 (".123456":Ms).length 1=i::rest/\((i:Nat):Int)=(c:Int)-48:=by
 rcases(v4:c=49\/c=50\/c=51\/c=52\/c=53\/c=54)with e|e|e|e|e|e<;>subst e
 .exact#[1,[],KK,Mx]
 .exact#[2,[],KK,Mx]
 .exact#[3,[],KK,Mx]
 .exact#[4,[],KK,Mx]
 .exact#[5,[],KK,Mx]
 .exact#[6,[],KK,Mx]
def Db{x:List Nat}(h:∀c∈x,bb c):(#[x.toArray]:Ms).cps.all (·<128)=true:=by
 rw[<-Kg,IQ];intro c hc;have:=h c hc;unfold bb at this;simp;lia
def Dc{L:List (List Nat)}{j:Nat}{d:D}(h:(lstD L)[j]?=be d):∃x,L[j]?=be x/\d=.str #[x.toArray]:=by
 unfold lstD at h;rw[H9]at h;cases e:L[j]? with
 |none=>rw[e]at h;cases h
 |some x=>rw[e]at h;cases h;exact#[x,rfl,rfl]
variable{i:Nat}
def Dd{x:List Nat}{d:D}(h:(bS #[x.toArray])[i]?=be d):∃c,x[i]?=be c/\d=.str #[[c].toArray]:=by
 unfold bS at h;rw[H9]at h;cases e:x[i]? with
 |none=>simp[e]at h
 |some c=>simp[e]at h;exact#[c,rfl,h.symm]
def vZ{α:Type}{l:List α}{x:α}(h:l[i]?=be x):l.drop i=x::l.drop (i+1):=by
 have hi:i<l.length:=(Ia.mp h).1;rw[Jk hi];congr 1;rw[Ih hi]at h;exact Option.some.inj h
def De:SpM:=λds M R RX=>∃(L:List (List Nat)) (wd:Nat) (w h s:Int),ds=[.lst (lstD L),.tup [.int w,.int h,.int s]]/\RowsL L wd/\0<w/\0<h/\h<1073741824/\0<=s/\s<1073741824/\R (.dti (hAll w h s 0 L [])) M
def moF(k:Nat)(sh:D)(hu:List ((Int×Int)×Int)):List (Ms×D):=[("place",.int k),("shifts",sh),("hues",.dti hu)]
def Df:SiD:=λds R=>∃(k:Nat) (L:List (List Nat)) (wd:Nat) (a b c d:Int),ds=[.int k,.lst (lstD L),.tup [.int a,.int b],.tup [.int c,.int d]]/\RowsL L wd/\B12 a/\B12 b/\B12 c/\B12 d/\¬a*d=b*c/\
 ∀w h s,FamOf a b c d w h s->R (moF k (.tup [.int w,.int h,.int s]) (hAll w h s 0 L []))
variable{v:My.D}
def Dg:putD ("place":Ms) v []=([("place",v)]:List (Ms×D)):=rfl
variable{u:My.D}
def Dh:putD ("shifts":Ms) v [("place",u)]=([("place",u),("shifts",v)]:List (Ms×D)):=by
 unfold putD;rw[if_neg KK];rfl
def Di{t:D}:putD ("hues":Ms) v [("place",t),("shifts",u)]=([("place",t),("shifts",u),("hues",v)]:List (Ms×D)):=by
 unfold putD;rw[if_neg KK];unfold putD;rw[if_neg KK];rfl
def wa:([("place",u),("shifts",v)]:List (Ms×D)).lookup ("shifts":Ms)=be v:=by
 rw[Ig,show(("shifts":Ms)==("place":Ms))=false by decide+kernel];rfl
def Dj:SiD:=λds R=>∃(x y:Ms) (fs gs:List (Ms×D)),ds=[.obj x fs,.obj y gs]/\R [("above",.obj x fs),("below",.obj y gs)]
def Dk:SiD:=λds R=>∃(x:Ms) (fs:List (Ms×D)) (a b:Int),ds=[.obj x fs,.int a,.int b]/\R [("form",.obj x fs),("x",.int a),("y",.int b)]
def Dl:SiD:=λds R=>∃(x:Ms) (fs:List (Ms×D)),ds=[.obj x fs]/\R [("form",.obj x fs)]
def Dm:SiD:=λds R=>∃(x:Ms) (fs:List (Ms×D)),ds=[.obj x fs]/\R [("form",.obj x fs)]
def Dn:SiD:=λds R=>∃(x:Ms) (fs:List (Ms×D)) (a b:Int),ds=[.obj x fs,.int a,.int b]/\R [("form",.obj x fs),("old",.int a),("new",.int b)]
def FormOf:Pat->D->Prop
 |.mot L a b c d,v=>∃(k:Nat) (w h s:Int),v=.obj "Motif" (moF k (.tup [.int w,.int h,.int s]) (hAll w h s 0 (L.map cs) []))/\FamOf a b c d w h s
 |.over p q,v=>∃u u',v=.obj "Over" [("above",u),("below",u')]/\FormOf p u/\FormOf q u'
 |.sh a b p,v=>∃u,v=.obj "Shifted" [("form",u),("x",.int a),("y",.int b)]/\FormOf p u
 |.mir p,v=>∃u,v=.obj "Mirror" [("form",u)]/\FormOf p u
 |.tur p,v=>∃u,v=.obj "Turn" [("form",u)]/\FormOf p u
 |.hue f g p,v=>∃u,v=.obj "Rehue" [("form",u),("old",.int f),("new",.int g)]/\FormOf p u
def Pat.cls:Pat->Ms
 |.mot ..=>"Motif"|.over ..=>"Over"|.sh ..=>"Shifted"|.mir ..=>"Mirror"|.tur ..=>"Turn"|.hue ..=>"Rehue"
variable{f g:Ms}{r:List (Ms×My.D)}
def bW(h:(f==g)=false)(hr:r.lookup f=LH):(((g,v)::r:List (Ms×D))).lookup f=none:=by
 rw[Ig,h];exact hr
structure ObjM(p:Pat)(fs:List (Str×D)):Prop where
 nl:noLF fs=true
 fam:fs.lookup ("family":Ms)=LH
 shw:fs.lookup ("shows":Ms)=LH
variable{p:Pat}
def FormOf.objm:∀{v:D},FormOf p v->∃fs,v=.obj p.cls fs/\ObjM p fs:=by
 have n1 {g:Ms} {u:D} {f:Ms} (h:(f==g)=false):([(g,u)]:List (Ms×D)).lookup f=none:=bW h rfl;have nn {fs:List (Ms×D)} {x:Ms} (h:noLF fs=true):noL (.obj x fs)=true:=by simp[noL,h]
 induction p with
 |mot L a b c d=>
  rintro _⟨k,w,h,s,rfl,_⟩;exact#[_,rfl,by simp[noL,noLF,noLs,moF],bW KK (bW KK (n1 KK)),bW KK (bW KK (n1 KK))]
 |over p q i j=>
  rintro _⟨u,u',rfl,h1,h2⟩;obtain⟨fs,rfl,o1⟩:=i h1;obtain⟨gs,rfl,o2⟩:=j h2;exact#[_,rfl,by simp[noLF,nn o1.nl,nn o2.nl],bW KK (n1 KK),bW KK (n1 KK)]
 |sh a b p i=>
  rintro _⟨u,rfl,h1⟩;obtain⟨fs,rfl,o1⟩:=i h1;exact#[_,rfl,by simp[noL,noLF,o1.nl],bW KK (bW KK (n1 KK)),bW KK (bW KK (n1 KK))]
 |mir p i=>
  rintro _⟨u,rfl,h1⟩;obtain⟨fs,rfl,o1⟩:=i h1;exact#[_,rfl,by simp[noLF,nn o1.nl],n1 KK,n1 KK]
 |tur p i=>
  rintro _⟨u,rfl,h1⟩;obtain⟨fs,rfl,o1⟩:=i h1;exact#[_,rfl,by simp[noLF,nn o1.nl],n1 KK,n1 KK]
 |hue f g p i=>
  rintro _⟨u,rfl,h1⟩;obtain⟨fs,rfl,o1⟩:=i h1;exact#[_,rfl,by simp[noL,noLF,o1.nl],bW KK (bW KK (n1 KK)),bW KK (bW KK (n1 KK))]
variable{L:List Ms}
def Do(h:Rows L):∃w,RowsL (L.map cs) w:=by
 obtain⟨h1,w,h2,h3⟩:=h;refine#[w,by rw[HV];exact h1,h2.1,h2.2,λx hx=>?_];obtain⟨l,hl,rfl⟩:=Ir.mp hx;rw[bn];exact h3 l hl
def wc{f:Int}(h:1<=f/\f<=6):(48+f).toNat∈cs "123456":=by
 have e:cs "123456"=[49,50,51,52,53,54]:=rfl;rw[e];simp;lia
def Dp:SpM:=λds M R _=>∃(g:Addr) (t:Ms) (k:Nat) (L:List Ms) (a b c d:Int) (l:List Nat),ds=[.ptr g]/\M=RdM g t k/\At t k (motL (L.map cs) a b c d++l)/\(Pat.mot L a b c d).Wf/\∀v,FormOf (.mot L a b c d) v->R v (RdM g t (k+(motL (L.map cs) a b c d).length))
def dI(j:Nat):SpM:=λds M R _=>∃(a:Addr) (t:Ms) (k:Nat) (p:Pat) (l:List Nat) (d:Nat),ds=[.ptr a,.int d]/\M=RdM a t k/\At t k (p.tl++l)/\d+j=6/\1<=j/\p.Wf/\p.depth+d<=5/\∀v,FormOf p v->R v (RdM a t (k+p.tl.length))
variable{ds:List My.D}{R:My.D->MS->Prop}{RX:XDM}
def Dq:¬dI 0 ds M R RX:=by
 rintro⟨_,_,_,_,_,_,_,_,_,_,h,_⟩;exact absurd h Mx
def we(j:Nat):SpM:=λds M R _=>∃(a:Addr) (t:Ms) (k:Nat) (p q:Pat) (l:List Nat) (d:Nat),ds=[.ptr a,.int d]/\M=RdM a t k/\At t k (p.tl++124::(q.tl++41::l))/\d+j=6/\1<=j/\p.Wf/\q.Wf/\p.depth+d<=5/\q.depth+d<=5/\∀u u',FormOf p u->FormOf q u'->R (.obj "Over" [("above",u),("below",u')]) (RdM a t (k+p.tl.length+1+q.tl.length+1))
def wg(j:Nat):SpM:=λds M R _=>∃(a:Addr) (t:Ms) (k:Nat) (x y:Int) (p:Pat) (l:List Nat) (d:Nat),ds=[.ptr a,.int d]/\M=RdM a t k/\At t k (numL x++44::(numL y++58::(p.tl++l)))/\d+j=6/\1<=j/\B12 x/\B12 y/\p.Wf/\p.depth+d<=5/\∀u,FormOf p u->R (.obj "Shifted" [("form",u),("x",.int x),("y",.int y)]) (RdM a t (k+(numL x).length+1+(numL y).length+1+p.tl.length))
def wj(j:Nat):SpM:=λds M R _=>∃(a:Addr) (t:Ms) (k:Nat) (f g:Int) (p:Pat) (l:List Nat) (d:Nat),ds=[.ptr a,.int d]/\M=RdM a t k/\At t k ((48+f).toNat::(48+g).toNat::(p.tl++l))/\d+j=6/\1<=j/\(1<=f/\f<=6)/\(1<=g/\g<=6)/\p.Wf/\p.depth+d<=5/\∀u,FormOf p u->R (.obj "Rehue" [("form",u),("old",.int f),("new",.int g)]) (RdM a t (k+2+p.tl.length))
def Pat.cls_mem(p:Pat):p.cls∈(["Motif","Over","Shifted","Mirror","Turn","Rehue"]:List Ms):=by
 cases p<;>simp[Pat.cls]
variable{hu:List ((Int×Int)×Int)}
def mo_shifts{sh:D}:(moF k sh hu).lookup ("shifts":Ms)=be sh:=by
 unfold moF;rw[Ig,show(("shifts":Ms)==("place":Ms))=false by decide+kernel];rfl
def Dr{sh:D}:(moF k sh hu).lookup ("hues":Ms)=be (.dti hu):=by
 unfold moF;rw[Ig,show(("hues":Ms)==("place":Ms))=false by decide+kernel,Ig,show(("hues":Ms)==("shifts":Ms))=false by decide+kernel];rfl
def fL(h:(g==f)=false):(((f,u)::(g,v)::r:List (Ms×D))).lookup g=be v:=by
 rw[Ig,h,Ig,beq_self_eq_true]
def lV{e:Ms}{t:D}(h1:(g==e)=false)(h2:(g==f)=false):(((e,t)::(f,u)::(g,v)::r:List (Ms×D))).lookup g=be v:=by
 rw[Ig,h1];exact fL h2
variable{w s:Int}
def Pat.Fits.small(h:p.Fits){k:Int}(f:p.Fam w k s):0<w/\w<=720/\0<k/\k<=720/\0<=s/\s<w:=by
 obtain⟨w',k',s',f',hb⟩:=h;obtain⟨rfl,rfl,rfl⟩:=f.uniq f';obtain⟨h1,h2⟩:=dE f.f.w0 f.f.h0;exact#[f.f.w0,v4,f.f.h0,v4,f.f.s0,f.f.sw]
def Pat.Fits.over_parts{q:Pat}(hp:p.Wf)(hq:q.Wf)(h:(Pat.over p q).Fits):p.Fits/\q.Fits:=by
 obtain⟨w,k,s,f,hb⟩:=h;obtain⟨w1,k1,s1,f1⟩:=Pat.fam_ex hp;obtain⟨w2,k2,s2,f2⟩:=Pat.fam_ex hq;have l1:=(InF.le f1.f.w0 f1.f.h0 f.f.w0 f.f.h0 (λx y z=>(f1.lat x y).mpr ((f.lat x y).mp z).1)).1;have l2:=(InF.le f2.f.w0 f2.f.h0 f.f.w0 f.f.h0 (λx y z=>(f2.lat x y).mpr ((f.lat x y).mp z).2)).1;exact#[#[w1,k1,s1,f1,v4],#[w2,k2,s2,f2,v4]]
variable{b:Int}
def Pat.Fits.of_sh(h:(Pat.sh a b p).Fits):p.Fits:=by
 obtain⟨w,k,s,f,hb⟩:=h;exact#[w,k,s,#[f.f,f.lat],hb]
def Pat.Fits.of_hue(h:(Pat.hue a b p).Fits):p.Fits:=by
 obtain⟨w,k,s,f,hb⟩:=h;exact#[w,k,s,#[f.f,f.lat],hb]
def Pat.Fits.of_mir(hp:p.Wf)(h:(Pat.mir p).Fits):p.Fits:=by
 obtain⟨w,k,s,f,hb⟩:=h;obtain⟨w1,k1,s1,f1⟩:=Pat.fam_ex hp;obtain⟨rfl,rfl,_⟩:=f.uniq f1.mir;exact#[_,_,_,f1,hb]
def Pat.Fits.of_tur(hp:p.Wf)(h:(Pat.tur p).Fits):p.Fits:=by
 obtain⟨w,k,s,f,hb⟩:=h;obtain⟨w1,k1,s1,f1⟩:=Pat.fam_ex hp;obtain⟨w',k',s',f',e⟩:=lQ (s:=s1) f1.f.w0 f1.f.h0;obtain⟨rfl,rfl,_⟩:=f.uniq (f1.tur f');exact#[_,_,_,f1,v4]
def ca(j:Nat)(x:Ms):SpX:=λds R _=>∃(p:Pat) (v:D),ds=[v]/\FormOf p v/\p.Wf/\p.depth<j/\p.cls=x/\p.Fits/\∀w h s,p.Fam w h s->R (.tup [.int w,.int h,.int s])
def fM{x:Ms}:¬ofX (ca 0 x) ds M R RX:=by
 rintro⟨_,_,_,_,_,h,_⟩;exact absurd h (JI _)
def lookD_app(x y v X Y:Int):∀kv:List ((Int×Int)×Int),lookD (kv++[((x,y),v)]) X Y=match lookD kv X Y with|some u=>be u|none=>if x=X/\y=Y then be v else LH
 |[]=>rfl
 |((a,b),h)::r=>by
  show lookD (((a,b),h)::(r++[((x,y),v)])) X Y=_;unfold lookD;by_cases e:a=X/\b=Y
  .rw[if_pos e,if_pos e]
  .rw[if_neg e,if_neg e];exact lookD_app x y v X Y r
def Ds(kv:List ((Int×Int)×Int))(x y v X Y:Int):lookD (sdD kv x y v) X Y=match lookD kv X Y with|some u=>be u|none=>if x=X/\y=Y then be v else none:=by
 unfold sdD;split
 .rename_i hs;cases e:lookD kv X Y with
  |some u=>rfl
  |none=>
   show LH=_;rw[if_neg];rintro⟨rfl,rfl⟩;rw[e]at hs;cases hs
 .exact lookD_app x y v X Y kv
def look_row(w h s:Int)(j:Nat)(X Y:Int):∀(x:List Nat) (i:Nat) (kv:List ((Int×Int)×Int)),lookD (hRow w h s j i x kv) X Y=match lookD kv X Y with|some u=>be u|none=>(scanRow (λi=>decide (hmX w h s i j=X/\(j:Int)%h=Y)) i x).map λc=>(c:Int)-48
 |[],i,kv=>by
  rw[hRow,scanRow];cases lookD kv X Y<;>rfl
 |c::r,i,kv=>by
  rw[hRow,look_row w h s j X Y r (i+1),scanRow];by_cases v9:c=46
  .rw[if_pos v9,if_neg (c:=c≠46/\_) (λz=>z.1 v9)]
  .rw[if_neg v9,Ds];cases lookD kv X Y with
   |some u=>rfl
   |none=>
    by_cases e:hmX w h s i j=X/\(j:Int)%h=Y
    .rw[if_pos (c:=c≠46/\_) #[v9,decide_eq_true e]];show(match (if hmX w h s i j=X/\(j:Int)%h=Y then be ((c:Int)-48)else LH)with|some u=>be u|none=>_)=_;rw[if_pos e];rfl
    .rw[if_neg (c:=c≠46/\_) (λz=>e (of_decide_eq_true z.2))];show(match (if hmX w h s i j=X/\(j:Int)%h=Y then be ((c:Int)-48)else LH)with|some u=>be u|none=>_)=_;rw[if_neg e]
def wk(w h s X Y:Int):∀(L:List Ms) (j:Nat) (kv:List ((Int×Int)×Int)),lookD (hAll w h s j (L.map cs) kv) X Y=match lookD kv X Y with|some u=>be u|none=>(bU (λi j=>decide (hmX w h s i j=X/\j%h=Y)) j L).map λc=>(c:Int)-48
 |[],j,kv=>by
  rw[Jo,hAll,bU];cases lookD kv X Y<;>rfl
 |x::r,j,kv=>by
  rw[Ik,hAll,wk w h s X Y r (j+1),look_row,bU];cases lookD kv X Y with
  |some u=>rfl
  |none=>
   show(match (scanRow (λi=>decide (hmX w h s i j=X/\(j:Int)%h=Y)) 0 (cs x)).map (λc=>(c:Int)-48)with|some u=>be u|none=>_)=_;cases scanRow (λi=>decide (hmX w h s i j=X/\(j:Int)%h=Y)) 0 (cs x)<;>rfl
variable{h:Int}
def Dt{c d:Int}(F:FamOf a b c d w h s)(hn:¬a*d=b*c)(x y i j:Int):decide (hmX w h s i j=hmX w h s x y/\j%h=y%h)=onB a b c d (x-i) (y-j):=by
 have hw:=F.1;have hh:=F.2.1;have key:(hmX w h s i j=hmX w h s x y/\j%h=y%h)↔InF w h s (x-i) (y-j):=by
  unfold hmX;constructor
  .rintro⟨e1,e2⟩;have dy:=Jw y h;have dj:=Jw j h;have m1:=Jw (x-y/h*s) w;have m2:=Jw (i-j/h*s) w;refine#[(x-y/h*s)/w-(i-j/h*s)/w,y/h-j/h,?_,?_]
   .rw[Kr,Kr,Iu ((x-y/h*s)/w) w,Iu ((i-j/h*s)/w) w];lia
   .rw[Kr,Iu (y/h) h,Iu (j/h) h];lia
  .rintro⟨m,q,ex,ey⟩;have TN:y=j+q*h:=by lia
   have RD:x=i+(m*w+q*s):=v4
   subst RD TN;rw[Lf,Lg _ _ v4];refine#[?_,rfl];have e:i+(m*w+q*s)-(j/h+q)*s=i-j/h*s+m*w:=by rw[Ks];lia
   rw[e,Lf]
 unfold onB;congr 1;apply propext;rw[key,F.lat];constructor
 .rintro⟨m,q,eu,ev⟩;exact vt eu ev
 .exact λz=>vL hn z
def Du(h:49<=c/\c<=54):cell [0,1,2,3,4,5,6] ((c:Int)-48)=(c:Int)-48:=by
 rcases(v4:c=49\/c=50\/c=51\/c=52\/c=53\/c=54)with e|e|e|e|e|e<;>subst e<;>rfl
def motif_shows{c d:Int}(hL:Rows L)(F:FamOf a b c d w h s)(hn:¬a*d=b*c)(x y:Int):(lookD (hAll w h s 0 (L.map cs) []) (hmX w h s x y) (y%h)).getD 0=(bz L a b c d).shows x y:=by
 rw[wk];show((bU (λi j=>decide (hmX w h s i j=hmX w h s x y/\j%h=y%h)) 0 L).map λc=>(c:Int)-48).getD 0=_;have e:(λi j=>decide (hmX w h s i j=hmX w h s x y/\j%h=y%h))=λi j=>onB a b c d (1*x+0*y+0-i) (0*x+1*y+0-j):=by
  funext i j;rw[Dt F hn];congr 1<;>lia
 rw[e];show _=match bU (λi j=>onB a b c d (1*x+0*y+0-i) (0*x+1*y+0-j)) 0 L with|some c=>cell [0,1,2,3,4,5,6] ((c:Int)-48)|none=>0
 cases q:bU (λi j=>onB a b c d (1*x+0*y+0-i) (0*x+1*y+0-j)) 0 L with
 |none=>rfl
 |some c=>
  have hc:49<=c/\c<=54:=lM (λl' q=>let ⟨_,_,_,h⟩:=hL;(h l' q).2) q;exact(Du hc).symm
def cb(j:Nat)(x:Ms):SpX:=λds R _=>∃(p:Pat) (v:D) (X Y:Int),ds=[v,.int X,.int Y]/\FormOf p v/\p.Wf/\p.depth<j/\p.cls=x/\R (.int (p.show X Y))
def fN{x:Ms}:¬ofX (cb 0 x) ds M R RX:=by
 rintro⟨_,_,_,_,_,_,_,h,_⟩;exact absurd h (JI _)
structure PatOf(p:Pat)(w h s:Int)(fs:List (Str×D)):Prop extends Pat.Fam p w h s where
 form:∃v,fs.lookup ("form":Ms)=be v/\FormOf p v
 nl:noLF fs=true
def bv(p:Pat)(d:D):Prop:=∃w h s fs,d=.obj "Pattern" fs/\fs.lookup ("text":Ms)=be (.str p.text)/\fs.lookup ("shifts":Ms)=be (.tup [.int w,.int h,.int s])/\PatOf p w h s fs
def bo(x:Int):Prop:=-1000000000000<=x/\x<=1000000000000
def Pat.show_le(h:p.Wf)(hd:p.depth<=40)(x y:Int):0<=p.show x y/\p.show x y<=6:=by
 rw[<-Pat.show_leaves h hd];exact vF x y (Pat.leaf_ok h hd)
def aP(h:Int):Nat:=if h=0 then 46 else(48+h).toNat
def aL(p:Pat)(x y:Int)(n:Nat):Str:=#[((HS n).map λ(k:Nat)=>aP (p.show (x+(k:Int)) y)).toArray]
def cC(p:Pat)(x y:Int)(n:Nat):(aL p x y n).length=n:=by simp[aL,Str.length]
def wl(h0:0<=h)(h6:h<=6):atI (cs ".123456") h=be (aP h):=by
 rcases(v4:h=0\/h=1\/h=2\/h=3\/h=4\/h=5\/h=6)with e|e|e|e|e|e|e<;>subst e<;>decide+kernel
def range2_int{i j:Int}{x:D}(h:((HS (j-i).toNat).map λk=>D.int (i+((k:Nat):Int)))[k]?=be x):k<(j-i).toNat/\x=.int (i+(k:Int)):=by
 have hk:k<(j-i).toNat:=by simpa using(Ia.mp h).1
 refine#[hk,?_];simp[hk]at h;exact h.symm
def wn:∀L:List Ms,cs (Str.join "" L)=L.flatMap cs
 |[]=>rfl
 |[x]=>by simp[Str.join]
 |x::y::r=>by
  show cs (x++""++Str.join "" (y::r))=_;rw[bF,bF,wn (y::r),vC];simp
def Dv(f:Nat->Nat)(n:Nat):Str.join "" ((HS n).map λi=>(#[[f i].toArray]:Ms))=#[((HS n).map f).toArray]:=by
 apply gx;rw[wn,List.flatMap_map];show(HS n).flatMap (λi=>[f i])=(HS n).map f;rw[List.map_eq_flatMap]
def Dw:SiD:=λds R=>∃(t:Ms) (w h s:Int) (x:Ms) (fs:List (Ms×D)),ds=[.str t,.tup [.int w,.int h,.int s],.obj x fs]/\R [("text",.str t),("shifts",.tup [.int w,.int h,.int s]),("form",.obj x fs)]
def S_read:SpX:=λds R _=>∃p:Pat,ds=[.str p.text]/\p.Ok/\∀d,bv p d->R d
def S_read.mono{R R':D->Prop}{RX RX':XD}(h:S_read ds R RX)(hR:∀d,R d->R' d):S_read ds R' RX':=by
 obtain⟨p,e,ok,h⟩:=h;exact#[p,e,ok,λd i=>hR d (h d i)]
def wo{R:D->Prop}{RX:XD}(ok:p.Ok)(h:∀d,bv p d->R d):S_read [.str p.text] R RX:=#[p,rfl,ok,h]
def Dx:SpX:=λds R RX=>∃x y:Int,ds=[.int x,.int y]/\(bo x/\bo y->R .non)/\(¬(bo x/\bo y)->RX "TooFar" [])
def Dy:SpX:=λds R RX=>∃(p:Pat) (d:D) (x y:Int),ds=[d,.int x,.int y]/\bv p d/\p.Ok/\(bo x/\bo y->R (.int (p.show x y)))/\(¬(bo x/\bo y)->RX "TooFar" [])
def Dz:SpD:=λds R=>∃(p:Pat) (d:D) (x y:Int) (n:Nat),ds=[d,.int x,.int y,.int n]/\bv p d/\p.Ok/\n<=1000/\bo x/\bo (x+n-1)/\bo y/\R (.str (aL p x y n))
def rowD(p:Pat)(x y:Int)(n:Nat):List D:=(HS n).map λ(i:Nat)=>D.str #[[aP (p.show (x+(i:Int)) y)].toArray]
def wt(p:Pat)(x y:Int)(k:Nat):rowD p x y k++[D.str #[[aP (p.show (x+(k:Int)) y)].toArray]]=rowD p x y (k+1):=by
 unfold rowD;rw[JE,IA];rfl
variable{n:Nat}
def wu(p:Pat)(x y:Int)(hn:n<=1000):∃ys,cT (rowD p x y n)=be ys/\(ys.map (·.length)).sum+ys.length*("":Ms).length<=1000000/\Txt.join "" ys=aL p x y n:=by
 have e1:rowD p x y n=((HS n).map λ(i:Nat)=>(#[[aP (p.show (x+(i:Int)) y)].toArray]:Ms)).map D.str:=by unfold rowD;rw[JH];rfl
 rw[e1];refine#[_,lL _,?_,(StrLaws.glued_eq_join _ _).trans (Dv (λi=>aP (p.show (x+(i:Int)) y)) n)];rw[vD (w:=1) (λl hl=>by obtain⟨i,_,rfl⟩:=Ir.mp hl;rfl),HV,Kt,show("":Ms).length=0 from rfl];lia
def DB{n:Int}:x.fmod n=0↔n∣x:=#[Int.dvd_of_fmod_eq_zero,Kj]
def DC(a b c d u v i j:Int):onB a b c d (u+(i*a+j*c)) (v+(i*b+j*d))=onB a b c d u v:=by
 unfold onB;have e1:(u+(i*a+j*c))*d-(v+(i*b+j*d))*c=(u*d-v*c)+(a*d-b*c)*i:=NW
 have e2:a*(v+(i*b+j*d))-b*(u+(i*a+j*c))=(a*v-b*u)+(a*d-b*c)*j:=NW
 rw[e1,e2];simp only[DB];have h1:(a*d-b*c∣u*d-v*c+(a*d-b*c)*i)↔a*d-b*c∣u*d-v*c:=Lh (Li _ _);have h2:(a*d-b*c∣a*v-b*u+(a*d-b*c)*j)↔a*d-b*c∣a*v-b*u:=Lh (Li _ _);simp only[h1,h2]
def Pat.Keeps(p:Pat)(X Y:Int):Prop:=∀x y,p.show (x+X) (y+Y)=p.show x y
def Pat.lat_keeps:∀{p:Pat} {X Y:Int},p.Lat X Y->p.Keeps X Y
 | .mot L a b c d,_,_,⟨i,j,rfl,rfl⟩,x,y=>by
  have e:∀u v:Int,onB a b c d (1*(x+(i*a+j*c))+0*(y+(i*b+j*d))+0-u) (0*(x+(i*a+j*c))+1*(y+(i*b+j*d))+0-v)=onB a b c d (1*x+0*y+0-u) (0*x+1*y+0-v):=λu v=>by
   rw[<-DC a b c d (1*x+0*y+0-u) (0*x+1*y+0-v) i j];congr 1<;>lia
  show Leaf.shows _ _ _=Leaf.shows _ _ _;unfold Leaf.shows Leaf.hit;simp only[bz,e]
 |.over p q,X,Y,h,x,y=>by
  simp only[Pat.show];rw[Pat.lat_keeps h.1 x y,Pat.lat_keeps h.2 x y]
 |.sh a b p,X,Y,h,x,y=>by
  have:=Pat.lat_keeps (p:=p) h (x-a) (y-b);simp only[Pat.show];rw[<-this];congr 1<;>lia
 |.mir p,X,Y,h,x,y=>by
  have:=Pat.lat_keeps (p:=p) h (-x) y;simp only[Pat.show];rw[<-this];congr 1;lia
 |.tur p,X,Y,h,x,y=>by
  have:=Pat.lat_keeps (p:=p) h y (-x);simp only[Pat.show];rw[<-this];congr 1;lia
 |.hue f g p,X,Y,h,x,y=>by
  simp only[Pat.show];rw[Pat.lat_keeps (p:=p) h x y]
def InF.one(w h s:Int):InF w h s w 0:=#[1,0,v4,v4]
def Pat.Fam.keeps{y:Int}(f:p.Fam w h s)(q:InF w h s x y):p.Keeps x y:=Pat.lat_keeps ((f.lat x y).mp q)
structure Pat.Kfam(p:Pat)(w h s:Int):Prop where
 f:Fam0 w h s
 keeps:∀{x y},InF w h s x y->p.Keeps x y
structure Pat.Least(p:Pat)(w h s:Int):Prop where
 f:Fam0 w h s
 lat:∀x y,InF w h s x y↔p.Keeps x y
def DD(hw:0<w)(hh:0<h)(x y:Int):InF w h s (x-hmX w h s x y) (y-y%h):=by
 have e1:=Ji y h;have e2:=Ji (x-y/h*s) w;refine#[(x-y/h*s)/w,y/h,?_,by rw[e1,Iu];lia];unfold hmX;rw[e2,Iu w];lia
def Pat.show_home(hw:0<w)(hh:0<h)(k:∀x y,InF w h s x y->p.Keeps x y)(x y:Int):p.show (hmX w h s x y) (y%h)=p.show x y:=by
 have:=k _ _ (DD (s:=s) hw hh x y) (hmX w h s x y) (y%h);rw[<-this];congr 1<;>lia
def DF(f:Nat->Nat){w:Nat}(h:c<w):((HS w).map f).drop c++((HS w).map f).take c=(HS w).map λk=>f ((c+k)%w):=by
 apply Jq;intro i;by_cases h1:i<w-c
 .rw[IE (by simp;exact h1),Lj,H9,H9,IV v4,IV v4];simp[Lk (show c+i<w by lia)]
 .rw[IZ UD];simp only[Je,HV,Kt];by_cases h2:i<w
  .rw[Kb v4,H9,H9,IV v4,IV v4];have e:(c+i)%w=i-(w-c):=by
    rw[show c+i=(i-(w-c))+w by lia,Nat.add_mod_right,Lk v4]
   simp[e]
  .rw[IF UD,IF UD]
def gz(l:List Nat):cs (#[l.toArray]:Ms)=l:=MF
def DG{c:Int}(ht:cs t=l)(c0:0<=c)(cl:c<l.length):Txt.slice t (be c) LH++Txt.slice t LH (be c)=(#[(l.drop c.toNat++l.take c.toNat).toArray]:Ms):=by
 have hl:t.length=l.length:=by rw[<-ht,bn]
 apply gx;rw[bF,slice_cps,slice_cps,gz,gz,gz,show t.cps.toList=l from ht,hl];have e1:HT.sIx l.length 0 (be c)=c.toNat:=by show(if c<0 then _ else min c.toNat l.length)=_;rw[if_neg v4];lia
 have e2:HT.sIx l.length l.length LH=l.length:=rfl;have e3:HT.sIx l.length 0 LH=0:=rfl;have e4:HT.sIx l.length l.length (be c)=c.toNat:=by show(if c<0 then _ else min c.toNat l.length)=_;rw[if_neg v4];lia
 rw[e1,e2,e3,e4,J5,Jh MF];rfl
def cY(p:Pat)(x y:Int)(n:Nat):cs (aL p x y n)=(HS n).map λ(k:Nat)=>aP (p.show (x+(k:Int)) y):=gz _
def DJ(hw:0<w)(hh:0<h)(k:∀x y,InF w h s x y->p.Keeps x y)(x y:Int):
  Txt.slice (aL p 0 (y%h) w.toNat) (be (hmX w h s x y)) LH++Txt.slice (aL p 0 (y%h) w.toNat) LH (be (hmX w h s x y))=aL p x y w.toNat:=by
 have c0:0<=hmX w h s x y:=IS _ v4;have c1:hmX w h s x y<w:=IT _ hw;rw[DG (cY p 0 (y%h) w.toNat) c0 UD,DF _ v4];unfold aL;congr 2;apply JF;intro i _;have e:=Pat.show_home hw hh k (x+(i:Int)) y;rw[<-e];congr 2;have q:hmX w h s (x+(i:Int)) y=(hmX w h s x y+i)%w:=by
  unfold hmX;rw[Int.emod_add_emod];congr 1;lia
 rw[q,Jz,Ll,JJ,ID c0,ID v4]
def gA(p:Pat)(w h:Int):D:=.lst ((HS h.toNat).map λ(y:Nat)=>D.str (aL p 0 (y:Int) w.toNat))
def DK:SpD:=λds R=>∃(p:Pat) (d:D),ds=[d]/\bv p d/\p.Ok/\∀w h s,p.Fam w h s->w*h<=720->w<=720->h<=720->R (gA p w h)
def DL:SpD:=λds R=>∃(p:Pat) (w h s x y:Int),ds=[.tup [.int w,.int h,.int s],gA p w h,.int x,.int y]/\p.Fam w h s/\w<=720/\h<=720/\R (.str (aL p x y w.toNat))
def DM(a0:0<=a)(a6:a<=6)(b0:0<=b)(b6:b<=6)(e:aP a=aP b):a=b:=by
 unfold aP at e;split at e<;>split at e<;>lia
structure Pat.LeastW(p:Pat)(w m:Int):Prop where
 lo:1<=m
 hi:m<=w
 md:w%m=0
 k:p.Keeps m 0
 l:∀d,1<=d->d<=w->w%d=0->p.Keeps d 0->m<=d
def DN:SpD:=λds R=>∃xs:List Int,ds=[.tup (xs.map D.int),.tup (xs.map D.int)]/\xs.length<=1000/\R (.bl true)
def DO{R:D->Prop}(ok:p.Ok)(h:∀w h s,p.Fam w h s->w*h<=720->w<=720->h<=720->R (.tup [.int w,.int h,.int s])):lP [.lst (p.leaves.map Leaf.D)] R:=by
 refine#[p.leaves,p.depth,rfl,λz=>by have:=Pat.leaves_pos p;rw[z]at this;simp at this,λl hl=>Pat.leaf_good ok.wf l hl,λw k s f lat=>?_];have F:p.Fam w k s:=#[f,λx y=>(lat x y).trans (Pat.lat_leaves p x y)];have sm:=ok.fits.small F;have wh:w*k<=720:=by
  obtain⟨w',h',s',f',hb⟩:=ok.fits;obtain⟨rfl,rfl,_⟩:=F.uniq f';exact hb
 exact#[λ_=>h w k s F wh sm.2.1 sm.2.2.2.1,λz=>v4]
def FamD(p:Pat):D->Prop:=λx=>∃w h s:Int,x=.tup [.int w,.int h,.int s]/\p.Fam w h s/\w*h<=720/\w<=720/\h<=720
def DP(ok:p.Ok):lP [.lst (p.leaves.map Leaf.D)] (FamD p):=DO ok λw h s F a b c=>#[w,h,s,rfl,F,a,b,c]
def sumN(g:Nat->Int):Nat->Int
 |0=>0
 |n+1=>sumN g n+g n
def eA{g f:Nat->Int}:∀{n:Nat},(∀k,k<n->g k=f k)->sumN g n=sumN f n
 |0,_=>rfl
 |n+1,h=>by rw[sumN,sumN,eA λk hk=>h k v4,h n v4]
def iD(g:Nat->Int)(n:Nat):∀m:Nat,sumN g (n+m)=sumN g n+sumN (λk=>g (n+k)) m
 |0=>by simp[sumN]
 |m+1=>by rw[<-Nat.add_assoc,sumN,sumN,iD g n m];lia
def wv(g f:Nat->Int):∀n:Nat,sumN (λk=>g k+f k) n=sumN g n+sumN f n
 |0=>rfl
 |n+1=>by simp only[sumN,wv g f n];lia
variable{N:Nat}
def DQ{g:Nat->Int}(hN:0<N)(Nd:∀k,g (k+N)=g k)(n:Nat):sumN (λj=>(((n:Int)-1-j)/N+1)*g j) (min n N)=sumN g n:=by
 induction n using Nat.strongRecOn with
 |ind n ih=>
  by_cases h:n<=N
  .rw[JA h];refine eA λk hk=>?_;rw[Lm v4 v4];simp
  .have e1:n=N+(n-N):=by lia
   have i:=ih (n-N) v4;have Qk:sumN (λk=>g (N+k)) (n-N)=sumN g (n-N):=eA λk _=>by rw[Kp];exact Nd k
   rw[J6 v4];have e2:sumN g n=sumN g N+sumN g (n-N):=by
    conv=>lhs;rw[e1]
    rw[iD,Qk]
   rw[e2,<-i];have e3:min (n-N) N+(N-min (n-N) N)=N:=v4
   have split:∀f:Nat->Int,sumN f N=sumN f (min (n-N) N)+sumN (λk=>f (min (n-N) N+k)) (N-min (n-N) N):=λf=>by
    conv=>lhs;rw[<-e3]
    exact iD _ _ _
   rw[split,split g];have a:sumN (λj=>(((n:Int)-1-j)/N+1)*g j) (min (n-N) N)=sumN g (min (n-N) N)+sumN (λj=>((((n-N:Nat):Int)-1-j)/N+1)*g j) (min (n-N) N):=by
    rw[<-wv];refine eA λk hk=>?_;have q:((n:Int)-1-k)/N=(((n-N:Nat):Int)-1-k)/N+1:=by
     rw[show((n:Int)-1-k)=(((n-N:Nat):Int)-1-k)+1*N by lia,Lg _ _ v4]
    rw[q,Ks];lia
   have b:sumN (λk=>(((n:Int)-1-((min (n-N) N+k:Nat):Int))/N+1)*g (min (n-N) N+k)) (N-min (n-N) N)=sumN (λk=>g (min (n-N) N+k)) (N-min (n-N) N):=by
    refine eA λk hk=>?_;rw[Lm v4 v4];simp
   rw[a,b];lia
def cntN(f:Nat->Int)(v:Int)(n:Nat):Int:=sumN (λk=>if f k=v then 1 else 0) n
def ww(f:Nat->Int)(v:Int):∀n,0<=cntN f v n/\cntN f v n<=n
 |0=>by simp[cntN,sumN]
 |n+1=>by
  have:=ww f v n;unfold cntN at this ⊢;rw[sumN];split<;>lia
def DR{f:Nat->Int}{w:Nat}(hw:0<w)(Nd:∀k,f (k+w)=f k)(v:Int)(m:Nat):((m/w:Nat):Int)*cntN f v w+cntN f v (m%w)=cntN f v m:=by
 have key:∀q r:Nat,cntN f v (w*q+r)=(q:Int)*cntN f v w+cntN f v r:=λq=>by
  have sh:∀q k,f (w*q+k)=f k:=λq=>by
   induction q with
   |zero=>intro k;rw[Nat.mul_zero,Ku]
   |succ q ih=>intro k;rw[Ln,show w*q+w+k=w*q+k+w by lia,Nd];exact ih k
  induction q with
  |zero=>intro r;simp
  |succ q ih=>
   intro r;rw[Ln,show w*q+w+r=w*q+(w+r)by lia,ih,JJ,Ks];have e:cntN f v (w+r)=cntN f v w+cntN f v r:=by
    unfold cntN;rw[iD];congr 1;refine eA λk _=>?_;rw[Kp w k,Nd]
   rw[e];simp;lia
 have:=key (m/w) (m%w);rw[Nat.div_add_mod]at this;exact this.symm
def iE(y:Ms)(c:Nat):∀(m a:Nat) (st:Array Nat×Nat),a+m=y.length+1->st.2<=a->st.1.size<=a->(forIn (List.range' a m) st (StrLaws.occBody y #[[c].toArray] y.length (y.length+1))).run.fst.size=st.1.size+(((cs y).drop a).filter (·==c)).length
 |0,a,st,h,_,_=>by
  rw[Kv (by rw[bn];lia)];rfl
 |m+1,a,st,h,h1,h2=>by
  have l1:(#[[c].toArray]:Ms).length=1:=rfl;have q:=StrLaws.subAt_eq y #[[c].toArray] a;rw[List.range'_succ,Ke];by_cases ha:a<y.length
  .have hd:(cs y).drop a=(cs y)[a]'(by rw[bn];exact ha)::(cs y).drop (a+1):=Jk (by rw[bn];exact ha);rw[show y.cps.toList.drop a=_ from hd,l1]at q;rw[hd,List.filter_cons];by_cases e:(cs y)[a]'(by rw[bn];exact ha)=c
   .have eb:StrLaws.occBody y #[[c].toArray] y.length (y.length+1) a st=pure (.yield (st.1.push a,a+1)):=by
     unfold StrLaws.occBody;rw[if_pos #[#[#[v4,h1],by rw[l1];lia],by rw[q];simp[e]],l1]
    rw[eb];have:=iE y c m (a+1) (st.1.push a,a+1) v4 (HP _) UD;simp only[e,beq_self_eq_true,if_true,HX];refine Eq.trans this ?_;simp only[Array.size_push];lia
   .have eb:StrLaws.occBody y #[[c].toArray] y.length (y.length+1) a st=pure (.yield (st.1,st.2)):=by
     unfold StrLaws.occBody;rw[if_neg];rintro⟨_,z⟩;rw[q]at z;simp at z;exact e z
    rw[eb];have:=iE y c m (a+1) st v4 v4 v4;rw[if_neg (by simpa using e)];exact this
  .have eb:StrLaws.occBody y #[[c].toArray] y.length (y.length+1) a st=pure (.yield (st.1,st.2)):=by
    unfold StrLaws.occBody;rw[if_neg];rintro⟨⟨_,z⟩,_⟩;rw[l1]at z;lia
   rw[eb];have:=iE y c m (a+1) st v4 v4 v4;rw[Kv (by rw[bn];lia)];rw[Kv (by rw[bn];lia)]at this;exact this
def DU(y:Ms)(c:Nat):(Builtin.Str.occurrences y #[[c].toArray] 0 y.length (y.length+1)).length=((cs y).filter (·==c)).length:=by
 rw[StrLaws.occ_eq,JN,iE y c _ 0 _ v4 (HP _) (HP _)];simp
def wx(f:Nat->Int)(b:∀k,0<=f k/\f k<=6){v:Int}(v0:0<=v)(v6:v<=6):∀n:Nat,(((((HS n).map λk=>aP (f k)).filter (·==aP v)).length:Nat):Int)=cntN f v n
 |0=>rfl
 |n+1=>by
  rw[JE,IA,List.filter_append,Ic,JJ,wx f b v0 v6 n];show _=cntN f v n+_;congr 1;by_cases e:f n=v
  .simp[e]
  .have:¬aP (f n)=aP v:=λz=>e (DM (b n).1 (b n).2 v0 v6 z);simp[this,e]
def DV(ok:p.Ok)(x y:Int){v:Int}(v0:0<=v)(v6:v<=6)(n:Nat):(((cs (aL p x y n)).filter (·==aP v)).length:Int)=cntN (λk=>p.show (x+k) y) v n:=by
 rw[cY];exact wx _ (λk=>Pat.show_le ok.wf (by have:=ok.deep;lia) _ _) v0 v6 n
def DY(p:Pat)(x y:Int){r:Nat}(h:r<=n):Txt.slice (aL p x y n) LH (be (r:Int))=aL p x y r:=by
 apply gx;rw[slice_cps,gz,cY,show(aL p x y n).cps.toList=_ from cY p x y n,cC];have e1:HT.sIx n 0 LH=0:=rfl;have e2:HT.sIx n n (be (r:Int))=r:=by show(if(r:Int)<0 then((r:Int)+n).toNat else min (r:Int).toNat n)=r;rw[if_neg v4];lia
 rw[e1,e2,J5,Kw,<-Lo,Lp,JA h]
def occC(t:Ms)(c:Nat):Int:=((Builtin.Str.occurrences t #[[c].toArray] 0 t.length (t.length+1)).length:Nat)
def wy(ok:p.Ok)(x y:Int){v:Int}(v0:0<=v)(v6:v<=6)(n:Nat):occC (aL p x y n) (aP v)=cntN (λk=>p.show (x+k) y) v n:=by
 unfold occC;rw[DU,DV ok x y v0 v6]
def cN(p:Pat)(v left top:Int)(m n:Nat):Int:=sumN (λj=>cntN (λk=>p.show (left+k) (top+j)) v m) n
def cO(p:Pat)(left top:Int)(m n:Nat):List Int:=(HS 7).map λ(v:Nat)=>cN p v left top m n
def DZ:SpD:=λds R=>∃(p:Pat) (x y v m:Int) (w:Nat),ds=[.str (aL p x y w),.str #[[aP v].toArray],.int m]/\p.Ok/\0<=v/\v<=6/\0<w/\w<=720/\0<=m/\m<2^63/\p.Keeps w 0/\R (.int (cntN (λk=>p.show (x+k) y) v m.toNat))
def Pat.Fam.across(F:p.Fam w h s):p.Keeps w 0:=F.keeps (InF.one w h s)
def Pat.Fam.down(F:p.Fam w h s):p.Keeps 0 (w*h):=F.keeps #[-s,w,by rw[Kl,Iu w s];lia,rfl]
def D0(hN:0<N)(k:p.Keeps 0 N)(v left top:Int)(m n:Nat):sumN (λj=>(((n:Int)-1-j)/N+1)*cntN (λk=>p.show (left+k) (top+j)) v m) (min n N)=cN p v left top m n:=by
 refine DQ (g:=λj=>cntN (λk=>p.show (left+k) (top+j)) v m) hN (λj=>?_) n;unfold cntN;refine eA λi _=>?_;have e:p.show (left+i) (top+((j+N:Nat):Int))=p.show (left+i) (top+j):=by
  have:=k (left+i) (top+j);rw[JK]at this;rw[<-this,JJ,Kx]
 simp only[e]
def wz{α:Type}(f g:Nat->α)(h:∀v,v<n->v≠i->g v=f v):((HS n).map f).set i (g i)=(HS n).map g:=by
 apply Jq;intro k;rw[Jf];by_cases hk:i=k
 .subst hk;simp only[if_true,HV,Kt];by_cases hi:i<n
  .simp[hi]
  .simp[hi]
 .rw[if_neg hk];by_cases hi:k<n
  .simp[hi,h k hi (Ne.symm hk)]
  .simp[hi]
def D1:bS ".123456"=(HS 7).map λ(v:Nat)=>D.str #[[aP (v:Int)].toArray]:=by
 unfold bS;rw[show(".123456":Ms).cps.toList=[46,49,50,51,52,53,54]by decide+kernel];rfl
def cn(p:Pat)(left top:Int)(m n N k:Nat)(v:Int):Int:=sumN (λj=>(((n:Int)-1-j)/N+1)*cntN (λi=>p.show (left+i) (top+j)) v m) k
variable{top a_:Int}
def D2{W:Int}(hn:(a_-top+1).toNat=n)(wN:W=(N:Int)):((if top+W<a_+1 then top+W else a_+1)-top).toNat=min n N:=by split<;>lia
def D3{W:Int}(a:-1000000000000<=top/\top<=1000000000000)(c:-1000000000000<=a_/\a_<=1000000000000)(w0:0<W)(w1:W<=720):-(2^62)<=top/\top<2^62/\-(2^62)<=(if top+W<a_+1 then top+W else a_+1)/\(if top+W<a_+1 then top+W else a_+1)<2^62:=by split<;>lia
def D4(hn:(a_-top+1).toNat=n)(hk:k<min n N):a_-(top+k)=(n:Int)-1-k:=v4
def wA{l r:Int}{m:Nat}(a:-1000000000000<=l/\l<=1000000000000)(b:-1000000000000<=r/\r<=1000000000000)(h:(r-l+1).toNat=m):m<=2000000000001:=v4
def D5(x:Int):(if 0>x then 0 else x)=(x.toNat:Int):=by split<;>lia
def D6:SpX:=λds R RX=>∃(p:Pat) (d:D) (left top right a_:Int),ds=[d,.int left,.int top,.int right,.int a_]/\bv p d/\p.Ok/\(bo left/\bo top/\bo right/\bo a_->R (.lst ((cO p left top (right-left+1).toNat (a_-top+1).toNat).map D.int)))/\(¬(bo left/\bo top/\bo right/\bo a_)->RX "TooFar" [])
structure Mv(p q:Pat)(b0 b1 b2 b3:Int):Prop where
 keeps:∀X Y,q.Keeps X Y↔p.Keeps (b0*X+b1*Y) (b2*X+b3*Y)
 leaf:∀l ls,p.leaves=l::ls->∃l' ls',q.leaves=l'::ls'/\l'.w0=l.w0*b0+l.w1*b2/\l'.w1=l.w0*b1+l.w1*b3/\l'.w2=l.w2*b0+l.w3*b2/\l'.w3=l.w2*b1+l.w3*b3
 area:∀w h s,p.Least w h s->∃w' h' s',q.Least w' h' s'/\w'*h'=w*h
structure Side(a w:Int)(A t:Nat):Prop where
 n:bo a
 A4:A<=4000000000000
 t1:t<=1000
 e:bo (a+A*w+t-1)
end My
end
section
open PySem PySem.Spec PyProof.Rows L2
namespace My
open Exc
section
variable {X:Cx}[J:Jm]{a b c e:U6}{ta tb te:TME}{pos:Vf}
def mTru(te:TME):TMT:=λz M R=>te z M λd M1=>match d with|.bl k=>R k M1|_=>False
abbrev TMO:=SD->MS->(Option Int->MS->Prop)->Prop
def D7:TMO:=λ_ M R=>R LH M
def D8(te:TME):TMO:=λz M R=>te z M λx M1=>match x with|.int i=>R (be i) M1|_=>False
def mO(K:Ex)[J:Jm](t:TMO):TO:=λs H Q=>∃F z M,Kept J.B J.F0 F H/\RepZ K J.B F H z s M/\∃R:Option Int->MS->Prop,t z M R/\∀o M' F' H',GrowM M M' F H F' H'->R o M'->RepM K F' H' M'->Q o H'
structure MPO(X:Cx)[Jm](e:Option U6)(t:TMO):Prop where
 out:PO X e (mO X.K t)
def wB:MPO X LH D7:=⟨PO.anti ku λs H Q q=>by
 obtain⟨F,z,M,k,rs,R,h1,h2⟩:=q;exact h2 LH M F H (GrowM.refl k.fh) h1 rs.rm⟩
def wC(he:ME X e te):MPO X (be e) (D8 te):=⟨PO.anti (ky he.out) λs H Q q=>by
 obtain⟨F,z,M,k,rs,R,h1,h2⟩:=q;refine#[F,z,M,k,rs,_,h1,λx u M1 F1 H1 g1 hx rx m1=>?_];split at hx
 .exact#[_,rep_int.mp rx,h2 _ M1 F1 H1 g1 hx m1]
 .exact hx.elim⟩
def mSl(ta:TME)(tl th:TMO):TME:=λz M R=>ta z M λx M1=>tl z M1 λlo M2=>th z M2 λhi M3=>rdSl x lo hi λd=>R d M3
def D9{lo hi:Option U6}{tl th:TMO}{p2:Vf}(ha:ME X a ta)(hl:MPO X lo tl)(hu:MPO X hi th):ME X (.Subscript a (.Slice lo hi LH p2) pos) (mSl ta tl th):=⟨(gR (SlR.or uq (SlR.or gS si)) ha.out hl.out hu.out).anti λs H Q q=>by
 obtain⟨F,z,M,k,rs,R,h1,h2⟩:=q;refine#[F,z,M,k,rs,_,h1,λx u M1 F1 H1 g1 hx rx m1=>?_];have k1:=k.growM rs.mb g1;have r1:=rs.growM k.bh g1 m1;refine#[F1,z,M1,k1,r1,_,hx,λlo M2 F2 H2 g2 hy m2=>?_];refine#[F2,z,M2,k1.growM r1.mb g2,r1.growM k1.bh g2 m2,_,hy,λhi M3 F3 H3 g3 hw m3=>?_];have g:=g1.trans (g2.trans g3);have LX:=(rx.mono g2.ff).mono g3.ff;unfold rdSl at hw;split at hw
 .exact .inl #[_,rep_str.mp LX,HZ hw.1 Mx,h2 _ _ M3 F3 H3 g hw.2 (rep_str.mpr rfl) m3]
 .obtain⟨l,vs,rfl,hq,rr⟩:=rep_lst.mp LX;refine .inr (.inl #[l,vs,rfl,SqL.of (g3.fh _ _ hq),λp hp=>?_]);exact h2 _ _ M3 _ _ (g.trans (Grow.new g3.fh hp _).toM) hw (rep_lst.mpr #[p,_,rfl,aC,(rr.cut _ _).mono (aN (g3.fh.free hp) _)]) (m3.grow (Grow.new g3.fh hp _))
 .obtain⟨l,vs,rfl,hq,rr⟩:=rep_rol.mp LX;refine .inr (.inl #[l,vs,rfl,g3.fh.seq hq,λp hp=>?_]);exact h2 _ _ M3 _ _ (g.trans (Grow.new g3.fh hp _).toM) hw (rep_lst.mpr #[p,_,rfl,aC,(rr.cut _ _).mono (aN (g3.fh.free hp) _)]) (m3.grow (Grow.new g3.fh hp _))
 .obtain⟨l,vs,rfl,hq,rr⟩:=rep_tup_mp LX;refine .inr (.inr #[l,vs,rfl,g3.fh.tup hq,by rw[rr.length];exact hw.1,λp hp=>?_]);exact h2 _ _ M3 _ _ (g.trans (Grow.new g3.fh hp _).toM) hw.2 (rep_tupS.mpr #[p,_,rfl,aC,(rr.cut _ _).mono (aN (g3.fh.free hp) _)]) (m3.grow (Grow.new g3.fh hp _))
 .exact hw.elim⟩
end
end My
namespace Exc
open PySem PySem.Spec PyProof.Rows PySem.W L2
section
variable {prog:U8}{w:U_}{A:Va}{E:Os->P3->Prop}{s:P3}{K:Ex}{x C dx:Addr}{ox:Vn}{cd:VT}{name:Ms}{v:Os}{vs:Array Os}{mA:Ms->Option Os}{ns:List Ms}
def Ea{Q:Unit->P3->Prop}(X:K.In s.heap)(hx:s.heap.get? x=be ox)(g_:ox.cls=.ref C)(y9:ox.data=.fields vs)(hd:ox.dict=be dx)(Sd:s.heap.Ns1 dx mA)(hw:PySem.Within mA ns)(hz:ns.length<=1000)(hc:clsIn K C=be cd)(hm:excMro cd.mro=true)(hh:cd.hasDict=true)
  (hs:findIn K (.ref C) "__setattr__"=be (be (.builtin "object.__setattr__"))) (hf:findIn K (.ref C) name=be LH)
  (h:∀h',h'.Ns1 dx (λy=>if y=name then be v else mA y)->Heap.SameBut dx s.heap h'->∀tk,Q () {s with heap:=h',toks:=tk}):
  U9 (SZ prog w) A (WZ (.ref x) name v) Q E s:=by
 have hn:notCls ox=true:=by unfold notCls;rw[y9]
 obtain⟨od,es,ep,Ql,Me⟩:=id Sd;have I:InstAt s.heap x ox C (be od):=#[hx,g_,hn,by rw[hd];exact Ql];refine set_plain X I hs ?_;have SF:=PySem.F.store_object;have ne:cd.mro.isEmpty=false:=NQ
 have sub:Looks (SZ prog w) s.heap (V3 (.ref x) (.type "object")) true:=I.type.andThen (looks_mroIn X WF);refine Vy SF.slot.plain SF.entry (@check_slot (SZ prog w) _ _ _ "object.__setattr__" "object" "__setattr__" (.ref x) [.str name s.toks,v] [] _ SF.kind SF.split sub (SF.args (.ref x) (.str name s.toks) v) ?_);have Mz:Looks (SZ prog w) s.heap (mroOf (.ref C)) cd.mro:=(looks_clsIn X hc).andThen .now;rw[osa_eq,refuse_eq];refine Pi (Pi (I.type.here (s:={s with toks:=s.toks+1}) (Pi (Mz.here (s:={s with toks:=s.toks+1}) ?_))));rw[kD _ hm];refine SL (Pi (I.type.here (s:={s with toks:=s.toks+1}) (Pi ((looks_findIn X hf).here (s:={s with toks:=s.toks+1}) (Pi (Looks.now.here (s:={s with toks:=s.toks+1}) ?_))))));obtain⟨oc,RU,RV,osl⟩:=ox;dsimp only at g_ hd y9;subst g_ hd y9;refine Pi (SL (Pi (Pi (V8 hx (Pi ((looks_clsIn X hc).here (s:={s with toks:=s.toks+1}) ?_))))));rw[hh];rw[if_neg Mx];refine SL ?_;show U9 _ _ (Builtin.ObjectAttr.storeInDict dx (.str name s.toks) name v) _ _ _;unfold Builtin.ObjectAttr.storeInDict Builtin.ObjectAttr.newKeyGuard;refine Pi (SL (Pi (Wy Sd λh' gV hs=>?_)));obtain⟨oD,RK,RL,NG,NH,NI⟩:=gV.count (PySem.Within.cons name v hw);refine Pi (Wg NG (by rw[NH];exact Wi (HZ NI (by rw[HX,VX];lia))) ?_);exact SL (h h' gV hs _)
end
end Exc
namespace My
open Exc
section
variable {X:Cx}[J:Jx]{x f:Ms}{e:U6}{te:TD}{pos c7 p:Vf}{rest:List U7}{tr:TID}
def wE{β:Type}{y:Ms}{z:β}:∀{ws:List (Ms×β)},ws.lookup y=be z->y∈ws.map (·.1)
 |[],h=>nomatch h
 |(g,d)::ws,h=>by
  rw[Ig]at h;split at h
  .rename_i hg;rw[Ik,show y=g by simpa using hg];exact HW
  .exact HU _ (wE h)
def Eb(f:Ms)(te:TD)(tr:TID):TID:=λz fs R=>(fs≠[]/\fs.length<=100)/\te z λd=>tr z ((f,d)::fs) R
def Ec{sx:Ms}{ps:Vf}(hA:∃C cd,ErrA X.K x C cd)(hf:∀C,nsIn X.K SB x=be (be (.ref C))->HR X.K (.ref C) f=be LH)(he:WDE X e te)(hr:WDX X x rest tr)(hN:autoParam (X.N[0]?=be sx) zA0)(hv:autoParam (Vis X.env.scope sx) zA5)(hd:autoParam (zND sx) zA1)
  (g5:autoParam (zNC sx) zA1) (hs:autoParam (Vl e (be (.Attribute (.Name sx ps) f c7)) pos.line X.env=pure false) zA0):WDX X x (.Assign [.Attribute (.Name sx ps) f c7] e pos::rest) (Eb f te tr):=⟨by
 have he:=he.out;have hr:=hr.out;obtain⟨C,cd,er⟩:=hA;have MK:=hf C er.ns;have step:PS X (.Assign [.Attribute (.Name sx ps) f c7] e pos) (λE σ H=>∃e b ws,σ[0]?=be (be (.ref e))/\
   lE X.K te σ H (λv H1=>H1 e=be (XN e C (be b))/\H1 b=be (.xd ws)/\ws.length<=100/\E.nx σ (upd H1 b (.xd ((f,v)::ws))))):=by
  intro pins s σ H D I h;obtain⟨ea,b,ws,h0,h⟩:=h;refine VI (thn (he pins s σ H _ I h) λu s1 ⟨y,H1,I1,ry,t7,hb,hl,MJ⟩=>thn (cS (i:=0) hN hv hd g5 pins s1 σ H1 (λv H'=>v=.ref ea/\H'=H1) I1 #[.ref ea,h0,rfl,rfl]) λov s2 hh=>?_) hs;obtain⟨v0,H2,I2,r0,e1,e2⟩:=hh;subst e1 e2;obtain rfl:ov=Value.ref ea:=r0;obtain⟨t0,sl,g6⟩:=XN.get I2.hok t7;obtain⟨mA,hns,s_⟩:=(show ObjOk X.prog X.w H2 s2.heap b (.xd ws)from I2.hok b _ hb);have hw:PySem.Within mA (ws.map (·.1)):=λy' hy=>by
   have:=s_ y';cases hq:ws.lookup y' with
   |none=>
    rw[hq]at this;cases hm:mA y' with
    |none=>exact absurd hm hy
    |some z=>rw[hm]at this;exact this.elim
   |some z=>exact wE hq
  refine Ea (K:=X.K) (C:=C) (cd:=cd) I2.kIn g6 rfl rfl rfl hns hw (by rw[HV];lia) er.cl er.mro er.hd er.sa MK λh' g1 g2 tk=>?_;obtain⟨od,es,ep,Ql,UR⟩:=id g1;have Qm:∀c,H2 c=LH->c≠b:=λc q z=>by rw[z,hb]at q;cases q
  have z7:∀c o,H2 c=be o->(∀fs,o≠.xd fs)->upd H2 b (.xd ((f,y)::ws)) c=be o:=λc o q n=>by
   have n1:c≠b:=λz=>by rw[z,hb]at q;cases q;exact n _ rfl
   rw[ar n1];exact q
  refine#[σ,_,?_,MJ];refine I2.un (h':=h') (t':=tk) #[λc o q n _ _=>(g2.2 c (Qm c n)).trans q,λc o q n _ _=>#[o.slots,(g2.2 c (Qm c n)).trans q],λc o q n _=>?_,λc o q _=>?_,λc xs q=>z7 c _ q (λφ z=>nomatch z),λc o u q=>z7 c _ q (λφ z=>nomatch z),λc ps q=>#[[].toArray,by rw[z7 c _ q (λφ z=>nomatch z)];simp]] λa o q=>?_
  .rw[ar (Qm c n)];exact n
  .by_cases hc:c=b
   .rw[hc];exact#[od,Ql]
   .exact#[o,(g2.2 c hc).trans q]
  .by_cases hc:a=b
   .subst hc;rw[aC]at q;cases q;refine#[_,g1,λg=>?_];rw[Ig];by_cases hg:g=f
    .subst hg;simp;exact ry
    .have:(g==f)=false:=by simpa using hg
     rw[this,if_neg hg];exact s_ g
   .rw[ar hc]at q;refine(I2.hok a o q).stay (λc u f_ r=>?_) (λc r=>z7 c _ r (λφ z=>nomatch z)) λc xs r=>z7 c _ r (λφ z=>nomatch z);refine(g2.2 c λz=>?_).trans r;rcases f_ with e1|e1
    .exact hc (e1 ▸ z)
    .rw[z,hb]at e1;cases e1
 refine(eL step hr).anti λE s H q=>?_;obtain⟨C',a,od,ws,F,z,fs,hn,h0,e8,hB,j3,k,rs,rf,e_,R,⟨⟨k6,hl⟩,hR⟩,kk⟩:=q;rw[er.ns]at hn;cases hn;rcases e_ with⟨_,rfl⟩|⟨b,rfl,h1,h2,h3,h4,h5⟩
 .cases fs with
  |nil=>exact absurd rfl k6
  |cons c fs=>obtain⟨g,d⟩:=c;obtain⟨v,r,h,_⟩:=repf_cons.mp rf;cases h
 refine#[a,b,ws,h0,_,F,z,k,rs,_,hR,λd v F1 H1 g hx rv=>#[g.hh a _ e8,g.hh b _ h1,?_,?_]]
 .have:∀{fs:List (Ms×D)} {ws:List (Ms×V)},RepF X.K F fs ws->ws.length=fs.length:=λ{fs}=>by
   induction fs with
   |nil=>intro ws r;rw[repf_nil.mp r];rfl
   |cons c fs ih=>obtain⟨g,d⟩:=c;intro ws r;obtain⟨v,r',rfl,_,h⟩:=repf_cons.mp r;rw[HX,HX,ih h]
  rw[this rf];exact hl
 .have TQ:=g.hh b _ h1;have MI:F1 b=none:=g.out b h3 (by rw[h1];exact λz=>nomatch z);have LU:F1 a=none:=g.out a j3 (by rw[e8];exact λz=>nomatch z);have k1:=k.grow g;have n5:=rs.grow g;have same:∀{G:Hp},G b=LH->Same G H1->Same G (upd H1 b (.xd ((f,v)::ws))):=λ{G} gb gs c o q=>by
   have n2:c≠b:=λz=>by rw[z,gb]at q;cases q
   rw[ar n2];exact gs c o q
  refine#[C,a,be b,(f,v)::ws,F1,z,(f,d)::fs,er.ns,h0,by rw[ar (Ne.symm h4)];exact g.hh a _ e8,hB,LU,#[same h2 k1.bh,same MI k1.fh,k1.f0,k1.out,k1.eb,k1.jf,k1.jo],?_,repf_cons.mpr #[v,ws,rfl,rv,RepF.mono g.ff fs ws rf],.inr #[b,rfl,aC,h2,MI,h4,λz=>nomatch z],R,hx,kk];refine#[n5.len,n5.val,λi ds e'=>?_,n5.apart];obtain⟨c,vs,q1,q2,q⟩:=n5.own i ds e';have n2:c≠b:=λz=>by rw[z,TQ]at q2;cases q2
  exact#[c,vs,q1,by rw[ar n2];exact q2,q]⟩
end
def subM(N M:MS):Prop:=(∀e,e∈N->e∈M)/\(av N).Nodup
variable{M:MS}
def subM.keys{N:MS}(s:subM N M){a:Addr}(h:a∈av N):a∈av M:=by
 obtain⟨⟨b,o⟩,h1,rfl⟩:=Ir.mp h;exact bX (s.1 _ h1)
variable{H:Hp}
def RepM.sub{K:Ex}{F:Hp}{N:MS}(r:RepM K F H M)(s:subM N M):RepM K F H N:=#[s.2,λa o h=>r.ok a o (s.1 _ h),λa h=>r.fr a (s.keys h)]
def GrowM.sub{F F' H':Hp}{N M':MS}(g:GrowM M M' F H F' H')(s:subM N M'):GrowM M N F H F' H':=#[g.ff,g.fh,g.hh,g.out,λb h=>g.ks b (s.keys h)]
def gB(S:SpM):SpM:=λds M R RX=>∃(R0:D->MS->Prop) (LY:XDM),S ds M R0 LY/\R=(λd M'=>∃N,subM N M'/\R0 d N)/\RX=λx fs M'=>∃N,subM N M'/\LY x fs N
def wF{K:Ex}{S:SpM}{vs:List V}{Q:VK}{E:XK}(h:lSpM K S vs H Q E):lSpM K (gB S) vs H Q E:=by
 obtain⟨F,ds,M,fh,rs,rm,R,RX,hS,q,qx⟩:=h;refine#[F,ds,M,fh,rs,rm,_,_,#[R,RX,hS,rfl,rfl],λd v M' F' H' g hd rd m'=>?_,λx fs C od M' F' H' g hR er m'=>?_]
 .obtain⟨N,s,hd⟩:=hd;exact q d v N F' H' (g.sub s) hd rd (m'.sub s)
 .obtain⟨N,s,hR⟩:=hR;exact qx x fs C od N F' H' (g.sub s) hR er (m'.sub s)
section
variable {P:U8}{w:U_}{K:Ex}{mg:Ms->Option Os}{base:Heap}{n:Nat}{x m:Ms}{ps:List Ms}{S:SpM}
def CalMth.drop(C:CalMth P w K mg base n x m ps (lSpM K (gB S))):CalMth P w K mg base n x m ps (lSpM K S):=C.imp λ_ _ _ _ h=>wF h
def CalMth.lendD{S:SpD}(C:CalMth P w K mg base n x m ps (lSp K S)):CalMth P w K mg base n x m ps (lSpM K (My.lend λds R _=>S ds R)):=C.imp λ_ _ _ _ h=>by
 obtain⟨F,ds,fh,rs,R,RX,hS,q,_⟩:=BH h;exact#[F,ds,fh,rs,R,hS,q]
def Txm.okDW{qual:Ms}{st:U7}{N:List Ms}{k:Nat}{S:SpD}(T:Txm K x m qual st ps)(F:FnScope N ps (ah st))(len:∀ds R,S ds R->ds.length=ps.length)
  (a8:∀(f:Addr) (cdv:Os) (A:Va) (outer:List VS) (s:P3) (H:Hp) (E:XK) (J:Jx),Room k (A.deeper (Vh qual (ah st) s.heap.objs.size f cdv))->
   ∃t,WDSs (cxOf (CX1 P w) P w K mg base N qual (ah st) f cdv A outer s H E).nox (aK st) t/\∀ds R,S ds R->t {nx:=λ_=>R .non,rt:=R} (startD N ds)):CalMth P w K mg base (k+1) x m ps (lSp K S):=by
 obtain⟨C,f,fd,h1,h2,h3,T,hb⟩:=T;exact#[C,f,fd,h1,h2,h3,L2.Fun.okDW T F len (a8 f),hb]
end
def iF(P:U8)(w:U_)(K:Ex)(mg:Ms->Option Os)(base:Heap)(n:Nat)(x m:Ms)(ps:List Ms)(dd:List D)(sp:Sp):Prop:=
 ∃C f fd ge p7,nsIn K SB x=be (be (.ref C))/\Cls K C/\Meth K C m f/\FnOk P w K mg base (CX1 P w) n f fd ps sp/\Binds K fd ps p7/\Vals ge p7/\∀F,Reps K F dd ge
section
variable {X:Cx}{k:Nat}{f:Addr}{fd:Ve}{ps:List Ms}{sp:Sp}{E:XK}
def Ed{pins:List (Addr×Vn)}{σ:L2.St}{H:Hp}{s:P3}{Q:VK}{us p7:List Os}{vs ge:List V}(F:FnOk X.prog X.w X.K X.mg X.base (CX1 X.prog X.w) k f fd ps sp)(hr:Room k X.A)(hb:Binds X.K fd ps p7)(hd:Vals ge p7)
  (hx:∀e s',CX1 X.prog X.w X.stack H s E e s'->X.xe e s') (I:Inv X pins σ H s) (r:Vals vs us) (h:sp (vs++ge) H Q E):U9 (SZ X.prog X.w) X.A (call (.ref f) us) (EP X pins σ Q) X.xe s:=by
 have r2:=r.append hd;have hl:(us++p7).length=ps.length:=by rw[<-L2.Vals.length r2];exact F.len _ _ _ _ h
 have f_:=hb s us I.kIn hl;refine Vw (VH (F.run X.A X.stack s H #[us,[]] (us++p7) (vs++ge) Q E hr I.env0 f_ r2 h) λr s' hq=>?_);cases r with
 |error e=>exact hx e s' hq
 |ok fl=>
  cases fl with
  |ret u=>exact I.after hq
  |next=>exact False.elim hq
  |brk=>exact False.elim hq
  |cont=>exact False.elim hq
end
section
variable {X:Cx}[J:Jm]{a b c e o:U6}{ta tb te:TME}{pos p apos cpos:Vf}{n m:Nat}{ps:List Ms}{S:SpM}{x:Ms}{es:List U6}{t:TMA}
def Ee(x m:Ms)(dd:List D)(S:SpM)(to:TME):TME:=λz M R=>to z M λd M1=>∃fs,dB M1 d x fs/\fs.lookup m=LH/\S (d::dd) M1 R λx fs M'=>J.RM z M' x fs
def Ef{nm:Ms}{dd:List D}{pl:WH Bool}(C:iF X.prog X.w X.K X.mg X.base n x nm ps dd (lSpM X.K S))(hx:XOkM X)(hr:Room m X.A)(ho:ME X o te)(d9:autoParam (X.ex=[]) zA0)(hn:autoParam (n<=m) zA1)
  (ht:Vd (.Call (.Attribute o nm apos) [] [] pos) X.env=(do
   let ov <-Vd o X.env
   VR apos.atName
   let (f,first) <-Vv [ov] (V' ov nm pl)
   WM pos f first (Vz pos (U' [] X.env)) (V1 pos (VG [] X.env))):=by rfl):
  ME X (.Call (.Attribute o nm apos) [] [] pos) (Ee x nm dd S te):=by
 refine#[λpins s σ H Q I h=>?_];obtain⟨Fr,z,M,k,rs,R,h1,h2⟩:=h;refine methodCall_KW (pl:=pl) (thn (ho.out pins s σ H (λv H1=>∃d M1 F1,GrowM M M1 Fr H F1 H1/\Rep X.K F1 d v/\RepM X.K F1 H1 M1/\∃fs,dB M1 d x fs/\fs.lookup nm=LH/\S (d::dd) M1 R λx fs M'=>J.RM z M' x fs) I #[Fr,z,M,k,rs,_,h1,λd v M1 F1 H1 g1 hd rd m1=>#[d,M1,F1,g1,rd,m1,hd]]) λu s1 hh=>?_) ht;obtain⟨v,H1,I1,rv,d,M1,F1,g1,rd,m1,fs,hi,hl,hq⟩:=hh;obtain⟨C',f,fd,ge,p7,hns,g_,Md,F,hb,hd,TR⟩:=C;obtain⟨a,C2,dx,ws,rfl,n6,hH,rf⟩:=ir g1.fh m1 rd hi;rw[hns]at n6;cases n6;obtain rfl:u=Value.ref a:=rv;refine ko I1 hH g_ Md (rf.none hl) ?_;refine callWith_K0 (first:=[.ref a]) I1.kIn Md.kp (Ed (E:=EX X z σ) (us:=[.ref a]) (vs:=[.ref a]) F (hr.mono hn) hb hd (λe s' hq=>hx.out d9 I1 hq) I1 (.cons rfl .nil) ?_);exact iu k rs g1 m1 (reps_cons.mpr #[_,_,rfl,rd,TR F1]) hq h2
def Eg(ta tb:TME):TME:=λz M R=>ta z M λx M1=>tb z M1 λy M2=>kdP x λa=>kdP y λb=>∃ds es,mget M2 a=be (.lst ds)/\mget M2 b=be (.lst es)/\ds.length+es.length<=100000/\∀p,p∉av M2->R (.ptr p) ((p,.lst (ds++es))::M2)
def Eh(ha:ME X a ta)(hb:ME X b tb):ME X (.BinOp a .Add b pos) (Eg ta tb):=⟨(kg ss ha.out hb.out).anti λs H Q h=>by
 obtain⟨F,z,M,k,rs,R,h1,h2⟩:=h;refine#[F,z,M,k,rs,_,h1,λx u M1 F1 H1 g1 hx rx m1=>?_];refine#[F1,z,M1,k.growM rs.mb g1,rs.growM k.bh g1 m1,_,hx,λy v M2 F2 H2 g2 hy ry m2=>?_];obtain⟨p,rfl,N7⟩:=kdP.of hy;obtain⟨q,rfl,ds,es,hm,Mz,hl,hR⟩:=kdP.of N7
 focus
  obtain⟨us,hH,ru⟩:=m2.ok _ _ (bC hm);obtain⟨vs,TU,rv⟩:=m2.ok _ _ (bC Mz);refine#[p,q,us,vs,rep_ptr.mp rx,rep_ptr.mp ry,hH,TU,by rw[ru.length,rv.length];exact HZ hl Mx,λr hr=>?_];exact h2 _ _ _ F2 _ ((g1.trans g2).trans (GrowM.new g2.fh hr)) (hR r λz=>m2.here z hr) (rep_ptr.mpr rfl) (m2.new g2.fh hr #[_,aC,ru.append rv])⟩
def mSlP(ta:TME)(tl th:TMO):TME:=λz M R=>ta z M λx M1=>tl z M1 λlo M2=>th z M2 λhi M3=>match x with|.ptr a=>∃ds,mget M3 a=be (.lst ds)/\∀p,p∉av M3->R (.ptr p) ((p,.lst (cutD ds lo hi))::M3)|_=>False
def Ei{lo hi:Option U6}{tl th:TMO}{p2:Vf}(ha:ME X a ta)(hl:MPO X lo tl)(hu:MPO X hi th):ME X (.Subscript a (.Slice lo hi LH p2) pos) (mSlP ta tl th):=⟨(gR gS ha.out hl.out hu.out).anti λs H Q q=>by
 obtain⟨F,z,M,k,rs,R,h1,h2⟩:=q;refine#[F,z,M,k,rs,_,h1,λx u M1 F1 H1 g1 hx rx m1=>?_];have k1:=k.growM rs.mb g1;have r1:=rs.growM k.bh g1 m1;refine#[F1,z,M1,k1,r1,_,hx,λlo M2 F2 H2 g2 hy m2=>?_];refine#[F2,z,M2,k1.growM r1.mb g2,r1.growM k1.bh g2 m2,_,hy,λhi M3 F3 H3 g3 hw m3=>?_];have g:=g1.trans (g2.trans g3);split at hw
 .rename_i l;obtain⟨ds,hm,hR⟩:=hw;obtain⟨us,hH,ru⟩:=m3.ok _ _ (bC hm);refine#[l,us,rep_ptr.mp rx,SqL.of hH,λr hr=>?_];exact h2 _ _ _ F3 _ (g.trans (GrowM.new g3.fh hr)) (hR r λz=>m3.here z hr) (rep_ptr.mpr rfl) (m3.new g3.fh hr #[_,aC,ru.cut _ _])
 .exact hw.elim⟩
end
abbrev SiM:=Addr->List D->(MS->Prop)->Prop
def lSiM(K:Ex)(C:Addr)(S:SiM):Sp:=λvs H Q _=>∃a dx us H1 F ds,vs=.ref a::us/\H=upd (upd H1 dx (.own a)) a (.ins C dx [])/\H1 a=LH/\H1 dx=LH/\dx≠a/\Same F H1/\Reps K F ds us/\
 ∃R:MS->Prop,S a ds R/\∀M' F' H',GrowM [] M' F H1 F' H'->R M'->RepM K F' H' M'->Q .non H'
def CalN(P:U8)(w:U_)(K:Ex)(mg:Ms->Option Os)(base:Heap)(n:Nat)(x:Ms)(ps:List Ms)(S:SiM):Prop:=
 ∃C f fd,nsIn K SB x=be (be (.ref C))/\mg x=be (.ref C)/\Mk K C f/\FnOk P w K mg base (Exc.CX1 P w) n f fd ps (lSiM K C S)/\Binds K fd ps []
section
variable {P:U8}{w:U_}{K:Ex}{mg:Ms->Option Os}{base:Heap}
open Classical in
def Txi.okIN{x qual:Ms}{st:U7}{N:List Ms}{p0:Ms}{ps:List Ms}{k:Nat}{S:SiM}(T:Txi K mg x qual st (p0::ps))(F:FnScope N (p0::ps) (ah st))(len:∀a ds R,S a ds R->ds.length=ps.length)
  (a8:∀(f:Addr) (cdv:Os) (A:Va) (outer:List VS) (s:P3) (H:Hp) (E:XK) (J:Jm),Room k (A.deeper (Vh qual (ah st) s.heap.objs.size f cdv))->XOkM (cxOf (CX1 P w) P w K mg base N qual (ah st) f cdv A outer s H E).nox->
   ∃t,MSs (cxOf (CX1 P w) P w K mg base N qual (ah st) f cdv A outer s H E).nox (aK st) t/\∀a ds R,(∀z M x fs,¬J.RM z M x fs)->S a ds R->t {nx:=λ_ M'=>R M',rt:=λ_ _=>False} (startD N (.ptr a::ds)) [(a,.ins x [])]):CalN P w K mg base (k+1) x (p0::ps) S:=by
 obtain⟨C,f,fd,hns,k8,mk,T,hb⟩:=T;refine#[C,f,fd,hns,k8,mk,Fun.okC T F (λvs H Q E h=>?_) (λcdv A outer s H vs Q E hr h=>?_),hb]
 .obtain⟨a,dx,us,H1,F,ds,rfl,_,_,_,_,_,rs,R,h,_⟩:=h;rw[HX,HX,rs.length,len a ds R h]
 .obtain⟨a,dx,us,H1,F1,ds,rfl,rfl,ha,o9,k6,fh,rs,R,h,q⟩:=h
  let H:Hp:=upd (upd H1 dx (.own a)) a (.ins C dx [])
  let B:Hp:=λb=>if b=a then LH else H b
  have N_:B a=none:=if_pos rfl;have hB:∀{b:Addr},b≠a->B b=H b:=λ{b} h=>if_neg h;have m_:∀{b:Addr} {o:HO},H1 b=be o->b≠a/\H b=be o:=λ{b o} e=>by
   have n1:b≠a:=bG e ha;exact#[n1,by show upd _ _ _ b=_;rw[ar n1,ar (bG e o9)];exact e]
  letI:Jm:={B:=B,F0:=F1,RX:=λ_ _ _=>False,RM:=λ_ _ _ _=>False}
  have hx:XOkM (cxOf (CX1 P w) P w K mg base N qual (ah st) f cdv A outer s H E).nox:=λσ z M' F' H' s' e C od y fs I kk rr hR er _=>hR.elim;obtain⟨t,ht,hq⟩:=a8 f cdv A outer s H E inferInstance hr hx;have Fa:F1 a=none:=fh.free ha;have k0:Kept B F1 F1 H:=⟨λb o e=>by
   by_cases n:b=a
   .rw[n,N_]at e;cases e
   .rw[hB n]at e;exact e,λb o e=>(m_ (fh b o e)).2,Same.refl F1,λ_ h _=>h,rfl,Same.refl F1,λ_ h _=>h⟩
  have B_:Reps K F1 (.ptr a::ds) (.ref a::us):=reps_cons.mpr #[_,_,rfl,rep_ptr.mpr rfl,rs];have Qe:RepM K F1 H [(a,.ins x [])]:=⟨by simp[av],λb o hb=>by
   have e:=HN.mp hb;cases e;exact#[C,dx,[],hns,aC,repf_nil.mpr rfl],λb hb=>by
   have e:b=a:=by simpa[av]using hb
   rw[e];exact Fa⟩
  have r0:RepZ K B F1 H (startD N (.ptr a::ds)) (L2.start N (.ref a::us)) [(a,.ins x [])]:=⟨dQ B_,lx B_,Qe,λb hb=>by
   have e:b=a:=by simpa[av]using hb
   rw[e];exact N_⟩
  refine#[_,ht.out.nox,F1,F1,_,_,k0,r0,_,hq a ds R (λ_ _ _ _ z=>z) h,#[λz' s' M' F' H' kk hn r=>?_,λd v M' F' H' kk hd rd P9 mb=>hd.elim,λ_ _ _ _ _ _ h _=>h.elim,λ_ _ _ _ _ _ h _=>h.elim]];refine q M' F' H' ⟨kk.f0,kk.fh,λb o _ e=>kk.bh b o (by show B b=be o;rw[hB (m_ e).1];exact(m_ e).2),λb _ h1 h2=>kk.out b h1 (by
   show B b≠LH;cases e:H1 b with
   |none=>exact absurd e h2
   |some o=>rw[hB (m_ e).1,(m_ e).2];exact λz=>nomatch z),λb hb=>?_⟩ hn r.rm
  cases e:H1 b with
  |none=>exact .inr rfl
  |some o=>
   have h0:B b=none:=r.mb b hb;rw[hB (m_ e).1,(m_ e).2]at h0;cases h0
end
section
variable {X:Cx}[J:Jm]{e:U6}{es:List U6}{pos p:Vf}{n m:Nat}{ps:List Ms}{S:SiM}{x:Ms}{t:TMA}
def Ej(S:SiM)(t:TMA):TME:=λz M R=>t z M λds M1=>∀a,a∉av M1->S a ds λM'=>R (.ptr a) (M'++M1)
def El(M:CalN X.prog X.w X.K X.mg X.base n x ps S)(hr:Room m X.A)(ha:MA X (e::es) t)(hg:autoParam (Gl X x) zA0)(hn:autoParam (n+1<=m) zA1)(c9:autoParam (zND x) zA1)
  (he:autoParam (zSE X e es) zA0) (c5:autoParam (zPL X pos es) zA0):
  ME X (.Call (.Name x p) (e::es) [] pos) (Ej S t):=by
 obtain⟨C,f,fd,hns,k8,mk,F,hb⟩:=M;refine#[(gQ mk F (hr.mono hn) hg k8 hb .nil eX ha.out c9 he c5).anti λs H Q q=>?_];obtain⟨F,z,M,k,rs,R,h1,h2⟩:=q;refine#[F,z,M,k,rs,_,h1,λds vs M1 F1 H1 g1 hx rx m1=>?_];intro a dx ha o9 k6;have na:a∉av M1:=λz=>m1.here z ha;refine#[a,dx,vs,H1,F1,ds,by rw[Iz],rfl,ha,o9,k6,g1.fh,rx,_,hx a na,λM' F' H' g hR m'=>#[rfl,?_]];have hh:∀b o,H1 b=be o->H' b=be o:=λb o e=>g.hh b o (λz=>nomatch z) e;have nk:∀b,b∈av M'->H1 b=none:=λb hb=>(g.ks b hb).elim (λz=>nomatch z) id;refine h2 (.ptr a) (.ref a) _ F' H' (g1.trans #[g.ff,g.fh,λb o _ e=>hh b o e,λb _=>g.out b (λz=>nomatch z),λb hb=>?_]) hR (rep_ptr.mpr rfl) #[?_,λb o hb=>?_,λb hb=>?_]
 .rcases keys_app.mp hb with z|z
  .exact .inr (nk b z)
  .exact .inl z
 .unfold av;rw[IA];exact Js.mpr #[m'.nd,m1.nd,λb h1 c h2 e=>m1.here (e ▸ h2) (nk b h1)]
 .rcases Iw.mp hb with z|z
  .exact m'.ok b o z
  .exact(m1.ok b o z).mono g.ff λo e=>hh b o e
 .rcases keys_app.mp hb with z|z
  .exact m'.fr b z
  .exact g.out b (λz=>nomatch z) (m1.fr b z) (m1.here z)
end
section
variable {K:Ex}{x m q:Ms}{st:U7}{ps:List Ms}
def MdIn(K:Ex)(x m q:Ms)(st:U7)(i:Int):Prop:=∃C f fd T,NsC K x C/\Meth K C m f/\FunG K (.ref T) m q st f fd/\∃tc td n ts t,K.lookup T=be #[tc,td,.seq [.int i t].toArray n,ts]
def mdIn_mk{C f T:Addr}{i:Int}{oc tc:Os}{od an td:Option Addr}{sl ts:Array (Option Os)}{n:Nat}{t:W4}{kV dc pm cd ct:Os}(a:nsIn K SB x=be (be (.ref C)))(b:HR K (.ref C) m=be (be (.ref f)))(j:isFn K (.ref f)=true)(l:K.lookup f=be #[oc,od,.func (fnOf m q (bA st) (aK st) (ah st) (.ref T) kV dc pm an cd ct),sl])(c:codeIn K cd q=true)(k:keepIn K (.ref f)=true)
  (d:K.lookup T=be #[tc,td,.seq [.int i t].toArray n,ts]):MdIn K x m q st i:=#[C,f,_,T,a,#[b,j,k],#[#[_,_,_,_,_,_,_,_,_,rfl,l,c],k],_,_,_,_,_,d]
def Em(m q:Ms)(st:U7)(x0 x1:Ms):Prop:=∀(s:P3) (T:Addr) (o:Vn) (its:Array Os) (n:Nat) (v:Os) (kV doc pm:Os) (an:Option Addr) (cdv ct u0 u1:Os),s.heap.get? T=be o->o.data=.seq [v].toArray n->
 V4 s (fnOf m q (bA st) (aK st) (ah st) (.ref T) kV doc pm an cdv ct) #[[u0,u1],[]] [(x0,u0),(x1,u1)]/\V4 s (fnOf m q (bA st) (aK st) (ah st) (.ref T) kV doc pm an cdv ct) #[[u0],[]] [(x0,u0),(x1,v)]
def Txd(K:Ex)(x m qual:Ms)(st:U7)(ps:List Ms)(dd:List D):Prop:=
 ∃C f fd dV ge p7,nsIn K SB x=be (be (.ref C))/\Cls K C/\Meth K C m f/\FunG K dV m qual st f fd/\Binds K fd ps []/\Binds K fd ps p7/\Vals ge p7/\∀F,Reps K F dd ge
def MdIn.txd{i:Int}{x0 x1:Ms}(T:MdIn K x m q st i)(c:ClIn K x)(b:Em m q st x0 x1):Txd K x m q st [x0,x1] [.int i]:=by
 obtain⟨C,k⟩:=c;obtain⟨D,f,fd,T,a,mt,F,tc,td,n,ts,t,hT⟩:=T;cases NsC.uniq k.ns a;have F':=F;obtain⟨oc,od,kV,doc,pm,an,cdv,ct,osl,rfl,lk,g5⟩:=F'.ex;refine#[C,f,_,_,[.int i],[.int i t],a,k.cl,mt,F,λs us hK hl=>?_,λs us hK hl=>?_,.cons #[t,rfl] .nil,λF=>reps_cons.mpr #[_,_,rfl,rep_int.mpr rfl,reps_nil.mpr rfl]]
 .rw[Iz]at hl ⊢;obtain⟨u0,t0,rfl,h0⟩:=br hl;obtain⟨u1,t1,rfl,h1⟩:=br h0;cases len_0 h1;exact(b s T _ [].toArray n (.int i t) kV doc pm an cdv ct u0 u1 (hK _ _ hT) rfl).1
 .rw[Ic]at hl;have Pt:us.length=[x0].length:=Nat.succ.inj hl;obtain⟨u0,t0,rfl,h0⟩:=br Pt;cases len_0 h0;exact(b s T _ [].toArray n (.int i t) kV doc pm an cdv ct u0 u0 (hK _ _ hT) rfl).2
end
section
variable {P:U8}{w:U_}{K:Ex}{mg:Ms->Option Os}{base:Heap}
variable{N ps:List Ms}{dd:List My.D}
def Txd.okM{x m qual:Ms}{st:U7}{k:Nat}{S:SpM}(T:Txd K x m qual st ps dd)(F:FnScope N ps (ah st))(len:∀ds M R RX,S ds M R RX->ds.length=ps.length)
  (a8:∀(f:Addr) (cdv:Os) (A:Va) (outer:List VS) (s:P3) (H:Hp) (E:XK) (J:Jm),Room k (A.deeper (Vh qual (ah st) s.heap.objs.size f cdv))->XOkM (cxOf (CX1 P w) P w K mg base N qual (ah st) f cdv A outer s H E)->
   ∃t,MSs (cxOf (CX1 P w) P w K mg base N qual (ah st) f cdv A outer s H E) (aK st) t/\∀ds M R RX,(∀z,J.RM z=λM' x fs=>RX x fs M')->S ds M R RX->t {nx:=λ_ M'=>R .non M',rt:=R} (startD N ds) M):CalMth P w K mg base (k+1) x m ps (lSpM K S)/\iF P w K mg base (k+1) x m ps dd (lSpM K S):=by
 obtain⟨C,f,fd,dV,ge,p7,h1,h2,h3,T,hb,f_,hv,hd⟩:=T;have ok:=Fun.okM (P:=P) (w:=w) (mg:=mg) (base:=base) T F len λcdv A outer s H E J hr hx=>a8 f cdv A outer s H E J hr hx;exact#[#[C,f,fd,h1,h2,h3,ok,hb],C,f,fd,ge,p7,h1,h2,h3,ok,f_,hv,hd]
def Txd.okMd{x m qual:Ms}{st:U7}{k:Nat}{S:SpM}(T:Txd K x m qual st ps dd)(F:FnScope N ps (ah st))(len:∀ds M R RX,gB S ds M R RX->ds.length=ps.length)
  (a8:∀(f:Addr) (cdv:Os) (A:Va) (outer:List VS) (s:P3) (H:Hp) (E:XK) (J:Jm),Room k (A.deeper (Vh qual (ah st) s.heap.objs.size f cdv))->XOkM (cxOf (CX1 P w) P w K mg base N qual (ah st) f cdv A outer s H E)->
   ∃t,MSs (cxOf (CX1 P w) P w K mg base N qual (ah st) f cdv A outer s H E) (aK st) t/\∀ds M R RX,(∀z,J.RM z=λM' x fs=>RX x fs M')->gB S ds M R RX->t {nx:=λ_ M'=>R .non M',rt:=R} (startD N ds) M):CalMth P w K mg base (k+1) x m ps (lSpM K S)/\iF P w K mg base (k+1) x m ps dd (lSpM K S):=by
 obtain⟨a,C,f,fd,ge,p7,h1,h2,h3,ok,hb,hv,hd⟩:=Txd.okM (S:=gB S) T F len a8;exact#[a.drop,C,f,fd,ge,p7,h1,h2,h3,ok.imp λ_ _ _ _ h=>wF h,hb,hv,hd]
def nilD(S:SpD):SpM:=λds M R _=>M=[]/\∃R0:D->Prop,S ds R0/\R=λd _=>R0 d
def En{n:Nat}{f:Addr}{fd:Ve}{S:SpD}(F:FnOk P w K mg base (CX1 P w) n f fd ps (lSpM K (nilD S))):FnOk P w K mg base (CX1 P w) n f fd ps (lSp K S):=F.imp λvs H Q E q=>by
 obtain⟨F,ds,fh,rs,R,hS,q1⟩:=q;exact#[F,ds,[],fh,rs,RepM.nil,_,λ_ _ _=>False,#[rfl,R,hS,rfl],λd v M' F' H' g hd rd _=>q1 d v F' H' (growM_nil g) hd rd,λ_ _ _ _ _ _ _ _ z=>z.elim]
end
section
variable {X:Cx}[J:Jm]{a:U6}{ta:TME}{tA:TMT}{pos:Vf}
def dJ(ha:ME X a ta)(he:autoParam (∀f7,isTrue a X.env f7=(do let v <-f7;VR a.pos;Vv [v] (truthy v))) zA3):MT X a (mTru ta):=⟨(rN ha.out he).anti λs H Q q=>by
 obtain⟨F,z,M,k,rs,R,h1,h2⟩:=q;refine#[F,z,M,k,rs,_,h1,λx u M1 F1 H1 g1 hx rx m1=>?_];split at hx
 .rw[rep_bl.mp rx];exact#[_,rfl,h2 _ M1 F1 H1 g1 hx m1]
 .exact hx.elim⟩
def mNot(tA:TMT):TMT:=λz M R=>tA z M λk M1=>R (!k) M1
def eB(ha:MT X a tA):MT X (.UnaryOp .Not a pos) (mNot tA):=⟨(rb ha.out).anti λs H Q q=>by
 obtain⟨F,z,M,k,rs,R,h1,h2⟩:=q;exact#[F,z,M,k,rs,_,h1,λk M1 F1 H1 g1 hx m1=>h2 _ M1 F1 H1 g1 hx m1]⟩
end
abbrev Bx.N(V:Bx)(n:Nat)(x:Ms)(ps:List Ms)(S:SiM):Prop:=CalN V.P V.w V.K V.mg V.base n x ps S
abbrev Bx.QD(V:Bx)(n:Nat)(x m:Ms)(ps:List Ms)(S:SpD):Prop:=CalMth V.P V.w V.K V.mg V.base n x m ps (lSp V.K S)
abbrev Bx.Qd(V:Bx)(n:Nat)(x m:Ms)(ps:List Ms)(dd:List My.D)(S:SpM):Prop:=iF V.P V.w V.K V.mg V.base n x m ps dd (lSpM V.K S)
abbrev Bx.Td(V:Bx)(x m q:Ms)(st:U7)(ps:List Ms)(dd:List My.D):Prop:=Txd V.K x m q st ps dd
section
variable {X:Cx}[J:Jm]{a b c e o:U6}{ta tb te:TME}{pos:Vf}
def Eo{p p2:Vf}{y:Ms}{t:String}(hm:X.mg "isinstance"=LH)(NU:X.mg y=LH)(ha:ME X a ta)(hv:Vo y=be (.type t))
  (hk:∀x:D,cK x=true->kitOne X.K (.type (tyD x)) (.type t)=be (cJ t x)) (hg:autoParam (Gl X "isinstance") zA0) (MC:autoParam (Gl X y) zA0) (hn:autoParam (y≠"__name__") zA1) (c9:autoParam (zND y) zA1)
  (i8:autoParam (U' [a,.Name y p2] X.env=(false,Vd a X.env)::U' [.Name y p2] X.env) zA0) (i_:autoParam (U' [.Name y p2] X.env=(false,Vd (.Name y p2) X.env)::U' [] X.env) zA0) (c5:autoParam ((Vz pos (U' [.Name y p2] X.env)).any (·.1)=false) zA0):ME X (.Call (.Name "isinstance" p) [a,.Name y p2] [] pos) (mUn (kN t) ta):=⟨(eU tD hg hm PyProof.Rows.boot_isinstance (bt ha.out (bt (jX (v:=.ty t) MC NU hv rfl hn c9) pa_nil i_) i8) Mx Mx i8 c5).anti λs H Q q=>by
 obtain⟨F,z,M,k,rs,R,h1,h2⟩:=q;refine#[F,z,M,k,rs,_,h1,λx u M1 F1 H1 g1 hx rx m1=>?_];have no:cK x=true/\R (.bl (cJ t x)) M1:=by
  cases x with
  |obj C b=>exact False.elim hx
  |exc C b=>exact False.elim hx
  |ptr b=>exact False.elim hx
  |dti b=>exact False.elim hx
  |_=>exact#[rfl,hx]
 exact#[u,tyD x,t,_,rfl,tE g1.fh rx no.1,hk x no.1,h2 _ _ M1 F1 H1 g1 no.2 (rep_bl.mpr rfl) m1]⟩
def mItL(t:TME):TMI:=λz M R=>t z M λx M1=>match x with|.lst ds=>R ds M1|_=>False
def Ep(is:List Nat)(te:TME):TMS:=λE z M=>te z M λx M1=>match x with|.lst ds=>ds.length=is.length/\E.nx (aW is ds z) M1|_=>False
def Er{es:List U6}{k:Nat}{is:List Nat}{p:Vf}(hc:X.calm=true)(he:ME X e te)(hg:DGs X es is)(hn:autoParam ((Vb es X.env).length=is.length) zA0)(l5:autoParam ((Vb es X.env).findIdx? (·.1)=none) zA0)
  (hs:autoParam (VC [.Tuple es k p] e pos.line X.env=pure false) zA0) (hw:autoParam (VD [.Tuple es k p] e X.env=pure none) zA0) (h1:autoParam ((Vb [.Tuple es k p] X.env).map (·.2)=[VJ (.Tuple es k p) X.env]) zA0):MSt X (.Assign [.Tuple es k p] e pos) (Ep is te):=⟨by
 obtain⟨u,hu,kk⟩:=hg;refine(gM he.out (tP hc hu hn l5) hs hw h1).anti λE s H q=>?_;obtain⟨F0,F,z,M,k,rs,ED,h,e⟩:=q;refine#[F,z,M,k.kf,rs,_,h,λd v M1 F1 H1 g hd rd m1=>?_];have r1:=rs.growM k.bh g m1;split at hd
 .obtain⟨p,vs,rfl,hq,rr⟩:=rep_lst.mp rd;exact#[p,vs,rfl,SqL.of (g.fh _ _ hq),by rw[rr.length];exact hd.1,kk _ vs z s J.B F1 H1 _ hd.1 rr r1.rs λs' r'=>e.nx _ _ M1 F1 H1 (k.growM rs.mb g) hd.2 #[r',ly is _ _ z rr r1.no,m1,r1.mb]]
 .exact hd.elim⟩
end
end My
namespace My
section
variable {X:Cx}
def rNeT(K:Ex):R2:=λx y H Q=>∃a b xs ys,x=.ref a/\y=.ref b/\SqT K H a xs/\SqT K H b ys/\xs.all bw=true/\ys.all bw=true/\Q (.bl (!eqVs xs ys)) H
def Es(hu:X.A.units+1<Wb):OpR X (Vm .NotEq) (rNeT X.K):=by
 intro pins s σ H x y v u Q I rx ry h;obtain⟨a,b,xs,ys,rfl,rfl,ha,hb,fx,fy,q⟩:=h;cases rx;cases ry;obtain⟨its,r1,p1,_⟩:=I.tuple ha;obtain⟨j6,r2,p2,_⟩:=I.tuple hb;refine SeqAt.RcNeAt.tuples (e:=λj=>eqV (xs.getD j .non) (ys.getD j .non)) p1 p2 v4 (λj h1 h2=>?_) _ _ _ _ #[.bl (!eqVs xs ys),H,I,?_,q]
 .rw[H8]at h1 h2;simp only[List.getElem_toArray];exact eqAt_V (Vals.getD r1 h1) (Vals.getD r2 h2) (flat_getD fx) (flat_getD fy)
 .rw[<-tF,H8,H8,<-L2.Vals.length r1,<-L2.Vals.length r2];rfl
def wG:RD2:=λx y R=>kdT x λxs=>kdT y λys=>(xs.all bq=true/\ys.all bq=true)/\R (.bl (!eqFs xs ys))
def Et{K:Ex}:aV K (rNeT K) wG:=by
 intro x y u v F H R Q fh h rx ry q;obtain⟨xs,rfl,h2⟩:=kdT.of h;obtain⟨ys,rfl,⟨f1,f2⟩,h3⟩:=kdT.of h2;obtain⟨a,us,rfl,hq,rr⟩:=rep_tup_mp rx;obtain⟨b,vs,rfl,p_,z6⟩:=rep_tup_mp ry;exact#[a,b,us,vs,rfl,rfl,fh.tup hq,fh.tup p_,dh rr f1,dh z6 f2,q _ _ F H (Grow.refl fh) h3 (rep_bl.mpr (by rw[tG rr z6 f1 f2]))]
def wH(K:Ex):R2:=λx y H Q=>∃a b xs,x=.ref a/\y=.ref b/\SqL K H a xs/\SqL K H b []/\Q (.bl (!xs.isEmpty)) H
def Eu(hu:X.A.units<Wb):OpR X (Vm .NotEq) (wH X.K):=by
 intro pins s σ H x y v u Q I rx ry h;obtain⟨a,b,xs,rfl,rfl,ha,hb,q⟩:=h;cases rx;cases ry;obtain⟨its,r1,p1,_⟩:=I.list ha;obtain⟨j6,r2,p2,_⟩:=I.list hb;have e2:j6=[]:=JY (L2.Vals.length r2).symm;have e1:=L2.Vals.length r1;subst e2;cases xs with
 |nil=>
  have e3:its=[]:=JY e1.symm;subst e3;exact SeqAt.RcNeAt.lists (e:=λ_=>true) p1.isList p2.isList rfl hu (λj h1 _=>absurd h1 (JI j)) _ _ _ _ #[.bl false,H,I,rfl,q]
 |cons x xs=>
  refine SeqAt.RcNeAt.lists_lengths p1.isList p2.isList ?_ hu _ _ _ _ #[.bl true,H,I,rfl,q];rw[H8,H8,<-e1];rfl
variable {a b c e:U6}{ta tb:TD}{pos:Vf}
def Ev[Jx](hu:X.A.units+1<Wb)(ha:WDE X a ta)(hb:WDE X b tb):WDT X (.Compare a [.NotEq] [b] pos) (dTst (dOp wG ta tb)):=#[have ha:=ha.out;have hb:=hb.out;cG (Es hu) Et ha hb (nomark _)]
end
section
variable {X:Cx}{a b o e:U6}{ta to te:TD}{pos p2:Vf}
def Ew{x:V}{xs:List V}{us:List Os}(h:Vals xs us)(f:xs.all bw=true):us.countP (eqU x)=xs.countP λy=>eqV y x:=by
 induction h with
 |nil=>rfl
 |cons r _ ih=>
  rw[IJ,Io]at f;rw[J7,J7,gT r f.1,ih f.2]
def rLCt(K:Ex):V->List V->Hp->VK->Prop:=λx vs H Q=>∃l xs y,x=.ref l/\vs=[y]/\SqL K H l xs/\bw y=true/\xs.all bw=true/\Q (.int (xs.countP (λw=>eqV w y):Nat)) H
def Ey:MtR X "list.count" (rLCt X.K):=by
 intro pins s σ H x vs v us Q I rx rv h;obtain⟨l,xs,y,rfl,rfl,hq,fy,fs,q⟩:=h;cases rx;obtain⟨u,rfl,ry⟩:=Vals.one rv;obtain⟨its,r,pl,hz⟩:=I.list hq;obtain⟨⟨cls,dd,data,sl⟩,ho,hc,n,hd⟩:=pl.isList;simp only at hc hd;subst hc hd;refine Wq PySem.F.slot_list_count #[_,ho,rfl] PySem.F.entry_list_count (PySem.F.args_list_count_2 _ _)
  (SeqAt.list_countAt l its.toArray n dd sl u (eqU y)) #[ho,λw hw=>mem_eqAt ry fy r fs w (by simpa using hw),#[.int _,H,I.tok _,#[_,rfl],?_]]
 rw[show its.toArray.toList=its from rfl,Ew r fs];exact q
def dLCt(to te:TD):TD:=λz R=>to z λx=>match x with|.lst ys=>te z λy=>(bq y=true/\ys.all bq=true)/\R (.int (ys.countP (λw=>eqF w y):Nat))|_=>False
def Ez{K:Ex}{H:Hp}{x:D}{u:V}(rx:Rep K H x u)(fx:bq x=true){ys:List D}:∀{vs:List V},Reps K H ys vs->ys.all bq=true->vs.countP (λw=>eqV w u)=ys.countP λy=>eqF y x:=by
 induction ys with
 |nil=>intro vs r _;rw[reps_nil.mp r];rfl
 |cons y ys ih=>
  intro vs r f;obtain⟨v,vr,rfl,r1,r2⟩:=reps_cons.mp r;rw[IJ,Io]at f;rw[J7,J7,ih r2 f.2,hU r1 rx f.1 fx]
def EA[Jx]{apos cpos:Vf}(ho:WDE X o to)(he:WDE X e te)(b7:autoParam (Vc o "count" X.env (Vd o X.env)=Vd o X.env) zA0)
  (d6:autoParam (zHF X cpos [e]) zA0)
  (b_:autoParam ((apos.endLine==cpos.line)=true) zA0) (hs:autoParam (zSE X e []) zA0):WDE X (.Call (.Attribute o "count" apos) [e] [] cpos) (dLCt to te):=⟨(df PySem.F.plainAttrs_list PySem.F.slot_list_count PySem.F.type_list_count Ey ho.out (bt he.out pa_nil hs) b7 d6 b_ hs).anti λs H Q q=>by
 obtain⟨B,F,z,kf,rs,R,h1,h2⟩:=q;refine#[B,F,z,kf,rs,_,h1,λx u F1 H1 g1 hx rx=>?_];split at hx
 .obtain⟨l,vs,rfl,hq,rr⟩:=rep_lst.mp rx;refine#[.inl #[rfl,vs,g1.fh.seq (SqL.of hq)],B,F1,z,kf.grow g1,rs.grow g1,_,hx,λd v F2 H2 g2 hd rd=>?_];obtain⟨⟨f1,f2⟩,hR⟩:=hd;have Nb:=rr.mono g2.ff;refine#[l,vs,v,rfl,rfl,g2.fh.seq (g2.ff.seq (SqL.of hq)),fg rd f1,dh Nb f2,?_];rw[Ez rd f1 Nb f2];exact h2 _ _ F2 H2 (g1.trans g2) hR (rep_int.mpr rfl)
 .exact hx.elim⟩
def wI:RD2:=λx y R=>kdL x λxs=>kdL y λys=>ys=[]/\R (.bl (!xs.isEmpty))
def EB{K:Ex}:aV K (wH K) wI:=by
 intro x y u v F H R Q fh h rx ry q;obtain⟨xs,rfl,h2⟩:=kdL.of h;obtain⟨ys,rfl,rfl,h3⟩:=kdL.of h2;obtain⟨a,us,rfl,hq,rr⟩:=rep_lst.mp rx;obtain⟨b,vs,rfl,p_,z6⟩:=rep_lst.mp ry;rw[reps_nil.mp z6]at p_;have e:us.isEmpty=xs.isEmpty:=by have:=rr.length;cases us<;>cases xs<;>simp at this ⊢
 exact#[a,b,us,rfl,rfl,SqL.of (fh _ _ hq),SqL.of (fh _ _ p_),q _ _ F H (Grow.refl fh) h3 (rep_bl.mpr (by rw[e]))]
def EC[J:Jx]{tb:TD}(hu:X.A.units+1<Wb)(ha:WDE X a ta)(hb:WDE X (.List [] p2) tb):WDT X (.Compare a [.NotEq] [.List [] p2] pos) (dTst (dOp wI ta tb)):=#[have ha:=ha.out;have hb:=hb.out;cG (Eu v4) EB ha hb (nomark _)]
end
end My
namespace Exc
open PySem PySem.Spec PyProof.Rows PySem.W L2
section
variable {prog:U8}{w:U_}{A:Va}{E:Os->P3->Prop}{s:P3}{K:Ex}{x C:Addr}{ox:Vn}{cd:VT}
def exc_class{Q:Option Os->P3->Prop}{A_:Option Vn}(X:K.In s.heap)(I:InstAt s.heap x ox C A_)(hc:clsIn K C=be cd)(hm:excMro cd.mro=true)
  (Pp:findIn K (.ref C) "__getattribute__"=be (be (.builtin "BaseException.__getattribute__"))) (Pq:findIn K (.ref C) "__getattr__"=be LH)
  (hf:findObj K C A_ "__class__"=be (.bind (.builtin "getset_descriptor.__get__") (.builtin "object.__class__"))) (h:Q (be (.ref C)) {s with toks:=s.toks+1}):U9 (SZ prog w) A (getAttr? (.ref x) "__class__") Q E s:=by
 have FB:=PySem.F.attr_ValueError;have X0:=X;have I0:=I;obtain⟨hp,g,d,t,os⟩:=s;have L0:=I.type (M:=SZ prog w);have L1:=looks_findIn (M:=SZ prog w) X Pp;have L2:=looks_findIn (M:=SZ prog w) X Pq;have L3:=looks_find (M:=SZ prog w) X I hf;have f3:=FB.ga.bind (.ref x);have ne:cd.mro.isEmpty=false:=NQ
 have mro:∀{T:String},[Value.type "ValueError",.type "Exception",.type "BaseException",.type "object"].contains (.type T)=true->mroIn K C (.type T)=be true:=λhT=>by unfold mroIn;rw[hc,IK,if_neg (by rw[ne];decide),exc_has hT hm]
 have sub:Looks (SZ prog w) hp (V3 (.ref x) (.type "BaseException")) true:=I.type.andThen (looks_mroIn X (mro KK));unfold getAttr? getAttrBy? getAttrBy;refine Pi (wpAny_mkText (Pi (Wu (Vi (Pi (L0.at (Pi (L1.at ?_))))))));dsimp only;have K_:(V9 (Value.ref C)&&Value.builtin "BaseException.__getattribute__"==Value.builtin "object.__getattribute__")=false:=by
  have l_:(Value.builtin "BaseException.__getattribute__"==Value.builtin "object.__getattribute__")=false:=KK
  rw[l_];rfl
 rw[K_,if_neg Ib];unfold getAttrByItsOwn hookBefore;rw[show V9 (Value.ref C)=true from rfl,if_pos rfl];refine Pi (L2.at ?_);unfold callGetattribute;rw[show(false&&V9 (Value.builtin "BaseException.__getattribute__"))=false from rfl,if_neg Ib];unfold boundAndCalled;refine Pi (Wu (Vi (Pi (VW f3 ?_))));refine Vw (Vy FB.ga.plain PySem.F.entry_bexc_ga (@check_slot (SZ prog w) _ _ _ "BaseException.__getattribute__" "BaseException" "__getattribute__" (.ref x) [.str "__class__" t] [] _ KK KK sub (PySem.F.args_bexc_ga _ _) ?_));unfold Builtin.«object.__getattribute__»;refine Pi (VW (a:=(Value.ref x,[Value.str "__class__" t])) rfl ?_);refine Pi (VW (a:=("__class__":Ms)) rfl ?_);refine Pi (L0.at (Pi (L3.at ?_)));show U9 _ _ (Vv [Value.builtin "object.__class__"] (call (.builtin "getset_descriptor.__get__") [.builtin "object.__class__",.ref x,.ref C])>>=PySem.ret) _ _ _;refine Pi (Vi (Vw (class_get (s:=#[hp,g,d,t+1,os]) X I (mro KK) ?_)));refine SL ?_;exact handed_on rfl (SL h)
end
end Exc
namespace My
open Exc PySem.W in
structure IsE(K:Ex)(C:Addr)(cd:VT):Prop where
 cl:clsIn K C=be cd
 mro:excMro cd.mro=true
 ga:findIn K (.ref C) "__getattribute__"=be (be (.builtin "BaseException.__getattribute__"))
 gb:findIn K (.ref C) "__getattr__"=be LH
 ha:findIn K (.ref C) "__class__"=be (be (.builtin "object.__class__"))
 hn:specialIn K (.builtin "object.__class__") "__get__"=be (be (.builtin "getset_descriptor.__get__"))
 ht:takesIn K (.builtin "object.__class__")=be true
open Exc PySem.W in
def IsE.kit{K:Ex}{C x:Addr}{cd:VT}{ox:Vn}{A_:Option Vn}(k:IsE K C cd):KitX K (.ref x) (.ref C) (λh=>InstAt h x ox C A_):=by
 have at_:∃c' d' m6,K.lookup C=be #[c',d',.cls cd,m6]:=by
  have hc:=k.cl;unfold clsIn at hc;split at hc
  .rename_i c' d' TV m6 ho;cases hc;exact#[c',d',m6,ho]
  .cases hc
 obtain⟨c',d',m6,ho⟩:=at_;refine#[λ_ _ _ I=>I.type,λ_ _ X _=>?_,λh tp dd its n sl X TW=>?_,λX I h=>?_]
 .intro A' Q' E' s' k q;unfold isType loadHead;exact Pi (V8 (k _ _ (X _ _ ho)) (SL q))
 .refine Iy.mpr λq=>?_;have e:C=tp:=Value.ref.inj (beq_iff_eq.mp q);subst e;have z:=(X _ _ ho).symm.trans TW;cases z
 .refine exc_class X I k.cl k.mro k.ga k.gb ?_ h;unfold findObj;rw[k.cl,IK,k.ha,IK];simp[k.hn,k.ht]
section
variable {X:Cx}{C:Addr}{cd:VT}{x y:Ms}{a:U6}{ta:TD}{pos p p2:Vf}
open Exc PySem.W in
def EE{c:Os}{cv:V}(Qn:∀u,RelV cv u->u=c):bH X (.builtin "isinstance") (λxs H Q=>∃b C cd od k,xs=[.ref b,cv]/\H b=be (XO b C od)/\IsE X.K C cd/\(∀d,od=be d->∃ws,H d=be (.xd ws))/\kitOne X.K (.ref C) c=be k/\Q (.bl k) H):=by
 intro pins s σ H xs us Q I r h;obtain⟨b,C,cd,od,k,rfl,e,hE,hd,hk,q⟩:=h;obtain⟨u,u',rfl,rx,rc⟩:=eQ r;cases(show u=Value.ref b from rx);cases Qn u' rc;obtain⟨vs,sl,g6⟩:=(I.hok b _ e).1;have inst:∃A_,InstAt s.heap b #[.ref C,od,.fields vs,sl] C A_:=by
  cases od with
  |none=>exact#[LH,g6,rfl,rfl,trivial]
  |some d=>
   obtain⟨ws,hw⟩:=hd d rfl;obtain⟨mA,hns,s_⟩:=(show ObjOk X.prog X.w H s.heap d (.xd ws)from I.hok d _ hw);obtain⟨A_,ho,look⟩:=kj hns;exact#[be A_,g6,rfl,rfl,ho]
 obtain⟨A_,J⟩:=inst;exact kia_one hE.kit I.kIn J hk (λz=>nomatch z) λtk=>#[.bl k,H,I.tok _,rfl,q]
def dIsE(al:List (Ms×Bool))(ta:TD):TD:=λz R=>ta z λd=>∃x fs k,d=.exc x fs/\(x,k)∈al/\R (.bl k)
def IsF(K:Ex)(al:List (Ms×Bool))(c:Os):Prop:=∀x k,(x,k)∈al->∃C cd,nsIn K SB x=be (be (.ref C))/\IsE K C cd/\kitOne K (.ref C) c=be k
variable{f:List (Ms×Bool)}
def wJ[Jx]{c:Os}{cv:V}(hf:IsF X.K f c)(Qn:∀u,RelV cv u->u=c)(hb:PE X (.Name y p2) (tC cv))(hm:X.mg "isinstance"=LH)(ha:WDE X a ta)(hg:Gl X "isinstance")
  (i8:U' [a,.Name y p2] X.env=(false,Vd a X.env)::U' [.Name y p2] X.env) (i_:U' [.Name y p2] X.env=(false,Vd (.Name y p2) X.env)::U' [] X.env) (c5:(Vz pos (U' [.Name y p2] X.env)).any (·.1)=false):WDE X (.Call (.Name "isinstance" p) [a,.Name y p2] [] pos) (dIsE f ta):=⟨by
 refine(eU (EE Qn) hg hm PyProof.Rows.boot_isinstance (bt ha.out (bt hb pa_nil i_) i8) Mx Mx i8 c5).anti λs H Q q=>?_;obtain⟨B,F,z,kf,rs,R,h1,h2⟩:=q;refine#[B,F,z,kf,rs,_,h1,λd u F1 H1 g1 hx rx=>?_];obtain⟨x,fs,k,rfl,hk,hR⟩:=hx;obtain⟨b,C,od,vs,rfl,hn,P2,rf,N5⟩:=rep_exc.mp rx;obtain⟨C',cd,gV,hE,Qo⟩:=hf x k hk;rw[hn]at gV;cases gV;refine#[b,C,cd,od,k,rfl,g1.fh _ _ P2,hE,λd e=>?_,Qo,h2 _ _ F1 H1 g1 hR (rep_bl.mpr rfl)];rcases N5 with⟨e2,_⟩|⟨b',e2,f_⟩
 .rw[e2]at e;cases e
 .rw[e2]at e;cases e;exact#[_,g1.fh _ _ f_]⟩
def dL[Jx](h:∃D,X.mg y=be (.ref D)/\IsF X.K f (.ref D))(hm:X.mg "isinstance"=LH)(ha:WDE X a ta)(hg:autoParam (Gl X "isinstance") zA0)(MC:autoParam (Gl X y) zA0)(c9:autoParam (zND y) zA1)
  (i8:autoParam (U' [a,.Name y p2] X.env=(false,Vd a X.env)::U' [.Name y p2] X.env) zA0) (i_:autoParam (U' [.Name y p2] X.env=(false,Vd (.Name y p2) X.env)::U' [] X.env) zA0) (c5:autoParam ((Vz pos (U' [.Name y p2] X.env)).any (·.1)=false) zA0):WDE X (.Call (.Name "isinstance" p) [a,.Name y p2] [] pos) (dIsE f ta):=
 let ⟨D,hD,hf⟩:=h
 wJ (cv:=.ref D) hf (λ_ r=>r) (qW MC hD rfl c9) hm ha hg i8 i_ c5
def EF[Jx](hf:IsF X.K f (.type "ValueError"))(hm:X.mg "isinstance"=LH)(NU:X.mg "ValueError"=LH)(ha:WDE X a ta)(hg:autoParam (Gl X "isinstance") zA0)(MC:autoParam (Gl X "ValueError") zA0)
  (i8:autoParam (U' [a,.Name "ValueError" p2] X.env=(false,Vd a X.env)::U' [.Name "ValueError" p2] X.env) zA0) (i_:autoParam (U' [.Name "ValueError" p2] X.env=(false,Vd (.Name "ValueError" p2) X.env)::U' [] X.env) zA0) (c5:autoParam ((Vz pos (U' [.Name "ValueError" p2] X.env)).any (·.1)=false) zA0):WDE X (.Call (.Name "isinstance" p) [a,.Name "ValueError" p2] [] pos) (dIsE f ta):=
 wJ (cv:=.ty "ValueError") hf (λ_ r=>r) (jX MC NU rfl rfl) hm ha hg i8 i_ c5
end
section
variable {K:Ex}{mg:Ms->Option Os}{x y:Ms}{h:Heap}{C D:Addr}{b:Bool}{al:List (Ms×Bool)}{c:Os}
def dM:IsF K [] c:=λ_ _ e=>nomatch e
def dN(h:∃C cd,nsIn K SB x=be (be (.ref C))/\IsE K C cd/\kitOne K (.ref C) c=be b)(r:IsF K al c):IsF K ((x,b)::al) c:=λx' k e=>by
 cases e with
 |head=>exact h
 |tail _ e=>exact r x' k e
def ExIn(K:Ex)(x:Ms):Prop:=∃C,NsC K x C/\HR K (.ref C) "__getattribute__"=be (be (.builtin "BaseException.__getattribute__"))/\HR K (.ref C) "__getattr__"=be LH/\
 HR K (.ref C) "__class__"=be (be (.builtin "object.__class__"))/\IN K (.builtin "object.__class__") "__get__"=be (be (.builtin "getset_descriptor.__get__"))/\Jn K (.builtin "object.__class__")=be true
def exIn_mk(a:nsIn K SB x=be (be (.ref C)))(b:HR K (.ref C) "__getattribute__"=be (be (.builtin "BaseException.__getattribute__")))(c:HR K (.ref C) "__getattr__"=be LH)
  (d:HR K (.ref C) "__class__"=be (be (.builtin "object.__class__"))) (e:IN K (.builtin "object.__class__") "__get__"=be (be (.builtin "getset_descriptor.__get__"))) (f:Jn K (.builtin "object.__class__")=be true):ExIn K x:=#[C,a,b,c,d,e,f]
def YeIn(K:Ex)(y:Ms):Prop:=∃D,NsC K y D/\hasDictIn K D=true/\JP K (.ref D)=be (.type "type")
def yeIn_mk(a:nsIn K SB y=be (be (.ref D)))(b:hasDictIn K D=true)(c:JP K (.ref D)=be (.type "type")):YeIn K y:=#[D,a,b,c]
def ErrK.isE{N:Addr}{bm:List Os}(k:ErrK K mg x C N bm)(e:ExIn K x):∃cd,IsE K C cd/\cd.mro=.ref C::bm:=by
 obtain⟨C',h1,h2,h3,h4,h5,h6⟩:=e;cases NsC.uniq k.ns h1;obtain⟨nm,q,bs,sn,sub,ab,col,dd,k0,k1,k2,k3,k5,lk⟩:=k.obj;exact#[_,#[by unfold JX;rw[lk],by show Exc.excMro (.ref C::bm)=true;unfold Exc.excMro;exact ie k.tail,h2,h3,h4,h5,h6],rfl]
def isY(e:∃C N bm,ErrK K mg x C N bm)(ex:ExIn K x)(nD:NsC K y D)(hD:hasDictIn K D=true)(ty:JP K (.ref D)=be (.type "type"))(m:EmIn K x y)(hb:subE x y=b):∃C cd,nsIn K SB x=be (be (.ref C))/\IsE K C cd/\kitOne K (.ref C) (.ref D)=be b:=by
 obtain⟨C,N,bm,k⟩:=e;obtain⟨cd,hE,hm⟩:=k.isE ex;obtain⟨C',D',h1,h2,h3⟩:=m;cases NsC.uniq k.ns h1;cases NsC.uniq nD h2;refine#[C,cd,k.ns,hE,?_];rw[hb]at h3;unfold kitOne;split
 .rename_i q;have e:C=D:=Value.ref.inj (beq_iff_eq.mp q);subst e;unfold IB at h3;rw[hE.cl,IK,hm]at h3;simpa using h3
 .unfold kitCls;obtain⟨TV,J_,_⟩:=any_some hD;dsimp only;rw[J_,ty,if_pos MF];exact h3
def isVE(e:∃C N bm,ErrK K mg x C N bm)(ex:ExIn K x):∃C cd,nsIn K SB x=be (be (.ref C))/\IsE K C cd/\kitOne K (.ref C) (.type "ValueError")=be true:=by
 obtain⟨C,N,bm,k⟩:=e;obtain⟨cd,hE,hm⟩:=k.isE ex;refine#[C,cd,k.ns,hE,?_];unfold kitOne;rw[if_neg (by intro q;cases beq_iff_eq.mp q)];unfold kitCls;dsimp only;rw[if_pos KK];show IB K C _=_;unfold IB;rw[hE.cl,IK,if_neg (by rw[hm];simp),Exc.exc_has KK hE.mro]
end
abbrev Bx.j(V:Bx)(y:Ms)(al:List (Ms×Bool)):Prop:=∃D,V.mg y=be (.ref D)/\IsF V.K al (.ref D)
abbrev Bx.jv(V:Bx)(al:List (Ms×Bool)):Prop:=IsF V.K al (.type "ValueError")
end My
end
section
namespace My
local macro_rules | `(tactic| k_memK) => `(tactic| exact⟨rfl, rfl, rfl, by decide +kernel, rfl, by decide +kernel, by decide +kernel⟩)
local macro_rules | `(tactic| k_places) => `(tactic| try simp only[Ij, Il, My.aW])
open PySem PySem.Spec PyProof.Rows L2
def top(i:Nat):Stmt:=PySem.Challenge.pw_motiffield_k30_change.main.body.getD i (.Pass #[0,0,0,0])
abbrev lW:U7:=top 59
abbrev lY:List Str:=["_law_script","_law_k"]
def EG:FnScope ["_law_script","_law_k"] lY (ah lW):=NF
abbrev lZ:U7:=top 61
abbrev me:List Str:=["_law_script","_law_k","_law_many"]
def sc__law_draws:FnScope ["_law_script","_law_k","_law_many","_law_left","_law_drawn","_law_turn","_law_seed"] me (ah lZ):=NF
abbrev mf:U7:=top 64
abbrev mi:List Str:=["_law_draws_here"]
def sc__law_lines:FnScope ["_law_draws_here","_law_wide","_law_tall","_law_signs","_law_lines_here","_law_j","_law_line","_law_i","_law_place","_law_value"] mi (ah mf):=NF
abbrev mj:U7:=top 62
abbrev ml:List Str:=["_law_draws_here"]
def sc__law_shift_pair:FnScope ["_law_draws_here","_law_a","_law_b","_law_c","_law_d"] ml (ah mj):=NF
abbrev mm:U7:=top 63
abbrev mn:List Str:=["_law_lines_here","_law_one","_law_two"]
def sc__law_motif_text:FnScope ["_law_lines_here","_law_one","_law_two","_law_tail"] mn (ah mm):=NF
abbrev mo:U7:=top 65
abbrev mv:List Str:=["_law_script","_law_k"]
def sc__law_motif:FnScope ["_law_script","_law_k","_law_draws_here","_law_lines_here","_law_one","_law_two","_law_leaf"] mv (ah mo):=NF
abbrev iG:U7:=top 66
abbrev mx:List Str:=["_law_part","_law_draw"]
def sc__law_wrapped:FnScope ["_law_part","_law_draw","_law_across","_law_down","_law_old","_law_new","_law_shift","_law_head","_law_ways","_law_by","_law_leaves","_law_leaf","_law_a","_law_b","_law_c","_law_d","_law_e","_law_f","_law_way","_law_hues"] mx (ah iG):=NF
abbrev my:U7:=top 70
abbrev mz:List Str:=["_law_a","_law_b"]
def sc__law_gcd:FnScope ["_law_a","_law_b"] mz (ah my):=NF
abbrev mB:U7:=top 67
abbrev mC:List Str:=["_law_one","_law_two","_law_u","_law_v"]
def sc__law_on:FnScope ["_law_one","_law_two","_law_u","_law_v","_law_size"] mC (ah mB):=NF
abbrev mD:U7:=top 72
abbrev mF:List Str:=["_law_leaf"]
def sc__law_leaf_family:FnScope ["_law_leaf","_law_a","_law_b","_law_c","_law_d","_law_e","_law_f","_law_one","_law_two","_law_high","_law_wide","_law_lean"] mF (ah mD):=NF
abbrev mG:U7:=top 71
abbrev mH:List Str:=["_law_three","_law_x","_law_y"]
def EH:FnScope ["_law_three","_law_x","_law_y"] mH (ah mG):=NF
abbrev mI:U7:=top 73
abbrev mJ:List Str:=["_law_one","_law_two"]
def sc__law_both:FnScope ["_law_one","_law_two","_law_wide","_law_high","_law_x"] mJ (ah mI):=NF
abbrev mK:U7:=top 74
abbrev mL:List Str:=["_law_leaves"]
def sc__law_family:FnScope ["_law_leaves","_law_both_here","_law_leaf"] mL (ah mK):=NF
abbrev mM:U7:=top 75
abbrev mN:List Str:=["_law_upper","_law_lower"]
def sc__law_over:FnScope ["_law_upper","_law_lower","_law_leaves"] mN (ah mM):=NF
abbrev mQ:U7:=top 76
abbrev mR:List Str:=["_law_script","_law_k"]
def sc__law_pattern:FnScope ["_law_script","_law_k","_law_plan","_law_part","_law_turn","_law_step","_law_other"] mR (ah mQ):=NF
abbrev mU:U7:=top 79
abbrev mV:List Str:=["_law_part","_law_kind_here"]
def sc__law_shifted_home:FnScope ["_law_part","_law_kind_here","_law_three","_law_across","_law_down"] mV (ah mU):=NF
abbrev mW:U7:=top 78
abbrev mY:List Str:=["_law_part","_law_place","_law_sign"]
def sc__law_respelled:FnScope ["_law_part","_law_place","_law_sign","_law_first","_law_wide","_law_j","_law_i","_law_lines_here","_law_spot","_law_text"] mY (ah mW):=NF
abbrev mZ:U7:=top 80
abbrev ng:List Str:=["_law_part","_law_script","_law_k","_law_draw"]
def sc__law_twin:FnScope ["_law_part","_law_script","_law_k","_law_draw","_law_kind_here"] ng (ah mZ):=NF
abbrev nh:U7:=top 68
abbrev nj:List Str:=["_law_leaf","_law_x","_law_y"]
def sc__law_leaf_shows:FnScope ["_law_leaf","_law_x","_law_y","_law_way","_law_u","_law_v","_law_j","_law_i"] nj (ah nh):=NF
abbrev nq:U7:=top 69
abbrev nt:List Str:=["_law_leaves","_law_x","_law_y"]
def sc__law_shows:FnScope ["_law_leaves","_law_x","_law_y","_law_leaf","_law_hue"] nt (ah nq):=NF
abbrev iH:U7:=top 83
abbrev nu:List Str:=["_law_leaves","_law_wide","_law_high"]
def sc__law_floor_rows:FnScope ["_law_leaves","_law_wide","_law_high","_law_lines_here","_law_y"] nu (ah iH):=NF
abbrev nv:U7:=aR (top 57) 1
abbrev nw:List Str:=["self","word"]
def EI:FnScope ["self","word"] nw (ah nv):=NF
abbrev ny:U7:=top 32
abbrev nz:List Str:=["x","y"]
def EJ:FnScope ["x","y"] nz (ah ny):=NF
abbrev nA:U7:=top 14
abbrev nB:List Str:=["family","x","y"]
def sc_home:FnScope ["family","x","y","width","height","slant"] nB (ah nA):=NF
abbrev iI:U7:=aR (top 21) 2
abbrev cD:List Str:=["self","x","y"]
def EK:FnScope ["self","x","y"] cD (ah iI):=NF
abbrev iJ:U7:=aR (top 22) 2
abbrev iK:List Str:=["self","x","y"]
def sc_Over_shows:FnScope ["self","x","y","hue"] iK (ah iJ):=NF
abbrev iL:U7:=aR (top 23) 2
abbrev iM:List Str:=["self","x","y"]
def EL:FnScope ["self","x","y"] iM (ah iL):=NF
abbrev iN:U7:=aR (top 24) 2
abbrev iO:List Str:=["self","x","y"]
def EM:FnScope ["self","x","y"] iO (ah iN):=NF
abbrev iP:U7:=aR (top 25) 2
abbrev iQ:List Str:=["self","x","y"]
def EN:FnScope ["self","x","y"] iQ (ah iP):=NF
abbrev iR:U7:=aR (top 26) 2
abbrev iS:List Str:=["self","x","y"]
def sc_Rehue_shows:FnScope ["self","x","y","hue"] iS (ah iR):=NF
abbrev nC:U7:=top 33
abbrev nE:List Str:=["pattern","x","y"]
def EO:FnScope ["pattern","x","y"] nE (ah nC):=NF
abbrev iT:U7:=top 34
abbrev nF:List Str:=["pattern","x","y","many"]
def EQ:FnScope ["pattern","x","y","many"] nF (ah iT):=NF
abbrev iU:U7:=aR (top 57) 7
abbrev nG:List Str:=["self"]
def ER:FnScope ["self"] nG (ah iU):=NF
abbrev nH:U7:=aR (top 57) 3
abbrev iV:List Str:=["self","many"]
def sc_Floor_lay:FnScope ["self","many","ahead"] iV (ah nH):=NF
abbrev nI:U7:=top 86
abbrev nJ:List Str:=["_law_floor","_law_many","_law_bare"]
def sc__law_lay:FnScope ["_law_floor","_law_many","_law_bare","_law_found","_law_refused"] nJ (ah nI):=NF
abbrev nK:U7:=top 88
abbrev nM:List Str:=["_law_marks"]
def ES:FnScope ["_law_marks"] nM (ah nK):=NF
abbrev nN:U7:=aR (top 45) 1
abbrev nO:List Str:=["self","allowed"]
def ET:FnScope ["self","allowed"] nO (ah nN):=NF
abbrev nP:U7:=aR (top 45) 2
abbrev nQ:List Str:=["self","allowed"]
def sc_Reading_take:FnScope ["self","allowed","sign"] nQ (ah nP):=NF
abbrev nR:U7:=top 48
abbrev nS:List Str:=["reading","least","most"]
def sc_line_from:FnScope ["reading","least","most","line","column"] nS (ah nR):=NF
abbrev nU:U7:=top 49
abbrev nV:List Str:=["reading"]
def sc_lines_from:FnScope ["reading","lines","width"] nV (ah nU):=NF
abbrev nW:U7:=top 46
abbrev nX:List Str:=["reading"]
def sc_number_from:FnScope ["reading","written"] nX (ah nW):=NF
abbrev nY:U7:=top 47
abbrev nZ:List Str:=["reading"]
def sc_shift_from:FnScope ["reading","x"] nZ (ah nY):=NF
abbrev oa:U7:=top 11
abbrev og:List Str:=["first","second"]
def sc_levelled:FnScope ["first","second","times","rest"] og (ah oa):=NF
abbrev oh:U7:=top 13
abbrev oi:List Str:=["first","second"]
def sc_spread:FnScope ["first","second","pair","width"] oi (ah oh):=NF
abbrev oj:U7:=top 20
abbrev ol:List Str:=["lines","family"]
def sc_hues_by_home:FnScope ["lines","family","hues","row","line","column","sign"] ol (ah oj):=NF
abbrev om:U7:=aR (top 21) 0
abbrev oq:List Str:=["self","place","lines","first","second"]
def EU:FnScope ["self","place","lines","first","second"] oq (ah om):=NF
abbrev ot:U7:=top 50
abbrev ou:List Str:=["reading"]
def sc_motif_from:FnScope ["reading","place","lines","first","second"] ou (ah ot):=NF
abbrev ow:U7:=aR (top 24) 0
abbrev oy:List Str:=["self","form"]
def EV:FnScope ["self","form"] oy (ah ow):=NF
abbrev oz:U7:=aR (top 25) 0
abbrev oA:List Str:=["self","form"]
def EW:FnScope ["self","form"] oA (ah oz):=NF
abbrev oB:U7:=aR (top 22) 0
abbrev oC:List Str:=["self","above","below"]
def EY:FnScope ["self","above","below"] oC (ah oB):=NF
abbrev oE:U7:=aR (top 23) 0
abbrev oF:List Str:=["self","form","x","y"]
def EZ:FnScope ["self","form","x","y"] oF (ah oE):=NF
abbrev oG:U7:=aR (top 26) 0
abbrev oH:List Str:=["self","form","old","new"]
def E1:FnScope ["self","form","old","new"] oH (ah oG):=NF
abbrev iW:U7:=top 51
abbrev gC:List Str:=["reading","around"]
def sc_over_from:FnScope ["reading","around","above","below"] gC (ah iW):=NF
abbrev iX:U7:=top 52
abbrev gD:List Str:=["reading","around"]
def sc_shifted_from:FnScope ["reading","around","shift"] gD (ah iX):=NF
abbrev iY:U7:=top 53
abbrev gE:List Str:=["reading","around"]
def sc_rehue_from:FnScope ["reading","around","old","new"] gE (ah iY):=NF
abbrev iZ:U7:=top 54
abbrev cP:List Str:=["reading","around"]
def sc_form_from:FnScope ["reading","around","sign"] cP (ah iZ):=NF
abbrev oI:U7:=aR (top 45) 0
abbrev oJ:List Str:=["self","text"]
def E2:FnScope ["self","text"] oJ (ah oI):=NF
abbrev oK:U7:=aR (top 44) 0
abbrev oM:List Str:=["self","text","shifts","form"]
def E3:FnScope ["self","text","shifts","form"] oM (ah oK):=NF
abbrev oN:U7:=top 12
abbrev oO:List Str:=["one","two"]
def sc_measure:FnScope ["one","two","last"] oO (ah oN):=NF
abbrev oP:U7:=top 15
abbrev oQ:List Str:=["one","two"]
def sc_met:FnScope ["one","two","common","width","rise","start","gap","climbs","steps"] oQ (ah oP):=NF
abbrev oR:U7:=top 16
abbrev oS:List Str:=["family"]
def E4:FnScope ["family"] oS (ah oR):=NF
abbrev oU:U7:=top 17
abbrev oV:List Str:=["family"]
def E5:FnScope ["family"] oV (ah oU):=NF
abbrev ja:U7:=aR (top 21) 1
abbrev cE:List Str:=["self"]
def E6:FnScope ["self"] cE (ah ja):=NF
abbrev jb:U7:=aR (top 22) 1
abbrev jc:List Str:=["self"]
def sc_Over_family:FnScope ["self","first"] jc (ah jb):=NF
abbrev jd:U7:=aR (top 23) 1
abbrev je:List Str:=["self"]
def E7:FnScope ["self"] je (ah jd):=NF
abbrev jg:U7:=aR (top 24) 1
abbrev jh:List Str:=["self"]
def E8:FnScope ["self"] jh (ah jg):=NF
abbrev ji:U7:=aR (top 25) 1
abbrev jj:List Str:=["self"]
def E9:FnScope ["self"] jj (ah ji):=NF
abbrev jk:U7:=aR (top 26) 1
abbrev jl:List Str:=["self"]
def Fb:FnScope ["self"] jl (ah jk):=NF
abbrev oW:U7:=top 55
abbrev oX:List Str:=["text"]
def sc_read:FnScope ["text","reading","form","family"] oX (ah oW):=NF
abbrev oY:U7:=top 38
abbrev oZ:List Str:=["one","two","width","height"]
def sc_first_unlike:FnScope ["one","two","width","height","y","x"] oZ (ah oY):=NF
abbrev pd:U7:=aR (top 8) 0
abbrev pe:List Str:=["self","x","y"]
def Fc:FnScope ["self","x","y"] pe (ah pd):=NF
abbrev pf:U7:=aR (top 57) 2
abbrev ph:List Str:=["self","pattern"]
def Fd:FnScope ["self","pattern"] ph (ah pf):=NF
abbrev pi:U7:=aR (top 57) 4
abbrev pj:List Str:=["self","text"]
def sc_Floor_change:FnScope ["self","text","pattern","cell"] pj (ah pi):=NF
abbrev pk:U7:=top 89
abbrev pp:List Str:=["_law_floor","_law_text"]
def sc__law_change:FnScope ["_law_floor","_law_text","_law_found","_law_marks","_law_e"] pp (ah pk):=NF
abbrev pq:U7:=top 87
abbrev pr:List Str:=["_law_laid","_law_lines_here"]
def sc__law_parted:FnScope ["_law_laid","_law_lines_here","_law_y","_law_x"] pr (ah pq):=NF
abbrev pv:U7:=top 60
abbrev pw:List Str:=["_law_found"]
def Fe:FnScope ["_law_found"] pw (ah pv):=NF
abbrev pz:U7:=top 77
abbrev pA:List Str:=["_law_found","_law_due"]
def sc__law_numbers:FnScope ["_law_found","_law_due","_law_k"] pA (ah pz):=NF
abbrev pB:U7:=top 82
abbrev pC:List Str:=["_law_found","_law_due"]
def sc__law_texts:FnScope ["_law_found","_law_due","_law_k"] pC (ah pB):=NF
abbrev pD:U7:=top 81
abbrev pE:List Str:=["_law_found","_law_due"]
def sc__law_seven:FnScope ["_law_found","_law_due","_law_k"] pE (ah pD):=NF
abbrev pF:U7:=top 84
abbrev pG:List Str:=["_law_lines_here"]
def sc__law_counts:FnScope ["_law_lines_here","_law_found","_law_line","_law_sign"] pG (ah pF):=NF
abbrev jn:U7:=top 35
abbrev pH:List Str:=["pattern"]
def Ff:FnScope ["pattern"] pH (ah jn):=NF
abbrev pI:U7:=top 36
abbrev pJ:List Str:=["family","rows","x","y"]
def sc_round_row:FnScope ["family","rows","x","y","cell","row"] pJ (ah pI):=NF
abbrev pK:U7:=top 40
abbrev pL:List Str:=["row","sign","many"]
def Fg:FnScope ["row","sign","many"] pL (ah pK):=NF
abbrev jp:U7:=top 41
abbrev pM:List Str:=["pattern","left","top","right","bottom"]
def sc_count_all:FnScope ["pattern","left","top","right","bottom","family","rows","many","again","counts","y","times","row","hue","sign"] pM (ah jp):=NF
abbrev pN:U7:=aR (top 57) 8
abbrev pO:List Str:=["self"]
def Fh:FnScope ["self"] pO (ah pN):=NF
abbrev pP:U7:=aR (top 57) 9
abbrev pQ:List Str:=["self"]
def Fi:FnScope ["self"] pQ (ah pP):=NF
abbrev pR:U7:=aR (top 57) 6
abbrev pS:List Str:=["self"]
def Fj:FnScope ["self"] pS (ah pR):=NF
abbrev pT:U7:=top 85
abbrev pU:List Str:=["_law_floor","_law_text","_law_size","_law_laid","_law_rest","_law_many"]
def sc__law_view:FnScope ["_law_floor","_law_text","_law_size","_law_laid","_law_rest","_law_many","_law_found"] pU (ah pT):=NF
abbrev pV:U7:=aR (top 57) 0
abbrev pW:List Str:=["self","text","width","height"]
def Fk:FnScope ["self","text","width","height"] pW (ah pV):=NF
abbrev jq:U7:=top 90
abbrev pX:List Str:=["_law_script"]
def sc_law:FnScope ["_law_script","_law_part","_law_twin_here","_law_wide","_law_high","_law_laid","_law_lines_here","_law_others","_law_floor","_law_deeds","_law_found","_law_due","_law_stands","_law_refused"] pX (ah jq):=NF
variable{c i:Nat}
def atC{t:Ms}:StrLaws.At t #[[c].toArray] t.length i↔(cs t)[i]?=be c:=by
 have e:Builtin.Str.subAt t #[[c].toArray] i=(((cs t).drop i).take 1==[c]):=StrLaws.subAt_eq t #[[c].toArray] i;have e2:((cs t).drop i).take 1=[c]↔(cs t)[i]?=be c:=by
  rw[List.take_one,List.head?_drop];cases(cs t)[i]?<;>simp
 unfold StrLaws.At;rw[e,beq_iff_eq,e2];refine#[λh=>h.2,λh=>#[?_,h]];have:=(Ia.mp h).1;rw[bn]at this;exact this
variable{A B:List Nat}
def Fo{t:Ms}(ht:cs t=A++c::B)(no:c∉A):∃i rest,Builtin.Str.occurrences t #[[c].toArray] 0 t.length 1=i::rest/\i=A.length:=by
 have a0:StrLaws.At t #[[c].toArray] t.length A.length:=atC.mpr (by rw[ht,IZ (HP _),Nat.sub_self];rfl);rcases StrLaws.occ_head t #[[c].toArray] 1 (HP _)with⟨_,h⟩|⟨i,r,e,h1,h2⟩
 .exact absurd a0 (h _)
 .refine#[i,r,e,?_];rcases Nat.lt_trichotomy i A.length with q|q|q
  .have:=atC.mp h1;rw[ht,IE q]at this;exact absurd (JD this) no
  .exact q
  .exact absurd a0 (h2 _ q)
def gG(x:List Nat){l:List (List Nat)}(h:l≠[]):rowsL (x::l)=x++47::rowsL l:=by
 cases l with
 |nil=>exact absurd rfl h
 |cons y r=>rfl
def Fp{w:Nat}(hi:i<w):∀(L:List (List Nat)) (j:Nat) (h:j<L.length),(∀x∈L,x.length=w)->rowsL (L.set j (L[j].set i c))=(rowsL L).set (j*(w+1)+i) c:=by
 intro L;induction L with
 |nil=>intro j h;exact absurd h (JI j)
 |cons x L ih=>
  intro j h hw;have xw:=hw x HW;by_cases e:L=[]
  .subst e;have:j=0:=by simp at h;lia
   subst this;simp[rowsL]
  .cases j with
   |zero=>
    show rowsL (x.set i c::L)=_;rw[gG _ e,gG _ e,Nat.zero_mul,Ku,Lq _ _ v4]
   |succ j=>
    have h':j<L.length:=Nat.lt_of_succ_lt_succ h;show rowsL (x::L.set j (L[j].set i c))=_;rw[gG _ (λz=>e (by have:=congrArg JB z;simpa using this)),gG _ e,ih j h' (λy hy=>hw y (HU _ hy))];rw[Lr _ _ (by rw[xw,JG];lia),xw,show(j+1)*(w+1)+i-w=(j*(w+1)+i)+1 by rw[JG];lia];rfl
def jr{a:Int}(h:B12 a):91∉numL a:=by
 have hs:=numL_is h;intro hy;unfold isNumL at hs;rcases hs with⟨c,h1,h2⟩|⟨c,h1,h2⟩|⟨c,h1,h2⟩|⟨c,h1,h2⟩<;>rw[h2]at hy<;>simp at hy<;>lia
structure Pat.Re(p:Pat)(A B:List Nat)(l:Leaf)(ls:List Leaf):Prop where
 leaves:p.leaves=l::ls
 no:91∉A
 tl:p.tl=A++91::(rowsL (l.rows.map cs)++B)
 rows:Rows l.rows
 re:∀L':List Ms,Rows L'->∃q:Pat,q.leaves={l with rows:=L'}::ls/\q.tl=A++91::(rowsL (L'.map cs)++B)/\q.depth=p.depth/\(∀x y,q.Lat x y↔p.Lat x y)/\q.Wf
def Pat.re_ex:∀{p:Pat},p.Wf->∃A B l ls,p.Re A B l ls:=by
 intro p;induction p with
 |mot L a b c d=>
  intro h;exact#[[],_,_,[],rfl,Jy,rfl,h.1,λL' h'=>#[.mot L' a b c d,rfl,rfl,rfl,λx y=>Iff.rfl,h',h.2]]
 |over p q TX US=>
  intro h;obtain⟨A,B,l,ls,r⟩:=TX h.1;refine#[40::A,B++124::(q.tl++[41]),l,ls++q.leaves,by rw[Pat.leaves,r.leaves];rfl,λz=>?_,by rw[Pat.tl,r.tl];simp,r.rows,λL' h'=>?_]
  .rcases HQ.mp z with z|z
   .exact absurd z Mx
   .exact r.no z
  .obtain⟨p',e1,e2,e3,e4,e5⟩:=r.re L' h';exact#[.over p' q,by rw[Pat.leaves,e1];rfl,by rw[Pat.tl,e2];simp,by rw[Pat.depth,Pat.depth,e3],λx y=>by simp only[Pat.Lat,e4],e5,h.2]
 |sh a b p ih=>
  intro h;obtain⟨A,B,l,ls,r⟩:=ih h.2.2;refine#[115::(numL a++44::(numL b++58::A)),B,l.by 1 0 0 1 (-a) (-b),ls.map λl=>l.by 1 0 0 1 (-a) (-b),by rw[Pat.leaves,r.leaves];rfl,λz=>?_,by rw[Pat.tl,r.tl];simp[Leaf.by],r.rows,λL' h'=>?_]
  .have n1:=jr h.1;have n2:=jr h.2.1;have n3:=r.no;simp[n1,n2,n3]at z
  .obtain⟨p',e1,e2,e3,e4,e5⟩:=r.re L' h';exact#[.sh a b p',by rw[Pat.leaves,e1];rfl,by rw[Pat.tl,e2];simp,by rw[Pat.depth,Pat.depth,e3],λx y=>by simp only[Pat.Lat,e4],h.1,h.2.1,e5]
 |mir p ih=>
  intro h;obtain⟨A,B,l,ls,r⟩:=ih h;refine#[109::A,B,l.by (-1) 0 0 1 0 0,ls.map λl=>l.by (-1) 0 0 1 0 0,by rw[Pat.leaves,r.leaves];rfl,λz=>?_,by rw[Pat.tl,r.tl];rfl,r.rows,λL' h'=>?_]
  .rcases HQ.mp z with z|z
   .exact absurd z Mx
   .exact r.no z
  .obtain⟨p',e1,e2,e3,e4,e5⟩:=r.re L' h';exact#[.mir p',by rw[Pat.leaves,e1];rfl,by rw[Pat.tl,e2];rfl,by rw[Pat.depth,Pat.depth,e3],λx y=>by simp only[Pat.Lat,e4],e5]
 |tur p ih=>
  intro h;obtain⟨A,B,l,ls,r⟩:=ih h;refine#[116::A,B,l.by 0 1 (-1) 0 0 0,ls.map λl=>l.by 0 1 (-1) 0 0 0,by rw[Pat.leaves,r.leaves];rfl,λz=>?_,by rw[Pat.tl,r.tl];rfl,r.rows,λL' h'=>?_]
  .rcases HQ.mp z with z|z
   .exact absurd z Mx
   .exact r.no z
  .obtain⟨p',e1,e2,e3,e4,e5⟩:=r.re L' h';exact#[.tur p',by rw[Pat.leaves,e1];rfl,by rw[Pat.tl,e2];rfl,by rw[Pat.depth,Pat.depth,e3],λx y=>by simp only[Pat.Lat,e4],e5]
 |hue f g p ih=>
  intro h;obtain⟨A,B,l,ls,r⟩:=ih h.2.2;refine#[104::(numL f++(numL g++A)),B,(l.by 1 0 0 1 0 0).dye f g,ls.map λl=>(l.by 1 0 0 1 0 0).dye f g,by rw[Pat.leaves,r.leaves];rfl,λz=>?_,by rw[Pat.tl,r.tl];simp[Leaf.by,Leaf.dye],r.rows,λL' h'=>?_]
  .have h1:1<=f/\f<=6:=h.1;have h2:1<=g/\g<=6:=h.2.1;have n1:=jr (a:=f) #[v4,v4];have n2:=jr (a:=g) #[v4,v4];have n3:=r.no;simp[n1,n2,n3]at z
  .obtain⟨p',e1,e2,e3,e4,e5⟩:=r.re L' h';exact#[.hue f g p',by rw[Pat.leaves,e1];rfl,by rw[Pat.tl,e2];simp,by rw[Pat.depth,Pat.depth,e3],λx y=>by simp only[Pat.Lat,e4],h.1,h.2.1,e5]
def Fq{w:Nat}:∀(L:List (List Nat)),L≠[]->(∀x∈L,x.length=w)->(rowsL L).length+1=L.length*(w+1):=by
 intro L;induction L with
 |nil=>intro h;exact absurd rfl h
 |cons x L ih=>
  intro _ hw;have xw:=hw x HW;by_cases e:L=[]
  .subst e;show x.length+1=1*(w+1);lia
  .have:=ih e λy hy=>hw y (HU _ hy);rw[gG _ e,Ic,HX,HX,JG];lia
variable{k:Nat}
def wK{y:Ms}(h:k<y.length):cs ((Txt.slice y LH (be (k:Int))++#[[c].toArray])++Txt.slice y (be ((k:Int)+1)) LH)=(cs y).set k c:=by
 have e1:HT.sIx y.length y.length (be (k:Int))=k:=by rw[HT.sIx_nat];lia
 have e2:HT.sIx y.length 0 (be ((k:Int)+1))=k+1:=by
  have:=HT.sIx_nat y.length 0 (k+1);rw[show((k:Int)+1)=(((k+1:Nat)):Int)by lia,this];lia
 rw[bF,bF,slice_cps,slice_cps,e1,e2,HT.sIx_none,HT.sIx_none,Kw,J5,List.set_eq_take_append_cons_drop,if_pos (by rw[bn];exact h)];show((cs y).take k++[c])++(Jg (k+1) (cs y)).take (y.length-(k+1))=_;rw[Jh (l:=Jg (k+1) (cs y)) (by rw[Je,bn];lia),IU];rfl
variable{p:Pat}
def Pat.Re.put{l:Leaf}{ls:List Leaf}(r:p.Re A B l ls)(ok:p.Ok){w j:Nat}(hw:∀s∈l.rows,s.length=w)(hj:j<l.rows.length)(hi:i<w)(hc:bb c){s':Ms}(hs:cs s'=(cs l.rows[j]).set i c):∃q:Pat,q.Ok/\q.depth=p.depth/\q.leaves={l with rows:=l.rows.set j s'}::ls/\A.length+1+j*(w+1)+i<p.text.length/\∀t':Ms,cs t'=(cs p.text).set (A.length+1+j*(w+1)+i) c->t'=q.text:=by
 obtain⟨m,w',w8,hr⟩:=r.rows;have lj:=hr l.rows[j] (Iv hj);have hL:Rows (l.rows.set j s'):=by
  refine#[by rw[II];exact m,w',w8,λs Mc=>?_];rcases Ls Mc with q|q
  .exact hr s q
  .subst q;refine#[by rw[<-bn,hs,II,bn];exact lj.1,λd hd=>?_];rw[hs]at hd;rcases Ls hd with q|q
   .exact lj.2 d q
   .rw[q];exact hc
 obtain⟨q,e1,e2,e3,e4,e5⟩:=r.re _ hL;obtain⟨fw,fh,fs,F,fb⟩:=ok.fits;refine#[q,#[e5,by rw[e3];exact ok.deep,fw,fh,fs,#[F.f,λx y=>(F.lat x y).trans (e4 x y).symm],fb],e3,e1,?_];have lw:∀x∈l.rows.map cs,x.length=w:=λx hx=>by
  obtain⟨s,q1,q2⟩:=Ir.mp hx;rw[<-q2,bn];exact hw s q1
 have jm:j<(l.rows.map cs).length:=by rw[HV];exact hj
 have key:=Fp (c:=c) hi (l.rows.map cs) j jm lw;have e6:(l.rows.set j s').map cs=(l.rows.map cs).set j ((l.rows.map cs)[j].set i c):=by rw[Lu,hs,List.getElem_map]
 have ll:j*(w+1)+i<(rowsL (l.rows.map cs)).length:=by
  have h1:=Fq (l.rows.map cs) (λz=>by rw[z]at jm;exact absurd jm (JI j)) lw;have h2:=KY (w+1) (show j+1<=(l.rows.map cs).length from jm);rw[JG]at h2;lia
 refine#[?_,λt' ht=>?_]
 .rw[<-bn,cx,r.tl,Ic,HX,Ic];lia
 apply gx;rw[ht,cx,cx,e2,e6,key,r.tl];rw[Lr _ _ v4,show A.length+1+j*(w+1)+i-A.length=(j*(w+1)+i)+1 by lia,Ij,Lq _ _ ll]
def wL{q:Pat}{R:D->Prop}(k1:p.Ok)(k2:q.Ok)(h:∀q:Pat,q.Ok->R q.D):vR [p.D,q.D] R:=#[p,q,rfl,k1.wf,k2.wf,k1.deep,k2.deep,h _ k1,λa b Qp=>h _ #[#[k1.wf,k2.wf],by simp only[Pat.depth];omega,Qp]]
def Fs(x:Int):∃c,atI (cs ".123456") (x%7)=be c/\bb c:=by
 rcases(v4:x%7=0\/x%7=1\/x%7=2\/x%7=3\/x%7=4\/x%7=5\/x%7=6)with e|e|e|e|e|e|e<;>rw[e]
 .exact#[46,KK,.inl rfl]
 .exact#[49,KK,.inr v4]
 .exact#[50,KK,.inr v4]
 .exact#[51,KK,.inr v4]
 .exact#[52,KK,.inr v4]
 .exact#[53,KK,.inr v4]
 .exact#[54,KK,.inr v4]
structure ComF(p q:Pat)(w h s:Int):Prop where
 f:Fam0 w h s
 lat:∀x y,InF w h s x y↔p.Keeps x y/\q.Keeps x y
def nown(z:SD):Bool:=z.all λo=>match o with|some (.own _)=>false|_=>true
def NoOwn.of{z:SD}(h:nown z=true):NoOwn z:=λi ds e=>by
 have:=IQ.mp h _ (JD e);cases this
structure Deed where
 w:Ms
 p:Pat
 d:D
 l:Int
def Deed.D(e:Deed):My.D:=.tup [.str e.w,e.d,.int e.l]
structure Fl where
 p:Pat
 d:D
 w:Int
 h:Int
 l:Int
 ds:List Deed
def Fl.fs(f:Fl)(q:Addr):List (Ms×D):=[("pattern",f.d),("text",.str f.p.text),("width",.int f.w),("height",.int f.h),("laid",.int f.l),("deeds",.ptr q)]
def Fl.M(f:Fl)(a q:Addr):MS:=[(q,.lst (f.ds.map Deed.D)),(a,.ins "Floor" (f.fs q))]
variable{a:Addr}{o:MO}
def eE{p:Addr}{M:MS}(h:p≠a):mget ((p,o)::M) a=mget M a:=if_neg h
def cF{M:MS}:mget ((a,o)::M) a=be o:=if_pos rfl
def eF{p:Addr}{o':MO}{M:MS}(h:p≠a):mput ((p,o)::M) a o'=(p,o)::mput M a o':=if_neg h
def cZ{o':MO}{M:MS}:mput ((a,o)::M) a o'=(a,o')::M:=if_pos rfl
variable{q:Addr}{f:Fl}
def Fl.ma(h:a≠q):mget (f.M a q) a=be (.ins "Floor" (f.fs q)):=(eE (Ne.symm h)).trans cF
def Fl.mq:mget (f.M a q) q=be (.lst (f.ds.map Deed.D)):=cF
def Fl.put(h:a≠q):mput (f.M a q) a o=[(q,.lst (f.ds.map Deed.D)),(a,o)]:=(eF (Ne.symm h)).trans (congrArg _ cZ)
def gH:(f.fs q).lookup ("pattern":Ms)=be f.d:=rfl
def wM:(f.fs q).lookup ("text":Ms)=be (.str f.p.text):=rfl
def fO:(f.fs q).lookup ("width":Ms)=be (.int f.w):=rfl
def js:(f.fs q).lookup ("height":Ms)=be (.int f.h):=rfl
def eI:(f.fs q).lookup ("laid":Ms)=be (.int f.l):=rfl
def wO:(f.fs q).lookup ("deeds":Ms)=be (.ptr q):=rfl
structure Fl.Ok(f:Fl):Prop where
 is:bv f.p f.d
 ok:f.p.Ok
 w1:1<=f.w
 w2:f.w<=30
 h1:1<=f.h
 h2:f.h<=30
 l0:0<=f.l
 l1:f.l<=f.h
 de:f.ds.length<=20
 dd:∀e∈f.ds,bv e.p e.d/\e.p.Ok/\0<=e.l/\e.l<=f.h
def Fl.keep(f:Fl)(w:Ms):Fl:={f with ds:=(f.ds++[Deed.mk w f.p f.d f.l]).drop (f.ds.length+1-20)}
def Fl.lay(f:Fl)(n:Int):Fl:={f.keep "lay" with l:=f.l+n}
def Fl.stand(f:Fl)(p:Pat)(d:D):Fl:={f with p:=p,d:=d}
def subM.refl{M:MS}(h:(av M).Nodup):subM M M:=#[λ_ h=>h,h]
def Fl.nd(h:a≠q):(av (f.M a q)).Nodup:=by
 show[q,a].Nodup;simp[Ne.symm h]
def Fl.sub(h:a≠q):subM (f.M a q) (f.M a q):=subM.refl (Fl.nd h)
def Ft(xs:List D):cutD xs (be (-20)) LH=xs.drop (xs.length-20):=by
 have e:HT.sIx xs.length 0 (be (-20))=xs.length-20:=by
  unfold HT.sIx;simp;lia
 unfold cutD;rw[e,show HT.sIx xs.length xs.length LH=xs.length from rfl];exact Jh MF
def aA(p:Pat)(w lo:Int)(n:Nat):List D:=(HS n).map λ(j:Nat)=>D.str (aL p 0 (lo+(j:Int)) w.toNat)
def pY(p:Pat)(w lo:Int)(n:Nat):aA p w lo n++[D.str (aL p 0 (lo+(n:Int)) w.toNat)]=aA p w lo (n+1):=by
 unfold aA;rw[JE,IA];rfl
def Fu(p:Pat)(w lo:Int)(n:Nat):cw (.lst (aA p w lo n))=true:=by
 unfold cw;induction n with
 |zero=>rfl
 |succ n ih=>
  rw[<-pY];have:∀xs:List D,flats xs=true->flats (xs++[D.str (aL p 0 (lo+(n:Int)) w.toNat)])=true:=λxs=>by
   induction xs with
   |nil=>intro _;rfl
   |cons x xs ih=>intro h;unfold flats at h;rw[Io]at h;show flats (x::(xs++_))=true;unfold flats;rw[h.1,ih h.2];rfl
  exact this _ ih
def wP(p:Pat)(w:Int){l:Int}(n:Nat)(l0:0<=l):cutD (aA p w 0 (l.toNat+n)) (be l) LH=aA p w l n:=by
 have hl:(aA p w 0 (l.toNat+n)).length=l.toNat+n:=by unfold aA;simp
 have e:HT.sIx (l.toNat+n) 0 (be l)=l.toNat:=by
  unfold HT.sIx;simp only;rw[if_neg v4];lia
 unfold cutD;rw[hl,e,show HT.sIx (l.toNat+n) (l.toNat+n) LH=l.toNat+n from rfl];unfold aA;apply Jq;intro i;by_cases h:i<n
 .rw[Kb v4,Lj,H9,H9,IV v4,IV h];simp;congr 1;lia
 .rw[IF UD,IF UD]
def Same2(p q:Pat)(w h:Int):Prop:=∀x y:Int,0<=x->x<w->0<=y->y<h->p.show x y=q.show x y
def First2(p q:Pat)(w h x y:Int):Prop:=(0<=x/\x<w/\0<=y/\y<h)/\p.show x y≠q.show x y/\∀x' y':Int,0<=x'->x'<w->0<=y'->(y'<y\/(y'=y/\x'<x))->p.show x' y'=q.show x' y'
def due7(p:Pat)(left top:Int)(m:Nat)(n k:Nat):List Int:=(HS 7).map λ(v:Nat)=>cN p v left top m n+cntN (λi=>p.show (left+i) (top+n)) v k
def Fv(ok:p.Ok)(left top:Int)(m n k:Nat):∃u:Nat,u<7/\p.show (left+k) (top+n)=(u:Int)/\(due7 p left top m n k)[u]?=be (cN p u left top m n+cntN (λi=>p.show (left+i) (top+n)) u k)/\((due7 p left top m n k).map D.int).set u (D.int (cN p u left top m n+cntN (λi=>p.show (left+i) (top+n)) u k+1))=(due7 p left top m n (k+1)).map D.int:=by
 have b:=Pat.show_le ok.wf (by have:=ok.deep;lia) (left+k) (top+n);obtain⟨u,hu⟩:∃u:Nat,p.show (left+k) (top+n)=(u:Int):=#[(p.show (left+k) (top+n)).toNat,v4];have u7:u<7:=v4
 have cs:∀v:Int,cntN (λi=>p.show (left+i) (top+n)) v (k+1)=cntN (λi=>p.show (left+i) (top+n)) v k+if p.show (left+k) (top+n)=v then 1 else 0:=λv=>rfl
 refine#[u,u7,hu,by unfold due7;simp[u7],?_];unfold due7;rw[JH,JH];have:=wz (n:=7) (i:=u) (λ(v:Nat)=>D.int (cN p v left top m n+cntN (λi=>p.show (left+i) (top+n)) v k)) (λ(v:Nat)=>D.int (cN p v left top m n+cntN (λi=>p.show (left+i) (top+n)) v (k+1))) (λv hv ne=>by
  show D.int _=D.int _;rw[cs,hu,if_neg v4,JK])
 refine Eq.trans ?_ this;show List.set _ u _=List.set _ u _;rw[cs,hu,if_pos rfl,Kx];rfl
def Fw(p:Pat)(left top:Int)(m n:Nat):due7 p left top m n m=due7 p left top m (n+1) 0:=by
 unfold due7;apply JF;intro v _;show _=(cN p v left top m n+_)+0;rw[JK]
def Fx(p:Pat)(left top:Int)(m n:Nat):due7 p left top m n 0=cO p left top m n:=by
 unfold due7 cO;apply JF;intro v _;show _+0=_;rw[JK]
variable{w lo:Int}{n:Nat}
def Fy{v:D}(h:(aA p w lo n)[k]?=be v):k<n/\v=.str (aL p 0 (lo+(k:Int)) w.toNat):=by
 have hk:k<n:=by have:=(Ia.mp h).1;unfold aA at this;simpa using this
 unfold aA at h;simp[hk]at h;exact#[hk,h.symm]
variable{h:Int}
def Fz(h0:0<=h)(h6:h<=6):aP h<128:=by unfold aP;split<;>lia
def FA(ok:p.Ok)(x y:Int)(n:Nat):(aL p x y n).cps.all (·<128)=true:=by
 rw[<-Kg,IQ];intro c hc;have hc:c∈cs (aL p x y n):=hc;rw[cY]at hc;obtain⟨k,_,rfl⟩:=Ir.mp hc;have b:=Pat.show_le ok.wf (by have:=ok.deep;lia) (x+(k:Int)) y;exact decide_eq_true (Fz b.1 b.2)
variable{y:Int}
def FC{v:D}(h:(bS (aL p 0 y n))[k]?=be v):k<n/\v=.str #[[aP (p.show (0+(k:Int)) y)].toArray]:=by
 unfold bS at h;have hk:k<n:=by have:=(Ia.mp h).1;rwa [HV,show(aL p 0 y n).cps.toList.length=n by show(cs (aL p 0 y n)).length=n;rw[cY];simp]at this
 rw[H9,show(aL p 0 y n).cps.toList=(HS n).map λ(k:Nat)=>aP (p.show (0+(k:Int)) y)from cY p 0 y n]at h;simp[hk]at h;exact#[hk,by rw[<-h,Jz]]
def FD{u:Nat}(h:u<7):∃rest,Builtin.Str.occurrences ".123456" #[[aP (u:Int)].toArray] 0 (".123456":Ms).length 1=u::rest:=by
 rcases(v4:u=0\/u=1\/u=2\/u=3\/u=4\/u=5\/u=6)with e|e|e|e|e|e|e<;>subst e<;>exact#[[],KK]
def pZ(h:k<n):atI (aA p w lo n) (k:Int)=be (.str (aL p 0 (lo+(k:Int)) w.toNat)):=bD (by unfold aA;simp[h])
def wQ(h:k<n):atI (cs (aL p 0 y n)) (k:Int)=be (aP (p.show k y)):=bD (by rw[cY];simp[h])
def qc(h:k<=n):cutD (aA p w lo n) LH (be (k:Int))=aA p w lo k:=by
 have hl:(aA p w lo n).length=n:=by unfold aA;simp
 have e:HT.sIx n n (be (k:Int))=k:=by
  unfold HT.sIx;simp only;rw[if_neg v4];lia
 unfold cutD;rw[hl,e,show HT.sIx n 0 LH=0 from rfl,J5];unfold aA;rw[<-Lo,Lp,Kw,JA h]
def FE{a b:Int}(a0:0<=a)(b0:0<=b)(h:aP a=aP b):a=b:=by
 unfold aP at h;split at h<;>split at h<;>lia
def FF{a b:Nat}(h:(#[[a].toArray]:Ms)=#[[b].toArray]):a=b:=by cases h;rfl
def First2.uniq{q:Pat}{x x' y':Int}(a:First2 p q w h x y)(b:First2 p q w h x' y'):x=x'/\y=y':=by
 obtain⟨⟨a1,a2,a3,a4⟩,a5,a6⟩:=a;obtain⟨⟨b1,b2,b3,b4⟩,b5,b6⟩:=b;have h1:¬(y'<y\/(y'=y/\x'<x)):=λz=>b5 (a6 x' y' b1 b2 b3 z);have h2:¬(y<y'\/(y=y'/\x<x')):=λz=>a5 (b6 x y a1 a2 a3 z);lia
def First2.not{q:Pat}{x:Int}(a:First2 p q w h x y)(s:Same2 p q w h):False:=a.2.1 (s x y a.1.1 a.1.2.1 a.1.2.2.1 a.1.2.2.2)
def wR{w:Ms}(h:f.ds.length<=19):(f.keep w).ds=f.ds++[Deed.mk w f.p f.d f.l]:=by
 show(f.ds++[_]).drop _=_;rw[show f.ds.length+1-20=0 by lia];rfl
def cQ(i:Nat):List D:=(HS 8).map λj=>.bl (j==i)
def jt:List Str:=["wrong","line","great","far","row","parted","nothing"]
def FG:∀i,i<7->((cQ i).countP (λw=>eqF w (.bl true))=1/\(cQ i).all bq=true)/\(cQ i).findIdx (λw=>eqF w (.bl true))=i:=KK
def FH{w:Ms}(h:jt[i]?=be w):i<7/\(jt++[("":Ms)])[i]?=be w:=#[(Ia.mp h).1,by rw[IE (Ia.mp h).1];exact h]
section
variable {V:Bx}
abbrev ju(V:Bx):Prop:=V.D 1 "_law_at" lY B8
def FI(T:V.T "_law_at" lW lY)(uA:V.m "len"):ju V:=by
 refine Tx.okDW T EG (λds R h=>?_) (λf cdv A outer s H E J hr=>⟨_,((ai (aS (eZ (aa 1) (bB uA (ac (aa 0) ae))) (aj (ay (af (aa 0) (aa 1)))) aO)
   (aj (ay ad)))),λds R h=>?_⟩)
 .obtain⟨ns,k,rfl,_⟩:=h;rfl
 .obtain⟨ns,k,rfl,hk,hR⟩:=h;refine ite2 (λc=>?_) (λc=>?_)
  .have c':=of_decide_eq_true c;rw[HV]at c';exact#[_,vx hk c',hR]
  .have c':=of_decide_eq_false (Iy.mpr c);rw[HV]at c';rw[B7 v4]at hR;exact hR
abbrev jw(V:Bx):Prop:=V.D 2 "_law_draws" me Cl
def FJ(T:V.T "_law_draws" lZ me)(uB:V.m "range")(C_:ju V):jw V:=by
 refine Tx.okDW T sc__law_draws (λds R h=>?_) (λf cdv A outer s H E J hr=>⟨_,((ai (ao 3 sc__law_draws.nd (aw C_ hr (ac (aa 0) (ac (aa 1) ae))))
   (ai (gc 4 sc__law_draws.nd ae)
   (ai (aS (bp (aD (aw C_ hr (ac (aa 0) (ac (am (aa 1) ad) ae))) ad) ad) (ai (bQ 5 PassesOwn.never rfl sc__law_draws.nd uB (aa 2) (ai (gf 4 (aD (aa 3) ad))
     (aj (ao 3 sc__law_draws.nd (aZ (aa 3) ad)))))
    (dm 4 (aj (ay (aa 4))))) aO)
   (ai (ao 6 sc__law_draws.nd (aD (am (aa 3) ad) ad))
   (ai (bQ 5 PassesOwn.never rfl sc__law_draws.nd uB (aa 2) (ai (ao 6 sc__law_draws.nd (aD (am (am (az (aa 6) ad) (aw C_ hr (ac (aa 0) (ac (am (am (aa 1) ad) (aD (aa 5) ad)) ae)))) (aa 5)) ad))
    (aj (gf 4 (aD (aD (az (aa 6) ad) ad) ad)))))
   (dm 4 (aj (ay (aa 4)))))))))),λds R h=>?_⟩)
 .obtain⟨_,_,_,rfl,_⟩:=h;rfl
 .obtain⟨ns,k,n,rfl,hk,hn,hR⟩:=h;refine#[λd=>∃v:Int,d=.int v,#[ns,k,rfl,hk,_,rfl],?_];rintro _⟨left,rfl⟩;k_places;refine#[MF,?_];refine#[ns,k+1,rfl,v4,Mx,ite2 (λ_=>?_) (λ_=>?_)]
  .refine#[#[v4,v4],λi z=>∃(xs:List Int) (l:Int) (o p:Option D),z=[be (.rol (ns.map D.int)),be (.int k),be (.int n),be (.int l),be (.own (xs.map D.int)),o,p]/\xs.length=i/\Drawn xs,#[[],left,_,_,rfl,rfl,(λx hx=>by cases hx)],?_,?_]
   .rintro i x z hi⟨xs,l,o,p,rfl,hl,hd⟩;k_places;have j7:i<n:=by simpa using(Ia.mp hi).1
    refine#[Mx,UD,?_];refine#[λd=>∃v:Int,d=.int v,#[#[Mx,Mx],_,rfl],?_];rintro _⟨l',rfl⟩;k_places;rw[vA];exact#[_,l',_,_,rfl,by simp[hl],vB hd (cU Mx) (cV Mx)]
   .rintro z⟨xs,l,o,p,rfl,hl,hd⟩;k_places;exact hR xs (by simpa using hl) hd
  .refine#[λd=>∃v:Int,d=.int v/\0<=v/\v<2147483647,#[Mx,_,rfl,cU Mx,cV Mx],?_];rintro _⟨Qq,rfl,s1,s2⟩;k_places;refine#[#[v4,v4],λi z=>∃(xs:List Int) (sd:Int) (o:Option D),z=[be (.rol (ns.map D.int)),be (.int k),be (.int n),be (.int left),be (.own (xs.map D.int)),o,be (.int sd)]/\xs.length=i/\Drawn xs/\0<=sd/\sd<2147483647,#[[],Qq,_,rfl,rfl,(λx hx=>by cases hx),s1,s2],?_,?_]
   .rintro i x z hi⟨xs,sd,o,rfl,hl,hd,s1,s2⟩;k_places;have j7:i<n:=by simpa using(Ia.mp hi).1
    have ex:x=.int (i:Int):=by simp[j7]at hi;exact hi.symm
    subst ex;refine#[λd=>∃v:Int,d=.int v/\0<=v/\v<2147483647,#[.inr #[Mx,Mx],Mx,ns,_,rfl,v4,Mx,_,rfl,cU Mx,cV Mx],?_];rintro _⟨TY,rfl,t1,t2⟩;k_places;refine#[.inr #[Mx,Mx],Mx,Mx,UD,?_];rw[vA];exact#[_,TY,_,rfl,by simp[hl],vB hd (cU Mx) (cV Mx),t1,t2]
   .rintro z⟨xs,sd,o,rfl,hl,hd,_⟩;k_places;exact hR xs (by simpa using hl) hd
abbrev qd(V:Bx):Prop:=V.D 1 "_law_lines" mi Cy
def FK(T:V.T "_law_lines" mf mi)(uB:V.m "range")(uA:V.m "len"):qd V:=by
 refine Tx.okDW T sc__law_lines (λds R h=>?_) (λf cdv A outer s H E J hr=>⟨_,((ai (ao 1 sc__law_lines.nd (am ad (aD (af (aa 0) ad) ad)))
   (ai (ao 2 sc__law_lines.nd (am ad (aD (af (aa 0) ad) ad)))
   (ai (fj (bp (aD (af (aa 0) ad) ad) ad) (ai (ao 1 sc__law_lines.nd (am ad (aD (af (aa 0) ad) ad)))
    (aj (ao 2 sc__law_lines.nd (am ad (aD (af (aa 0) ad) ad))))) aO)
   (ai (ao 3 sc__law_lines.nd (af (bf (ac ax (ac ax (ac ax (ac ax ae))))) (aD (af (aa 0) ad) ad)))
   (ai (gc 4 sc__law_lines.nd ae)
   (ai (bQ 5 PassesOwn.never rfl sc__law_lines.nd uB (aa 2) (ai (ao 6 sc__law_lines.nd ax)
    (ai (bQ 7 PassesOwn.never rfl sc__law_lines.nd uB (aa 1) (ai (ao 8 sc__law_lines.nd (am (az (aa 5) (aa 1)) (aa 7)))
     (ai (ao 9 sc__law_lines.nd (aD (aZ (af (aa 0) (am ad (aZ (aa 8) ad))) (af (bf (ac ad (ac ad ae))) (aD (aa 8) ad))) ad))
     (aj (ao 6 sc__law_lines.nd (am (aa 6) (af (aa 3) (aD (aa 9) (bB uA (ac (aa 3) ae))))))))))
    (aj (gf 4 (aa 6))))))
   (dm 4 (aj (ay (aa 4))))))))))),λds R h=>?_⟩)
 .obtain⟨_,rfl,_⟩:=h;rfl
 .obtain⟨xs,rfl,hl,hd,hR⟩:=h;have D_:∀k:Nat,k<40->atI (xs.map D.int) (k:Int)=be (.int (cell xs k)):=λk hk=>cM v4 (by simpa using(v4:k<xs.length));have a0:atI (xs.map D.int) 0=be (.int (cell xs 0)):=D_ 0 Mx;have a1:atI (xs.map D.int) 1=be (.int (cell xs 1)):=D_ 1 Mx;have a2:atI (xs.map D.int) 2=be (.int (cell xs 2)):=D_ 2 Mx;have a3:atI (xs.map D.int) 3=be (.int (cell xs 3)):=D_ 3 Mx;clear hl;refine#[λd=>∃v:Int,d=.int v/\1<=v/\v<=8,#[_,a0,Mx,_,rfl,v4],?_];rintro _⟨w0,rfl,UT⟩;k_places;refine#[λd=>∃v:Int,d=.int v/\1<=v/\v<=8,#[_,a1,Mx,_,rfl,v4],?_];rintro _⟨t0,rfl,UU⟩;k_places;refine#[λz=>∃w t:Nat,z=[be (.lst (xs.map D.int)),be (.int w),be (.int t),LH,LH,LH,LH,LH,LH,LH]/\(1<=w/\w<=8)/\(1<=t/\t<=8),#[_,a2,Mx,ite2 (λ_=>?_) (λ_=>?_)],?_]
  .refine#[λd=>∃v:Nat,d=.int v/\1<=v/\v<=8,#[_,a0,Mx,(1+cell xs 0%8).toNat,by rw[ID v4],v4],?_];rintro _⟨w,rfl,hw⟩;k_places;refine#[λd=>∃v:Nat,d=.int v/\1<=v/\v<=8,#[_,a1,Mx,(1+cell xs 1%8).toNat,by rw[ID v4],v4],?_];rintro _⟨t,rfl,ht⟩;k_places;exact#[w,t,rfl,hw,ht]
  .obtain⟨w,rfl⟩:∃w:Nat,w0=(w:Int):=#[w0.toNat,v4];obtain⟨t,rfl⟩:∃t:Nat,t0=(t:Int):=#[t0.toNat,v4];exact#[w,t,rfl,v4,v4]
  rintro _⟨w,t,rfl,hw,ht⟩;k_places;obtain⟨sg,es,hs⟩:=Cs (cell xs 3);refine#[λd=>d=.str sg,#[MF,_,a3,Mx,_,es,rfl],?_];rintro _ rfl;k_places;refine#[MF,?_];refine#[#[v4,v4],λk z=>∃(L:List Ms) (o1 o2 o3 o4 o5:Option D),z=[be (.lst (xs.map D.int)),be (.int w),be (.int t),be (.str sg),be (.own (L.map D.str)),o1,o2,o3,o4,o5]/\L.length=k/\∀l∈L,l.length=w/\∀c∈cs l,bb c,#[[],_,_,_,_,_,rfl,rfl,(λx hx=>by cases hx)],?_,?_]
  .rintro j x z hj⟨L,o1,o2,o3,o4,o5,rfl,hL,Ob⟩;k_places;have LZ:j<t:=by simpa using(Ia.mp hj).1
   have ex:x=.int (j:Int):=by simp[LZ]at hj;exact hj.symm
   subst ex;refine#[λd=>d=.str "",rfl,?_];rintro _ rfl;k_places;refine#[#[v4,v4],λi z=>∃(ln:Ms) (o3 o4 o5:Option D),z=[be (.lst (xs.map D.int)),be (.int w),be (.int t),be (.str sg),be (.own (L.map D.str)),be (.int j),be (.str ln),o3,o4,o5]/\ln.length=i/\∀c∈cs ln,bb c,#[_,_,_,_,rfl,rfl,(λc hc=>by rw[vC]at hc;cases hc)],?_,?_]
   .rintro i y z hi⟨ln,o3,o4,o5,rfl,OY,Qr⟩;k_places;have j7:i<w:=by simpa using(Ia.mp hi).1
    have ey:y=.int (i:Int):=by simp[j7]at hi;exact hi.symm
    subst ey;have pb:=bT (a:=(j:Int)) (d:=(w:Int)) (A:=7) (B:=8) v4 v4;have pn:0<=(j:Int)*(w:Int):=Ki v4 v4;refine#[λd=>∃p:Nat,d=.int p/\p<=63,#[.inl #[v4,v4],((j:Int)*w+i).toNat,by rw[ID v4],v4],?_];rintro _⟨p,rfl,hp⟩;k_places;obtain⟨m,em,hm⟩:=Ct (p:Int);have ap:=D_ (8+p/2) v4;have ec:((8+p/2:Nat):Int)=8+(p:Int)/2:=v4
    rw[ec]at ap;refine#[λd=>∃v:Int,d=.int v,#[#[Mx,Mx],_,ap,MF,Mx,_,em,#[v4,v4],Mx,_,rfl],?_];rintro _⟨v,rfl⟩;k_places;obtain⟨c,⟨h1,h2⟩,h3⟩:=Cn hs v;refine#[λd=>∃x:Ms,d=.str x/\x.length=i+1/\∀c∈cs x,bb c,#[h1,by have:=hs.1;lia,c,#[h1,h2],?_,_,rfl,Cu OY Qr h3],?_]
    .rw[OY];show i+1<=1000000;lia
    rintro _⟨x,rfl,g1,g2⟩;k_places;exact#[x,_,_,_,rfl,g1,g2]
   .rintro z⟨ln,o3,o4,o5,rfl,OY,Qr⟩;k_places;have Qt:ln.length=w:=by simpa using OY
    refine#[by simp[hL];lia,?_];rw[Cw];refine#[_,_,_,_,_,_,rfl,by simp[hL],λl hl=>?_];rcases Iw.mp hl with q|q
    .exact Ob l q
    .rw[HN.mp q];exact#[Qt,Qr]
  .rintro z⟨L,o1,o2,o3,o4,o5,rfl,hL,Ob⟩;k_places;exact hR L (Rows.of ht.1 ht.2 (by simpa using hL) hw.1 hw.2 Ob)
abbrev qe(V:Bx):Prop:=V.D 1 "_law_shift_pair" ml Cm
def FL(T:V.T "_law_shift_pair" mj ml)(uF:V.m "int"):qe V:=by
 refine Tx.okDW T sc__law_shift_pair (λds R h=>?_) (λf cdv A outer s H E J hr=>⟨_,((ai (aS (bp (aD (aZ (af (aa 0) ad) ad) ad) ad) (aj (ay (bf (ac (aJ (ac (am ad (aD (af (aa 0) ad) ad)) (ac ad ae))) (ac (aJ (ac ad (ac (am ad (aD (af (aa 0) ad) ad)) ae))) ae))))) aO)
   (ai (aS (bp (aD (aZ (af (aa 0) ad) ad) ad) ad) (aj (ay (bf (ac (aJ (ac (am ad (aD (af (aa 0) ad) ad)) (ac ad ae))) (ac (aJ (ac (bx (aD (af (aa 0) ad) ad) ad) (ac (am ad (aD (af (aa 0) ad) ad)) ae))) ae))))) aO)
   (ai (ao 1 sc__law_shift_pair.nd (bx (aD (af (aa 0) ad) ad) ad))
   (ai (ao 2 sc__law_shift_pair.nd (bx (aD (af (aa 0) ad) ad) ad))
   (ai (ao 3 sc__law_shift_pair.nd (bx (aD (af (aa 0) ad) ad) ad))
   (ai (ao 4 sc__law_shift_pair.nd (bx (aD (af (aa 0) ad) ad) ad))
   (ai (ao 1 sc__law_shift_pair.nd (am (aa 1) (hZ uF (ac (fZ (dg (aa 1) ad) (fY (dg (aa 2) ad))) ae))))
   (ai (aS (bp (az (aa 1) (aa 4)) (az (aa 2) (aa 3))) (aj (ay (bf (ac (aJ (ac (aa 1) (ac (aa 2) ae))) (ac (aJ (ac (cq (aa 2)) (ac (aa 1) ae))) ae))))) aO)
   (aj (ay (bf (ac (aJ (ac (aa 1) (ac (aa 2) ae))) (ac (aJ (ac (aa 3) (ac (aa 4) ae))) ae)))))))))))))),λds R h=>?_⟩)
 .obtain⟨_,rfl,_⟩:=h;rfl
 .obtain⟨xs,rfl,hl,hd,hR⟩:=h;have a3:=cM (xs:=xs) (k:=3) Mx (show 3<xs.length by lia);have a4:=cM (xs:=xs) (k:=4) Mx (show 4<xs.length by lia);have a5:=cM (xs:=xs) (k:=5) Mx (show 5<xs.length by lia);have a6:=cM (xs:=xs) (k:=6) Mx (show 6<xs.length by lia);have a7:=cM (xs:=xs) (k:=7) Mx (show 7<xs.length by lia);generalize cell xs 3=x3 at*;generalize cell xs 4=x4 at*;generalize cell xs 5=x5 at*;generalize cell xs 6=x6 at*;generalize cell xs 7=x7 at*;clear hl hd;refine#[_,a3,#[Mx,Mx],Mx,ite2 (λ_=>?_) (λ_=>?_)]
  .refine#[_,a4,Mx,MF,_,a5,Mx,MF,MF,hR _ _ _ _ v4 v4 v4 v4 ?_];have p:0<(1+x4%6)*(1+x5%6):=Ii v4 v4;lia
  refine#[_,a3,#[Mx,Mx],Mx,ite2 (λ_=>?_) (λ_=>?_)]
  .refine#[_,a4,Mx,MF,_,a6,Mx,_,a5,Mx,MF,MF,hR _ _ _ _ v4 v4 v4 v4 ?_];have p:0<(1+x4%6)*(1+x5%4):=Ii v4 v4;lia
  refine#[λd=>∃v:Int,d=.int v/\-12<=v/\v<=12,#[_,a4,Mx,_,rfl,v4],?_];rintro _⟨a,rfl,ha⟩;k_places;refine#[λd=>∃v:Int,d=.int v/\-12<=v/\v<=12,#[_,a5,Mx,_,rfl,v4],?_];rintro _⟨b,rfl,hb⟩;k_places;refine#[λd=>∃v:Int,d=.int v/\-12<=v/\v<=12,#[_,a6,Mx,_,rfl,v4],?_];rintro _⟨c,rfl,hc⟩;k_places;refine#[λd=>∃v:Int,d=.int v/\-12<=v/\v<=12,#[_,a7,Mx,_,rfl,v4],?_];rintro _⟨d,rfl,e_⟩;k_places;refine#[λx=>∃v:Int,x=.int v/\(-12<=v/\v<=12)/\¬(v=0/\b=0),ite2 (λe=>?_) (λe=>?_),?_]
  .have e':=of_decide_eq_true e;by_cases Se:b=0
   .refine#[_,rfl,?_];subst e' Se;simp
   .refine#[_,rfl,?_];subst e';simp[Se]
  .have e':=of_decide_eq_false (Iy.mpr e);refine#[_,rfl,?_];simp;lia
  rintro _⟨a,rfl,ha,Oc⟩;k_places;refine#[.inl (i64 ha.1 ha.2),.inl (i64 hb.1 hb.2),ite2 (λe=>?_) (λe=>?_)]
  .refine#[MF,MF,MF,hR a b (-b) a ha hb v4 ha ?_];rw[J3];intro z;have s1:0<=a*a:=sq0 a;have s2:0<=b*b:=sq0 b;have z1:a*a=0:=by omega
   have z2:b*b=0:=MD
   exact Oc #[(Kq.mp z1).elim id id,(Kq.mp z2).elim id id]
  .have e':=of_decide_eq_false (Iy.mpr e);exact#[MF,MF,MF,hR a b c d ha hb hc e_ e']
abbrev qf(V:Bx):Prop:=V.D 1 "_law_motif_text" mn Cz
def FM(T:V.T "_law_motif_text" mm mn)(uM:V.m "str"):qf V:=by
 refine Tx.okDW T sc__law_motif_text (λds R h=>?_) (λf cdv A outer s H E J hr=>⟨_,((ai (ao 3 sc__law_motif_text.nd (am (am (am (am (am (am (am ax (dv uM (ac (af (aa 1) ad) ae))) ax) (dv uM (ac (af (aa 1) ad) ae))) ax) (dv uM (ac (af (aa 2) ad) ae))) ax) (dv uM (ac (af (aa 2) ad) ae))))
   (aj (ay (am (am (am ax (kR (aa 0))) (aa 3)) ax))))),λds R h=>?_⟩)
 .obtain⟨_,_,_,_,_,rfl,_⟩:=h;rfl
 .obtain⟨L,a,b,c,d,rfl,hL,ha,hb,hc,hd,hR⟩:=h;have la:=bJ ha;have lb:=bJ hb;have lc:=bJ hc;have ld:=bJ hd;have l1:(";":Ms).length=1:=rfl;have l2:(",":Ms).length=1:=rfl;have l3:("[":Ms).length=1:=rfl;have l4:("]":Ms).length=1:=rfl;have ls:=vE hL;have lj:=StrLaws.join_length_le "/" L;unfold B12 at ha hb hc hd;refine#[λx=>x=.str ((((((((";":Ms)++(toString a:String))++",")++(toString b:String))++";")++(toString c:String))++",")++(toString d:String)),#[_,rfl,v4,?_,?_,_,rfl,v4,?_,?_,_,rfl,v4,?_,?_,_,rfl,v4,?_,rfl],?_]
  .lia
  .rw[aI];lia
  .rw[aI,aI];lia
  .rw[aI,aI,aI];lia
  .rw[aI,aI,aI,aI];lia
  .rw[aI,aI,aI,aI,aI];lia
  .rw[aI,aI,aI,aI,aI,aI];lia
  rintro _ rfl;k_places;have lg:(Txt.join "/" L).length<=72:=by
   have e:Txt.join "/" L=Str.join "/" L:=StrLaws.glued_eq_join _ _;rw[e];exact HZ lj ls
  refine#[L,lL L,v4,?_,?_,?_,hR]
  .lia
  .repeat rw[aI]
   lia
  .repeat rw[aI]
   lia
abbrev jx(V:Bx):Prop:=V.D 3 "_law_motif" mv CB
def FN(T:V.T "_law_motif" mo mv)(Nf:jw V)(Qu:qd V)(Qv:qe V)(Qw:qf V):jx V:=by
 refine Tx.okDW T sc__law_motif (λds R h=>?_) (λf cdv A outer s H E J hr=>⟨_,((ai (ao 2 sc__law_motif.nd (aw Nf hr (ac (aa 0) (ac (aa 1) (ac ad ae)))))
   (ai (ao 3 sc__law_motif.nd (aw Qu hr (ac (aa 2) ae)))
   (ai (Af rfl (aw Qv hr (ac (aa 2) ae)) (dg_cons 4 sc__law_motif.nd (dg_cons 5 sc__law_motif.nd du)))
   (ai (ao 6 sc__law_motif.nd (aJ (ac (aa 3) (ac (aa 4) (ac (aa 5) (ac (aJ (ac ad (ac ad (ac ad (ac ad (ac ad (ac ad ae))))))) (ac (bf (ac ad (ac ad (ac ad (ac ad (ac ad (ac ad (ac ad ae)))))))) ae)))))))
   (aj (ay (bf (ac (aw Qw hr (ac (aa 3) (ac (aa 4) (ac (aa 5) ae)))) (ac ad (ac (bf (ac (aa 6) ae)) ae))))))))))),λds R h=>?_⟩)
 .obtain⟨_,_,rfl,_⟩:=h;rfl
 .obtain⟨ns,k,rfl,hk,hR⟩:=h;refine#[λx=>∃xs:List Int,x=.lst (xs.map D.int)/\xs.length=40/\Drawn xs,#[ns,k,40,rfl,hk,Mx,λxs h1 h2=>#[xs,rfl,h1,h2]],?_];rintro _⟨xs,rfl,hl,hd⟩;k_places;refine#[λx=>∃L:List Ms,x=.lst (L.map D.str)/\Rows L,#[xs,rfl,v4,hd,λL h=>#[L,rfl,h]],?_];rintro _⟨L,rfl,hL⟩;k_places;refine#[xs,rfl,v4,hd,λa b c d ha hb hc e_ hn=>#[rfl,?_]];refine#[λx=>x=(bz L a b c d).D,#[MF,MF,MF,rfl],?_];rintro _ rfl;k_places;exact#[L,a,b,c,d,rfl,hL,ha,hb,hc,e_,MF,MF,hR L a b c d hL ha hb hc e_ hn]
abbrev gI(V:Bx):Prop:=V.D 1 "_law_wrapped" mx CL
def FO(T:V.T "_law_wrapped" iG mx)(uM:V.m "str")(v_:V.m "list")(uF:V.m "int"):gI V:=by
 refine Tx.okDW T sc__law_wrapped (λds R h=>?_) (λf cdv A outer s H E J hr=>⟨_,((ai (aS (tw (af (aa 0) ad) ad) (aj (ay (aa 0))) aO)
   (ai (ao 2 sc__law_wrapped.nd (bx (aD (aZ (aa 1) ad) ad) ad))
   (ai (ao 3 sc__law_wrapped.nd (bx (aD (aZ (aa 1) ad) ad) ad))
   (ai (ao 4 sc__law_wrapped.nd (am ad (aD (aZ (aa 1) ad) ad)))
   (ai (ao 5 sc__law_wrapped.nd (am ad (aD (aZ (aa 1) ad) ad)))
   (ai (ao 6 sc__law_wrapped.nd (am (am (am (am ax (dv uM (ac (aa 2) ae))) ax) (dv uM (ac (aa 3) ae))) ax))
   (ai (ao 7 sc__law_wrapped.nd (af (bf (ac ax (ac ax (ac (aa 6) (ac (am (am ax (dv uM (ac (aa 4) ae))) (dv uM (ac (aa 5) ae))) ae))))) (aD (aa 1) ad)))
   (ai (ao 8 sc__law_wrapped.nd (bf (ac (aJ (ac (cq ad) (ac ad (ac ad (ac ad (ac ad (ac ad ae))))))) (ac (aJ (ac ad (ac ad (ac (cq ad) (ac ad (ac ad (ac ad ae))))))) ae))))
   (ai (ao 8 sc__law_wrapped.nd (am (aa 8) (bf (ac (aJ (ac ad (ac ad (ac ad (ac ad (ac (cq (aa 2)) (ac (cq (aa 3)) ae))))))) (ac (aJ (ac ad (ac ad (ac ad (ac ad (ac ad (ac ad ae))))))) ae)))))
   (ai (ao 9 sc__law_wrapped.nd (af (aa 8) (aD (aa 1) ad)))
   (ai (gc 10 sc__law_wrapped.nd ae)
   (ai (hV 11 PassesOwn.never rfl sc__law_wrapped.nd (af (aa 0) ad) (ai (kO rfl (af (aa 11) ad) (dg_cons 12 sc__law_wrapped.nd (dg_cons 13 sc__law_wrapped.nd (dg_cons 14 sc__law_wrapped.nd (dg_cons 15 sc__law_wrapped.nd (dg_cons 16 sc__law_wrapped.nd (dg_cons 17 sc__law_wrapped.nd du)))))))
    (ai (ao 18 sc__law_wrapped.nd (aJ (ac (am (az (aa 12) (af (aa 9) ad)) (az (aa 13) (af (aa 9) ad))) (ac (am (az (aa 12) (af (aa 9) ad)) (az (aa 13) (af (aa 9) ad))) ae))))
    (ai (ao 18 sc__law_wrapped.nd (am (aa 18) (aJ (ac (am (az (aa 14) (af (aa 9) ad)) (az (aa 15) (af (aa 9) ad))) (ac (am (az (aa 14) (af (aa 9) ad)) (az (aa 15) (af (aa 9) ad))) ae)))))
    (ai (ao 16 sc__law_wrapped.nd (am (am (aa 16) (az (aa 12) (af (aa 9) ad))) (az (aa 13) (af (aa 9) ad))))
    (ai (ao 17 sc__law_wrapped.nd (am (am (aa 17) (az (aa 14) (af (aa 9) ad))) (az (aa 15) (af (aa 9) ad))))
    (ai (ao 19 sc__law_wrapped.nd (zV v_ (ac (af (aa 11) ad) ae)))
    (ai (fj (bp (aD (aa 1) ad) ad) (aj (Ak 19 rfl (compScope (by change dz _ (ah iG) ["_law_part","_law_draw","_law_across","_law_down","_law_old","_law_new","_law_shift","_law_head","_law_ways","_law_by","_law_leaves","_law_leaf","_law_a","_law_b","_law_c","_law_d","_law_e","_law_f","_law_way","_law_hues"] _=true;decide+kernel)) sc__law_wrapped.nd (af (aa 11) ad) (λcl s0 H0 fp=>(af (bf (ac (aa 20) (ac (aa 5) ae))) (hZ uF (ac (dg (aa 20) (aa 4)) ae)))))) aO)
    (aj (gf 10 (aJ (ac (af (aa 11) ad) (ac (af (aa 11) ad) (ac (af (aa 11) ad) (ac (am (aa 18) (aJ (ac (aa 16) (ac (aa 17) ae)))) (ac (aa 19) ae))))))))))))))))
   (dm 10 (aj (ay (bf (ac (am (aa 7) (af (aa 0) ad)) (ac (am (af (aa 0) ad) ad) (ac (aa 10) ae)))))))))))))))))))),λds R h=>?_⟩)
 .obtain⟨_,_,rfl,_⟩:=h;rfl
 .obtain⟨p,draw,rfl,wf,hd,ht,hW⟩:=h;refine#[_,rfl,ite2 (λc=>?_) (λc=>?_)]
  .have c':=of_decide_eq_true c;exact hW.1 v4
  have c':=of_decide_eq_false (Iy.mpr c);have e_:p.depth<5:=v4
  refine#[λd=>∃v:Int,d=.int v/\B12 v,#[#[Mx,Mx],Mx,_,rfl,by unfold B12;lia],?_];rintro _⟨A,rfl,hA⟩;simp only[Ij,Il,aW];refine#[λd=>∃v:Int,d=.int v/\B12 v,#[#[Mx,Mx],Mx,_,rfl,by unfold B12;lia],?_];rintro _⟨B,rfl,hB⟩;simp only[Ij,Il,aW];refine#[λd=>∃v:Int,d=.int v/\1<=v/\v<=6,#[#[Mx,Mx],Mx,_,rfl,v4],?_];rintro _⟨d8,rfl,ho⟩;simp only[Ij,Il,aW];refine#[λd=>∃v:Int,d=.int v/\1<=v/\v<=6,#[#[Mx,Mx],Mx,_,rfl,v4],?_];rintro _⟨new,rfl,hn⟩;simp only[Ij,Il,aW];have l1:("s":Ms).length=1:=rfl;have l2:(",":Ms).length=1:=rfl;have l3:(":":Ms).length=1:=rfl;have l4:("h":Ms).length=1:=rfl;have lA:=bJ hA;have lB:=bJ hB;have lo:=fD ho;have ln:=fD hn;obtain⟨hs,b0,b1,b2,b3,b4,b5,e1,e2,hb,hl,hR⟩:=CJ hW e_ (k:=0) hA hB ho hn v4;unfold B12 at hA hB;refine#[λx=>x=.str ((((("s":Ms)++(toString A:String))++",")++(toString B:String))++":"),#[v4,?_,?_,v4,?_,?_,rfl],?_]
  .lia
  .rw[aI];lia
  .rw[aI,aI];lia
  .rw[aI,aI,aI];lia
  rintro _ rfl;simp only[Ij,Il,aW];refine#[λx=>x=.str hs,#[v4,?_,v4,?_,MF,Mx,_,e1,rfl],?_]
  .lia
  .rw[aI];lia
  rintro _ rfl;simp only[Ij,Il,aW];refine#[λx=>x=.lst [D.tup [.int (-1),.int 0,.int 0,.int 1,.int 0,.int 0],D.tup [.int 0,.int 1,.int (-1),.int 0,.int 0,.int 0]],#[MF,MF,MF,rfl],?_];rintro _ rfl;simp only[Ij,Il,aW];refine#[λx=>x=.lst ([D.tup [.int (-1),.int 0,.int 0,.int 1,.int 0,.int 0],D.tup [.int 0,.int 1,.int (-1),.int 0,.int 0,.int 0]]++[D.tup [.int 1,.int 0,.int 0,.int 1,.int (-A),.int (-B)],D.tup [.int 1,.int 0,.int 0,.int 1,.int 0,.int 0]]),#[MF,MF,MF,MF,rfl],?_];rintro _ rfl;simp only[Ij,Il,aW];refine#[λx=>x=.tup [.int b0,.int b1,.int b2,.int b3,.int b4,.int b5],#[Mx,_,e2,rfl],?_];rintro _ rfl;simp only[Ij,Il,aW];refine#[MF,?_];generalize D.str ((((("s":Ms)++(toString A:String))++",")++(toString B:String))++":")=sD;generalize D.lst ([D.tup [.int (-1),.int 0,.int 0,.int 1,.int 0,.int 0],D.tup [.int 0,.int 1,.int (-1),.int 0,.int 0,.int 0]]++[D.tup [.int 1,.int 0,.int 0,.int 1,.int (-A),.int (-B)],D.tup [.int 1,.int 0,.int 0,.int 1,.int 0,.int 0]])=wD;clear e1 e2 hW lA lB lo ln l1 l2 l3 l4 hA hB c';refine#[_,rfl,λk z=>∃u8 MU p8 w6 Qx Qy Qz QA Ng:Option D,z=[be p.D,be (.int draw),be (.int A),be (.int B),be (.int d8),be (.int new),be sD,be (.str hs),be wD,be (.tup [.int b0,.int b1,.int b2,.int b3,.int b4,.int b5]),be (.own (((p.leaves.take k).map (Leaf.T (decide (draw%4=3)) d8 new b0 b1 b2 b3 b4 b5)).map Leaf.D)),u8,MU,p8,w6,Qx,Qy,Qz,QA,Ng],#[_,_,_,_,_,_,_,_,_,rfl],?_,?_]
  .rintro k v z hk⟨u8,MU,p8,w6,Qx,Qy,Qz,QA,Ng,rfl⟩;k_places;rw[H9]at hk;have o8:k<p.leaves.length:=by
    rcases Jr k p.leaves.length with q|q
    .exact q
    .rw[IF q]at hk;cases hk
   have Nh:p.leaves[k]?=be p.leaves[k]:=Ih o8;rw[Nh]at hk;cases hk;obtain⟨gd,nr⟩:=Pat.leaf_good wf p.leaves[k] (Iv o8);have b8:(p.leaves.take k).length<=1000:=by rw[JC];have:=Pat.leaves_32 hd;lia
   generalize p.leaves[k]=l at Nh gd nr;obtain⟨r0,r1,r2,r3⟩:=nr.unit;obtain⟨q0,q1,q2,q3,q4,q5⟩:=hb;refine#[_,rfl,rfl,?_];simp only[Ij,Il,aW];refine#[λx=>x=.tup [.int (l.w0*b0+l.w1*b2),.int (l.w0*b1+l.w1*b3)],#[_,rfl,.inr (n64 q0),_,rfl,.inr (n64 q2),_,rfl,.inr (n64 q1),_,rfl,.inr (n64 q3),MF,rfl],?_];rintro _ rfl;simp only[Ij,Il,aW];refine#[λx=>x=.tup [.int (l.w0*b0+l.w1*b2),.int (l.w0*b1+l.w1*b3),.int (l.w2*b0+l.w3*b2),.int (l.w2*b1+l.w3*b3)],#[_,rfl,.inr (n64 q0),_,rfl,.inr (n64 q2),_,rfl,.inr (n64 q1),_,rfl,.inr (n64 q3),MF,MF,rfl],?_];rintro _ rfl;simp only[Ij,Il,aW];refine#[λx=>x=.int (l.w4+l.w0*b4+l.w1*b5),#[_,rfl,.inr (n64 q4),_,rfl,.inr (n64 q5),rfl],?_];rintro _ rfl;simp only[Ij,Il,aW];refine#[λx=>x=.int (l.w5+l.w2*b4+l.w3*b5),#[_,rfl,.inr (n64 q4),_,rfl,.inr (n64 q5),rfl],?_];rintro _ rfl;simp only[Ij,Il,aW];refine#[λx=>x=.lst (l.hues.map D.int),#[_,rfl,rfl],?_];rintro _ rfl;simp only[Ij,Il,aW];refine#[λz=>∃Ng:List Int,Ng=(Leaf.T (decide (draw%4=3)) d8 new b0 b1 b2 b3 b4 b5 l).hues/\z=[be p.D,be (.int draw),be (.int A),be (.int B),be (.int d8),be (.int new),be sD,be (.str hs),be wD,be (.tup [.int b0,.int b1,.int b2,.int b3,.int b4,.int b5]),be (.own (((p.leaves.take k).map (Leaf.T (decide (draw%4=3)) d8 new b0 b1 b2 b3 b4 b5)).map Leaf.D)),be l.D,be (.int l.w0),be (.int l.w1),be (.int l.w2),be (.int l.w3),be (.int (l.w4+l.w0*b4+l.w1*b5)),be (.int (l.w5+l.w2*b4+l.w3*b5)),be (.tup [.int (l.w0*b0+l.w1*b2),.int (l.w0*b1+l.w1*b3),.int (l.w2*b0+l.w3*b2),.int (l.w2*b1+l.w3*b3)]),be (.lst (Ng.map D.int))],#[Mx,ite2 (λc=>?_) (λc=>?_)],?_]
   .have c3:=of_decide_eq_true c;refine#[λx=>x=.lst ((l.hues.map (bM d8 new)).map D.int),#[_,rfl,by rw[HV,gd.many];decide,λk ys=>ys=((l.hues.take k).map (bM d8 new)).map D.int,rfl,?_,?_],?_]
    .rintro k' x ys hx hl rfl;rw[H9]at hx;cases e:l.hues[k']? with
     |none=>rw[e]at hx;cases hx
     |some hu=>
      rw[e]at hx;cases hx;refine#[MF,_,CK hu d8 new,?_];dsimp only;rw[lN e];simp
    .rintro ys hl rfl;rw[HV,J2]
    .rintro _ rfl;k_places;exact#[_,by simp[Leaf.T,c3,Leaf.dye,Leaf.by],rfl]
   .have c3:=of_decide_eq_false (Iy.mpr c);exact#[_,by simp[Leaf.T,c3,Leaf.by],rfl]
   rintro _⟨hu,TZ,rfl⟩;k_places;refine#[_,rfl,_,rfl,_,rfl,MF,MF,MF,by rw[HV,HV];lia,?_];have eT:(D.tup [.lst (l.rows.map D.str),.tup [.int l.a,.int l.b],.tup [.int l.c,.int l.d],.tup ([.int (l.w0*b0+l.w1*b2),.int (l.w0*b1+l.w1*b3),.int (l.w2*b0+l.w3*b2),.int (l.w2*b1+l.w3*b3)]++[.int (l.w4+l.w0*b4+l.w1*b5),.int (l.w5+l.w2*b4+l.w3*b5)]),.lst (hu.map D.int)])=(Leaf.T (decide (draw%4=3)) d8 new b0 b1 b2 b3 b4 b5 l).D:=by
    rw[TZ];by_cases c3:draw%4=3
    .simp[Leaf.T,c3,Leaf.D,Leaf.dye,Leaf.by]
    .simp[Leaf.T,c3,Leaf.D,Leaf.by]
   have e9:((p.leaves.take (k+1)).map (Leaf.T (decide (draw%4=3)) d8 new b0 b1 b2 b3 b4 b5)).map Leaf.D=((p.leaves.take k).map (Leaf.T (decide (draw%4=3)) d8 new b0 b1 b2 b3 b4 b5)).map Leaf.D++[(Leaf.T (decide (draw%4=3)) d8 new b0 b1 b2 b3 b4 b5 l).D]:=by
    rw[lN Nh,IA,IA,Ik,Ik,Jo,Jo]
   rw[e9,<-eT];exact#[_,_,_,_,_,_,_,_,_,rfl]
  .rintro z⟨u8,MU,p8,w6,Qx,Qy,Qz,QA,Ng,rfl⟩;k_places;rw[HV,J2];refine#[_,rfl,v4,_,rfl,MF,hR]
abbrev jy(V:Bx):Prop:=V.D 1 "_law_gcd" mz Cd
def FP(T:V.T "_law_gcd" my mz)(uT:V.m "abs"):jy V:=by
 refine Tx.okDW T sc__law_gcd (λds R h=>?_) (λf cdv A outer s H E J hr=>⟨_,((ai (ao 0 sc__law_gcd.nd (eY uT (ac (aa 0) ae)))
   (ai (ao 1 sc__law_gcd.nd (eY uT (ac (aa 1) ae)))
   (ai (gh PassesOwn.never (bE (aa 1) ad) (aj (zQ 0 1 rfl sc__law_gcd.nd (ac (aa 1) (ac (aD (aa 0) (aa 1)) ae)))))
   (aj (ay (aa 0))))))),λds R h=>?_⟩)
 .obtain⟨x,y,rfl,_⟩:=h;rfl
 .obtain⟨x,y,rfl,hR⟩:=h;refine#[λd=>d=.int (if x<0 then -x else x),rfl,?_];rintro _ rfl;k_places;refine#[λd=>d=.int (if y<0 then -y else y),rfl,?_];rintro _ rfl;k_places;have hx:0<=(if x<0 then -x else x):=by split<;>lia
  have hy:0<=(if y<0 then -y else y):=by split<;>lia
  have QB:∀e,(e∣(if x<0 then -x else x)/\e∣(if y<0 then -y else y))↔(e∣x/\e∣y):=λe=>by rw[vy,vy]
  generalize (if x<0 then -x else x)=a at hx QB ⊢;generalize (if y<0 then -y else y)=b at hy QB ⊢;refine#[λm z=>∃a b:Int,z=[be (.int a),be (.int b)]/\0<=a/\0<=b/\(∀e,(e∣a/\e∣b)↔(e∣x/\e∣y))/\m=b.toNat,#[_,a,b,rfl,hx,hy,QB,rfl],?_];rintro m z⟨a,b,rfl,ha,hb,Oc,rfl⟩;k_places;refine ite2 (λc=>?_) (λc=>?_)
  .have c':¬b=0:=by simpa using c
   have q1:=cU (a:=a) (show 0<b by lia);have q2:=cV (a:=a) (show 0<b by lia);refine#[v4,_,?_,b,a%b,rfl,hb,q1,λe=>?_,rfl]
   .lia
   .rw[<-Oc e];constructor
    .rintro⟨h1,h2⟩;exact#[(vz h1).mp h2,h1]
    .rintro⟨h1,h2⟩;exact#[h2,(vz h2).mpr h1]
  .have c':b=0:=by simpa using c
   subst c';have g:=(Oc a).mp #[Int.dvd_refl a,Int.dvd_zero a];exact hR a ha g.1 g.2 λe h1 h2=>((Oc e).mpr #[h1,h2]).1
abbrev jz(V:Bx):Prop:=V.D 1 "_law_on" mC Cb
def FQ(T:V.T "_law_on" mB mC):jz V:=by
 refine Tx.okDW T sc__law_on (λds R h=>?_) (λf cdv A outer s H E J hr=>⟨_,((ai (ao 4 sc__law_on.nd (bx (az (af (aa 0) ad) (af (aa 1) ad)) (az (af (aa 0) ad) (af (aa 1) ad))))
   (aj (ay (fZ (dg (sS (bx (az (aa 2) (af (aa 1) ad)) (az (aa 3) (af (aa 1) ad))) (aa 4)) ad) (fY (dg (sS (bx (az (af (aa 0) ad) (aa 3)) (az (af (aa 0) ad) (aa 2))) (aa 4)) ad))))))),λds R h=>?_⟩)
 .obtain⟨a,b,c,d,u,v,rfl,_⟩:=h;rfl
 .obtain⟨a,b,c,d,u,v,rfl,ha,hb,hc,hd,hn,hR⟩:=h;have Ni:∀{x:Int},x.natAbs<1073741824->-(2^64)<x/\x<2^64:=λh=>n64 (Nat.le_of_lt_succ h);refine#[λx=>x=.int (a*d-b*c),#[_,rfl,_,rfl,.inl (Ni ha),_,rfl,_,rfl,.inl (Ni hb),rfl],?_];rintro _ rfl;k_places;refine#[_,rfl,.inr (Ni hd),_,rfl,.inr (Ni hc),MD,ite2 (λe=>?_) (λe=>?_)]
  .have e':=of_decide_eq_true e;refine#[_,rfl,.inl (Ni ha),_,rfl,.inl (Ni hb),MD,?_];have q:decide ((a*v-b*u).fmod (a*d-b*c)=0)=decide ((u*d-v*c).fmod (a*d-b*c)=0/\(a*v-b*u).fmod (a*d-b*c)=0):=by simp[e']
   have g:R (.bl (decide ((a*v-b*u).fmod (a*d-b*c)=0))):=by rw[q];exact hR
   exact g
  .have e':=of_decide_eq_false (Iy.mpr e);have q:decide ((u*d-v*c).fmod (a*d-b*c)=0/\(a*v-b*u).fmod (a*d-b*c)=0)=false:=by simp[e']
   rw[q]at hR;exact hR
abbrev qg(V:Bx):Prop:=V.D 2 "_law_leaf_family" mF CN
def FR(T:V.T "_law_leaf_family" mD mF)(uT:V.m "abs")(Nj:jy V)(Nk:jz V):qg V:=by
 refine Tx.okDW T sc__law_leaf_family (λds R h=>?_) (λf cdv A outer s H E J hr=>⟨_,((ai (kO rfl (af (aa 0) ad) (dg_cons 1 sc__law_leaf_family.nd (dg_cons 2 sc__law_leaf_family.nd (dg_cons 3 sc__law_leaf_family.nd (dg_cons 4 sc__law_leaf_family.nd (dg_cons 5 sc__law_leaf_family.nd (dg_cons 6 sc__law_leaf_family.nd du)))))))
   (ai (ao 7 sc__law_leaf_family.nd (aJ (ac (am (az (aa 1) (af (af (aa 0) ad) ad)) (az (aa 3) (af (af (aa 0) ad) ad))) (ac (am (az (aa 2) (af (af (aa 0) ad) ad)) (az (aa 4) (af (af (aa 0) ad) ad))) ae))))
   (ai (ao 8 sc__law_leaf_family.nd (aJ (ac (am (az (aa 1) (af (af (aa 0) ad) ad)) (az (aa 3) (af (af (aa 0) ad) ad))) (ac (am (az (aa 2) (af (af (aa 0) ad) ad)) (az (aa 4) (af (af (aa 0) ad) ad))) ae))))
   (ai (ao 9 sc__law_leaf_family.nd (aw Nj hr (ac (af (aa 7) ad) (ac (af (aa 8) ad) ae))))
   (ai (ao 10 sc__law_leaf_family.nd (aZ (eY uT (ac (bx (az (af (aa 7) ad) (af (aa 8) ad)) (az (af (aa 7) ad) (af (aa 8) ad))) ae)) (aa 9)))
   (ai (ao 11 sc__law_leaf_family.nd ad)
   (ai (gh PassesOwn.never (cI (bI (aw Nk hr (ac (aa 7) (ac (aa 8) (ac (aa 11) (ac (aa 9) ae))))))) (aj (ao 11 sc__law_leaf_family.nd (am (aa 11) ad))))
   (aj (ay (aJ (ac (aa 10) (ac (aa 9) (ac (aa 11) ae)))))))))))))),λds R h=>?_⟩)
 .obtain⟨_,_,rfl,_⟩:=h;rfl
 .obtain⟨l,n,rfl,gd,nr,hR⟩:=h;obtain⟨h0,h1,h2,h3⟩:=nr.unit;obtain⟨z0,z1,z2,z3,ne,z5⟩:=Leaf.sizes gd nr;have ha:=gd.a;have hb:=gd.b;have hc:=gd.c;have hd:=gd.d;unfold B12 at ha hb hc hd;refine#[_,rfl,rfl,?_];simp only[Ij,Il,aW];refine#[λx=>x=.tup [.int l.o0,.int l.o1],#[_,rfl,_,rfl,.inl (u64 h0),_,rfl,_,rfl,.inl (u64 h2),_,rfl,_,rfl,.inl (u64 h1),_,rfl,_,rfl,.inl (u64 h3),MF,rfl],?_];rintro _ rfl;k_places;refine#[λx=>x=.tup [.int l.t0,.int l.t1],#[_,rfl,_,rfl,.inl (u64 h0),_,rfl,_,rfl,.inl (u64 h2),_,rfl,_,rfl,.inl (u64 h1),_,rfl,_,rfl,.inl (u64 h3),MF,rfl],?_];rintro _ rfl;k_places;generalize l.o0=o0 at*;generalize l.o1=o1 at*;generalize l.t0=t0 at*;generalize l.t1=t1 at*;refine#[λx=>∃g:Int,x=.int g/\0<=g/\g∣o1/\g∣t1/\∀e,e∣o1->e∣t1->e∣g,#[_,rfl,_,rfl,o1,t1,rfl,λg q0 q1 q2 q3=>#[g,rfl,q0,q1,q2,q3]],?_];rintro _⟨g,rfl,q0,q1,q2,q3⟩;k_places;obtain⟨w,s,f⟩:=CM ne q0 q1 q2 q3;have hg:=f.2.1;have k1:=bT (a:=o0) (d:=t1) (A:=24) (B:=24) z0 z3;have k2:=bT (a:=o1) (d:=t0) (A:=24) (B:=24) z1 z2;have UV:=f.bd (N:=288) z5;have g_:=f.cells;have ew:(if o0*t1-o1*t0<0 then -(o0*t1-o1*t0)else o0*t1-o1*t0)/g=w:=by
   have hp:=Ii f.1 hg;have:(if o0*t1-o1*t0<0 then -(o0*t1-o1*t0)else o0*t1-o1*t0)=w*g:=by split<;>lia
   rw[this];exact IC _ v4
  refine#[λx=>x=.int w,#[_,rfl,_,rfl,.inl (n64 z0),_,rfl,_,rfl,.inl (n64 z1),#[v4,v4],?_],?_]
  .exact congrArg D.int ew
  rintro _ rfl;k_places;refine#[λx=>x=.int 0,rfl,?_];rintro _ rfl;k_places;have hp:=Ii f.1 hg;refine#[λm z=>∃x:Int,z=[be l.D,be (.int l.w0),be (.int l.w1),be (.int l.w2),be (.int l.w3),be (.int l.w4),be (.int l.w5),be (.tup [.int o0,.int o1]),be (.tup [.int t0,.int t1]),be (.int g),be (.int w),be (.int x)]/\0<=x/\x<=s/\m=(s-x).toNat,#[_,0,rfl,v4,f.2.2.1,rfl],?_];rintro m z⟨x,rfl,x0,x1,rfl⟩;k_places;refine#[o0,o1,t0,t1,x,g,rfl,v4,v4,v4,v4,ne,?_];refine ite2 (λc=>?_) (λc=>?_)
  .have c':¬((x*t1-g*t0).fmod (o0*t1-o1*t0)=0/\(o0*g-o1*x).fmod (o0*t1-o1*t0)=0):=notT c;have xs:x≠s:=by
    rintro rfl;obtain⟨_,_,_,_,m',n',k',l',_,e1,e2,e3,e4⟩:=id f;exact c' (vt e3 e4)
   refine#[λd=>d=.int (x+1),rfl,?_];rintro _ rfl;k_places;exact#[_,v4,x+1,rfl,v4,v4,rfl]
  .have c':(x*t1-g*t0).fmod (o0*t1-o1*t0)=0/\(o0*g-o1*x).fmod (o0*t1-o1*t0)=0:=by
    exact notF c
   obtain⟨i,j,e1,e2⟩:=vL ne c';have:x=s:=f.uniq_lean e1 e2 x0 x1;subst this;exact#[MF,hR w g x f v4]
abbrev qh(V:Bx):Prop:=V.D 1 "_law_in_family" mH Ca
def FS(T:V.T "_law_in_family" mG mH):qh V:=by
 refine Tx.okDW T EH (λds R h=>?_) (λf cdv A outer s H E J hr=>#[_,((aj (ay (fZ (dg (aD (aa 2) (af (aa 0) ad)) ad) (fY (dg (aD (bx (aa 1) (az (aZ (aa 2) (af (aa 0) ad)) (af (aa 0) ad))) (af (aa 0) ad)) ad)))))),λds R h=>?_])
 .obtain⟨w,h,s,x,y,rfl,_⟩:=h;rfl
 .obtain⟨w,h,s,x,y,rfl,hw,hh,Ly,hs,i_,hR⟩:=h;refine#[_,rfl,hh,ite2 (λc=>?_) (λc=>?_)]
  .have c':=of_decide_eq_true c;refine#[_,rfl,#[hh,Ly],_,rfl,.inr #[v4,v4],_,rfl,hw,?_];have e:decide ((x-y/h*s)%w=0)=decide (y%h=0/\(x-y/h*s)%w=0):=by simp[c']
   have g:R (.bl (decide ((x-y/h*s)%w=0))):=by rw[e];exact hR
   exact g
  .have c':=of_decide_eq_false (Iy.mpr c);have e:decide (y%h=0/\(x-y/h*s)%w=0)=false:=by simp[c']
   rw[e]at hR;exact hR
abbrev qi(V:Bx):Prop:=V.D 2 "_law_both" mJ CQ
def FT(T:V.T "_law_both" mI mJ)(Nj:jy V)(QC:qh V):qi V:=by
  refine Tx.okDW T sc__law_both (λds R h=>?_) (λf cdv A outer s H E J hr=>⟨_,((ai (ao 2 sc__law_both.nd (aZ (az (af (aa 0) ad) (af (aa 1) ad)) (aw Nj hr (ac (af (aa 0) ad) (ac (af (aa 1) ad) ae)))))
      (ai (ao 3 sc__law_both.nd (af (aa 0) ad))
      (ai (gh PassesOwn.never (kL (az (aa 2) (aa 3)) ad) (ai (ao 4 sc__law_both.nd (aD (az (af (aa 0) ad) (aZ (aa 3) (af (aa 0) ad))) (af (aa 0) ad)))
        (ai (gh PassesOwn.never (eZ (aa 4) (aa 2)) (ai (aS (bI (aw QC hr (ac (aa 1) (ac (aa 4) (ac (aa 3) ae))))) (aj (ay (aJ (ac (aa 2) (ac (aa 3) (ac (aa 4) ae)))))) aO)
          (aj (ao 4 sc__law_both.nd (am (aa 4) (af (aa 0) ad))))))
        (aj (ao 3 sc__law_both.nd (am (aa 3) (af (aa 0) ad)))))))
      (aj (ay bO)))))),λds R h=>?_⟩)
  . obtain⟨_,_,_,_,_,_,rfl,_⟩:=h;rfl
  . obtain⟨w1,h1,s1,w2,h2,s2,rfl,f1,f2,hR⟩:=h;obtain⟨a1,a2,a3,a4,a5,a6⟩:=f1;obtain⟨b1,b2,b3,b4,b5,b6⟩:=f2;obtain⟨g,u,W,Hh,S,A,M1,eW,M⟩:=CP #[a1,a2,a3,a4,a5,a6] #[b1,b2,b3,b4,b5,b6];have Sf:=hR W Hh S A M;have wb:W<=518400:=by
      have:=(lK a1 b1 M1).2.1;have:=bT (a:=w1) (d:=w2) (A:=720) (B:=720) v4 v4;lia
    have mw:=M.w0;have mh:=M.h0;have ms:=M.s0;have UW:=M.sw;refine#[λx=>x=.int W,#[_,rfl,_,rfl,.inl #[v4,v4],_,rfl,_,rfl,w1,w2,rfl,λG q0 q1 q2 q3=>?_],?_]
    . have eG:=M1.gcd q0 q1 q2 q3;subst eG;have hg:=M1.pos a1;have QE:=M1.le a1;exact#[#[hg,v4],by rw[<-eW]]
    rintro _ rfl;k_places;refine#[λx=>x=.int h1,#[_,rfl,rfl],?_];rintro _ rfl;k_places;obtain⟨i0,j0,eS,eH⟩:=M.up1;have T1:1<=j0:=by
      rcases(v4:j0<=0\/1<=j0)with z|z
      . have:=Jj z (show 0<=h1 by lia);lia
      . exact z
    refine#[λm z=>∃(j:Int) (o:Option D),z=[be (.tup [.int w1,.int h1,.int s1]),be (.tup [.int w2,.int h2,.int s2]),be (.int W),be (.int (j*h1)),o]/\1<=j/\j<=j0/\m=(j0-j).toNat,#[_,1,_,by rw[Int.one_mul];rfl,v4,T1,rfl],?_];rintro m z⟨j,o,rfl,L5,T3,rfl⟩;k_places;have T4:0<j*h1:=Ii v4 a3;have T5:j*h1<=Hh:=by
      rw[eH];exact Ix T3 v4
    have UX:=K1 T5 (show 0<=W by lia);refine#[.inl #[v4,v4],ite2 (λc=>?_) (λc=>?_)]
    . have c':=of_decide_eq_true c;have UY:j*h1<=720:=by
        have:=(dE (w:=W) (h:=j*h1) mw T4).2;lia
      have T6:j*h1/h1=j:=IC _ v4;refine#[λx=>∃v:Int,x=.int v/\0<=v/\v<w1/\∃i,v=i*w1+j*s1,#[_,rfl,_,rfl,#[v4,v4],.inl #[v4,v4],_,rfl,a1,_,rfl,cU a1,cV a1,?_],?_]
      . rw[T6];refine#[-(s1*j/w1),?_];have:=Ji (s1*j) w1;rw[this];have e1:s1*j=j*s1:=Iu _ _;have e2:w1*(s1*j/w1)=s1*j/w1*w1:=Iu _ _;rw[e2,Kl];lia
      rintro _⟨x0,rfl,x1,x2,i1,Sg⟩;k_places;refine#[λm z=>∃(x:Int),z=[be (.tup [.int w1,.int h1,.int s1]),be (.tup [.int w2,.int h2,.int s2]),be (.int W),be (.int (j*h1)),be (.int x)]/\0<=x/\(∃i,x=i*w1+j*s1)/\(j=j0->x<=S)/\m=(W-x).toNat,#[_,x0,rfl,x1,#[i1,Sg],λej=>?_,rfl],?_]
      . subst ej;obtain⟨k,ek,k0⟩:=CS a1 x2 x1 ms eS #[i1,Sg];have:=Ki k0 (show 0<=w1 by lia);lia
      rintro m z⟨x,rfl,y0,⟨i2,ex⟩,yS,rfl⟩;k_places;refine ite2 (λc=>?_) (λc=>?_)
      . have cW:=of_decide_eq_true c;refine#[w2,h2,s2,x,j*h1,rfl,b1,b3,v4,b5,v4,?_];refine ite2 (λq=>?_) (λq=>?_)
        . have q':=of_decide_eq_true q;obtain⟨i3,k3,e3,e4⟩:=CO q';obtain⟨z1,z2⟩:=M.high a3 L5 #[i2,ex] #[i3,k3,e3,e4];have QF:j*h1=Hh:=by lia
          have:=z2 QF y0 cW;subst this;have:=Sf.1 (by rw[<-QF];lia);rw[<-QF]at this;exact#[MF,this]
        . have q':=of_decide_eq_false (Iy.mpr q);refine#[λd=>d=.int (x+w1),#[_,rfl,rfl],?_];rintro _ rfl;k_places;refine#[_,v4,x+w1,rfl,v4,#[i2+1,NW],λej=>?_,rfl];subst ej;have hx:=yS rfl;have ne:x≠S:=by
            rintro rfl;obtain⟨i4,j4,e5,e6⟩:=M.up2;exact q' (in_fam (i:=i4) (j:=j4) b3 e5 (by rw[<-eH];exact e6))
          have:∃t:Int,S=x+t*w1:=#[i0-i2,by rw[ex];grind];obtain⟨t,et⟩:=this;have t1:1<=t:=by
            rcases(v4:t<=0\/1<=t)with z|z
            . have:=Jj z (show 0<=w1 by lia);lia
            . exact z
          have:=Ix t1 (show 0<=w1 by lia);lia
      . have cW:=of_decide_eq_false (Iy.mpr c);have UZ:j<j0:=by
          rcases(v4:j<j0\/j=j0)with z|z
          . exact z
          . have:=yS z;lia
        refine#[λd=>d=.int ((j+1)*h1),#[_,rfl,by congr 1;grind],?_];rintro _ rfl;k_places;exact#[_,v4,j+1,_,rfl,v4,v4,rfl]
    . have c':=of_decide_eq_false (Iy.mpr c);exact Sf.2 v4
abbrev jA(V:Bx):Prop:=V.D 3 "_law_family" mL lP
def FU(T:V.T "_law_family" mK mL)(OZ:qg V)(QH:qi V):jA V:=by
  refine Tx.okDW T sc__law_family (λds R h=>?_) (λf cdv A outer s H E J hr=>⟨_,((ai (ao 1 sc__law_family.nd (aw OZ hr (ac (af (aa 0) ad) ae)))
      (ai (hV 2 PassesOwn.never rfl sc__law_family.nd (Ad (aa 0) ad) (ai (ao 1 sc__law_family.nd (aw QH hr (ac (aa 1) (ac (aw OZ hr (ac (aa 2) ae)) ae))))
        (aj (aS (kM (aa 1) bO) (aj (ay bO)) aO))))
      (aj (ay (aa 1)))))),λds R h=>?_⟩)
  . obtain⟨_,_,rfl,_⟩:=h;rfl
  . obtain⟨ls,n,rfl,k6,hg,hR⟩:=h;cases ls with
    |nil=>exact absurd rfl k6
    |cons l0 ls=>
    refine#[λx=>∃w h s:Int,x=.tup [.int w,.int h,.int s]/\FamOf l0.o0 l0.o1 l0.t0 l0.t1 w h s/\w*h<=288,#[_,bD (j:=0) rfl,l0,n,rfl,(hg l0 HW).1,(hg l0 HW).2,λw h s f q=>#[w,h,s,rfl,f,q]],?_];rintro _⟨w0,h0,s0,rfl,f0,q0⟩;k_places
    try simp only[Ij,Il]
    have ec:cutD (JV Leaf.D (l0::ls)) (be 1) LH=ls.map Leaf.D:=by rw[Ik,cut1]
    refine#[λk z=>∃(w h s:Int) (o:Option D),z=[be (.lst ((l0::ls).map Leaf.D)),be (.tup [.int w,.int h,.int s]),o]/\Fam0 w h s/\w*h<=720/\∀x y,InF w h s x y↔bV (l0::ls.take k) x y,#[w0,h0,s0,_,rfl,#[f0.1,f0.2.1,f0.2.2.1,f0.2.2.2.1],v4,λx y=>?_],?_,?_]
    . rw[f0.lat];constructor
      . intro q l z;rcases HQ.mp z with e|e
        . rw[e];exact q
        . cases e
      . intro q;exact q l0 HW
    . rintro k v z hk⟨w,h,s,o,rfl,fm,Sh,lat⟩;k_places;rw[ec,H9]at hk;have o8:k<ls.length:=by
        rcases Jr k ls.length with q|q
        . exact q
        . rw[IF q]at hk;cases hk
      have Nh:ls[k]?=be ls[k]:=Ih o8;rw[Nh]at hk;cases hk;obtain⟨gd,nr⟩:=hg ls[k] (HU _ (Iv o8));have Me:∀l∈ls.drop (k+1),l.Good/\l.Near n:=λl q=>hg l (HU _ (Ky q));have LL:∀x y,bV (l0::ls) x y↔(bV (l0::ls.take k) x y/\ls[k].Lat x y)/\bV (ls.drop (k+1)) x y:=λx y=>by
        have ed:ls=ls.take k++ls[k]::ls.drop (k+1):=by rw[<-Jk o8,Lv]
        constructor
        . intro q;refine#[#[λl z=>?_,q _ (HU _ (Iv o8))],λl z=>q l (HU _ (Ky z))];rcases HQ.mp z with e|e
          . exact q l (e ▸ HW)
          . exact q l (HU _ (List.mem_of_mem_take e))
        . rintro⟨⟨q1,q2⟩,q3⟩ l z;rcases HQ.mp z with e|e
          . exact q1 l (e ▸ HW)
          . rw[ed]at e;rcases Iw.mp e with e|e
            . exact q1 l (HU _ e)
            . rcases HQ.mp e with e|e
              . rw[e];exact q2
              . exact q3 l e
      have j5:∀x y,bV (l0::ls.take (k+1)) x y↔bV (l0::ls.take k) x y/\ls[k].Lat x y:=λx y=>by
        rw[lN Nh];constructor
        . intro q;refine#[λl z=>q l ?_,q _ (HU _ (Ip _ HW))];rcases HQ.mp z with e|e
          . rw[e];exact HW
          . exact HU _ (Jl _ e)
        . rintro⟨q1,q2⟩ l z;rcases HQ.mp z with e|e
          . exact q1 l (e ▸ HW)
          . rcases Iw.mp e with e|e
            . exact q1 l (HU _ e)
            . rw[HN.mp e];exact q2
      generalize ls[k]=l at gd nr LL j5;obtain⟨p1,p2⟩:=dE fm.w0 fm.h0;refine#[λx=>(∃w h s:Int,x=.tup [.int w,.int h,.int s]/\Fam0 w h s/\w*h<=720/\∀x y,InF w h s x y↔bV (l0::ls.take (k+1)) x y)\/(x=.non/\R .non),#[l,n,rfl,gd,nr,λw2 h2 s2 f2 b2=>?_],?_]
      . obtain⟨r1,r2⟩:=dE f2.1 f2.2.1;refine#[w,h,s,w2,h2,s2,rfl,#[fm.w0,v4,fm.h0,v4,fm.s0,fm.sw],#[f2.1,v4,f2.2.1,v4,f2.2.2.1,f2.2.2.2.1],λW Hh S A M=>#[λq=>?_,λq=>?_]]
        . refine .inl #[W,Hh,S,rfl,#[M.w0,M.h0,M.s0,M.sw],q,λx y=>?_];rw[M.lat,lat,f2.lat,j5];exact Iff.rfl
        . refine .inr #[rfl,?_];obtain⟨w3,h3,s3,f3,e3⟩:=vO (ls.drop (k+1)) W Hh S #[M.w0,M.h0,M.s0,M.sw] Me;refine(hR w3 h3 s3 f3 λx y=>?_).2 ?_
          . rw[e3,M.lat,lat,f2.lat,LL];exact Iff.rfl
          . have:=(InF.le M.w0 M.h0 f3.w0 f3.h0 (λx y z=>((e3 x y).mp z).1)).1;lia
      . rintro _ (⟨W,Hh,S,rfl,T7,q,e'⟩|⟨rfl,hn⟩);k_places
        . try simp only[Ij,Il]
          exact#[W,Hh,S,_,rfl,T7,q,e']
        . try simp only[Ij,Il]
          exact hn
    . rintro z⟨w,h,s,o,rfl,fm,Sh,lat⟩;k_places;rw[ec,HV,J2]at lat;exact(hR w h s fm lat).1 Sh
abbrev jB(V:Bx):Prop:=V.D 4 "_law_over" mN vR
def FV(T:V.T "_law_over" mM mN)(uX:V.m "max")(Nl:jA V):jB V:=by
 refine Tx.okDW T sc__law_over (λds R h=>?_) (λf cdv A outer s H E J hr=>⟨_,((ai (ao 2 sc__law_over.nd (am (af (aa 0) ad) (af (aa 1) ad)))
   (ai (aS (bP (cB (tw (gj rfl uX (ac (af (aa 0) ad) (ac (af (aa 1) ad) ae))) ad) (cH (kM (aw Nl hr (ac (aa 2) ae)) bO)))) (aj (ay (aa 0))) aO)
   (aj (ay (bf (ac (am (am (am (am ax (af (aa 0) ad)) ax) (af (aa 1) ad)) ax) (ac (am ad (gj rfl uX (ac (af (aa 0) ad) (ac (af (aa 1) ad) ae)))) (ac (aa 2) ae))))))))),λds R h=>?_⟩)
 .obtain⟨_,_,rfl,_⟩:=h;rfl
 .obtain⟨p,q,rfl,wp,wq,dp,dq,Si,T8⟩:=h;have n1:=Pat.leaves_32 dp;have n2:=Pat.leaves_32 dq;refine#[λx=>x=.lst ((Pat.over p q).leaves.map Leaf.D),#[_,rfl,_,rfl,?_,?_],?_]
  .rw[HV,HV];lia
  .rw[Pat.leaves,IA]
  rintro _ rfl;k_places;refine#[_,rfl,_,rfl,ite2 (λc=>Si) (λc=>?_)];have c':=of_decide_eq_false (Iy.mpr c);have ep:p.depth<5/\q.depth<5:=by
   split at c'<;>lia
  refine#[(Pat.over p q).leaves,(Pat.over p q).depth,rfl,?_,λl hl=>Pat.leaf_good (p:=.over p q) #[wp,wq] l hl,λw h s f lat=>#[λsm=>?_,λ_=>Si]]
  .intro z;have:(Pat.over p q).leaves.length=0:=by rw[z];rfl
   rw[Pat.leaves,Ic]at this;have:=Pat.leaves_pos p;lia
  have t1:=Pat.text_short wp dp;have t2:=Pat.text_short wq dq;have l1:("(":Ms).length=1:=rfl;have l2:("|":Ms).length=1:=rfl;have l3:(")":Ms).length=1:=rfl;have Qp:(Pat.over p q).Fits:=#[w,h,s,#[f,λx y=>(lat x y).trans (Pat.lat_leaves (.over p q) x y)],sm];refine#[_,rfl,?_,?_,_,rfl,?_,?_,_,rfl,_,rfl,MF,?_]
  .lia
  .rw[aI];lia
  .rw[aI,aI];lia
  .rw[aI,aI,aI];lia
  have g:=T8 ep.1 ep.2 Qp;have e:(1+(if(q.depth:Int)>(p.depth:Int)then(q.depth:Int)else(p.depth:Int)))=(((Pat.over p q).depth:Nat):Int):=by
   rw[Pat.depth];split<;>lia
  unfold Pat.D at g;rw[<-e]at g;exact g
abbrev jC(V:Bx):Prop:=V.D 5 "_law_pattern" mR CV
def FW(T:V.T "_law_pattern" mQ mR)(uB:V.m "range")(Nf:jw V)(MV:jx V)(uO:gI V)(Mf:jB V):jC V:=by
  refine Tx.okDW T sc__law_pattern (λds R h=>?_) (λf cdv A outer s H E J hr=>⟨_,((ai (ao 2 sc__law_pattern.nd (aw Nf hr (ac (aa 0) (ac (aa 1) (ac ad ae)))))
      (ai (ao 3 sc__law_pattern.nd (aw MV hr (ac (aa 0) (ac (am (aa 1) ad) ae))))
      (ai (bQ 4 PassesOwn.never rfl sc__law_pattern.nd uB (aD (af (aa 2) ad) ad) (ai (ao 5 sc__law_pattern.nd (af (aa 2) (am ad (az ad (aa 4)))))
        (aj (fj (bp (aD (aa 5) ad) ad) (aj (ao 3 sc__law_pattern.nd (aw uO hr (ac (aa 3) (ac (aZ (aa 5) ad) ae))))) (ai (ao 6 sc__law_pattern.nd (aw MV hr (ac (aa 0) (ac (am (am (aa 1) ad) (az ad (aa 4))) ae))))
         (ai (fj (bp (aD (aZ (aa 5) ad) ad) ad) (aj (ao 6 sc__law_pattern.nd (aw uO hr (ac (aa 6) (ac (af (aa 2) (am ad (az ad (aa 4)))) ae))))) aO)
         (aj (ao 3 sc__law_pattern.nd (af (bf (ac (aw Mf hr (ac (aa 3) (ac (aa 6) ae))) (ac (aw Mf hr (ac (aa 6) (ac (aa 3) ae))) ae))) (aD (aZ (aa 5) ad) ad))))))))))
      (aj (ay (aa 3))))))),λds R h=>?_⟩)
  . obtain⟨_,_,rfl,_⟩:=h;rfl
  . obtain⟨ns,k,rfl,hk,hR⟩:=h;refine#[λx=>∃xs:List Int,x=.lst (xs.map D.int)/\xs.length=13/\Drawn xs,#[ns,k,13,rfl,hk,Mx,λxs h1 h2=>#[xs,rfl,h1,h2]],?_];rintro _⟨xs,rfl,hl,hd⟩;k_places;refine#[λx=>∃p:Pat,x=p.D/\p.Ok,#[ns,k+2,rfl,v4,λL a b c d h1 h2 h3 h4 h5 h6=>#[.mot L a b c d,rfl,#[h1,h2,h3,h4,h5,h6],by simp[Pat.depth],Pat.fits_mot h2 h3 h4 h5 h6]],?_];rintro _⟨p0,rfl,Nm⟩;k_places;have a0:=cM (xs:=xs) (k:=0) Mx (show 0<xs.length by lia);have h7:=cU (a:=cell xs 0) (show(0:Int)<7 by decide);have h8:=cV (a:=cell xs 0) (show(0:Int)<7 by decide);refine#[_,a0,Mx,#[v4,v4],λi z=>∃(p:Pat) (o1 o2 o3:Option D),z=[be (.rol (ns.map D.int)),be (.int k),be (.lst (xs.map D.int)),be p.D,o1,o2,o3]/\p.Ok,#[p0,_,_,_,rfl,Nm],?_,?_]
    . rintro i v z hi⟨p,o1,o2,o3,rfl,ok⟩;k_places;obtain⟨j7,rfl⟩:=bK hi;have a1:=cM (xs:=xs) (k:=1+2*(i:Int)) v4 v4;have a2:=cM (xs:=xs) (k:=2+2*(i:Int)) v4 v4;generalize cell xs (1+2*(i:Int))=st at a1;generalize cell xs (2+2*(i:Int))=sv at a2;refine#[λx=>x=.int st,#[.inr #[v4,v4],_,a1,rfl],?_];rintro _ rfl;k_places;refine#[λz=>∃(p:Pat) (o3:Option D),z=[be (.rol (ns.map D.int)),be (.int k),be (.lst (xs.map D.int)),be p.D,be (.int i),be (.int st),o3]/\p.Ok,#[Mx,ite2 (λc=>?_) (λc=>?_)],?_]
      . refine#[λx=>∃p:Pat,x=p.D/\p.Ok,#[#[Mx,Mx],p,_,rfl,ok.wf,ok.deep,by have:=Pat.text_short ok.wf ok.deep;lia,Wraps.of ok λq hq=>#[q,rfl,hq]],?_];rintro _⟨q,rfl,g7⟩;k_places;exact#[q,_,rfl,g7]
      . refine#[λx=>∃p:Pat,x=p.D/\p.Ok,#[.inr #[v4,v4],ns,k+4+2*(i:Int),rfl,v4,λL a b c d h1 h2 h3 h4 h5 h6=>#[.mot L a b c d,rfl,#[h1,h2,h3,h4,h5,h6],by simp[Pat.depth],Pat.fits_mot h2 h3 h4 h5 h6]],?_];rintro _⟨q,rfl,g7⟩;k_places;refine#[λz=>∃(q:Pat),z=[be (.rol (ns.map D.int)),be (.int k),be (.lst (xs.map D.int)),be p.D,be (.int i),be (.int st),be q.D]/\q.Ok,#[#[Mx,Mx],Mx,ite2 (λc=>?_) (λc=>?_)],?_]
        . refine#[λx=>∃p:Pat,x=p.D/\p.Ok,#[.inr #[v4,v4],_,a2,q,_,rfl,g7.wf,g7.deep,by have:=Pat.text_short g7.wf g7.deep;lia,Wraps.of g7 λq hq=>#[q,rfl,hq]],?_];rintro _⟨q,rfl,g7⟩;k_places;exact#[q,rfl,g7]
        . exact#[q,rfl,g7]
        rintro _⟨q,rfl,g7⟩;k_places;refine#[λx=>∃p:Pat,x=p.D/\p.Ok,?_,?_]
        . have d_:∀r r':Pat,r.Ok->r'.Ok->∃x,atI [r.D,r'.D] (st/4%2)=be x/\∃p:Pat,x=p.D/\p.Ok:=λr r' hr T9=>by
            rcases(v4:st/4%2=0\/st/4%2=1)with e|e<;>rw[e]
            . exact#[_,rfl,r,rfl,hr]
            . exact#[_,rfl,r',rfl,T9]
          have Sj:p.depth<5->q.depth<5->(Pat.over p q).Fits->(Pat.over p q).Ok:=λd1 d2 ft=>#[#[ok.wf,g7.wf],by simp only[Pat.depth];lia,ft];have Sk:q.depth<5->p.depth<5->(Pat.over q p).Fits->(Pat.over q p).Ok:=λd1 d2 ft=>#[#[g7.wf,ok.wf],by simp only[Pat.depth];lia,ft];refine#[p,q,rfl,ok.wf,g7.wf,ok.deep,g7.deep,?_,λd1 d2 ft=>?_]<;>refine#[q,p,rfl,g7.wf,ok.wf,g7.deep,ok.deep,?_,λd3 d4 Sl=>?_]<;>refine#[MF,#[Mx,Mx],Mx,?_]
          . exact d_ _ _ ok g7
          . exact d_ _ _ ok (Sk d3 d4 Sl)
          . exact d_ _ _ (Sj d1 d2 ft) g7
          . exact d_ _ _ (Sj d1 d2 ft) (Sk d3 d4 Sl)
        rintro _⟨q',rfl,QI⟩;k_places;exact#[q',_,rfl,QI]
      rintro _⟨q,o3,rfl,g7⟩;k_places;exact#[q,_,_,_,rfl,g7]
    . rintro z⟨p,o1,o2,o3,rfl,ok⟩;k_places;exact hR p ok
def FX:SpD:=λds R=>∃(p:Pat) (k:Int),ds=[p.D,.int k]/\p.Ok/\(k=0\/k=1)/\∀q:Pat,q.Ok->R q.D
abbrev qj(V:Bx):Prop:=V.D 4 "_law_shifted_home" mV FX
def FY(T:V.T "_law_shifted_home" mU mV)(Nl:jA V)(uO:gI V):qj V:=by
 refine Tx.okDW T sc__law_shifted_home (λds R h=>?_) (λf cdv A outer s H E J hr=>⟨_,((ai (ao 2 sc__law_shifted_home.nd (aw Nl hr (ac (af (aa 0) ad) ae)))
   (ai (kO rfl (af (bf (ac (aJ (ac (af (aa 2) ad) (ac ad ae))) (ac (aJ (ac (af (aa 2) ad) (ac (af (aa 2) ad) ae))) ae))) (aa 1)) (dg_cons 3 sc__law_shifted_home.nd (dg_cons 4 sc__law_shifted_home.nd du)))
   (ai (aS (bP (cB (fV (aa 3) ad) (cH (fV (aa 4) ad)))) (aj (ay (aa 0))) aO)
   (aj (ay (aw uO hr (ac (aa 0) (ac (am (am ad (az ad (am (aa 3) ad))) (az ad (am (aa 4) ad))) ae))))))))),λds R h=>?_⟩)
 .obtain⟨_,_,rfl,_⟩:=h;rfl
 .obtain⟨p,k,rfl,ok,hk,hR⟩:=h;refine#[FamD p,#[_,rfl,DP ok],?_];rintro _⟨w,h,s,rfl,F,wh,w7,h7⟩;k_places;have QJ:∃a b:Int,atI [D.tup [.int w,.int 0],.tup [.int s,.int h]] k=be (.tup [.int a,.int b]):=by
   rcases hk with rfl|rfl
   .exact#[_,_,rfl]
   .exact#[_,_,rfl]
  obtain⟨a,b,e⟩:=QJ;refine#[_,rfl,QG,_,rfl,_,rfl,QG,QG,_,e,rfl,ite2 (λ_=>hR p ok) λ_=>ite2 (λ_=>hR p ok) λ_=>?_];exact#[.inl #[Mx,Mx],.inl #[Mx,Mx],p,_,rfl,ok.wf,ok.deep,by have:=Pat.text_short ok.wf ok.deep;omega,Wraps.of ok hR]
def FZ:SpD:=λds R=>∃(p:Pat) (n:Int) (c:Nat),ds=[p.D,.int n,.str #[[c].toArray]]/\p.Ok/\bb c/\∀q:Pat,q.Ok->R q.D
abbrev qk(V:Bx):Prop:=V.D 1 "_law_respelled" mY FZ
def F4(T:V.T "_law_respelled" mW mY)(uA:V.m "len")(v_:V.m "list"):qk V:=by
 refine Tx.okDW T sc__law_respelled (λds R h=>?_) (λf cdv A outer s H E J hr=>⟨_,((ai (ao 3 sc__law_respelled.nd (af (af (aa 0) ad) ad))
   (ai (ao 4 sc__law_respelled.nd (bB uA (ac (af (af (aa 3) ad) ad) ae)))
   (ai (ao 5 sc__law_respelled.nd (aZ (aD (aa 1) (az (aa 4) (bB uA (ac (af (aa 3) ad) ae)))) (aa 4)))
   (ai (ao 6 sc__law_respelled.nd (aD (aa 1) (aa 4)))
   (ai (BW 7 v_ sc__law_respelled.nd (ac (af (aa 3) ad) ae))
   (ai (ud 7 (am (am (cm (kS 7 (aa 5)) cj (ck (aa 6))) (aa 2)) (cm (kS 7 (aa 5)) (ck (am (aa 6) ad)) cj)) (aa 5))
   (ai (ao 8 sc__law_respelled.nd (am (am (am (kZ (af (aa 0) ad) (ac ax ae)) ad) (az (aa 5) (am (aa 4) ad))) (aa 6)))
   (ai (ao 9 sc__law_respelled.nd (am (am (cm (af (aa 0) ad) cj (ck (aa 8))) (aa 2)) (cm (af (aa 0) ad) (ck (am (aa 8) ad)) cj)))
   (dm 7 (aj (ay (bf (ac (aa 9) (ac (af (aa 0) ad) (ac (am (bf (ac (aJ (ac (aa 7) (ac (af (aa 3) ad) (ac (af (aa 3) ad) (ac (af (aa 3) ad) (ac (af (aa 3) ad) ae)))))) ae)) (cm (af (aa 0) ad) (ck ad) cj)) ae)))))))))))))))),λds R h=>?_⟩)
 .obtain⟨_,_,_,rfl,_⟩:=h;rfl
 .obtain⟨p,n,c,rfl,ok,hc,hR⟩:=h;obtain⟨A,B,l,ls,r⟩:=Pat.re_ex ok.wf;obtain⟨m,w,w8,hr⟩:=r.rows;have hw:∀s∈l.rows,s.length=w:=λs hs=>(hr s hs).1;have T_:=Pat.text_short ok.wf ok.deep;have Sm:=cx p;rw[r.tl]at Sm;obtain⟨i0,rest,eo,ei⟩:=Fo Sm r.no;have wm:0<w*l.rows.length:=Nat.mul_pos MD MD;obtain⟨j,hj,jm⟩:∃j:Nat,n%((w:Int)*l.rows.length)/w=j/\j<l.rows.length:=by
   have h0:=IS n (show((w*l.rows.length:Nat):Int)≠0 by omega);have h1:=IT n (show 0<((w*l.rows.length:Nat):Int)by omega);rw[Kk]at h0 h1;have q0:=J8 h0 (show 0<=(w:Int)by omega);have q1:=Int.ediv_lt_of_lt_mul (show 0<(w:Int)by omega) (show n%((w:Int)*l.rows.length)<(l.rows.length:Int)*w by rw[Iu (l.rows.length:Int)];exact h1);exact#[(n%((w:Int)*l.rows.length)/w).toNat,MD,MD]
  obtain⟨i,hi,iw⟩:∃i:Nat,n%(w:Int)=i/\i<w:=by
   have h0:=IS n (show(w:Int)≠0 by omega);have h1:=IT n (show 0<(w:Int)by omega);exact#[(n%(w:Int)).toNat,MD,MD]
  have Ua:atI (p.leaves.map Leaf.D) 0=be l.D:=bD (j:=0) (by rw[r.leaves];rfl);have QK:atI (l.rows.map D.str) 0=be (.str (l.rows[0]' MD)):=bD (j:=0) (by rw[H9,Ih (show 0<l.rows.length by omega)];rfl);have Od:atI (l.rows.map D.str) (j:Int)=be (.str l.rows[j]):=bD (by rw[H9,Ih jm];rfl);have QL:=hw (l.rows[0]' MD) (Iv _);have Ub:=hw l.rows[j] (Iv jm);refine#[λd=>d=l.D,#[_,rfl,_,Ua,rfl],?_];rintro _ rfl;k_places;refine#[λd=>d=.int (w:Int),#[_,rfl,_,QK,MD,by rw[QL]],?_];rintro _ rfl;k_places;refine#[λd=>d=.int (j:Int),#[_,rfl,.inl #[MD,MD],?_,#[MD,MD],?_],?_]
  .rw[HV,<-Kk];omega
  .rw[HV,hj]
  rintro _ rfl;k_places;refine#[λd=>d=.int (i:Int),#[MD,by rw[hi]],?_];rintro _ rfl;k_places;show dSeq _ _ _ [_,_,_,_,_,_,_,_,_,_];refine#[_,rfl,?_];have s1:=Txt.slice_le l.rows[j] LH (be (i:Int));have s2:=Txt.slice_le l.rows[j] (be ((i:Int)+1)) LH;have c1:(#[[c].toArray]:Ms).length=1:=rfl;have hs:=wK (c:=c) (show i<l.rows[j].length by omega);generalize Mc:((Txt.slice l.rows[j] LH (be (i:Int))++#[[c].toArray])++Txt.slice l.rows[j] (be ((i:Int)+1)) LH:Ms)=s' at hs;obtain⟨q,g7,dq,lq,sp,tq⟩:=r.put ok hw jm iw hc hs;refine#[_,Od,MD,MD,_,Od,MD,by rw[aI];omega,j,?_,?_]
  .rw[HV];unfold ixN;rw[if_pos MD,if_pos MD,IP]
  rw[Mc,<-Lu];have Uc:(i0:Int)=A.length:=MD
  refine#[λd=>d=.int ((A.length+1+j*(w+1)+i:Nat):Int),#[_,rfl,i0,rest,eo,.inl #[MD,MD],?_],?_]
  .show D.int _=D.int _;rw[Uc];simp
  rintro _ rfl;k_places;have t1:=Txt.slice_le p.text LH (be ((A.length+1+j*(w+1)+i:Nat):Int));have t2:=Txt.slice_le p.text (be (((A.length+1+j*(w+1)+i:Nat):Int)+1)) LH;refine#[λd=>d=.str q.text,#[_,rfl,MD,MD,_,rfl,MD,by rw[aI];omega,?_],?_]
  .show D.str _=D.str _;rw[tq _ (wK sp)]
  rintro _ rfl;k_places;have U0:=Pat.leaves_32 ok.deep;have ec:cutD (p.leaves.map Leaf.D) (be 1) LH=ls.map Leaf.D:=by rw[r.leaves,Ik,cut1]
  refine#[_,rfl,_,rfl,_,rfl,_,rfl,_,rfl,by show(5:Nat)<=1000;decide,R1,_,rfl,?_,by show(3:Nat)<=1000;decide,?_]
  .have:=congrArg JB r.leaves;rw[HX]at this;show 1+(cutD (p.leaves.map Leaf.D) (be 1) LH).length<=1000000;rw[ec,HV];omega
  have e:=hR q g7;unfold Pat.D at e;rw[dq,lq,Ik,<-ec]at e;exact e
def F5:SpD:=λds R=>∃(p:Pat) (ns:List Int) (k d:Int),ds=[p.D,.rol (ns.map D.int),.int k,.int d]/\p.Ok/\0<=k/\∀q:Pat,q.Ok->R q.D
abbrev ql(V:Bx):Prop:=V.D 6 "_law_twin" ng F5
def F6(T:V.T "_law_twin" mZ ng)(uO:gI V)(Mf:jB V)(QM:qj V)(MV:jx V)(QN:qk V)(Nn:jC V):ql V:=by
 refine Tx.okDW T sc__law_twin (λds R h=>?_) (λf cdv A outer s H E J hr=>⟨_,((ai (ao 4 sc__law_twin.nd (aD (aa 3) ad))
   (ai (ao 3 sc__law_twin.nd (aZ (aa 3) ad))
   (ai (aS (bP (fX (bp (aa 4) ad) (fW (kL (af (aa 0) ad) ad)))) (aj (ay (aw uO hr (ac (aw uO hr (ac (aa 0) (ac ad ae))) (ac ad ae))))) aO)
   (ai (aS (bP (fX (bp (aa 4) ad) (fW (kL (af (aa 0) ad) ad)))) (aj (ay (aw uO hr (ac (aw uO hr (ac (aw uO hr (ac (aw uO hr (ac (aa 0) (ac ad ae))) (ac ad ae))) (ac ad ae))) (ac ad ae))))) aO)
   (ai (aS (bp (aa 4) ad) (aj (ay (aw Mf hr (ac (aa 0) (ac (aa 0) ae))))) aO)
   (ai (aS (bp (aa 4) ad) (aj (ay (aw QM hr (ac (aa 0) (ac (aD (aa 3) ad) ae))))) aO)
   (ai (aS (bp (aa 4) ad) (aj (ay (aw uO hr (ac (aa 0) (ac (am ad (az ad (aD (aa 3) ad))) ae))))) aO)
   (ai (aS (bp (aa 4) ad) (aj (ay (aw Mf hr (ac (aa 0) (ac (aw MV hr (ac (aa 1) (ac (aa 2) ae))) ae))))) aO)
   (ai (aS (bp (aa 4) ad) (aj (ay (aw QN hr (ac (aa 0) (ac (aZ (aa 3) ad) (ac (af ax (aD (aa 3) ad)) ae)))))) aO)
   (ai (aS (bp (aa 4) ad) (aj (ay (aw Nn hr (ac (aa 1) (ac (aa 2) ae))))) aO)
   (aj (ay (aa 0)))))))))))))),λds R h=>?_⟩)
 .obtain⟨_,_,_,_,rfl,_⟩:=h;rfl
 .obtain⟨p,ns,k,d,rfl,ok,k0,hR⟩:=h;have wr:∀{q:Pat},q.Ok->q.text.length<=100000:=λ{q} h=>by have:=Pat.text_short h.wf h.deep;omega
  refine#[λx=>x=.int (d%9),#[Mx,rfl],?_];rintro _ rfl;k_places;refine#[λx=>x=.int (d/9),#[#[Mx,Mx],rfl],?_];rintro _ rfl;k_places;show dSeq _ _ _ [_,_,_,_,_];refine(λhr=>ite2 (λ_=>#[_,rfl,ite2 (λ_=>#[p,0,rfl,ok.wf,ok.deep,wr ok,Wraps.of ok λq k=>#[q,0,rfl,k.wf,k.deep,wr k,Wraps.of k hR]]) (λ_=>hr)]) (λ_=>hr)) ?_;refine ite2 (λz=>nomatch z) λ_=>?_;refine(λhr=>ite2 (λ_=>#[_,rfl,ite2 (λ_=>#[p,1,rfl,ok.wf,ok.deep,wr ok,Wraps.of ok λq k=>#[q,1,rfl,k.wf,k.deep,wr k,Wraps.of k λq k=>#[q,1,rfl,k.wf,k.deep,wr k,Wraps.of k λq k=>#[q,1,rfl,k.wf,k.deep,wr k,Wraps.of k hR]]]]) (λ_=>hr)]) (λ_=>hr)) ?_;refine ite2 (λz=>nomatch z) λ_=>?_;refine ite2 (λ_=>wL ok ok hR) λ_=>?_;refine ite2 (λ_=>#[Mx,p,_,rfl,ok,MD,hR]) λ_=>?_;refine ite2 (λ_=>#[Mx,.inl #[Mx,Mx],p,_,rfl,ok.wf,ok.deep,wr ok,Wraps.of ok hR]) λ_=>?_;refine ite2 (λ_=>#[ns,k,rfl,k0,λL a b c d h1 h2 h3 h4 h5 h6=>wL (q:=.mot L a b c d) ok #[#[h1,h2,h3,h4,h5,h6],by simp[Pat.depth],Pat.fits_mot h2 h3 h4 h5 h6] hR]) λ_=>?_;refine ite2 (λ_=>?_) λ_=>?_
  .obtain⟨c,hc,OI⟩:=Fs (d/9);exact#[#[Mx,Mx],Mx,c,#[Mx,hc],p,_,c,rfl,ok,OI,hR]
  refine ite2 (λ_=>#[ns,k,rfl,k0,hR]) λ_=>hR p ok
abbrev qm(V:Bx):Prop:=V.D 2 "_law_leaf_shows" nj CC
def F7(T:V.T "_law_leaf_shows" nh nj)(uB:V.m "range")(uA:V.m "len")(uF:V.m "int")(Nk:jz V):qm V:=by
 refine Tx.okDW T sc__law_leaf_shows (λds R h=>?_) (λf cdv A outer s H E J hr=>⟨_,((ai (ao 3 sc__law_leaf_shows.nd (af (aa 0) ad))
   (ai (ao 4 sc__law_leaf_shows.nd (am (am (az (af (aa 3) ad) (aa 1)) (az (af (aa 3) ad) (aa 2))) (af (aa 3) ad)))
   (ai (ao 5 sc__law_leaf_shows.nd (am (am (az (af (aa 3) ad) (aa 1)) (az (af (aa 3) ad) (aa 2))) (af (aa 3) ad)))
   (ai (bQ 6 PassesOwn.never rfl sc__law_leaf_shows.nd uB (bB uA (ac (af (aa 0) ad) ae)) (aj (bQ 7 PassesOwn.never rfl sc__law_leaf_shows.nd uB (bB uA (ac (af (af (aa 0) ad) (aa 6)) ae)) (aj (aS (bP (fX (bE (af (af (af (aa 0) ad) (aa 6)) (aa 7)) ax) (fW (bI (aw Nk hr (ac (af (aa 0) ad) (ac (af (aa 0) ad) (ac (bx (aa 4) (aa 7)) (ac (bx (aa 5) (aa 6)) ae))))))))) (aj (ay (af (af (aa 0) ad) (hZ uF (ac (af (af (af (aa 0) ad) (aa 6)) (aa 7)) ae))))) aO)))))
   (aj (ay ad))))))),λds R h=>?_⟩)
 .obtain⟨_,_,_,rfl,_⟩:=h;rfl
 .obtain⟨l,x,y,rfl,ok,hR⟩:=h;obtain⟨hm,wd,Ud,Ob⟩:=id ok.rows;refine#[λd=>d=.tup [.int l.w0,.int l.w1,.int l.w2,.int l.w3,.int l.w4,.int l.w5],#[_,rfl,rfl],?_];rintro _ rfl;k_places;refine#[λd=>d=.int (l.w0*x+l.w1*y+l.w4),#[_,rfl,.inl (n64 ok.w0),_,rfl,.inl (n64 ok.w1),_,rfl,rfl],?_];rintro _ rfl;k_places;refine#[λd=>d=.int (l.w2*x+l.w3*y+l.w5),#[_,rfl,.inl (n64 ok.w2),_,rfl,.inl (n64 ok.w3),_,rfl,rfl],?_];rintro _ rfl;k_places;have Mg:R (.int (match l.hit x y with|some c=>cell l.hues ((c:Int)-48)|none=>0)):=hR;unfold Leaf.hit at Mg;generalize l.w0*x+l.w1*y+l.w4=U at Mg ⊢;generalize l.w2*x+l.w3*y+l.w5=V at Mg ⊢;generalize ef:(λi j=>onB l.a l.b l.c l.d (U-i) (V-j))=f at Mg;have e0:∀i j,f i j=onB l.a l.b l.c l.d (U-i) (V-j):=λi j=>by rw[<-ef]
  have b8:((l.rows.map D.str).length:Int).toNat=l.rows.length:=MF
  refine#[_,rfl,#[v4,UD],λk z=>∃o1 o2:Option D,z=[be l.D,be (.int x),be (.int y),be (.tup [.int l.w0,.int l.w1,.int l.w2,.int l.w3,.int l.w4,.int l.w5]),be (.int U),be (.int V),o1,o2]/\bU f 0 l.rows=bU f k (l.rows.drop k),#[_,_,rfl,rfl],?_,?_]
  .rintro j v z hj⟨o1,o2,rfl,hs⟩;k_places;obtain⟨LZ,rfl⟩:=bK hj;rw[b8]at LZ;have Oe:l.rows[j]?=be l.rows[j]:=Ih LZ;have E_:l.rows.drop j=l.rows[j]::l.rows.drop (j+1):=Jk LZ;obtain⟨OX,Oa⟩:=Ob l.rows[j] (Iv LZ);generalize l.rows[j]=row at Oe E_ OX Oa;have MX:=at_str Oe;have g_:=bn row;refine#[_,rfl,_,MX,v4,#[v4,v4],λi z=>∃o2:Option D,z=[be l.D,be (.int x),be (.int y),be (.tup [.int l.w0,.int l.w1,.int l.w2,.int l.w3,.int l.w4,.int l.w5]),be (.int U),be (.int V),be (.int j),o2]/\scanRow (λi=>f i j) 0 (cs row)=scanRow (λi=>f i j) i ((cs row).drop i),#[_,rfl,rfl],?_,?_]
   .rintro i v z hi⟨o2,rfl,No⟩;k_places;obtain⟨j7,rfl⟩:=bK hi;have QO:i<(cs row).length:=by lia
    have L6:(cs row).drop i=(cs row)[i]::(cs row).drop (i+1):=Jk QO;have Of:=Oa (cs row)[i] (Iv QO);have QP:atI (cs row) (i:Int)=be (cs row)[i]:=bD (Ih QO);generalize (cs row)[i]=c at L6 Of QP;refine#[_,rfl,_,MX,c,#[v4,QP],ite2 (λq=>?_) (λq=>?_)]
    .have v9:¬c=46:=by
      intro z;have:(#[[c].toArray]:Ms)=".":=one_sign.mpr z;simp[this]at q
     refine#[_,rfl,_,rfl,l.a,l.b,l.c,l.d,U-i,V-j,rfl,ok.a.lt,ok.b.lt,ok.c.lt,ok.d.lt,ok.ne,?_];refine ite2 (λq2=>?_) (λq2=>?_)
     .have d_:f i j=true:=by rw[e0];exact q2
      have Ue:49<=c/\c<=54:=by unfold bb at Of;lia
      refine#[_,rfl,_,rfl,_,MX,c,#[v4,QP],_,#[digit_of Ue,by show 1<=640;decide],_,cM v4 (by rw[ok.many];lia),?_];rw[hs,E_,bU,No,L6,scanRow,if_pos #[v9,d_]]at Mg;exact Mg
     .have d_:¬f i j=true:=by rw[e0];exact q2
      refine#[_,rfl,?_];rw[No,L6,scanRow,if_neg (λz=>d_ z.2)]
    .have v9:c=46:=by
      rcases Classical.em (c=46)with z|z
      .exact z
      .exact absurd (by
        have:¬(#[[c].toArray]:Ms)=".":=λw=>z (one_sign.mp w);simp[this]) q
     refine#[_,rfl,?_];rw[No,L6,scanRow,if_neg (λz=>z.1 v9)]
   .rintro z⟨o2,rfl,No⟩;k_places;refine#[_,_,rfl,?_];have hn:((row.length:Int).toNat)=(cs row).length:=by lia
    rw[bL,hn,Kz (HP _),scanRow]at No;rw[hs,E_,bU,No]
  .rintro z⟨o1,o2,rfl,hs⟩;k_places;rw[bL,b8,Kz (HP _),bU]at hs;rw[hs]at Mg;exact Mg
abbrev qo(V:Bx):Prop:=V.D 3 "_law_shows" nt CD
def F8(T:V.T "_law_shows" nq nt)(QQ:qm V):qo V:=by
 refine Tx.okDW T sc__law_shows (λds R h=>?_) (λf cdv A outer s H E J hr=>⟨_,((ai (hV 3 PassesOwn.never rfl sc__law_shows.nd (aa 0) (ai (ao 4 sc__law_shows.nd (aw QQ hr (ac (aa 3) (ac (aa 1) (ac (aa 2) ae)))))
    (aj (aS (bE (aa 4) ad) (aj (ay (aa 4))) aO))))
   (aj (ay ad)))),λds R h=>?_⟩)
 .obtain⟨_,_,_,rfl,_⟩:=h;rfl
 .obtain⟨ls,x,y,rfl,ok,hR⟩:=h;refine#[λk z=>∃o1 o2:Option D,z=[be (.lst (ls.map Leaf.D)),be (.int x),be (.int y),o1,o2]/\aX ls x y=aX (ls.drop k) x y,#[_,_,rfl,rfl],?_,?_]
  .rintro k v z hk⟨o1,o2,rfl,hs⟩;k_places;rw[H9]at hk;have o8:k<ls.length:=by
    rcases Jr k ls.length with q|q
    .exact q
    .rw[IF q]at hk;cases hk
   rw[Ih o8]at hk;cases hk;have ed:ls.drop k=ls[k]::ls.drop (k+1):=Jk o8;have O0:=ok ls[k] (Iv o8);generalize ls[k]=l at ed O0;refine#[λd=>d=.int (l.shows x y),#[l,x,y,rfl,O0,rfl],?_];rintro _ rfl;k_places;refine ite2 (λq=>?_) (λq=>?_)
   .have q':¬l.shows x y=0:=by simpa using q
    rw[hs,ed,aX,if_pos q']at hR;exact hR
   .have q':l.shows x y=0:=by simpa using q
    refine#[_,_,rfl,?_];rw[hs,ed,aX,if_neg (λz=>z q')]
  .rintro z⟨o1,o2,rfl,hs⟩;k_places;rw[HV,Kz (HP _),aX]at hs;rw[hs]at hR;exact hR
def F9:SpD:=λds R=>∃(p:Pat) (w h:Int),ds=[.lst (p.leaves.map Leaf.D),.int w,.int h]/\p.Ok/\0<=w/\w<=30/\0<=h/\h<=30/\R (.lst (aA p w 0 h.toNat))
abbrev qp(V:Bx):Prop:=V.D 4 "_law_floor_rows" nu F9
def Ga(T:V.T "_law_floor_rows" iH nu)(uB:V.m "range")(QR:qo V):qp V:=by
 refine Tx.okDW T sc__law_floor_rows (λds R h=>?_) (λf cdv A outer s H E J hr=>⟨_,((ai (gc 3 sc__law_floor_rows.nd ae)
   (ai (bQ 4 PassesOwn.never rfl sc__law_floor_rows.nd uB (aa 2) (aj (gf 3 (kR (ib rfl (compScope (by change dz _ (ah iH) ["_law_leaves","_law_wide","_law_high","_law_lines_here","_law_y"] _=true;decide+kernel)) uB (aa 1) (λcl s0 H0 fp=>(af ax (aw QR hr (ac (aa 0) (ac (aa 5) (ac (aa 4) ae)))))))))))
   (dm 3 (aj (ay (aa 3))))))),λds R h=>?_⟩)
 .obtain⟨_,_,_,rfl,_⟩:=h;rfl
 .obtain⟨p,w,h,rfl,ok,w0,w7,h0,h7,hR⟩:=h;have dp:=ok.deep;refine#[MF,?_];refine#[#[v4,v4],λk z=>∃o,z=[be (.lst (p.leaves.map Leaf.D)),be (.int w),be (.int h),be (.own (aA p w 0 k)),o],#[_,rfl],?_,?_]
  .rintro k v z hk⟨o,rfl⟩;k_places;obtain⟨n8,rfl⟩:=bK hk;refine#[#[v4,v4],by rw[bL];lia,λi ys=>ys=rowD p 0 k i,rfl,?_,?_]
   .rintro i v ys hi hl rfl;obtain⟨w9,rfl⟩:=bK hi;refine#[p.leaves,i,k,rfl,Pat.leaf_ok ok.wf v4,?_];rw[Pat.show_leaves ok.wf v4];obtain⟨b0,b6⟩:=Pat.show_le ok.wf v4 (i:Int) k;refine#[_,#[Mx,wl b0 b6],?_];show rowD p 0 k i++_=rowD p 0 k (i+1);rw[<-wt,Jz]
   .rintro ys hl rfl;rw[bL];obtain⟨ys,e1,e2,e3⟩:=wu p 0 (k:Int) (n:=w.toNat) v4;refine#[ys,e1,e2,?_];rw[e3];refine#[by unfold aA;simp;lia,be (.int k),?_];rw[<-pY,Jz];rfl
  .rintro z⟨o,rfl⟩;k_places;rw[bL];exact hR
def Gb:SpM:=λds M R _=>∃a q f w,ds=[.ptr a,.str w]/\a≠q/\M=Fl.M f a q/\f.ds.length<=20/\∀q',a≠q'->R .non ((f.keep w).M a q')
abbrev jD(V:Bx):Prop:=V.Q 1 "Floor" "keep" nw Gb
def Gc(T:V.Tm "Floor" "keep" "Floor.keep" nv nw)(QS:V.gi "KEPT" 20)(Lz:V.a "Floor" "deeds")(uE:V.a "Floor" "laid")(uG:V.a "Floor" "pattern"):jD V:=by
 refine CalMth.drop (Txm.okM T EI (λds M R RX h=>?_) (λf cdv A outer s H E J hr hx=>#[_,((au (bZ Lz (ag (aa 0)) (Ei (Eh (aE Lz (ag (aa 0))) (lv (aF (uy (aF (ag (aa 1)) (aF (aE uG (ag (aa 0))) (aF (aE uE (ag (aa 0))) bg)))) bg))) (wC (ag (cq (fv QS)))) wB)))),λds M R RX d7 h=>?_]))
 .obtain⟨_,_,⟨_,_,_,_,rfl,_⟩,_⟩:=h;rfl
 .obtain⟨R,RX,⟨a,q,f,w,rfl,ne,rfl,hl,hR⟩,rfl,rfl⟩:=h;have nk:∀{p:Addr},p∉av (f.M a q)->p≠a/\p≠q:=λ{p} h=>#[λe=>h (e ▸ HU _ HW),λe=>h (e ▸ HW)];refine#[_,Fl.ma ne,_,wO,_,Fl.ma ne,_,gH,_,Fl.ma ne,_,eI,by show(3:Nat)<=1000;decide,R1,λp1 h1=>?_];obtain⟨n1,m1⟩:=nk h1;refine#[_,_,(eE m1).trans Fl.mq,cF,by rw[HV];show _+1<=_;lia,λp2 h2=>?_];have t8:p2≠p1/\p2∉av (f.M a q):=#[λe=>h2 (e ▸ HW),λz=>h2 (HU _ z)];obtain⟨n2,m2⟩:=nk t8.2;refine#[_,cF,λp3 h3=>?_];have Uf:p3≠p2/\p3∉av ((p1,.lst [])::f.M a q):=#[λe=>h3 (e ▸ HW),λz=>h3 (HU _ z)];obtain⟨n3,m3⟩:=nk λz=>Uf.2 (HU _ z);refine#[_,(eE n3).trans ((eE n2).trans ((eE n1).trans (Fl.ma ne))),by show(6:Nat)<1000;decide,_,#[?_,?_],hR p3 (Ne.symm n3)]
  .rw[eF n3,eF n2,eF n1,show f.M a q=[(q,.lst (f.ds.map Deed.D)),(a,.ins "Floor" (f.fs q))]from rfl,eF (Ne.symm ne),cZ];have e1:cutD (f.ds.map Deed.D++[D.tup [.str w,f.d,.int f.l]]) (be (-20)) LH=(f.keep w).ds.map Deed.D:=by
    rw[Ft];show _=JV Deed.D (Jg _ _);rw[List.map_drop,IA,Ic,HV];rfl
   have e2:putD ("deeds":Ms) (.ptr p3) (f.fs q)=(f.keep w).fs p3:=rfl;rw[e1,e2];intro e he;rcases HQ.mp he with rfl|he
   .exact HW
   .rw[HN.mp he];simp
  .exact Fl.nd (Ne.symm n3)
abbrev jE(V:Bx):Prop:=V.X 1 "refuse_far" nz Dx
def Gd(T:V.T "refuse_far" ny nz)(uX:V.m "max")(uT:V.m "abs")(QT:V.gi "FAR" 1000000000000)(QU:V.n "TooFar"):jE V:=by
 refine Tx.okXW T EJ (λds R RX h=>?_) (λf cdv A outer s H E J hr hx=>#[_,((aj (aS (fV (gj rfl uX (ac (eY uT (ac (aa 0) ae)) (ac (eY uT (ac (aa 1) ae)) ae))) (fv QT)) (aj (Ar QU hx rfl (ac ax ae))) aO))),λds R RX d7 h=>?_])
 .obtain⟨_,_,rfl,_⟩:=h;rfl
 .obtain⟨x,y,rfl,h1,h2⟩:=h;refine ite2 (λc=>?_) (λc=>?_)
  .have c':=of_decide_eq_true c;refine#[R1,?_];rw[d7];refine h2 λ⟨⟨a1,a2⟩,a3,a4⟩=>?_;split at c'<;>split at c'<;>split at c'<;>lia
  .have c':¬_:=λz=>c (decide_eq_true z);refine h1 ?_;unfold bo;split at c'<;>split at c'<;>split at c'<;>lia
abbrev fP(V:Bx):Prop:=V.D 1 "home" nB Ce
def Ge(T:V.T "home" nA nB):fP V:=by
 refine Tx.okDW T sc_home (λds R h=>?_) (λf cdv A outer s H E J hr=>⟨_,((ai (ao 3 sc_home.nd (af (aa 0) ad))
   (ai (ao 4 sc_home.nd (af (aa 0) ad))
   (ai (ao 5 sc_home.nd (af (aa 0) ad))
   (aj (ay (aJ (ac (aD (bx (aa 1) (az (aZ (aa 2) (aa 4)) (aa 5))) (aa 3)) (ac (aD (aa 2) (aa 4)) ae))))))))),λds R h=>?_⟩)
 .obtain⟨w,h,s,x,y,rfl,_⟩:=h;rfl
 .obtain⟨w,h,s,x,y,rfl,hw,hh,Ly,hs,i_,hR⟩:=h;refine#[λd=>d=.int w,#[_,rfl,rfl],?_];rintro _ rfl;k_places;refine#[λd=>d=.int h,#[_,rfl,rfl],?_];rintro _ rfl;k_places;refine#[λd=>d=.int s,#[_,rfl,rfl],?_];rintro _ rfl;k_places;exact#[#[hh,Ly],.inr #[v4,v4],hw,hh,MF,hR]
variable{n j:Nat}
def ok_Motif_shows(hL:1<=n)(T:V.Tm "Motif" "shows" "Motif.shows" iI cD)(F_:fP V)(Mh:V.a "Motif" "hues")(uN:V.a "Motif" "shifts"):V.Q (n+1) "Motif" "shows" cD (ofX (cb (j+1) "Motif")):=by
 refine Txm.okM T EK (λds M R RX h=>?_) (λf cdv A outer s H E J hr hx=>#[_,((au (aG (BD (gW hr) (aE Mh (ag (aa 0))) (aF (aM (hn:=MD) (CalD.toM F_) hx hr (aF (aE uN (ag (aa 0))) (aF (ag (aa 1)) (aF (ag (aa 2)) bg)))) (aF (ag ad) bg)))))),λds M R RX d7 h=>?_])
 .obtain⟨_,_,_,_,rfl,_⟩:=h;rfl
 .obtain⟨p,v,X,Y,rfl,hv,w_,hd,hc,hR⟩:=h;cases p<;>simp only[Pat.cls]at hc<;>try exact absurd hc KK
  rename_i L a b c d;obtain⟨k,w,h,s,rfl,F⟩:=hv;obtain⟨hL,ha,hb,J_,e_,hn⟩:=w_;unfold B12 at ha hb J_ e_;obtain⟨b1,b2,b3⟩:=F.bd (N:=288) (by
   have m1:=bT (a:=a) (d:=d) (A:=12) (B:=12) v4 v4;have m2:=bT (a:=b) (d:=c) (A:=12) (B:=12) v4 v4;lia)
  rw[Pat.show,<-motif_shows hL F hn X Y]at hR;exact#[_,#[rfl,rfl],_,Dr,_,#[rfl,rfl],_,mo_shifts,w,h,s,X,Y,rfl,F.1,F.2.1,v4,F.2.2.1,v4,hR]
def Gf(hL:1<=n)(T:V.Tm "Over" "shows" "Over.shows" iJ iK)(uY:V.a "Over" "above")(uU:V.a "Over" "below")(uH:∀x,x∈(["Motif","Over","Shifted","Mirror","Turn","Rehue"]:List Ms)->V.Q n x "shows" cD (ofX (cb j x))):V.Q (n+1) "Over" "shows" iK (ofX (cb (j+1) "Over")):=by
 refine Txm.okM T sc_Over_shows (λds M R RX h=>?_) (λf cdv A outer s H E J hr hx=>⟨_,((aq (aH 3 sc_Over_shows.nd (aT (hn:=MD) uH hx hr (aE uY (ag (aa 0))) (aB (ac (aa 1) (ac (aa 2) ae)))))
   (au (aG (gq (bu (bp (aa 3) ad)) (aT (hn:=MD) uH hx hr (aE uU (ag (aa 0))) (aB (ac (aa 1) (ac (aa 2) ae)))) (ag (aa 3))))))),λds M R RX d7 h=>?_⟩)
 .obtain⟨_,_,_,_,rfl,_⟩:=h;rfl
 .obtain⟨p,v,X,Y,rfl,hv,w_,hd,hc,hR⟩:=h;cases p<;>simp only[Pat.cls]at hc<;>try exact absurd hc KK
  rename_i p q;obtain⟨u,u',rfl,hu,Og⟩:=hv;obtain⟨fs,rfl,o1⟩:=hu.objm;obtain⟨gs,rfl,o2⟩:=Og.objm;rw[Pat.depth]at hd;refine#[λd M'=>d=.int (p.show X Y)/\M'=M,#[_,#[rfl,rfl],_,rfl,p.cls,p.cls_mem,fs,#[rfl,rfl],o1.shw,p,_,X,Y,rfl,hu,w_.1,v4,rfl,rfl,rfl],?_];rintro _ _⟨rfl,rfl⟩;k_places;rw[Pat.show]at hR;show if decide (p.show X Y=0)=true then _ else _
  refine ite2 (λe=>?_) (λe=>?_)
  .have e':=of_decide_eq_true e;rw[if_neg (λz=>z e')]at hR;exact#[_,#[rfl,rfl],_,fL KK,q.cls,q.cls_mem,gs,#[rfl,rfl],o2.shw,q,_,X,Y,rfl,Og,w_.2,v4,rfl,hR]
  .have e':p.show X Y≠0:=λz=>e (decide_eq_true z);rw[if_pos e']at hR;exact hR
def Gg(hL:1<=n)(T:V.Tm "Shifted" "shows" "Shifted.shows" iL iM)(u9:V.a "Shifted" "form")(Mi:V.a "Shifted" "y")(Mj:V.a "Shifted" "x")(uH:∀x,x∈(["Motif","Over","Shifted","Mirror","Turn","Rehue"]:List Ms)->V.Q n x "shows" cD (ofX (cb j x))):V.Q (n+1) "Shifted" "shows" iM (ofX (cb (j+1) "Shifted")):=by
 refine Txm.okM T EL (λds M R RX h=>?_) (λf cdv A outer s H E J hr hx=>#[_,((au (aG (aT (hn:=MD) uH hx hr (aE u9 (ag (aa 0))) (aF (dA (ag (aa 1)) (aE Mj (ag (aa 0)))) (aF (dA (ag (aa 2)) (aE Mi (ag (aa 0)))) bg)))))),λds M R RX d7 h=>?_])
 .obtain⟨_,_,_,_,rfl,_⟩:=h;rfl
 .obtain⟨p,v,X,Y,rfl,hv,w_,hd,hc,hR⟩:=h;cases p<;>simp only[Pat.cls]at hc<;>try exact absurd hc KK
  rename_i a b p;obtain⟨u,rfl,hu⟩:=hv;obtain⟨fs,rfl,o1⟩:=hu.objm;rw[Pat.depth]at hd;exact#[_,#[rfl,rfl],_,rfl,p.cls,p.cls_mem,fs,#[rfl,rfl],o1.shw,_,#[rfl,rfl],_,fL KK,_,#[rfl,rfl],_,lV KK KK,p,_,X-a,Y-b,rfl,hu,w_.2.2,v4,rfl,hR]
def Gh(hL:1<=n)(T:V.Tm "Mirror" "shows" "Mirror.shows" iN iO)(uW:V.a "Mirror" "form")(uH:∀x,x∈(["Motif","Over","Shifted","Mirror","Turn","Rehue"]:List Ms)->V.Q n x "shows" cD (ofX (cb j x))):V.Q (n+1) "Mirror" "shows" iO (ofX (cb (j+1) "Mirror")):=by
 refine Txm.okM T EM (λds M R RX h=>?_) (λf cdv A outer s H E J hr hx=>#[_,((au (aG (aT (hn:=MD) uH hx hr (aE uW (ag (aa 0))) (aB (ac (cq (aa 1)) (ac (aa 2) ae))))))),λds M R RX d7 h=>?_])
 .obtain⟨_,_,_,_,rfl,_⟩:=h;rfl
 .obtain⟨p,v,X,Y,rfl,hv,w_,hd,hc,hR⟩:=h;cases p<;>simp only[Pat.cls]at hc<;>try exact absurd hc KK
  rename_i p;obtain⟨u,rfl,hu⟩:=hv;obtain⟨fs,rfl,o1⟩:=hu.objm;rw[Pat.depth]at hd;exact#[_,#[rfl,rfl],_,rfl,p.cls,p.cls_mem,fs,#[rfl,rfl],o1.shw,p,_,-X,Y,rfl,hu,w_,v4,rfl,hR]
def Gi(hL:1<=n)(T:V.Tm "Turn" "shows" "Turn.shows" iP iQ)(uV:V.a "Turn" "form")(uH:∀x,x∈(["Motif","Over","Shifted","Mirror","Turn","Rehue"]:List Ms)->V.Q n x "shows" cD (ofX (cb j x))):V.Q (n+1) "Turn" "shows" iQ (ofX (cb (j+1) "Turn")):=by
 refine Txm.okM T EN (λds M R RX h=>?_) (λf cdv A outer s H E J hr hx=>#[_,((au (aG (aT (hn:=MD) uH hx hr (aE uV (ag (aa 0))) (aB (ac (aa 2) (ac (cq (aa 1)) ae))))))),λds M R RX d7 h=>?_])
 .obtain⟨_,_,_,_,rfl,_⟩:=h;rfl
 .obtain⟨p,v,X,Y,rfl,hv,w_,hd,hc,hR⟩:=h;cases p<;>simp only[Pat.cls]at hc<;>try exact absurd hc KK
  rename_i p;obtain⟨u,rfl,hu⟩:=hv;obtain⟨fs,rfl,o1⟩:=hu.objm;rw[Pat.depth]at hd;exact#[_,#[rfl,rfl],_,rfl,p.cls,p.cls_mem,fs,#[rfl,rfl],o1.shw,p,_,Y,-X,rfl,hu,w_,v4,rfl,hR]
def Gj(hL:1<=n)(T:V.Tm "Rehue" "shows" "Rehue.shows" iR iS)(uZ:V.a "Rehue" "form")(Ml:V.a "Rehue" "old")(Mm:V.a "Rehue" "new")(uH:∀x,x∈(["Motif","Over","Shifted","Mirror","Turn","Rehue"]:List Ms)->V.Q n x "shows" cD (ofX (cb j x))):V.Q (n+1) "Rehue" "shows" iS (ofX (cb (j+1) "Rehue")):=by
 refine Txm.okM T sc_Rehue_shows (λds M R RX h=>?_) (λf cdv A outer s H E J hr hx=>⟨_,((aq (aH 3 sc_Rehue_shows.nd (aT (hn:=MD) uH hx hr (aE uZ (ag (aa 0))) (aB (ac (aa 1) (ac (aa 2) ae)))))
   (au (aG (gq (io (ag (aa 3)) (aE Ml (ag (aa 0)))) (aE Mm (ag (aa 0))) (ag (aa 3))))))),λds M R RX d7 h=>?_⟩)
 .obtain⟨_,_,_,_,rfl,_⟩:=h;rfl
 .obtain⟨p,v,X,Y,rfl,hv,w_,hd,hc,hR⟩:=h;cases p<;>simp only[Pat.cls]at hc<;>try exact absurd hc KK
  rename_i f g p;obtain⟨u,rfl,hu⟩:=hv;obtain⟨fs,rfl,o1⟩:=hu.objm;rw[Pat.depth]at hd;refine#[λd M'=>d=.int (p.show X Y)/\M'=M,#[_,#[rfl,rfl],_,rfl,p.cls,p.cls_mem,fs,#[rfl,rfl],o1.shw,p,_,X,Y,rfl,hu,w_.2.2,v4,rfl,rfl,rfl],?_];rintro _ _⟨rfl,rfl⟩;k_places;rw[Pat.show]at hR;unfold bM at hR;refine#[_,#[rfl,rfl],_,fL KK,ite2 (λe=>?_) (λe=>?_)]
  .rw[if_pos (of_decide_eq_true e)]at hR;exact#[_,#[rfl,rfl],_,lV KK KK,hR]
  .rw[if_neg (λz=>e (decide_eq_true z))]at hR;exact hR
def Gk(Sn:V.Tm "Motif" "shows" "Motif.shows" iI cD)(So:V.Tm "Over" "shows" "Over.shows" iJ iK)(Sq:V.Tm "Shifted" "shows" "Shifted.shows" iL iM)(Sr:V.Tm "Mirror" "shows" "Mirror.shows" iN iO)(Ss:V.Tm "Turn" "shows" "Turn.shows" iP iQ)(Su:V.Tm "Rehue" "shows" "Rehue.shows" iR iS)(F_:fP V)(Mh:V.a "Motif" "hues")(uN:V.a "Motif" "shifts")(uY:V.a "Over" "above")(uU:V.a "Over" "below")(u9:V.a "Shifted" "form")(Mi:V.a "Shifted" "y")(Mj:V.a "Shifted" "x")(uW:V.a "Mirror" "form")(uV:V.a "Turn" "form")(uZ:V.a "Rehue" "form")(Ml:V.a "Rehue" "old")(Mm:V.a "Rehue" "new"):∀j x,x∈(["Motif","Over","Shifted","Mirror","Turn","Rehue"]:List Ms)->V.Q (1+j) x "shows" cD (ofX (cb j x)):=by
 intro j;induction j with
 |zero=>
  intro x hx;simp only[HQ,Jy,or_false]at hx;rcases hx with rfl|rfl|rfl|rfl|rfl|rfl
  .exact CalMth.never Sn (λds M R RX=>fN)
  .exact CalMth.never So (λds M R RX=>fN)
  .exact CalMth.never Sq (λds M R RX=>fN)
  .exact CalMth.never Sr (λds M R RX=>fN)
  .exact CalMth.never Ss (λds M R RX=>fN)
  .exact CalMth.never Su (λds M R RX=>fN)
 |succ j Oh=>
  intro x hx;simp only[HQ,Jy,or_false]at hx;rcases hx with rfl|rfl|rfl|rfl|rfl|rfl
  .exact ok_Motif_shows (n:=1+j) (j:=j) MD Sn F_ Mh uN
  .exact Gf (n:=1+j) (j:=j) MD So uY uU Oh
  .exact Gg (n:=1+j) (j:=j) MD Sq u9 Mi Mj Oh
  .exact Gh (n:=1+j) (j:=j) MD Sr uW Oh
  .exact Gi (n:=1+j) (j:=j) MD Ss uV Oh
  .exact Gj (n:=1+j) (j:=j) MD Su uZ Ml Mm Oh
abbrev wS(V:Bx):Prop:=∀x,x∈(["Motif","Over","Shifted","Mirror","Turn","Rehue"]:List Ms)->V.Q 7 x "shows" cD (ofX (cb 6 x))
abbrev jF(V:Bx):Prop:=V.X 8 "cell_at" nE Dy
def Gm(T:V.T "cell_at" nC nE)(MY:jE V)(Np:V.a "Pattern" "form")(uH:wS V):jF V:=by
 refine CalMM.nilX (Tx.okM T EO (λds M R RX h=>?_) (λf cdv A outer s H E J hr hx=>⟨_,((aq (bY (aM (CalX.toM MY) hx hr (aB (ac (aa 1) (ac (aa 2) ae)))))
   (au (aG (aT uH hx hr (aE Np (ag (aa 0))) (aB (ac (aa 1) (ac (aa 2) ae)))))))),λds M R RX d7 h=>?_⟩))
 .obtain⟨_,R0,LY,⟨_,_,_,_,rfl,_⟩,_⟩:=h;rfl
 .obtain⟨rfl,R0,LY,⟨p,d,x,y,rfl,⟨w,h,s,fs,rfl,e1,e2,hp⟩,ok,h1,h2⟩,hR,hX⟩:=h;obtain⟨v,e3,hv⟩:=hp.form;obtain⟨gs,rfl,o1⟩:=hv.objm;have Ug:=ok.deep;refine#[x,y,rfl,λhn=>?_,λhn=>?_]
  .exact#[_,#[rfl,rfl],_,e3,p.cls,p.cls_mem,gs,#[rfl,rfl],o1.shw,p,_,x,y,rfl,hv,ok.wf,v4,rfl,hR _ _ (h1 hn)]
  .rw[d7];exact hX _ _ _ (h2 hn)
abbrev jG(V:Bx):Prop:=V.D 9 "row_from" nF Dz
def Gn(T:V.T "row_from" iT nF)(uB:V.m "range")(MZ:jF V)(uS:V.gs "SIGNS" ".123456"):jG V:=by
 refine Tx.okDW T EQ (λds R h=>?_) (λf cdv A outer s H E J hr=>#[_,((aj (ay (kR (ib rfl (compScope (by change dz _ (ah iT) ["pattern","x","y","many"] _=true;decide+kernel)) uB (aa 3) (λcl s0 H0 fp=>(af (fz uS) (aw (CalX.no MZ) hr (ac (aa 0) (ac (am (aa 1) (aa 4)) (ac (aa 2) ae))))))))))),λds R h=>?_])
 .obtain⟨_,_,_,_,_,rfl,_⟩:=h;rfl
 .obtain⟨p,d,x,y,n,rfl,hd,ok,hn,K_,l_,hy,hR⟩:=h;obtain⟨w,h,s,fs,rfl,_⟩:=id hd;refine#[#[v4,v4],by rw[bL];lia,λk ys=>ys=rowD p x y k,rfl,?_,?_]
  .rintro k v ys hk hl rfl;obtain⟨n8,rfl⟩:=bK hk;obtain⟨b0,b6⟩:=Pat.show_le ok.wf (by have:=ok.deep;lia) (x+(k:Int)) y;unfold bo at K_ l_;exact#[p,.obj "Pattern" fs,x+(k:Int),y,rfl,hd,ok,λ_=>#[_,#[Mx,wl b0 b6],wt p x y k],λz=>z #[#[v4,v4],hy]]
  .rintro ys hl rfl;rw[bL,IP];obtain⟨ys,e1,e2,e3⟩:=wu p x y hn;refine#[ys,e1,e2,?_];rw[e3];exact hR
def wT:SpD:=λds R=>∃f q,ds=[.obj "Floor" (Fl.fs f q)]/\f.Ok/\R (.lst (aA f.p f.w 0 f.l.toNat))
variable{f:Fl}
def wU{a q:Addr}(ne:a≠q)(ok:f.Ok){R:D->MS->Prop}{RX:XDM}(h:R (.lst (aA f.p f.w 0 f.l.toNat)) (f.M a q)):lend (λds R _=>wT ds R) [.ptr a] (f.M a q) R RX:=by
 refine#[a,_,_,Fl.ma ne,f,q,?_,ok,Fu _ _ _ _,h];show[lendD a _ (.ptr a)]=_;unfold lendD;simp
abbrev jH(V:Bx):Prop:=V.QD 10 "Floor" "rows" nG wT
def Go(T:V.Tm "Floor" "rows" "Floor.rows" iU nG)(uB:V.m "range")(Nq:jG V)(uE:V.a "Floor" "laid")(uJ:V.a "Floor" "width")(uG:V.a "Floor" "pattern"):jH V:=by
 refine Txm.okDW T ER (λds R h=>?_) (λf cdv A outer s H E J hr=>#[_,((aj (ay (ib rfl (compScope (by change dz _ (ah iU) ["self"] _=true;decide+kernel)) uB (fu uE (aa 0)) (λcl s0 H0 fp=>(aw Nq hr (ac (fu uG (aa 0)) (ac ad (ac (aa 1) (ac (fu uJ (aa 0)) ae)))))))))),λds R h=>?_])
 .obtain⟨_,_,rfl,_⟩:=h;rfl
 .obtain⟨f,q,rfl,ok,hR⟩:=h;have l0:=ok.l0;have l1:=ok.l1;have h2:=ok.h2;have w1:=ok.w1;have w2:=ok.w2;refine#[rfl,_,eI,#[v4,v4],by rw[bL];lia,λk ys=>ys=aA f.p f.w 0 k,rfl,?_,?_]
  .rintro k v ys hk hl rfl;obtain⟨n8,rfl⟩:=bK hk;refine#[rfl,_,gH,rfl,_,fO,f.p,f.d,0,k,f.w.toNat,by rw[ID v4],ok.is,ok.ok,v4,#[v4,v4],#[v4,v4],#[v4,v4],?_];show aA f.p f.w 0 k++_=aA f.p f.w 0 (k+1);rw[<-pY,Jz]
  .rintro ys hl rfl;rw[bL];exact hR
def S_Floor_lay:SpM:=λds M R RX=>∃a q f n,ds=[.ptr a,.int n]/\a≠q/\M=Fl.M f a q/\f.Ok/\1<=n/\n<=1000/\(f.h-f.l<n->RX "NoRow" [] (f.M a q))/\(n<=f.h-f.l->∀q',a≠q'->R (.lst (aA f.p f.w f.l n.toNat)) ((f.lay n).M a q'))
def Fl.ok_new{p:Pat}{d:D}{w h:Int}(is:bv p d)(ok:p.Ok)(w1:1<=w)(w2:w<=30)(h1:1<=h)(h2:h<=30):(Fl.mk p d w h 0 []).Ok:=#[is,ok,w1,w2,h1,h2,Int.le_refl 0,IM (show(0:Int)<=1 by decide) h1,Iq _,λ_ h=>nomatch h]
def Fl.Ok.keep(ok:f.Ok)(w:Ms):(f.keep w).Ok:=by
 refine#[ok.is,ok.ok,ok.w1,ok.w2,ok.h1,ok.h2,ok.l0,ok.l1,?_,λe he=>?_]
 .show(Jg _ _).length<=20;rw[Je,Ic,JS];have:=ok.de;lia
 .rcases Iw.mp (Ky he)with z|z
  .exact ok.dd e z
  .rw[HN.mp z];exact#[ok.is,ok.ok,ok.l0,ok.l1]
def Fl.Ok.stand{p:Pat}{d:D}(ok:f.Ok)(is:bv p d)(n9:p.Ok):(f.stand p d).Ok:=#[is,n9,ok.w1,ok.w2,ok.h1,ok.h2,ok.l0,ok.l1,ok.de,ok.dd]
def Fl.Ok.lay{n:Int}(ok:f.Ok)(n0:0<=n)(hn:n<=f.h-f.l):(f.lay n).Ok:=by
 have l0:=ok.l0;have k:=ok.keep "lay";exact#[ok.is,ok.ok,ok.w1,ok.w2,ok.h1,ok.h2,by show 0<=f.l+n;lia,by show f.l+n<=f.h;lia,k.de,k.dd]
abbrev qq(V:Bx):Prop:=V.Q 11 "Floor" "lay" iV S_Floor_lay/\V.Qd 11 "Floor" "lay" iV [.int 1] S_Floor_lay
def Gp(T:V.Td "Floor" "lay" "Floor.lay" nH iV [.int 1])(uX:V.m "max")(u_:V.a "Floor" "height")(uE:V.a "Floor" "laid")(Nr:jD V)(Nt:jH V)(QV:V.n "NoRow"):qq V:=by
 refine Txd.okMd T sc_Floor_lay (λds M R RX h=>?_) (λf cdv A outer s H E J hr hx=>⟨_,((aq (bj (AR (ag (aa 1)) (dA (aE u_ (ag (aa 0))) (aE uE (ag (aa 0))))) (au (Bb QV hx rfl (aB (ac ax ae)))) aU)
   (aq (bY (aT (CalMth.one Nr) hx hr (ag (aa 0)) (aB (ac ax ae))))
   (aq (aH 2 sc_Floor_lay.nd (aE uE (ag (aa 0))))
   (aq (bZ uE (ag (aa 0)) (ag (am (aa 2) (gj rfl uX (ac (aa 1) (ac ad ae))))))
   (au (aG (D9 (cu (CalMth.one (CalMth.lendD Nt)) hx hr (ag (aa 0))) (wC (ag (aa 2))) wB)))))))),λds M R RX d7 h=>?_⟩)
 .obtain⟨_,_,⟨_,_,_,_,rfl,_⟩,_⟩:=h;rfl
 .obtain⟨R,RX,⟨a,q,f,n,rfl,ne,rfl,ok,n1,n2,hX,hR⟩,rfl,rfl⟩:=h;have l0:=ok.l0;have l1:=ok.l1;refine#[_,Fl.ma ne,_,js,_,Fl.ma ne,_,eI,ite2 (λc=>?_) (λc=>?_)]
  .have c':=of_decide_eq_true c;refine#[R1,?_];rw[d7];exact#[_,Fl.sub ne,hX c']
  have hc:n<=f.h-f.l:=by have:¬(f.h-f.l<n):=λz=>c (decide_eq_true z);lia
  refine#[_,HN.mpr rfl,_,Fl.ma ne,rfl,a,q,f,"lay",rfl,ne,rfl,ok.de,λq' f6=>?_];refine#[λd M'=>d=.int f.l/\M'=(f.keep "lay").M a q',#[_,Fl.ma f6,_,eI,rfl,rfl],?_];rintro _ _⟨rfl,rfl⟩;k_places;have eM:mput ((f.keep "lay").M a q') a (.ins "Floor" (putD "laid" (.int (f.l+if 0>n then 0 else n)) ((f.keep "lay").fs q')))=(f.lay n).M a q':=by
   rw[Fl.put f6,if_neg v4];rfl
  refine#[_,Fl.ma f6,by show(6:Nat)<1000;decide,?_];rw[eM];have el:(f.lay n).l.toNat=f.l.toNat+n.toNat:=by show(f.l+n).toNat=_;lia
  refine#[_,HN.mpr rfl,_,Fl.ma f6,rfl,?_];dsimp only[mNil];refine wU f6 (ok.lay v4 hc) ?_;rw[el];show ∃N,subM N _/\R (.lst (cutD (aA f.p f.w 0 _) (be f.l) LH)) N;rw[wP _ _ _ l0];exact#[_,Fl.sub f6,hR hc q' f6]
def Gq:SpM:=λds M R _=>∃a q f n b,ds=[.ptr a,.int n,.bl b]/\a≠q/\M=Fl.M f a q/\f.Ok/\1<=n/\n<=1000/\(f.h-f.l<n->R (.lst [.bl true,.non]) (f.M a q))/\(n<=f.h-f.l->∀q',a≠q'->R (.lst [.bl false,.lst (aA f.p f.w f.l n.toNat)]) ((f.lay n).M a q'))
abbrev qr(V:Bx):Prop:=V.Ek ["MotifError","TooFar","NoRow","Parted"]
abbrev qt(V:Bx):Prop:=V.MM 12 "_law_lay" nJ Gq
def Gr(T:V.T "_law_lay" nI nJ)(O1:qq V)(ek:qr V):qt V:=by
 refine Tx.okM T sc__law_lay (λds M R RX h=>?_) (λf cdv A outer s H E J hr hx=>⟨_,((aq (aH 3 sc__law_lay.nd (ag bO))
   (aq (aH 4 sc__law_lay.nd (ag bc))
   (aq (vn (λpn xe J hp hx=>(au (dW (bu (bP (fX (bp (aa 1) ad) (fW (bI (aa 2)))))) (au (aH 3 sc__law_lay.nd (Ef O1.2 hx hr (ag (aa 0))))) (au (aH 3 sc__law_lay.nd (aT (CalMth.one O1.1) hx hr (ag (aa 0)) (aB (ac (aa 1) ae)))))))) (λ_=>(AA ek (λe=>(aj (ao 4 sc__law_lay.nd bc))) uj)))
   (au (aG (ag (bf (ac (aa 4) (ac (aa 3) ae)))))))))),λds M R RX d7 h=>?_⟩)
 .obtain⟨_,_,_,_,_,rfl,_⟩:=h;rfl
 .obtain⟨a,q,f,n,b,rfl,ne,rfl,ok,n1,n2,hX,hR⟩:=h;refine#[λd M'=>d=.non/\M'=f.M a q,#[rfl,rfl],?_];rintro _ _⟨rfl,rfl⟩;k_places;refine#[λd M'=>d=.bl false/\M'=f.M a q,#[rfl,rfl],?_];rintro _ _⟨rfl,rfl⟩;k_places;refine#[λz M' x fs=>z=[be (.ptr a),be (.int n),be (.bl b),be .non,be (.bl false)]/\M'=f.M a q/\x="NoRow"/\f.h-f.l<n,λJ hJ=>?_,?_]
  .let P:D->MS->Prop:=λd M'=>n<=f.h-f.l/\∃q',a≠q'/\d=.lst (aA f.p f.w f.l n.toNat)/\M'=(f.lay n).M a q'
   have lay:S_Floor_lay [.ptr a,.int n] (f.M a q) P (λx fs M'=>J.RM [be (.ptr a),be (.int n),be (.bl b),be .non,be (.bl false)] M' x fs):=
    #[a,q,f,n,rfl,ne,rfl,ok,n1,n2,λc=>by rw[hJ];exact#[rfl,rfl,rfl,c],λc q' f6=>#[c,q',f6,rfl,rfl]]
   refine#[λz M'=>n<=f.h-f.l/\∃q',a≠q'/\z=[be (.ptr a),be (.int n),be (.bl b),be (.lst (aA f.p f.w f.l n.toNat)),be (.bl false)]/\M'=(f.lay n).M a q',ite2 (λc=>ite2 (λ_=>?_) (λ_=>?_)) (λ_=>?_),λz M' ⟨c,q',f6,e1,e2⟩=>?_]
   .have c':n=1:=of_decide_eq_true c;subst c';exact#[P,#[_,Fl.ma ne,rfl,lay],λd M' ⟨c,q',f6,e1,e2⟩=>#[c,q',f6,by rw[e1];rfl,e2]]
   .exact#[P,#[_,HN.mpr rfl,_,Fl.ma ne,rfl,lay],λd M' ⟨c,q',f6,e1,e2⟩=>#[c,q',f6,by rw[e1];rfl,e2]]
   .exact#[P,#[_,HN.mpr rfl,_,Fl.ma ne,rfl,lay],λd M' ⟨c,q',f6,e1,e2⟩=>#[c,q',f6,by rw[e1];rfl,e2]]
   .subst e1 e2;exact#[QG,hR c q' f6]
  .rintro z M' x fs⟨rfl,rfl,rfl,c⟩;k_places;refine#[#[MF,MF],?_];rw[if_pos KK];exact#[λd=>d=.bl true,rfl,λd e=>by subst e;exact#[#[QG,hX c],NoOwn.of rfl]]
def Gs:SpD:=λds R=>∃i w,ds=[.lst (cQ i)]/\jt[i]?=be w/\R (.str w)
abbrev qu(V:Bx):Prop:=V.D 1 "_law_kind" nM Gs
def Gu(T:V.T "_law_kind" nK nM):qu V:=by
 refine Tx.okDW T ES (λds R h=>?_) (λf cdv A outer s H E J hr=>⟨_,((ai (aS (bE (EA (aa 0) bc) ad) (aj (ay ax)) aO)
   (aj (ay (af (bf (ac ax (ac ax (ac ax (ac ax (ac ax (ac ax (ac ax (ac ax ae))))))))) (B0 (aa 0) bc)))))),λds R h=>?_⟩)
 .obtain⟨_,_,rfl,_⟩:=h;rfl
 .obtain⟨i,w,rfl,hw,hR⟩:=h;obtain⟨hi,hw⟩:=FH hw;obtain⟨⟨e1,e2⟩,e3⟩:=FG i hi;refine#[#[rfl,e2],?_];show ite ((!decide (((cQ i).countP λw=>eqF w (.bl true):Nat)=(1:Int)))=true) _ _;refine ite2 (λc=>by rw[e1]at c;cases c) λ_=>?_;refine#[Mx,#[rfl,e2],by rw[e3];show i<8;lia,?_];show rdIx (.lst ((jt++[("":Ms)]).map D.str)) (.int ((cQ i).findIdx _:Nat)) R;rw[e3];exact#[.str w,bD (by rw[H9,hw];rfl),hR]
abbrev dO(V:Bx):Prop:=V.Q 1 "Reading" "may_take" nO C1
def Gv(T:V.Tm "Reading" "may_take" "Reading.may_take" nN nO)(uA:V.m "len")(Mn:V.a "Reading" "text")(uP:V.a "Reading" "place"):dO V:=by
 refine Txm.okM T ET (λds M R RX h=>?_) (λf cdv A outer s H E J hr hx=>⟨_,((aq (bj (mt_w (iq (io (aE uP (ag (aa 0))) (uz uA (aF (aE Mn (ag (aa 0))) bg))) (ip (AS (lm (aE Mn (ag (aa 0))) (aE uP (ag (aa 0)))) (ag (aa 1)))))) (au (aG (ag ax))) aU)
   (aq (bZ uP (ag (aa 0)) (im (aE uP (ag (aa 0))) (ag ad)))
   (au (aG (lm (aE Mn (ag (aa 0))) (dA (aE uP (ag (aa 0))) (ag ad)))))))),λds M R RX d7 h=>?_⟩)
 .obtain⟨_,_,_,_,_,rfl,_⟩:=h;rfl
 .obtain⟨a,t,k,l,al,rfl,rfl,c_,hR⟩:=h;refine#[_,aY,_,fG,_,aY,_,lR,HZ c_.sz Mx,?_];cases l with
  |nil=>
   refine ifdT (by rw[c_.nil]) (ifT rfl ?_);exact hR
  |cons c l=>
   have lt:=c_.lt;refine ifdF v4 ?_;refine#[_,aY,_,lR,_,aY,_,fG,c,#[HZ c_.sz Mx,bD c_.get],?_];refine ite2 (λe=>?_) (λe=>?_)
   .have e2:(!(!(Builtin.Str.occurrences al #[[c].toArray] 0 al.length 1).isEmpty))=true:=e;rw[vV]at e2;have nc:c∉cs al:=by simpa using e2
    rw[dZ nc,eg nc]at hR;exact hR
   .have e2:¬(!(!(Builtin.Str.occurrences al #[[c].toArray] 0 al.length 1).isEmpty))=true:=e;rw[vV]at e2;have nc:c∈cs al:=by simpa using e2
    rw[fH nc,fJ nc]at hR;refine#[_,aY,_,fG,_,aY,by show(2:Nat)<1000;decide,?_];rw[show mput (RdM a t k) a (.ins "Reading" (putD ("place":Ms) (.int ((k:Int)+1)) (rdF t k)))=RdM a t (k+1)by rw[CZ];exact iC];refine#[_,aY,_,lR,_,aY,_,fG,c,#[HZ c_.sz Mx,?_],hR];rw[show((k+1:Nat):Int)-1=(k:Int)by lia];exact bD c_.get
abbrev cR(V:Bx):Prop:=V.Q 2 "Reading" "take" nQ C3
def Gw(T:V.Tm "Reading" "take" "Reading.take" nP nQ)(uL:dO V):cR V:=by
 refine Txm.okM T sc_Reading_take (λds M R RX h=>?_) (λf cdv A outer s H E J hr hx=>⟨_,((aq (aH 2 sc_Reading_take.nd (aT (CalMth.one uL) hx hr (ag (aa 0)) (aB (ac (aa 1) ae))))
   (aq (bj (bu (bp (aa 2) ax)) (au iB) aU)
   (au (aG (ag (aa 2))))))),λds M R RX d7 h=>?_⟩)
 .obtain⟨_,_,_,_,_,_,rfl,_⟩:=h;rfl
 .obtain⟨a,t,k,c,l,al,rfl,rfl,c_,hc,hR⟩:=h;refine#[λd M'=>d=.str #[[c].toArray]/\M'=RdM a t (k+1),#[_,HN.mpr rfl,_,aY,dH,a,t,k,_,al,rfl,rfl,c_,by rw[fH hc,fJ hc];exact#[rfl,rfl]],?_];rintro _ _⟨rfl,rfl⟩;k_places;exact hR
abbrev qv(V:Bx):Prop:=V.MM 3 "line_from" nS S_line_from
def Gx(T:V.T "line_from" nR nS)(uB:V.m "range")(uS:V.gs "SIGNS" ".123456")(uD:cR V)(uL:dO V):qv V:=by
 refine Tx.okM T sc_line_from (λds M R RX h=>?_) (λf cdv A outer s H E J hr hx=>⟨_,((aq (aH 3 sc_line_from.nd (ag ax))
   (aq (Bh 4 PassesOwn.leaving rfl sc_line_from.nd uB (ag (aa 2)) (au (aH 3 sc_line_from.nd (im (ag (aa 3)) (gq (bu (eZ (aa 4) (aa 1))) (aT (CalMth.one uD) hx hr (ag (aa 0)) (aB (ac (fz uS) ae))) (aT (CalMth.one uL) hx hr (ag (aa 0)) (aB (ac (fz uS) ae))))))))
   (au (aG (ag (aa 3))))))),λds M R RX d7 h=>?_⟩)
 .obtain⟨_,_,_,_,_,_,_,rfl,_⟩:=h;rfl
 .obtain⟨a,t,k,n,m,x,l,rfl,rfl,c_,hs,hn,hm,U1,l5,hR⟩:=h;refine#[λd M'=>d=.str ""/\M'=RdM a t k,#[rfl,rfl],?_];rintro _ _⟨rfl,rfl⟩;k_places;refine#[#[v4,v4],λi z M'=>i<=m/\∃col,z=[be (.ptr a),be (.int n),be (.int m),be (.str #[(x.take i).toArray]),col]/\M'=RdM a t (k+min i x.length),#[Iq _,LH,rfl,by rw[Nat.zero_min];rfl],?_,?_]
  .rintro i d z M' hi⟨U2,col,rfl,rfl⟩;k_places;obtain⟨w9,rfl⟩:=bK hi;have w9:i<m:=by lia
   have b8:=List.length_take_le i x;refine#[λd M'=>d=.str #[(x.take (i+1)).toArray]/\M'=RdM a t (k+min (i+1) x.length),?_,?_]
   .by_cases f8:i<x.length
    .have e1:x.take (i+1)=x.take i++[x[i]]:=List.take_succ_eq_append_getElem f8;have d5:At t (k+i) (x[i]::(x.drop (i+1)++l)):=by
      have:=c_;rw[<-Lv i x,IU,Jk f8]at this;have:=this.app;rw[JC,JA v4]at this;exact this
     have hc:=signs_is.mpr (CY (hs x[i] (Iv f8)));have e2:(#[(x.take i).toArray]:Ms)++#[[x[i]].toArray]=#[(x.take (i+1)).toArray]:=by rw[show(#[[x[i]].toArray]:Ms)=#[[x[i]].toArray]from rfl,gy,e1]
     rw[JA v4,JA v4];refine ite2 (λ_=>?_) (λ_=>?_)
     .exact#[_,HN.mpr rfl,_,aY,cy,a,t,_,_,_,".123456",rfl,rfl,d5,hc,by rw[fK,show(#[[x[i]].toArray]:Ms).length=1 from rfl];lia,congrArg D.str e2,rfl]
     .refine#[_,HN.mpr rfl,_,aY,dH,a,t,_,_,".123456",rfl,rfl,d5,?_];rw[fH hc,fJ hc];exact#[by rw[fK,show(#[[x[i]].toArray]:Ms).length=1 from rfl];lia,congrArg D.str e2,rfl]
    .obtain⟨c,l',rfl,hc⟩:=l5.resolve_left v4;have d5:=c_.app;rw[J6 v4,J6 v4,Jh v4,Jh v4];refine ite2 (λc=>absurd (of_decide_eq_true c) v4) (λ_=>?_);refine#[_,HN.mpr rfl,_,aY,dH,a,t,_,_,".123456",rfl,rfl,d5,?_];rw[dZ (vW hc),eg (vW hc)];refine#[by rw[fK,show("":Ms).length=0 from rfl];lia,?_,rfl];rw[show("":Ms)=#[([]:List Nat).toArray]from rfl,gy,Iz]
   .rintro _ _⟨rfl,rfl⟩;k_places;exact#[w9,_,rfl,trivial]
  .intro z M' hz;rw[bL,IP]at hz;obtain⟨_,col,rfl,rfl⟩:=hz;rw[Jh hm,J6 hm];exact hR
abbrev qw(V:Bx):Prop:=V.MM 4 "lines_from" nV C9
def Gy(T:V.T "lines_from" nU nV)(uA:V.m "len")(O2:qv V)(O3:V.gi "LONGEST" 8)(uL:dO V):qw V:=by
 refine Tx.okM T sc_lines_from (λds M R RX h=>?_) (λf cdv A outer s H E J hr hx=>⟨_,((aq (aH 1 sc_lines_from.nd (lv (aF (aM (CalMM.frame O2) hx hr (aB (ac (aa 0) (ac ad (ac (fv O3) ae))))) bg)))
   (aq (aH 2 sc_lines_from.nd (uz uA (aF (Bj (ag (aa 1)) (ag ad)) bg)))
   (aq (Bg PassesOwn.leaving (mt_w (AU (ux (vd uA (ag (aa 1))) (ag (fv O3))) (AT (io (aT (CalMth.one (CalMth.frame uL)) hx hr (ag (aa 0)) (aB (ac ax ae))) (ag ax))))) (au (bY (Bl (ag (aa 1)) (aM (CalMM.frame O2) hx hr (aB (ac (aa 0) (ac (aa 2) (ac (aa 2) ae)))))))))
   (ve 1 (au (aG (ag (aa 1))))))))),λds M R RX d7 h=>?_⟩)
 .obtain⟨_,_,_,_,_,_,rfl,_⟩:=h;rfl
 .obtain⟨a,t,k,L,w,l,rfl,rfl,hL,c_,hR⟩:=h;have hw:=hL.w1;have Uh:=hL.w8;have G':=hL.many;cases L with
  |nil=>exact absurd G'.1 Mx
  |cons x L=>
   obtain⟨K_,l_⟩:=hL.each x HW;rw[vU]at c_ hR;rw[IU]at c_;rw[HX]at G';have stop:∀N:List (List Nat),∃c l',rowsT N++59::l=c::l'/\isSg c=false:=λN=>by
    cases N with
    |nil=>exact#[59,l,rfl,rfl]
    |cons y N=>exact#[47,_,rfl,rfl]
   refine#[λd M'=>∃p,p≠a/\d=.ptr p/\M'=(p,.lst [.str #[x.toArray]])::RdM a t (k+x.length),#[[],RdM a t k,rfl,a,t,k,1,8,x,_,rfl,rfl,c_,l_,v4,v4,Mx,.inr (stop L),by show 1<=1000;decide,λp hp=>#[p,λe=>hp (by rw[e];exact HN.mpr rfl),rfl,rfl]],?_];rintro _ _⟨p,Ui,rfl,rfl⟩;k_places;refine#[λd M'=>d=.int w/\M'=(p,.lst [.str #[x.toArray]])::RdM a t (k+x.length),#[_,cX,_,rfl,by rw[fK];lia,by rw[fK,K_],rfl],?_];rintro _ _⟨rfl,rfl⟩;k_places;refine#[λm z M'=>∃L1 L2 k',L=L1++L2/\m=L2.length/\At t k' (rowsT L2++59::l)/\k'+(rowsT L2).length=k+(x++rowsT L).length/\z=[be (.ptr a),be (.ptr p),be (.int w)]/\M'=(p,.lst (lstD (x::L1)))::RdM a t k',#[_,[],L,_,rfl,rfl,c_.app,by rw[Ic];lia,rfl,rfl],?_];rintro m z M'⟨L1,L2,k',rfl,rfl,j8,hk,rfl,rfl⟩;k_places;rw[Ic]at G';have Oi:(lstD (x::L1)).length=L1.length+1:=by simp[lstD]
   have done:L2=[]->R (.lst (lstD (x::L1))) (RdM a t k'):=λe=>by
    subst e;rw[show k'=k+(x++rowsT (L1++[])).length from hk,show lstD (x::L1)=lstD (x::(L1++[]))by rw[Iz]];exact hR
   refine#[_,cX,?_];rw[Oi];refine ite2 (λc=>?_) (λc=>?_)
   .refine#[_,HN.mpr rfl,_,C8 Ui,dH,[(p,_)],RdM a t _,rfl,a,t,_,_,"/",rfl,rfl,j8,?_];cases L2 with
    |nil=>
     rw[show rowsT []++59::l=59::l from rfl,dZ Mx,eg Mx];refine#[_,cX,?_];rw[show mdel ([(p,MO.lst (lstD (x::L1)))]++RdM a t (k'+0)) p=RdM a t k' from lU];exact done rfl
    |cons y N=>
     have e1:rowsT (y::N)++59::l=47::(y++(rowsT N++59::l)):=by simp[rowsT]
     have Sv:(47:Nat)∈cs "/":=Mx
     rw[e1]at j8 ⊢;rw[fH Sv,fJ Sv];obtain⟨Uj,N7⟩:=hL.each y (HU _ (Ip _ HW));have p9:=j8.next;refine#[#[_,cX],[(p,_)],RdM a t _,rfl,a,t,_,w,w,y,_,rfl,rfl,p9,N7,v4,v4,Uh,.inl Uj,?_];refine#[_,cX,by rw[Oi];lia,N.length,by rw[HX];lia,L1++[y],N,_,MF,rfl,p9.app,?_,rfl,?_]
     .rw[<-hk];simp[rowsT];lia
     .show mput ((p,MO.lst (lstD (x::L1)))::RdM a t _) p _=_;rw[vX];simp[lstD]
   .have c':L1.length+1=8:=by
     have:¬((L1.length+1:Nat):Int)<8:=λz=>c (decide_eq_true z);lia
    refine#[_,cX,?_];rw[lU];exact done (JY v4)
abbrev qy(V:Bx):Prop:=V.MM 3 "number_from" nX C6
def Gz(T:V.T "number_from" nW nX)(uF:V.m "int")(uL:dO V)(uD:cR V):qy V:=by
  refine Tx.okM T sc_number_from (λds M R RX h=>?_) (λf cdv A outer s H E J hr hx=>⟨_,((aq (bj (io (aT (CalMth.one uL) hx hr (ag (aa 0)) (aB (ac ax ae))) (ag ax)) (au (aG (ag ad))) aU)
      (aq (aH 1 sc_number_from.nd (im (aT (CalMth.one uL) hx hr (ag (aa 0)) (aB (ac ax ae))) (aT (CalMth.one uD) hx hr (ag (aa 0)) (aB (ac ax ae)))))
      (aq (dW (bu (bI (AO (aa 1) (ac ax ae)))) (au (aH 1 sc_number_from.nd (im (ag (aa 1)) (aT (CalMth.one uL) hx hr (ag (aa 0)) (aB (ac ax ae)))))) aU)
      (au (aG (ag (hZ uF (ac (aa 1) ae))))))))),λds M R RX d7 h=>?_⟩)
  . obtain⟨_,_,_,_,_,_,rfl,_⟩:=h;rfl
  . obtain⟨a,t,k,x,e,l,rfl,rfl,f8,he,c_,hR⟩:=h;have hi:=C4 f8;have hl:=bJ f8;rw[<-bn]at hl;change (numL x).length<=3 at hl;refine#[_,HN.mpr rfl,_,aY,dH,a,t,k,_,"0",rfl,rfl,c_,?_];rcases numS f8 with e0|⟨pre,c,y,hp,hc,ev,hy⟩
    . rw[e0]at hR hi ⊢;have e1:x=0:=Option.some.inj (hi.symm.trans KK);subst e1;have e2:(48:Nat)∈cs "0":=by decide
      rw[show([48]++e::l:List Nat)=48::e::l from rfl,fH e2,fJ e2];exact hR
    rw[ev]at c_ hR hi hl ⊢;have h0:mayS "0" (pre++c::y++e::l)=""/\mayN "0" (pre++c::y++e::l)=0:=by
      have n:c∉cs "0":=λq=>by have:=HN.mp q;lia
      rcases hp with rfl|rfl
      . exact#[dZ n,eg n]
      . exact#[dZ Mx,eg Mx]
    have hm:mayS "-" (pre++c::y++e::l)=#[pre.toArray]/\mayN "-" (pre++c::y++e::l)=pre.length:=by
      have n:c∉cs "-":=λq=>by have:=HN.mp q;lia
      rcases hp with rfl|rfl
      . exact#[dZ n,eg n]
      . exact#[rfl,rfl]
    rw[h0.1,h0.2];have d5:At t (k+pre.length) (c::(y++e::l)):=by rw[IU]at c_;exact c_.app
    have j8:=d5.next;refine#[λd M'=>d=.str #[(pre++[c]).toArray]/\M'=RdM a t (k+pre.length+1),?_,?_]
    . refine#[_,HN.mpr rfl,_,aY,dH,a,t,k,_,"-",rfl,rfl,c_,?_];rw[hm.1,hm.2];refine#[_,HN.mpr rfl,_,aY,cy,a,t,k+pre.length,c,_,"123456789",rfl,rfl,d5,digits19.mpr hc,?_,?_,rfl]
      . rcases hp with rfl|rfl<;>simp[Str.length]
      . rw[show(#[[c].toArray]:Ms)=#[[c].toArray]from rfl,gy]
    . rintro _ _⟨rfl,rfl⟩;k_places;refine#[λz M'=>z=[be (.ptr a),be (.str #[(pre++c::y).toArray])]/\M'=RdM a t (k+(pre++c::y).length),?_,?_]
      . show if Txt.endswith #[(pre++[c]).toArray] "1"=true then _ else _
        rw[C5];refine ite2 (λz=>?_) (λz=>?_)
        . obtain⟨e1,e2,e3⟩:(⟨(pre++[c]).toArray⟩:Ms)++mayS "012" (y++e::l)=⟨(pre++c::y).toArray⟩/\mayN "012" (y++e::l)=y.length/\(mayS "012" (y++e::l)).length<=1:=by
            rcases hy with rfl|⟨_,d,hd,rfl⟩
            . have n:e∉cs "012":=λq=>by have:=digits02.mp q;unfold endS at he;lia
              rw[List.nil_append,dZ n,eg n];refine#[?_,rfl,Mx];rw[show("":Ms)=#[([]:List Nat).toArray]from rfl,gy];simp
            . rw[show([d]++e::l:List Nat)=d::e::l from rfl,fH (digits02.mpr hd),fJ (digits02.mpr hd)];refine#[?_,rfl,HP 1];rw[show(#[[d].toArray]:Ms)=#[[d].toArray]from rfl,gy];simp
          refine#[λv M'=>v=.str #[(pre++c::y).toArray]/\M'=RdM a t (k+(pre++c::y).length),#[_,HN.mpr rfl,_,aY,dH,a,t,_,_,"012",rfl,rfl,j8,?_],?_]
          . refine#[?_,congrArg D.str e1,?_]
            . rcases hp with rfl|rfl<;>simp[Str.length]at e3 ⊢<;>lia
            . rw[e2];congr 1;simp;lia
          . rintro _ _⟨rfl,rfl⟩;k_places;exact#[rfl,trivial]
        . have Uk:y=[]:=hy.resolve_right λq=>z (decide_eq_true q.1);subst Uk;exact#[rfl,by rw[Ic];rfl]
      . rintro _ _⟨rfl,rfl⟩;k_places;exact#[x,#[hi,by show(pre++c::y).length<=640;lia],hR]
abbrev gJ(V:Bx):Prop:=V.MM 4 "shift_from" nZ C7
def GA(T:V.T "shift_from" nY nZ)(O4:qy V)(uD:cR V):gJ V:=by
 refine Tx.okM T sc_shift_from (λds M R RX h=>?_) (λf cdv A outer s H E J hr hx=>⟨_,((aq (aH 1 sc_shift_from.nd (aM O4 hx hr (aB (ac (aa 0) ae))))
   (aq (bY (aT (CalMth.one uD) hx hr (ag (aa 0)) (aB (ac ax ae))))
   (au (aG (uy (aF (ag (aa 1)) (aF (aM O4 hx hr (aB (ac (aa 0) ae))) bg)))))))),λds M R RX d7 h=>?_⟩)
 .obtain⟨_,_,_,_,_,_,_,rfl,_⟩:=h;rfl
 .obtain⟨a,t,k,x,y,e,l,rfl,rfl,f8,hy,he,c_,hR⟩:=h;refine#[λd M'=>d=.int x/\M'=RdM a t (k+(numL x).length),#[a,t,k,x,44,_,rfl,rfl,f8,.inl rfl,c_,rfl,rfl],?_];rintro _ _⟨rfl,rfl⟩;k_places;have d5:=c_.app;exact#[_,HN.mpr rfl,_,aY,cy,a,t,_,44,_,",",rfl,rfl,d5,Mx,a,t,_,y,e,l,rfl,rfl,hy,he,d5.next,MF,hR]
abbrev jI(V:Bx):Prop:=V.D 1 "levelled" og Cf
def GB(T:V.T "levelled" oa og):jI V:=by
 refine Tx.okDW T sc_levelled (λds R h=>?_) (λf cdv A outer s H E J hr=>⟨_,((ai (gh PassesOwn.never (bE (af (aa 1) ad) ad) (ai (ao 2 sc_levelled.nd (zA (af (aa 0) ad) (af (aa 1) ad)))
    (ai (ao 3 sc_levelled.nd (aJ (ac (bx (af (aa 0) ad) (az (aa 2) (af (aa 1) ad))) (ac (bx (af (aa 0) ad) (az (aa 2) (af (aa 1) ad))) ae))))
    (ai (ao 0 sc_levelled.nd (aa 1))
    (aj (ao 1 sc_levelled.nd (aa 3)))))))
   (ai (fj (eZ (af (aa 0) ad) ad) (aj (ao 0 sc_levelled.nd (aJ (ac (cq (af (aa 0) ad)) (ac (cq (af (aa 0) ad)) ae))))) aO)
   (aj (ay (aJ (ac (aa 0) (ac (aa 1) ae)))))))),λds R h=>?_⟩)
 .obtain⟨a,b,c,d,rfl,_⟩:=h;rfl
 .obtain⟨a,b,c,d,rfl,hb,hd,hR⟩:=h;refine#[λm z=>∃(f0 f1 s0 s1:Int) (t r:Option D),z=[be (.tup [.int f0,.int f1]),be (.tup [.int s0,.int s1]),t,r]/\Uni a b c d f0 f1 s0 s1/\f1.natAbs<4611686018427387904/\s1.natAbs<4611686018427387904/\m=s1.natAbs,#[_,a,b,c,d,LH,LH,rfl,Uni.refl a b c d,hb,hd,rfl],?_];rintro m z⟨f0,f1,s0,s1,t,r,rfl,hu,hf,hs,rfl⟩;k_places;refine#[_,rfl,ite2 (λcc=>?_) (λcc=>?_)]
  .have c':¬s1=0:=by simpa using cc
   obtain⟨g1,g2⟩:=fdm f1 s1 c';refine#[λd=>d=.int (f1.fdiv s1),#[_,rfl,_,rfl,#[c',hs],rfl],?_];rintro _ rfl;k_places;refine#[λd=>d=.tup [.int (f0-f1.fdiv s1*s0),.int (f1-f1.fdiv s1*s1)],#[_,rfl,_,rfl,.inl #[v4,v4],_,rfl,_,rfl,.inl #[v4,v4],MF,rfl],?_];rintro _ rfl;k_places;refine#[λd=>d=.tup [.int s0,.int s1],rfl,?_];rintro _ rfl;k_places;refine#[λd=>d=.tup [.int (f0-f1.fdiv s1*s0),.int (f1-f1.fdiv s1*s1)],rfl,?_];rintro _ rfl;k_places;exact#[_,g1,s0,s1,_,_,_,_,rfl,hu.step _,hs,v4,rfl]
  .have c':s1=0:=by simpa using cc
   subst c';refine#[λz=>∃p0 p1:Int,z=[be (.tup [.int p0,.int p1]),be (.tup [.int s0,.int 0]),t,r]/\Lev a b c d p0 p1 s0,#[_,rfl,ite2 (λe=>?_) (λe=>?_)],?_]
   .have e':=of_decide_eq_true e;refine#[λd=>d=.tup [.int (-f0),.int (-f1)],#[_,rfl,_,rfl,MF,rfl],?_];rintro _ rfl;k_places;exact#[_,_,rfl,v4,hu.neg]
   .have e':=of_decide_eq_false (Iy.mpr e);exact#[_,_,rfl,v4,hu]
   .rintro _⟨p0,p1,rfl,hL⟩;k_places;exact#[MF,hR p0 p1 s0 hL]
abbrev jJ(V:Bx):Prop:=V.D 2 "spread" oi Cg
def GC(T:V.T "spread" oh oi)(uT:V.m "abs")(Nu:jI V):jJ V:=by
 refine Tx.okDW T sc_spread (λds R h=>?_) (λf cdv A outer s H E J hr=>⟨_,((ai (aS (bp (az (af (aa 0) ad) (af (aa 1) ad)) (az (af (aa 0) ad) (af (aa 1) ad))) (aj (ay bO)) aO)
   (ai (ao 2 sc_spread.nd (aw Nu hr (ac (aa 0) (ac (aa 1) ae))))
   (ai (ao 3 sc_spread.nd (eY uT (ac (af (af (aa 2) ad) ad) ae)))
   (aj (ay (aJ (ac (aa 3) (ac (af (af (aa 2) ad) ad) (ac (aD (af (af (aa 2) ad) ad) (aa 3)) ae)))))))))),λds R h=>?_⟩)
 .obtain⟨a,b,c,d,rfl,_⟩:=h;rfl
 .obtain⟨a,b,c,d,rfl,ha,hb,hc,hd,hN,hR⟩:=h;refine#[_,rfl,_,rfl,.inl #[v4,v4],_,rfl,_,rfl,.inl #[v4,v4],ite2 (λe=>?_) (λe=>?_)]
  .exact hN (of_decide_eq_true e)
  .have e':=of_decide_eq_false (Iy.mpr e);refine#[λx=>∃p0 p1 q0:Int,x=.tup [.tup [.int p0,.int p1],.tup [.int q0,.int 0]]/\Lev a b c d p0 p1 q0,#[a,b,c,d,rfl,hb,hd,λp0 p1 q0 hL=>#[p0,p1,q0,rfl,hL]],?_];rintro _⟨p0,p1,q0,rfl,hL⟩;k_places;have hF:=gv e' hL;refine#[λx=>x=.int (if q0<0 then -q0 else q0),#[_,rfl,_,rfl,rfl],?_];rintro _ rfl;k_places;exact#[_,rfl,_,rfl,_,rfl,_,rfl,hF.1,MF,hR e' _ _ _ hF]
abbrev qz(V:Bx):Prop:=V.MM 2 "hues_by_home" ol De
def GD(T:V.T "hues_by_home" oj ol)(M0:V.m "enumerate")(F_:fP V)(uS:V.gs "SIGNS" ".123456"):qz V:=by
 refine Tx.okM T sc_hues_by_home (λds M R RX h=>?_) (λf cdv A outer s H E J hr hx=>⟨_,((aq (aH 2 sc_hues_by_home.nd BB)
   (aq (Br PassesOwn.leaving rfl M0 (ag (aa 0)) (dg_cons 3 sc_hues_by_home.nd (dg_cons 4 sc_hues_by_home.nd du)) (au (Bs PassesOwn.leaving rfl M0 (ag (aa 4)) (dg_cons 5 sc_hues_by_home.nd (dg_cons 6 sc_hues_by_home.nd du)) (au (dW (bu (bE (aa 6) ax)) (au (bY (BE (gW hr) (ag (aa 2)) (aB (ac (aw F_ hr (ac (aa 1) (ac (aa 5) (ac (aa 3) ae)))) (ac (kZ (fz uS) (ac (aa 6) ae)) ae)))))) aU)))))
   (ve 2 (au (aG (ag (aa 2)))))))),λds M R RX d7 h=>?_⟩)
 .obtain⟨_,_,_,_,_,rfl,_⟩:=h;rfl
 .obtain⟨L,wd,w,h,s,rfl,hL,hw,hh,Ly,hs,i_,hR⟩:=h;have Ud:=hL.w8;refine#[λd M'=>∃p,p∉av M/\d=.ptr p/\M'=(p,.dti [])::M,λp hp=>#[p,hp,rfl,rfl],?_];rintro _ _⟨p,hp,rfl,rfl⟩;k_places;refine#[λj z M'=>∃(kv:List ((Int×Int)×Int)) (x3 x4 x5 x6:Option D),hAll w h s j (L.drop j) kv=hAll w h s 0 L []/\kv.length<=8*j/\z=[be (.lst (lstD L)),be (.tup [.int w,.int h,.int s]),be (.ptr p),x3,x4,x5,x6]/\M'=(p,.dti kv)::M,#[[],LH,LH,LH,LH,rfl,MF,rfl,rfl],?_,?_]
  .rintro j d z M' hd⟨kv,x3,x4,x5,x6,e1,Ul,rfl,rfl⟩;k_places;obtain⟨x,f8,rfl⟩:=Dc hd;have hj:j<L.length:=(Ia.mp f8).1;have U3:=hL.many;obtain⟨xl,xs⟩:=hL.each x (JD f8);rw[vZ f8]at e1;refine#[Db xs,λi z M'=>∃(L7:List ((Int×Int)×Int)) (x5 x6:Option D),hRow w h s j i (x.drop i) L7=hRow w h s j 0 x kv/\L7.length<=8*j+i/\i<=x.length/\z=[be (.lst (lstD L)),be (.tup [.int w,.int h,.int s]),be (.ptr p),be (.int j),be (.str #[x.toArray]),x5,x6]/\M'=(p,.dti L7)::M,#[kv,x5,x6,rfl,v4,Iq _,rfl,rfl],?_,?_]
   .rintro i d z M' M6⟨L7,y5,y6,e2,QW,hi,rfl,rfl⟩;k_places;obtain⟨c,hc,rfl⟩:=Dd M6;have w9:i<x.length:=(Ia.mp hc).1;have sc:=xs c (JD hc);rw[vZ hc,hRow]at e2;refine#[λz M'=>∃Oj:List ((Int×Int)×Int),hRow w h s j (i+1) (x.drop (i+1)) Oj=hRow w h s j 0 x kv/\Oj.length<=8*j+(i+1)/\z=[be (.lst (lstD L)),be (.tup [.int w,.int h,.int s]),be (.ptr p),be (.int j),be (.str #[x.toArray]),be (.int i),be (.str #[[c].toArray])]/\M'=(p,.dti Oj)::M,?_,?_]
    .show if(!decide ((#[[c].toArray]:Ms)="."))=true then _ else _;by_cases v9:c=46
     .subst v9;rw[if_pos rfl]at e2;exact#[L7,e2,v4,rfl,rfl]
     .rw[if_neg v9]at e2;refine ifT (by simp[one_sign,v9]) ?_;have c6:49<=c/\c<=54:=by unfold bb at sc;lia
      obtain⟨ix,rest,ho,Py⟩:=Da c6;refine#[#[_,cX],w,h,s,i,j,rfl,hw,hh,Ly,hs,i_,ix,rest,ho,_,cX,by have:=vY L7 (hmX w h s i j) ((j:Int)%h) ((c:Int)-48);lia,λv=>?_];rw[vX,Py];exact#[_,e2,by have:=vY L7 (hmX w h s i j) ((j:Int)%h) ((c:Int)-48);lia,rfl,rfl]
    .rintro z M'⟨Oj,e3,h3,rfl,rfl⟩;k_places;exact#[Oj,_,_,e3,h3,w9,rfl,rfl]
   .rintro z M' hz;rw[fA,fK]at hz;obtain⟨L7,y5,y6,e2,QW,hi,rfl,rfl⟩:=hz;rw[Lw]at e2;refine#[L7,_,_,_,_,?_,v4,rfl,rfl];rw[<-e1,hAll,<-e2];rfl
  .rintro z M' hz;rw[show(lstD L).length=L.length by simp[lstD]]at hz;obtain⟨kv,x3,x4,x5,x6,e1,Ul,rfl,rfl⟩:=hz;rw[Lw]at e1;refine#[_,cX,?_];rw[lU];have e2:kv=hAll w h s 0 L []:=e1;rw[<-e2]at hR;exact hR
abbrev qA(V:Bx):Prop:=V.M 3 "Motif" oq Df
def GE(T:V.Ti "Motif" "Motif.__init__" om oq)(Nv:jJ V)(QX:qz V)(QY:V.a "Motif" "place")(uN:V.a "Motif" "shifts")(Mh:V.a "Motif" "hues"):qA V:=by
 refine Txi.okIM T EU (λds R h=>?_) (λf cdv A outer s H E J hr hx=>⟨_,((aq (bZ QY (ag (aa 0)) (ag (aa 1)))
   (aq (bZ uN (ag (aa 0)) (ag (aw Nv hr (ac (aa 3) (ac (aa 4) ae)))))
   (au (bZ Mh (ag (aa 0)) (gq (lu (aE uN (ag (aa 0))) (ag bO)) BA (aM QX hx hr (aF (ag (aa 2)) (aF (aE uN (ag (aa 0))) bg))))))))),λa ds R M7 h=>?_⟩)
 .obtain⟨_,_,_,_,_,_,_,rfl,_⟩:=h;rfl
 .obtain⟨k,L,wd,x,y,u,v,rfl,hL,f8,hy,hu,hv,hn,h1⟩:=h;unfold B12 at f8 hy hu hv;refine#[_,dY,by show(0:Nat)<1000;decide,?_];rw[iC,Dg];refine#[x,y,u,v,rfl,v4,v4,v4,v4,λe=>absurd e hn,λe w h s F=>?_];refine#[_,dY,Ty,?_];rw[iC,Dh];refine#[_,dY,_,wa,?_];obtain⟨b1,b2,b3⟩:=F.bd (N:=288) (by
   have m1:=bT (a:=x) (d:=v) (A:=12) (B:=12) v4 v4;have m2:=bT (a:=y) (d:=u) (A:=12) (B:=12) v4 v4;lia)
  refine#[_,dY,_,wa,L,wd,w,h,s,rfl,hL,F.1,F.2.1,v4,F.2.2.1,v4,?_];refine#[_,dY,by show(2:Nat)<1000;decide,?_];rw[iC,Di];exact#[_,rfl,h1 w h s F]
abbrev jK(V:Bx):Prop:=V.MM 5 "motif_from" ou Dp
def GF(T:V.T "motif_from" ot ou)(QZ:qw V)(L8:gJ V)(uP:V.a "Reading" "place")(Q0:qA V)(uD:cR V):jK V:=by
 refine Tx.okM T sc_motif_from (λds M R RX h=>?_) (λf cdv A outer s H E J hr hx=>⟨_,((aq (aH 1 sc_motif_from.nd (aE uP (ag (aa 0))))
   (aq (bY (aT (CalMth.one uD) hx hr (ag (aa 0)) (aB (ac ax ae))))
   (aq (aH 2 sc_motif_from.nd (aM QZ hx hr (aB (ac (aa 0) ae))))
   (aq (bY (aT (CalMth.one uD) hx hr (ag (aa 0)) (aB (ac ax ae))))
   (aq (aH 3 sc_motif_from.nd (aM L8 hx hr (aB (ac (aa 0) ae))))
   (aq (bY (aT (CalMth.one uD) hx hr (ag (aa 0)) (aB (ac ax ae))))
   (aq (aH 4 sc_motif_from.nd (aM L8 hx hr (aB (ac (aa 0) ae))))
   (aq (bY (aT (CalMth.one uD) hx hr (ag (aa 0)) (aB (ac ax ae))))
   (au (aG (ag (kX Q0 hr (ac (aa 1) (ac (aa 2) (ac (aa 3) (ac (aa 4) ae))))))))))))))))),λds M R RX d7 h=>?_⟩)
 .obtain⟨_,_,_,_,_,_,_,_,_,rfl,_⟩:=h;rfl
 .obtain⟨g,t,k,L,a,b,c,d,l,rfl,rfl,c_,⟨Ol,ha,hb,hc,hd,hn⟩,hR⟩:=h;obtain⟨w,hL⟩:=Do Ol;have c_:At t k (91::(rowsL (L.map cs)++59::(numL a++44::(numL b++59::(numL c++44::(numL d++93::l)))))):=by simpa[motL]using c_
  have b8:k+(motL (L.map cs) a b c d).length=k+1+(rowsL (L.map cs)).length+1+(numL a).length+1+(numL b).length+1+(numL c).length+1+(numL d).length+1:=by simp[motL];lia
  rw[b8]at hR;have d5:=c_.next;have j8:=d5.app;have p9:=j8.next;have Om:At t (k+1+(rowsL (L.map cs)).length+1+(numL a).length+1+(numL b).length) _:=p9.app.next.app;have On:=Om.next;have Q1:At t (k+1+(rowsL (L.map cs)).length+1+(numL a).length+1+(numL b).length+1+(numL c).length+1+(numL d).length) _:=On.app.next.app;refine#[λv M'=>v=.int k/\M'=RdM g t k,#[_,aY,_,fG,rfl,rfl],?_];rintro _ _⟨rfl,rfl⟩;k_places;refine#[_,HN.mpr rfl,_,aY,cy,g,t,_,91,_,"[",rfl,rfl,c_,Mx,?_];refine#[λv M'=>v=.lst (lstD (L.map cs))/\M'=RdM g t (k+1+(rowsL (L.map cs)).length),#[g,t,_,_,w,_,rfl,rfl,hL,d5,rfl,rfl],?_];rintro _ _⟨rfl,rfl⟩;k_places;refine#[_,HN.mpr rfl,_,aY,cy,g,t,_,59,_,";",rfl,rfl,j8,Mx,?_];refine#[λv M'=>v=.tup [.int a,.int b]/\M'=RdM g t (k+1+(rowsL (L.map cs)).length+1+(numL a).length+1+(numL b).length),#[g,t,_,a,b,59,_,rfl,rfl,ha,hb,.inr (.inl rfl),p9,rfl,rfl],?_];rintro _ _⟨rfl,rfl⟩;k_places;refine#[_,HN.mpr rfl,_,aY,cy,g,t,_,59,_,";",rfl,rfl,Om,Mx,?_];refine#[λv M'=>v=.tup [.int c,.int d]/\M'=RdM g t (k+1+(rowsL (L.map cs)).length+1+(numL a).length+1+(numL b).length+1+(numL c).length+1+(numL d).length),#[g,t,_,c,d,93,_,rfl,rfl,hc,hd,.inr (.inr (.inr rfl)),On,rfl,rfl],?_];rintro _ _⟨rfl,rfl⟩;k_places;exact#[_,HN.mpr rfl,_,aY,cy,g,t,_,93,_,"]",rfl,rfl,Q1,Mx,k,_,w,a,b,c,d,rfl,hL,ha,hb,hc,hd,hn,λw h s F=>hR _ #[k,w,h,s,rfl,F]]
abbrev jL(V:Bx):Prop:=V.M 1 "Mirror" oy Dl
def GH(T:V.Ti "Mirror" "Mirror.__init__" ow oy)(uW:V.a "Mirror" "form"):jL V:=by
 refine Txi.okI T EV (λds R h=>?_) (λf cdv A outer s H E J hr=>#[_,((bR uW (aa 1) dU)),λds R h=>?_])
 .obtain⟨_,_,rfl,_⟩:=h;rfl
 .obtain⟨x,fs,rfl,hR⟩:=h;exact#[Mx,hR]
abbrev jM(V:Bx):Prop:=V.M 1 "Turn" oA Dm
def GI(T:V.Ti "Turn" "Turn.__init__" oz oA)(uV:V.a "Turn" "form"):jM V:=by
 refine Txi.okI T EW (λds R h=>?_) (λf cdv A outer s H E J hr=>#[_,((bR uV (aa 1) dU)),λds R h=>?_])
 .obtain⟨_,_,rfl,_⟩:=h;rfl
 .obtain⟨x,fs,rfl,hR⟩:=h;exact#[Mx,hR]
abbrev jN(V:Bx):Prop:=V.M 1 "Over" oC Dj
def GJ(T:V.Ti "Over" "Over.__init__" oB oC)(uY:V.a "Over" "above")(uU:V.a "Over" "below"):jN V:=by
 refine Txi.okI T EY (λds R h=>?_) (λf cdv A outer s H E J hr=>#[_,((bR uY (aa 1) (bR uU (aa 2) dU))),λds R h=>?_])
 .obtain⟨_,_,_,_,rfl,_⟩:=h;rfl
 .obtain⟨x,y,fs,gs,rfl,hR⟩:=h;refine#[Mx,Ty,?_];show R (putD _ _ (putD _ _ []));rw[putD,putD,if_neg KK];exact hR
abbrev jO(V:Bx):Prop:=V.M 1 "Shifted" oF Dk
def GK(T:V.Ti "Shifted" "Shifted.__init__" oE oF)(u9:V.a "Shifted" "form")(Mj:V.a "Shifted" "x")(Mi:V.a "Shifted" "y"):jO V:=by
 refine Txi.okI T EZ (λds R h=>?_) (λf cdv A outer s H E J hr=>#[_,((bR u9 (aa 1) (bR Mj (aa 2) (bR Mi (aa 3) dU)))),λds R h=>?_])
 .obtain⟨_,_,_,_,rfl,_⟩:=h;rfl
 .obtain⟨x,fs,a,b,rfl,hR⟩:=h;refine#[Mx,Ty,by show(2:Nat)<1000;decide,?_];show R (putD _ _ (putD _ _ (putD _ _ [])));rw[show putD ("x":Ms) (.int a) (putD ("form":Ms) (.obj x fs) [])=([("form",.obj x fs),("x",.int a)]:List (Ms×D))by rw[putD,putD,if_neg KK];rfl,putD,if_neg KK,putD,if_neg KK];exact hR
abbrev jP(V:Bx):Prop:=V.M 1 "Rehue" oH Dn
def GL(T:V.Ti "Rehue" "Rehue.__init__" oG oH)(uZ:V.a "Rehue" "form")(Ml:V.a "Rehue" "old")(Mm:V.a "Rehue" "new"):jP V:=by
 refine Txi.okI T E1 (λds R h=>?_) (λf cdv A outer s H E J hr=>#[_,((bR uZ (aa 1) (bR Ml (aa 2) (bR Mm (aa 3) dU)))),λds R h=>?_])
 .obtain⟨_,_,_,_,rfl,_⟩:=h;rfl
 .obtain⟨x,fs,a,b,rfl,hR⟩:=h;refine#[Mx,Ty,by show(2:Nat)<1000;decide,?_];show R (putD _ _ (putD _ _ (putD _ _ [])));rw[show putD ("old":Ms) (.int a) (putD ("form":Ms) (.obj x fs) [])=([("form",.obj x fs),("old",.int a)]:List (Ms×D))by rw[putD,putD,if_neg KK];rfl,putD,if_neg KK,putD,if_neg KK];exact hR
def GM(hL:5<=n)(T:V.T "over_from" iW gC)(uK:V.MM n "form_from" cP (dI j))(Oo:jN V)(uD:cR V):V.MM (n+1) "over_from" gC (we j):=by
 refine Tx.okM T sc_over_from (λds M R RX h=>?_) (λf cdv A outer s H E J hr hx=>⟨_,((aq (aH 2 sc_over_from.nd (aM (hn:=MD) uK hx hr (aB (ac (aa 0) (ac (aa 1) ae)))))
   (aq (bY (aT (hn:=MD) (CalMth.one uD) hx hr (ag (aa 0)) (aB (ac ax ae))))
   (aq (aH 3 sc_over_from.nd (aM (hn:=MD) uK hx hr (aB (ac (aa 0) (ac (aa 1) ae)))))
   (aq (bY (aT (hn:=MD) (CalMth.one uD) hx hr (ag (aa 0)) (aB (ac ax ae))))
   (au (aG (ag (kX (hn:=MD) Oo hr (ac (aa 2) (ac (aa 3) ae))))))))))),λds M R RX d7 h=>?_⟩)
 .obtain⟨_,_,_,_,_,_,_,rfl,_⟩:=h;rfl
 .obtain⟨a,t,k,p,q,l,d,rfl,rfl,c_,M4,L5,hp,hq,x8,Um,hR⟩:=h;have d5:=c_.app;have j8:=d5.next;have p9:=j8.app;refine#[λv M'=>FormOf p v/\M'=RdM a t (k+p.tl.length),#[a,t,k,p,_,d,rfl,rfl,c_,M4,L5,hp,x8,λv h=>#[h,rfl]],?_];rintro v _⟨hv,rfl⟩;k_places;obtain⟨fs,rfl,_⟩:=hv.objm;refine#[_,HN.mpr rfl,_,aY,cy,a,t,_,124,_,"|",rfl,rfl,d5,Mx,?_];refine#[λv M'=>FormOf q v/\M'=RdM a t (k+p.tl.length+1+q.tl.length),#[a,t,_,q,_,d,rfl,rfl,j8,M4,L5,hq,Um,λv h=>#[h,rfl]],?_];rintro v _⟨Sw,rfl⟩;k_places;obtain⟨gs,rfl,_⟩:=Sw.objm;exact#[_,HN.mpr rfl,_,aY,cy,a,t,_,41,_,")",rfl,rfl,p9,Mx,_,_,_,_,rfl,hR _ _ hv Sw]
def GN(hL:5<=n)(T:V.T "shifted_from" iX gD)(L8:gJ V)(uK:V.MM n "form_from" cP (dI j))(Op:jO V)(uD:cR V):V.MM (n+1) "shifted_from" gD (wg j):=by
 refine Tx.okM T sc_shifted_from (λds M R RX h=>?_) (λf cdv A outer s H E J hr hx=>⟨_,((aq (aH 2 sc_shifted_from.nd (aM (hn:=MD) L8 hx hr (aB (ac (aa 0) ae))))
   (aq (bY (aT (hn:=MD) (CalMth.one uD) hx hr (ag (aa 0)) (aB (ac ax ae))))
   (au (aG (iy (hn:=MD) Op hr (aF (aM (hn:=MD) uK hx hr (aB (ac (aa 0) (ac (aa 1) ae)))) (aF (ag (af (aa 2) ad)) (aF (ag (af (aa 2) ad)) bg))))))))),λds M R RX d7 h=>?_⟩)
 .obtain⟨_,_,_,_,_,_,_,_,rfl,_⟩:=h;rfl
 .obtain⟨a,t,k,x,y,p,l,d,rfl,rfl,c_,M4,L5,f8,hy,hp,x8,hR⟩:=h;have d5:At t (k+(numL x).length+1+(numL y).length) _:=c_.app.next.app;refine#[λv M'=>v=.tup [.int x,.int y]/\M'=RdM a t (k+(numL x).length+1+(numL y).length),#[a,t,_,x,y,58,_,rfl,rfl,f8,hy,.inr (.inr (.inl rfl)),c_,rfl,rfl],?_];rintro _ _⟨rfl,rfl⟩;k_places;refine#[_,HN.mpr rfl,_,aY,cy,a,t,_,58,_,":",rfl,rfl,d5,Mx,?_];refine#[a,t,_,p,l,d,rfl,rfl,d5.next,M4,L5,hp,x8,λv h=>?_];obtain⟨fs,rfl,_⟩:=h.objm;exact#[_,rfl,_,rfl,_,_,_,_,rfl,hR _ h]
def GO(hL:5<=n)(T:V.T "rehue_from" iY gE)(uF:V.m "int")(uK:V.MM n "form_from" cP (dI j))(Oq:jP V)(uD:cR V):V.MM (n+1) "rehue_from" gE (wj j):=by
 refine Tx.okM T sc_rehue_from (λds M R RX h=>?_) (λf cdv A outer s H E J hr hx=>⟨_,((aq (aH 2 sc_rehue_from.nd (va uF (aF (aT (hn:=MD) (CalMth.one uD) hx hr (ag (aa 0)) (aB (ac ax ae))) bg)))
   (aq (aH 3 sc_rehue_from.nd (va uF (aF (aT (hn:=MD) (CalMth.one uD) hx hr (ag (aa 0)) (aB (ac ax ae))) bg)))
   (au (aG (iy (hn:=MD) Oq hr (aF (aM (hn:=MD) uK hx hr (aB (ac (aa 0) (ac (aa 1) ae)))) (aF (ag (aa 2)) (aF (ag (aa 3)) bg))))))))),λds M R RX d7 h=>?_⟩)
 .obtain⟨_,_,_,_,_,_,_,_,rfl,_⟩:=h;rfl
 .obtain⟨a,t,k,f,g,p,l,d,rfl,rfl,c_,M4,L5,hf,hg,hp,x8,hR⟩:=h;have Sx:∀{f:Int},1<=f/\f<=6->PySem.intText? (#[[(48+f).toNat].toArray]:Ms)=be f:=λ{f} h=>by
   have:=digit_of (c:=(48+f).toNat) v4;rw[show(((48+f).toNat:Nat):Int)-48=f by lia]at this;exact this
  refine#[λv M'=>v=.int f/\M'=RdM a t (k+1),#[_,HN.mpr rfl,_,aY,cy,a,t,_,_,_,"123456",rfl,rfl,c_,wc hf,_,#[Sx hf,by show(1:Nat)<=640;decide],rfl,rfl],?_];rintro _ _⟨rfl,rfl⟩;k_places;refine#[λv M'=>v=.int g/\M'=RdM a t (k+2),#[_,HN.mpr rfl,_,aY,cy,a,t,_,_,_,"123456",rfl,rfl,c_.next,wc hg,_,#[Sx hg,by show(1:Nat)<=640;decide],rfl,rfl],?_];rintro _ _⟨rfl,rfl⟩;k_places;refine#[a,t,_,p,l,d,rfl,rfl,c_.next.next,M4,L5,hp,x8,λv h=>?_];obtain⟨fs,rfl,_⟩:=h.objm;exact#[_,_,_,_,rfl,hR _ h]
def GP(hL:5<=n)(T:V.T "form_from" iZ cP)(Uo:V.MM n "over_from" gC (we j))(Up:V.MM n "shifted_from" gD (wg j))(uK:V.MM n "form_from" cP (dI j))(Uq:V.MM n "rehue_from" gE (wj j))(Ot:jK V)(Ou:V.gi "DEEP" 5)(Ov:jL V)(Ow:jM V)(uL:dO V):V.MM (n+1) "form_from" cP (dI (j+1)):=by
 refine Tx.okM T sc_form_from (λds M R RX h=>?_) (λf cdv A outer s H E J hr hx=>⟨_,((aq (aH 2 sc_form_from.nd (gq (bu (eZ (aa 1) (fv Ou))) (aT (hn:=MD) (CalMth.one uL) hx hr (ag (aa 0)) (aB (ac ax ae))) (ag ax)))
   (aq (bj (bu (bp (aa 2) ax)) (au (aG (aM (hn:=MD) Uo hx hr (aB (ac (aa 0) (ac (am (aa 1) ad) ae)))))) aU)
   (aq (bj (bu (bp (aa 2) ax)) (au (aG (aM (hn:=MD) Up hx hr (aB (ac (aa 0) (ac (am (aa 1) ad) ae)))))) aU)
   (aq (bj (bu (bp (aa 2) ax)) (au (aG (iy (hn:=MD) Ov hr (aF (aM (hn:=MD) uK hx hr (aB (ac (aa 0) (ac (am (aa 1) ad) ae)))) bg)))) aU)
   (aq (bj (bu (bp (aa 2) ax)) (au (aG (iy (hn:=MD) Ow hr (aF (aM (hn:=MD) uK hx hr (aB (ac (aa 0) (ac (am (aa 1) ad) ae)))) bg)))) aU)
   (aq (bj (bu (bp (aa 2) ax)) (au (aG (aM (hn:=MD) Uq hx hr (aB (ac (aa 0) (ac (am (aa 1) ad) ae)))))) aU)
   (au (aG (aM (hn:=MD) Ot hx hr (aB (ac (aa 0) ae)))))))))))),λds M R RX d7 h=>?_⟩)
 .obtain⟨_,_,_,_,_,_,rfl,_⟩:=h;rfl
 .obtain⟨a,t,k,p,l,d,rfl,rfl,c_,M4,L5,hp,x8,hR⟩:=h;refine#[λv M'=>v=.str (mayS "(smth" (p.tl++l))/\M'=RdM a t (k+mayN "(smth" (p.tl++l)),?_,?_]
  .show if decide ((d:Int)<5)=true then _ else _
   refine ite2 (λc=>?_) (λc=>?_)
   .exact#[_,HN.mpr rfl,_,aY,dH,a,t,_,_,"(smth",rfl,rfl,c_,rfl,rfl]
   .have c':¬((d:Int)<5):=λz=>c (decide_eq_true z);cases p with
    |mot L a b c d=>exact#[rfl,rfl]
    |_=>rw[Pat.depth]at x8;lia
  rintro _ _⟨rfl,rfl⟩;k_places;cases p with
  |mot L x y u v=>exact#[a,t,k,L,x,y,u,v,l,rfl,rfl,c_,hp,hR]
  |over p q=>
   rw[Pat.depth]at x8;have e:k+(Pat.over p q).tl.length=k+1+p.tl.length+1+q.tl.length+1:=by rw[Pat.tl];simp;lia
   have d5:At t (k+1) (p.tl++124::(q.tl++41::l)):=by have:=c_.next;simpa using this
   rw[e]at hR;exact#[a,t,k+1,p,q,l,d+1,rfl,rfl,d5,v4,v4,hp.1,hp.2,v4,v4,λu u' h1 h2=>hR _ #[u,u',rfl,h1,h2]]
  |sh x y p=>
   rw[Pat.depth]at x8;have e:k+(Pat.sh x y p).tl.length=k+1+(numL x).length+1+(numL y).length+1+p.tl.length:=by rw[Pat.tl];simp;lia
   have d5:At t (k+1) (numL x++44::(numL y++58::(p.tl++l))):=by have:=c_.next;simpa using this
   rw[e]at hR;exact#[a,t,k+1,x,y,p,l,d+1,rfl,rfl,d5,v4,v4,hp.1,hp.2.1,hp.2.2,v4,λu h1=>hR _ #[u,rfl,h1]]
  |mir p=>
   rw[Pat.depth]at x8;have e:k+(Pat.mir p).tl.length=k+1+p.tl.length:=by rw[Pat.tl];simp;lia
   rw[e]at hR;refine#[a,t,k+1,p,l,d+1,rfl,rfl,c_.next,v4,v4,hp,v4,λu h1=>?_];obtain⟨fs,rfl,_⟩:=h1.objm;exact#[_,_,rfl,hR _ #[_,rfl,h1]]
  |tur p=>
   rw[Pat.depth]at x8;have e:k+(Pat.tur p).tl.length=k+1+p.tl.length:=by rw[Pat.tl];simp;lia
   rw[e]at hR;refine#[a,t,k+1,p,l,d+1,rfl,rfl,c_.next,v4,v4,hp,v4,λu h1=>?_];obtain⟨fs,rfl,_⟩:=h1.objm;exact#[_,_,rfl,hR _ #[_,rfl,h1]]
  |hue f g p=>
   rw[Pat.depth]at x8;have e:k+(Pat.hue f g p).tl.length=k+1+2+p.tl.length:=by rw[Pat.tl,hueL hp.1,hueL hp.2.1];simp;lia
   have d5:At t (k+1) ((48+f).toNat::(48+g).toNat::(p.tl++l)):=by
    have:=c_.next;rw[hueL hp.1,hueL hp.2.1]at this;simpa using this
   rw[e]at hR;exact#[a,t,k+1,f,g,p,l,d+1,rfl,rfl,d5,v4,v4,hp.1,hp.2.1,hp.2.2,v4,λu h1=>hR _ #[u,rfl,h1]]
def GQ(Ur:V.T "over_from" iW gC)(Us:V.T "shifted_from" iX gD)(Ut:V.T "rehue_from" iY gE)(Sy:V.T "form_from" iZ cP)(Oo:jN V)(uD:cR V)(L8:gJ V)(Op:jO V)(uF:V.m "int")(Oq:jP V)(Ot:jK V)(Ou:V.gi "DEEP" 5)(Ov:jL V)(Ow:jM V)(uL:dO V):∀j,V.MM (5+2*j) "form_from" cP (dI j):=by
 intro j;induction j with
 |zero=>exact CalMM.never Sy (λds M R RX=>Dq)
 |succ j ih=>
  have Ox:=ih;have Q2:=GM (n:=5+2*j) (j:=j) MD Ur Ox Oo uD;have Q3:=GN (n:=5+2*j) (j:=j) MD Us L8 Ox Op uD;have Q4:=GO (n:=5+2*j) (j:=j) MD Ut uF Ox Oq uD;have Ox:=Cal.mono ih (Jd _);exact GP (n:=5+2*j+1) (j:=j) MD Sy Q2 Q3 Ox Q4 Ot Ou Ov Ow uL
abbrev qB(V:Bx):Prop:=V.M 1 "Reading" oJ C0
def GR(T:V.Ti "Reading" "Reading.__init__" oI oJ)(Mn:V.a "Reading" "text")(uP:V.a "Reading" "place"):qB V:=by
 refine Txi.okI T E2 (λds R h=>?_) (λf cdv A outer s H E J hr=>#[_,((bR Mn (aa 1) (bR uP ad dU))),λds R h=>?_])
 .obtain⟨_,rfl,_⟩:=h;rfl
 .obtain⟨t,rfl,hR⟩:=h;refine#[Mx,Ty,?_];show R (putD _ _ (putD _ _ []));rw[putD,putD,if_neg KK];exact hR
abbrev qC(V:Bx):Prop:=V.M 1 "Pattern" oM Dw
def GS(T:V.Ti "Pattern" "Pattern.__init__" oK oM)(Nw:V.a "Pattern" "text")(LA:V.a "Pattern" "shifts")(Np:V.a "Pattern" "form"):qC V:=by
 refine Txi.okI T E3 (λds R h=>?_) (λf cdv A outer s H E J hr=>#[_,((bR Nw (aa 1) (bR LA (aa 2) (bR Np (aa 3) dU)))),λds R h=>?_])
 .obtain⟨_,_,_,_,_,_,rfl,_⟩:=h;rfl
 .obtain⟨t,w,h,s,x,fs,rfl,hR⟩:=h;refine#[Mx,Ty,by show(2:Nat)<1000;decide,?_];show R (putD _ _ (putD _ _ (putD _ _ [])));rw[show putD ("shifts":Ms) (.tup [.int w,.int h,.int s]) (putD ("text":Ms) (.str t) [])=([("text",.str t),("shifts",.tup [.int w,.int h,.int s])]:List (Ms×D))by rw[putD,putD,if_neg KK];rfl,putD,if_neg KK,putD,if_neg KK];exact hR
abbrev qD(V:Bx):Prop:=V.D 2 "measure" oO Cj
def GT(T:V.T "measure" oN oO)(Nu:jI V):qD V:=by
 refine Tx.okDW T sc_measure (λds R h=>?_) (λf cdv A outer s H E J hr=>⟨_,((ai (ao 2 sc_measure.nd (af (aw Nu hr (ac (aJ (ac ad (ac (aa 0) ae))) (ac (aJ (ac ad (ac (aa 1) ae))) ae))) ad))
   (aj (ay (aJ (ac (af (aa 2) ad) (ac (af (aa 2) ad) ae))))))),λds R h=>?_⟩)
 .obtain⟨x,y,rfl,_⟩:=h;rfl
 .obtain⟨x,y,rfl,hx,hy,hR⟩:=h;refine#[λd=>∃p0 p1:Int,d=.tup [.int p0,.int p1]/\Meas x y p1 p0,#[MF,MF,1,x,0,y,rfl,hx,hy,λp0 p1 q0 hL=>#[_,rfl,p0,p1,rfl,vw #[hL.1,hL.2]]],?_];rintro _⟨p0,p1,rfl,hM⟩;k_places;exact#[_,rfl,_,rfl,MF,hR p1 p0 hM]
abbrev jQ(V:Bx):Prop:=V.D 3 "met" oQ Ck
def GU(T:V.T "met" oP oQ)(Oy:qD V):jQ V:=by
 refine Tx.okDW T sc_met (λds R h=>?_) (λf cdv A outer s H E J hr=>⟨_,((ai (ao 2 sc_met.nd (aw Oy hr (ac (af (aa 0) ad) (ac (af (aa 1) ad) ae))))
   (ai (ao 3 sc_met.nd (aZ (az (af (aa 0) ad) (af (aa 1) ad)) (af (aa 2) ad)))
   (ai (ao 4 sc_met.nd (aZ (az (af (aa 0) ad) (af (aa 1) ad)) (af (aw Oy hr (ac (af (aa 0) ad) (ac (af (aa 1) ad) ae))) ad)))
   (ai (ao 5 sc_met.nd (az (aZ (aa 4) (af (aa 0) ad)) (af (aa 0) ad)))
   (ai (ao 6 sc_met.nd (bx (az (aZ (aa 4) (af (aa 1) ad)) (af (aa 1) ad)) (aa 5)))
   (ai (ao 7 sc_met.nd (aZ (af (aa 2) ad) (af (aw Oy hr (ac (af (aa 2) ad) (ac (aa 6) ae))) ad)))
   (ai (ao 8 sc_met.nd (az (aZ (az (aa 7) (aa 6)) (af (aa 2) ad)) (af (aa 2) ad)))
   (aj (ay (aJ (ac (aa 3) (ac (az (aa 4) (aa 7)) (ac (aD (am (az (aa 7) (aa 5)) (az (aa 8) (af (aa 0) ad))) (aa 3)) ae)))))))))))))),λds R h=>?_⟩)
 .obtain⟨_,_,_,_,_,_,rfl,_⟩:=h;rfl
 .obtain⟨w1,h1,s1,w2,h2,s2,rfl,a1,a2,a3,a4,a5,a6,b1,b2,b3,b4,b5,b6,hR⟩:=h;refine#[λd=>∃g u:Int,d=.tup [.int g,.int u]/\Meas w1 w2 g u,#[_,rfl,_,rfl,w1,w2,rfl,MD,MD,λg u M=>#[g,u,rfl,M]],?_];rintro _⟨g,u,rfl,M1⟩;k_places;have hg:=M1.pos a1;have QE:=M1.le a1;refine#[λd=>d=.int (w1*w2/g),#[_,rfl,_,rfl,.inl (b64B a1 a2),_,rfl,d30B hg (IM QE a2),rfl],?_];rintro _ rfl;k_places;refine#[λd=>∃k u':Int,d=.int (h1*h2/k)/\Meas h1 h2 k u',#[_,rfl,_,rfl,.inl (b64B a3 a4),_,rfl,_,rfl,h1,h2,rfl,MD,MD,λk u' M=>#[_,rfl,d30B (M.pos a3) (IM (M.le a3) a4),k,u',rfl,M]],?_];rintro _⟨k,u',rfl,M2⟩;k_places;obtain⟨r0,r1,r2,r3,r4,r5⟩:=lK a3 b3 M2;have Uu:h1*h2<=1125899906842624:=by
   have:=bT (a:=h1) (d:=h2) (A:=33554432) (B:=33554432) MD MD;omega
  refine#[λd=>d=.int (h1*h2/k/h1*s1),#[_,rfl,d30B a3 a4,_,rfl,.inr (s64B a5 a6 a2),rfl],?_];rintro _ rfl;k_places;refine#[λd=>d=.int (h1*h2/k/h2*s2-h1*h2/k/h1*s1),#[_,rfl,d30B b3 b4,_,rfl,.inr (s64B b5 b6 b2),rfl],?_];rintro _ rfl;k_places;have t1:=bT (a:=h1*h2/k/h1) (d:=s1) (A:=33554432) (B:=33554432) MD MD;have t2:=bT (a:=h1*h2/k/h2) (d:=s2) (A:=33554432) (B:=33554432) MD MD;refine#[λd=>∃gg v8:Int,d=.int (g/gg)/\Meas g (h1*h2/k/h2*s2-h1*h2/k/h1*s1) gg v8,#[_,rfl,_,rfl,g,_,rfl,MD,MD,λgg v8 M=>#[_,rfl,d30B (M.pos hg) (IM (M.le hg) (IM QE a2)),gg,v8,rfl,M]],?_];rintro _⟨gg,v8,rfl,M3⟩;k_places;have L4:=M3.pos hg;have c1:0<=g/gg:=J8 MD MD;have c2:g/gg<=g:=KA _ MD;have c4:=B4 (c:=g/gg) (gap:=h1*h2/k/h2*s2-h1*h2/k/h1*s1) (N:=2251799813685248) hg c1 c2 MD;have mr:=lJ a1 b1 a3 b3 M1 M2 M3;refine#[λd=>d=.int (g/gg*(h1*h2/k/h2*s2-h1*h2/k/h1*s1)/g*u),#[.inl #[MD,MD],_,rfl,#[MD,MD],_,rfl,.inl #[MD,MD],rfl],?_];rintro _ rfl;k_places;obtain⟨w0,w3,_⟩:=lK a1 b1 M1;have Uv:w1*w2<=1125899906842624:=by
   have:=bT (a:=w1) (d:=w2) (A:=33554432) (B:=33554432) MD MD;omega
  have R8:=bT (a:=h1*h2/k) (d:=g/gg) (A:=1125899906842624) (B:=33554432) MD MD;exact#[.inl #[MD,MD],.inl #[MD,MD],_,rfl,.inr #[MD,MD],w0,MF,hR _ _ _ _ mr]
abbrev jR(V:Bx):Prop:=V.D 1 "mirrored" oS Ch
def GV(T:V.T "mirrored" oR oS):jR V:=by
 refine Tx.okDW T E4 (λds R h=>?_) (λf cdv A outer s H E J hr=>#[_,((aj (ay (aJ (ac (af (aa 0) ad) (ac (af (aa 0) ad) (ac (aD (cq (af (aa 0) ad)) (af (aa 0) ad)) ae))))))),λds R h=>?_])
 .obtain⟨w,h,s,rfl,_⟩:=h;rfl
 .obtain⟨w,h,s,rfl,hw,hR⟩:=h;exact#[_,rfl,_,rfl,_,rfl,_,rfl,hw,MF,hR]
abbrev jS(V:Bx):Prop:=V.D 3 "turned" oV Ci
def GW(T:V.T "turned" oU oV)(Nv:jJ V):jS V:=by
 refine Tx.okDW T E5 (λds R h=>?_) (λf cdv A outer s H E J hr=>#[_,((aj (ay (aw Nv hr (ac (aJ (ac ad (ac (af (aa 0) ad) ae))) (ac (aJ (ac (cq (af (aa 0) ad)) (ac (af (aa 0) ad) ae))) ae)))))),λds R h=>?_])
 .obtain⟨w,h,s,rfl,_⟩:=h;rfl
 .obtain⟨w,h,s,rfl,hw,hh,Oa,Ly,hs,i_,hR⟩:=h;have hp:0<w*h:=Ii hw hh;have hn:¬0*s=w* -h:=by rw[J3];lia
  exact#[_,rfl,MF,_,rfl,_,rfl,MF,0,w,-h,s,rfl,v4,v4,v4,v4,λe=>absurd e hn,λ_ w' h' s' f=>hR w' h' s' f]
def ok_Motif_family(hL:3<=n)(T:V.Tm "Motif" "family" "Motif.family" ja cE)(uN:V.a "Motif" "shifts"):V.Q (n+1) "Motif" "family" cE (ofX (ca (j+1) "Motif")):=by
 refine Txm.okM T E6 (λds M R RX h=>?_) (λf cdv A outer s H E J hr hx=>⟨_,((aq (bj (lu (aE uN (ag (aa 0))) (ag bO)) (au iB) aU)
   (au (aG (aE uN (ag (aa 0))))))),λds M R RX d7 h=>?_⟩)
 .obtain⟨_,_,rfl,_⟩:=h;rfl
 .obtain⟨p,v,rfl,hv,hp,hd,hc,hf,hR⟩:=h;cases p<;>simp only[Pat.cls]at hc<;>try exact absurd hc KK
  obtain⟨k,w,h,s,rfl,F⟩:=hv;exact#[_,#[rfl,rfl],_,mo_shifts,_,#[rfl,rfl],_,mo_shifts,hR w h s (Pat.Fam.mot F)]
def GX(hL:3<=n)(T:V.Tm "Over" "family" "Over.family" jb jc)(Oz:jQ V)(uY:V.a "Over" "above")(uU:V.a "Over" "below")(uI:∀x,x∈(["Motif","Over","Shifted","Mirror","Turn","Rehue"]:List Ms)->V.Q n x "family" cE (ofX (ca j x))):V.Q (n+1) "Over" "family" jc (ofX (ca (j+1) "Over")):=by
 refine Txm.okM T sc_Over_family (λds M R RX h=>?_) (λf cdv A outer s H E J hr hx=>⟨_,((aq (aH 1 sc_Over_family.nd (cu (hn:=MD) uI hx hr (aE uY (ag (aa 0)))))
   (au (aG (aM (hn:=MD) (CalD.toM Oz) hx hr (aF (ag (aa 1)) (aF (cu (hn:=MD) uI hx hr (aE uU (ag (aa 0)))) bg))))))),λds M R RX d7 h=>?_⟩)
 .obtain⟨_,_,rfl,_⟩:=h;rfl
 .obtain⟨p,v,rfl,hv,hp,hd,hc,hf,hR⟩:=h;cases p<;>simp only[Pat.cls]at hc<;>try exact absurd hc KK
  rename_i p q;obtain⟨u,u',rfl,hu,Og⟩:=hv;obtain⟨fs,rfl,o1⟩:=hu.objm;obtain⟨gs,rfl,o2⟩:=Og.objm;obtain⟨f1,f2⟩:=Pat.Fits.over_parts hp.1 hp.2 hf;rw[Pat.depth]at hd;refine#[λd M'=>(∃w h s,p.Fam w h s/\d=.tup [.int w,.int h,.int s])/\M'=M,#[_,#[rfl,rfl],_,rfl,p.cls,p.cls_mem,fs,#[rfl,rfl],o1.fam,p,_,rfl,hu,hp.1,v4,rfl,f1,λw h s F=>#[#[w,h,s,F,rfl],rfl]],?_];rintro _ _⟨⟨w1,h1,s1,F1,rfl⟩,rfl⟩;k_places;refine#[_,#[rfl,rfl],_,fL KK,q.cls,q.cls_mem,gs,#[rfl,rfl],o2.fam,q,_,rfl,Og,hp.2,v4,rfl,f2,λw2 h2 s2 F2=>?_];obtain⟨a1,a2,a3,a4,a5,a6⟩:=f1.small F1;obtain⟨b1,b2,b3,b4,b5,b6⟩:=f2.small F2;exact#[w1,h1,s1,w2,h2,s2,rfl,a1,v4,a3,v4,a5,a6,b1,v4,b3,v4,b5,b6,λw h s A MR=>hR w h s (Pat.Fam.over F1 F2 MR)]
def GY(hL:3<=n)(T:V.Tm "Shifted" "family" "Shifted.family" jd je)(u9:V.a "Shifted" "form")(uI:∀x,x∈(["Motif","Over","Shifted","Mirror","Turn","Rehue"]:List Ms)->V.Q n x "family" cE (ofX (ca j x))):V.Q (n+1) "Shifted" "family" je (ofX (ca (j+1) "Shifted")):=by
 refine Txm.okM T E7 (λds M R RX h=>?_) (λf cdv A outer s H E J hr hx=>#[_,((au (aG (cu (hn:=MD) uI hx hr (aE u9 (ag (aa 0))))))),λds M R RX d7 h=>?_])
 .obtain⟨_,_,rfl,_⟩:=h;rfl
 .obtain⟨p,v,rfl,hv,hp,hd,hc,hf,hR⟩:=h;cases p<;>simp only[Pat.cls]at hc<;>try exact absurd hc KK
  rename_i a b p;obtain⟨u,rfl,hu⟩:=hv;obtain⟨fs,rfl,o1⟩:=hu.objm;rw[Pat.depth]at hd;refine#[_,#[rfl,rfl],_,rfl,p.cls,p.cls_mem,fs,#[rfl,rfl],o1.fam,p,_,rfl,hu,hp.2.2,v4,rfl,hf.of_sh,λw h s F=>?_];exact hR w h s (F.sh a b)
def GZ(hL:3<=n)(T:V.Tm "Mirror" "family" "Mirror.family" jg jh)(OA:jR V)(uW:V.a "Mirror" "form")(uI:∀x,x∈(["Motif","Over","Shifted","Mirror","Turn","Rehue"]:List Ms)->V.Q n x "family" cE (ofX (ca j x))):V.Q (n+1) "Mirror" "family" jh (ofX (ca (j+1) "Mirror")):=by
 refine Txm.okM T E8 (λds M R RX h=>?_) (λf cdv A outer s H E J hr hx=>#[_,((au (aG (aM (hn:=MD) (CalD.toM OA) hx hr (aF (cu (hn:=MD) uI hx hr (aE uW (ag (aa 0)))) bg))))),λds M R RX d7 h=>?_])
 .obtain⟨_,_,rfl,_⟩:=h;rfl
 .obtain⟨p,v,rfl,hv,hp,hd,hc,hf,hR⟩:=h;cases p<;>simp only[Pat.cls]at hc<;>try exact absurd hc KK
  rename_i p;obtain⟨u,rfl,hu⟩:=hv;obtain⟨fs,rfl,o1⟩:=hu.objm;rw[Pat.depth]at hd;refine#[_,#[rfl,rfl],_,rfl,p.cls,p.cls_mem,fs,#[rfl,rfl],o1.fam,p,_,rfl,hu,hp,v4,rfl,Pat.Fits.of_mir (p:=p) hp hf,λw h s F=>?_];exact#[w,h,s,rfl,F.f.w0,hR w h _ F.mir]
def G0(hL:3<=n)(T:V.Tm "Turn" "family" "Turn.family" ji jj)(OB:jS V)(uV:V.a "Turn" "form")(uI:∀x,x∈(["Motif","Over","Shifted","Mirror","Turn","Rehue"]:List Ms)->V.Q n x "family" cE (ofX (ca j x))):V.Q (n+1) "Turn" "family" jj (ofX (ca (j+1) "Turn")):=by
 refine Txm.okM T E9 (λds M R RX h=>?_) (λf cdv A outer s H E J hr hx=>#[_,((au (aG (aM (hn:=MD) (CalD.toM OB) hx hr (aF (cu (hn:=MD) uI hx hr (aE uV (ag (aa 0)))) bg))))),λds M R RX d7 h=>?_])
 .obtain⟨_,_,rfl,_⟩:=h;rfl
 .obtain⟨p,v,rfl,hv,hp,hd,hc,hf,hR⟩:=h;cases p<;>simp only[Pat.cls]at hc<;>try exact absurd hc KK
  rename_i p;obtain⟨u,rfl,hu⟩:=hv;obtain⟨fs,rfl,o1⟩:=hu.objm;rw[Pat.depth]at hd;refine#[_,#[rfl,rfl],_,rfl,p.cls,p.cls_mem,fs,#[rfl,rfl],o1.fam,p,_,rfl,hu,hp,v4,rfl,Pat.Fits.of_tur (p:=p) hp hf,λw h s F=>?_];obtain⟨a1,a2,a3,a4,a5,a6⟩:=(Pat.Fits.of_tur (p:=p) hp hf).small F;exact#[w,h,s,rfl,a1,a3,v4,v4,a5,v4,λw' h' s' F'=>hR w' h' s' (F.tur F')]
def G1(hL:3<=n)(T:V.Tm "Rehue" "family" "Rehue.family" jk jl)(uZ:V.a "Rehue" "form")(uI:∀x,x∈(["Motif","Over","Shifted","Mirror","Turn","Rehue"]:List Ms)->V.Q n x "family" cE (ofX (ca j x))):V.Q (n+1) "Rehue" "family" jl (ofX (ca (j+1) "Rehue")):=by
 refine Txm.okM T Fb (λds M R RX h=>?_) (λf cdv A outer s H E J hr hx=>#[_,((au (aG (cu (hn:=MD) uI hx hr (aE uZ (ag (aa 0))))))),λds M R RX d7 h=>?_])
 .obtain⟨_,_,rfl,_⟩:=h;rfl
 .obtain⟨p,v,rfl,hv,hp,hd,hc,hf,hR⟩:=h;cases p<;>simp only[Pat.cls]at hc<;>try exact absurd hc KK
  rename_i f g p;obtain⟨u,rfl,hu⟩:=hv;obtain⟨fs,rfl,o1⟩:=hu.objm;rw[Pat.depth]at hd;refine#[_,#[rfl,rfl],_,rfl,p.cls,p.cls_mem,fs,#[rfl,rfl],o1.fam,p,_,rfl,hu,hp.2.2,v4,rfl,hf.of_hue,λw h s F=>?_];exact hR w h s (F.hue f g)
def G2(Sz:V.Tm "Motif" "family" "Motif.family" ja cE)(SA:V.Tm "Over" "family" "Over.family" jb jc)(SE:V.Tm "Shifted" "family" "Shifted.family" jd je)(SG:V.Tm "Mirror" "family" "Mirror.family" jg jh)(SH:V.Tm "Turn" "family" "Turn.family" ji jj)(SI:V.Tm "Rehue" "family" "Rehue.family" jk jl)(uN:V.a "Motif" "shifts")(Oz:jQ V)(uY:V.a "Over" "above")(uU:V.a "Over" "below")(u9:V.a "Shifted" "form")(OA:jR V)(uW:V.a "Mirror" "form")(OB:jS V)(uV:V.a "Turn" "form")(uZ:V.a "Rehue" "form"):∀j x,x∈(["Motif","Over","Shifted","Mirror","Turn","Rehue"]:List Ms)->V.Q (3+j) x "family" cE (ofX (ca j x)):=by
 intro j;induction j with
 |zero=>
  intro x hx;simp only[HQ,Jy,or_false]at hx;rcases hx with rfl|rfl|rfl|rfl|rfl|rfl
  .exact CalMth.never Sz (λds M R RX=>fM)
  .exact CalMth.never SA (λds M R RX=>fM)
  .exact CalMth.never SE (λds M R RX=>fM)
  .exact CalMth.never SG (λds M R RX=>fM)
  .exact CalMth.never SH (λds M R RX=>fM)
  .exact CalMth.never SI (λds M R RX=>fM)
 |succ j OC=>
  intro x hx;simp only[HQ,Jy,or_false]at hx;rcases hx with rfl|rfl|rfl|rfl|rfl|rfl
  .exact ok_Motif_family (n:=3+j) (j:=j) MD Sz uN
  .exact GX (n:=3+j) (j:=j) MD SA Oz uY uU OC
  .exact GY (n:=3+j) (j:=j) MD SE u9 OC
  .exact GZ (n:=3+j) (j:=j) MD SG OA uW OC
  .exact G0 (n:=3+j) (j:=j) MD SH OB uV OC
  .exact G1 (n:=3+j) (j:=j) MD SI uZ OC
abbrev wV(V:Bx):Prop:=V.MM 17 "form_from" cP (dI 6)
abbrev wW(V:Bx):Prop:=∀x,x∈(["Motif","Over","Shifted","Mirror","Turn","Rehue"]:List Ms)->V.Q 9 x "family" cE (ofX (ca 6 x))
abbrev jT(V:Bx):Prop:=V.X 18 "read" oX S_read
def G3(T:V.T "read" oW oX)(uA:V.m "len")(uK:wV V)(Q5:V.gi "MOST" 720)(uP:V.a "Reading" "place")(Q6:qB V)(Q7:qC V)(uI:wW V):jT V:=by
 refine CalMM.nilX (Tx.okM T sc_read (λds M R RX h=>?_) (λf cdv A outer s H E J hr hx=>⟨_,((aq (aH 1 sc_read.nd (A5 Q6 hr (aB (ac (aa 0) ae))))
   (aq (aH 2 sc_read.nd (aM uK hx hr (aB (ac (aa 1) (ac ad ae)))))
   (aq (bj (ux (aE uP (ag (aa 1))) (ag (bB uA (ac (aa 0) ae)))) (au iB) aU)
   (aq (aH 3 sc_read.nd (cu uI hx hr (ag (aa 2))))
   (aq (bj (bu (fV (az (af (aa 3) ad) (af (aa 3) ad)) (fv Q5))) (au iB) aU)
   (au (aG (ag (kX Q7 hr (ac (aa 0) (ac (aa 3) (ac (aa 2) ae))))))))))))),λds M R RX d7 h=>?_⟩))
 .obtain⟨_,R0,LY,⟨_,rfl,_⟩,_⟩:=h;rfl
 .obtain⟨rfl,R0,LY,⟨p,rfl,ok,hG⟩,hR,hX⟩:=h;have b8:=Pat.text_short ok.wf ok.deep;have c_:At p.text 0 (p.tl++[]):=#[by rw[Iz];exact cx p,Iq _,v4];have Ug:=ok.deep;have hl:p.text.length=p.tl.length:=by rw[<-bn,cx]
  refine#[λd M'=>∃a,d=.ptr a/\M'=RdM a p.text 0,#[_,rfl,λa _=>#[a,rfl,rfl]],?_];rintro _ _⟨a,rfl,rfl⟩;k_places;refine#[λv M'=>FormOf p v/\M'=RdM a p.text p.tl.length,#[a,p.text,0,p,[],0,rfl,rfl,c_,rfl,Mx,ok.wf,v4,λv h=>#[h,by rw[Ku]]],?_];rintro v _⟨hv,rfl⟩;k_places;refine#[_,aY,_,fG,v4,ite2 (λc=>absurd (of_decide_eq_true c) v4) (λ_=>?_)];obtain⟨fs,rfl,o1⟩:=hv.objm;refine#[λd M'=>∃w h s,p.Fam w h s/\d=.tup [.int w,.int h,.int s],#[p.cls,p.cls_mem,fs,#[rfl,rfl],o1.fam,p,_,rfl,hv,ok.wf,v4,rfl,ok.fits,λw h s F=>#[w,h,s,F,rfl]],?_];rintro _ M'⟨w,h,s,F,rfl⟩;k_places;have a1:=ok.fits.small F;obtain⟨w',h',s',F',hb⟩:=ok.fits;obtain⟨rfl,rfl,_⟩:=F.uniq F';refine#[_,rfl,_,rfl,.inl #[v4,v4],ite2 (λc=>absurd (of_decide_eq_true c) v4) (λ_=>?_)];exact#[_,_,_,_,_,_,rfl,hR _ _ (hG _ #[_,_,s,_,rfl,rfl,fL KK,#[F,#[_,lV KK KK,hv],by simp[noLF,noL,noLs,o1.nl]]])]
def G4:SpD:=λds R=>∃(p q:Pat) (d e:D) (w h:Int),ds=[d,e,.int w,.int h]/\bv p d/\bv q e/\p.Ok/\q.Ok/\0<=w/\w<=720/\0<=h/\h<=720/\((∀x y:Int,0<=x->x<w->0<=y->y<h->p.show x y=q.show x y)->R .non)/\∀x y:Int,0<=x->x<w->0<=y->y<h->p.show x y≠q.show x y->(∀x' y':Int,0<=x'->x'<w->0<=y'->(y'<y\/(y'=y/\x'<x))->p.show x' y'=q.show x' y')->R (.tup [.int x,.int y])
abbrev qE(V:Bx):Prop:=V.D 9 "first_unlike" oZ G4
def G5(T:V.T "first_unlike" oY oZ)(uB:V.m "range")(MZ:jF V):qE V:=by
 refine Tx.okDW T sc_first_unlike (λds R h=>?_) (λf cdv A outer s H E J hr=>⟨_,((ai (bQ 4 PassesOwn.never rfl sc_first_unlike.nd uB (aa 3) (aj (bQ 5 PassesOwn.never rfl sc_first_unlike.nd uB (aa 2) (aj (aS (bE (aw (CalX.no MZ) hr (ac (aa 0) (ac (aa 5) (ac (aa 4) ae)))) (aw (CalX.no MZ) hr (ac (aa 1) (ac (aa 5) (ac (aa 4) ae))))) (aj (ay (aJ (ac (aa 5) (ac (aa 4) ae))))) aO)))))
   (aj (ay bO)))),λds R h=>?_⟩)
 .obtain⟨_,_,_,_,_,_,rfl,_⟩:=h;rfl
 .obtain⟨p,q,d,e,w,h,rfl,hd,he,n9,g7,w0,w7,h0,h7,hN,hS⟩:=h;obtain⟨wd,e_,sd,fs,rfl,q1,q2,fam⟩:=hd;have hd:bv p (.obj "Pattern" fs):=#[wd,e_,sd,fs,rfl,q1,q2,fam];obtain⟨Uw,M6,Ux,O5,rfl,q3,q4,Q8⟩:=he;have he:bv q (.obj "Pattern" O5):=#[Uw,M6,Ux,O5,rfl,q3,q4,Q8];refine#[#[MD,MD],λk z=>∃o4 o5,z=[be (.obj "Pattern" fs),be (.obj "Pattern" O5),be (.int w),be (.int h),o4,o5]/\∀x y:Int,0<=x->x<w->0<=y->y<k->p.show x y=q.show x y,#[_,_,rfl,λx y _ _ a b=>MD],?_,?_]
  .rintro k v z hk⟨o4,o5,rfl,hj⟩;k_places;obtain⟨n8,rfl⟩:=bK hk;refine#[#[MD,MD],λi z=>∃o5,z=[be (.obj "Pattern" fs),be (.obj "Pattern" O5),be (.int w),be (.int h),be (.int k),o5]/\∀x:Int,0<=x->x<i->p.show x k=q.show x k,#[_,rfl,λx a b=>MD],?_,?_]
   .rintro i v z hi⟨o5,rfl,j7⟩;k_places;obtain⟨w9,rfl⟩:=bK hi;have nn:bo (i:Int)/\bo (k:Int):=#[#[MD,MD],MD,MD];refine#[p,_,i,k,rfl,hd,n9,λ_=>#[q,_,i,k,rfl,he,g7,λ_=>?_,λn=>n nn],λn=>n nn];refine ite2 (λc=>?_) (λc=>?_)
    .refine#[QG,hS i k MD MD MD MD (λz=>by simp[z]at c) λx' y' a b c d=>?_];rcases d with d|⟨rfl,d⟩
     .exact hj x' y' a b c MD
     .exact j7 x' a MD
    .have c':p.show i k=q.show i k:=by simpa using c
     refine#[_,rfl,λx a b=>?_];by_cases e:x=i
     .rw[e];exact c'
     .exact j7 x a MD
   .rintro z⟨o5,rfl,j7⟩;k_places;rw[bL]at j7;refine#[_,_,rfl,λx y a b c d=>?_];by_cases e:y=k
    .rw[e];exact j7 x a MD
    .exact hj x y a b c MD
  .rintro z⟨o4,o5,rfl,hj⟩;k_places;rw[bL]at hj;exact hN λx y a b c d=>hj x y a b c MD
def G6:SiD:=λds R=>∃x y:Int,ds=[.int x,.int y]/\R [("y",.int y),("x",.int x)]
abbrev qF(V:Bx):Prop:=V.E 1 "Parted" pe G6
def G7(T:V.Te "Parted" "Parted.__init__" pd pe)(Q9:V.b "MotifError")(uAJ:V.ea "Parted")(Q_:V.xf "Parted" "x")(Ra:V.xf "Parted" "y"):qF V:=by
 refine Txe.okE T Fc (λds R h=>?_) (λf cdv A outer s H E J hr=>#[_,((Av Q9 uAJ (ac (aa 1) (ac (aa 2) ae)) (Ax uAJ Q_ (aa 1) (Ec uAJ Ra (aa 2) As)))),λds R h=>?_])
 .obtain⟨_,_,rfl,_⟩:=h;rfl
 .obtain⟨x,y,rfl,hR⟩:=h;exact#[QG,rfl,#[(λz=>nomatch z),by show(1:Nat)<=100;decide],hR]
def G8:SpM:=λds M R _=>∃a q f p d,ds=[.ptr a,d]/\a≠q/\M=Fl.M f a q/\bv p d/\R .non ((f.stand p d).M a q)
abbrev qG(V:Bx):Prop:=V.Q 1 "Floor" "stand" ph G8
def G9(T:V.Tm "Floor" "stand" "Floor.stand" pf ph)(uG:V.a "Floor" "pattern")(LB:V.a "Floor" "text")(Nw:V.a "Pattern" "text"):qG V:=by
 refine CalMth.drop (Txm.okM T Fd (λds M R RX h=>?_) (λf cdv A outer s H E J hr hx=>⟨_,((aq (bZ uG (ag (aa 0)) (ag (aa 1)))
   (au (bZ LB (ag (aa 0)) (aE Nw (ag (aa 1))))))),λds M R RX d7 h=>?_⟩))
 .obtain⟨_,_,⟨_,_,_,_,_,rfl,_⟩,_⟩:=h;rfl
 .obtain⟨R,RX,⟨a,q,f,p,d,rfl,ne,rfl,⟨wd,e_,sd,fs,rfl,e1,e2,fam⟩,hR⟩,rfl,rfl⟩:=h;refine#[_,Fl.ma ne,by show(6:Nat)<1000;decide,?_];rw[Fl.put ne];refine#[fs,#[rfl,rfl],_,e1,_,(eE (Ne.symm ne)).trans cF,by show(6:Nat)<1000;decide,_,?_,hR];rw[eF (Ne.symm ne),cZ];exact Fl.sub (f:=f.stand p _) ne
def Fl.chg(f:Fl)(a:Addr)(R:D->MS->Prop)(RX:XDM)(M:MS):D->Prop:=λd=>∃p,bv p d/\p.Ok/\(Same2 f.p p f.w f.l->∀q',a≠q'->R .non (((f.keep "change").stand p d).M a q'))/\∀x y,First2 f.p p f.w f.l x y->RX "Parted" [("y",.int y),("x",.int x)] M
def Ha:SpM:=λds M R RX=>∃a q f t,ds=[.ptr a,.str t]/\a≠q/\M=Fl.M f a q/\f.Ok/\S_read [.str t] (f.chg a R RX M) (λx fs=>RX x fs M)
abbrev qH(V:Bx):Prop:=V.Q 19 "Floor" "change" pj Ha
def Hb(T:V.Tm "Floor" "change" "Floor.change" pi pj)(Ny:jT V)(Rb:qE V)(uE:V.a "Floor" "laid")(uJ:V.a "Floor" "width")(uG:V.a "Floor" "pattern")(Nr:jD V)(Rc:qG V)(uQ:qF V):qH V:=by
 refine CalMth.drop (Txm.okM T sc_Floor_change (λds M R RX h=>?_) (λf cdv A outer s H E J hr hx=>⟨_,((aq (aH 2 sc_Floor_change.nd (aM (CalX.toM Ny) hx hr (aB (ac (aa 1) ae))))
   (aq (aH 3 sc_Floor_change.nd (aM (CalD.toM Rb) hx hr (aF (aE uG (ag (aa 0))) (aF (ag (aa 2)) (aF (aE uJ (ag (aa 0))) (aF (aE uE (ag (aa 0))) bg))))))
   (aq (bj (bu (zJ (aa 3) bO)) (au (A9 uQ hr hx rfl (aB (ac (af (aa 3) ad) (ac (af (aa 3) ad) ae))))) aU)
   (aq (bY (aT (CalMth.one Nr) hx hr (ag (aa 0)) (aB (ac ax ae))))
   (au (bY (aT (CalMth.one Rc) hx hr (ag (aa 0)) (aB (ac (aa 2) ae)))))))))),λds M R RX d7 h=>?_⟩))
 .obtain⟨_,_,⟨_,_,_,_,rfl,_⟩,_⟩:=h;rfl
 .obtain⟨R,RX,⟨a,q,f,t,rfl,ne,rfl,ok,hR⟩,rfl,rfl⟩:=h;have w1:=ok.w1;have w2:=ok.w2;have l0:=ok.l0;have l1:=ok.l1;have h2:=ok.h2;refine#[λd M'=>M'=f.M a q/\f.chg a R RX (f.M a q) d,S_read.mono (RX':=λ_ _=>True) hR (λd h=>#[rfl,h]),?_];rintro d _⟨rfl,p,hd,n9,hS,hP⟩;k_places;obtain⟨wd,e_,sd,fs,rfl,e1,e2,fam⟩:=hd;have hd:bv p (.obj "Pattern" fs):=#[wd,e_,sd,fs,rfl,e1,e2,fam];refine#[λc M'=>M'=f.M a q/\((c=.non/\Same2 f.p p f.w f.l)\/∃x y,c=.tup [.int x,.int y]/\First2 f.p p f.w f.l x y),?_,?_]
  .exact#[_,Fl.ma ne,_,gH,_,Fl.ma ne,_,fO,_,Fl.ma ne,_,eI,f.p,p,f.d,_,f.w,f.l,rfl,ok.is,hd,ok.ok,n9,v4,v4,l0,v4,λh=>#[rfl,.inl #[rfl,h]],λx y h1 h2 h3 h4 h5 h6=>#[rfl,.inr #[x,y,rfl,#[h1,h2,h3,h4],h5,h6]]]
  rintro c _⟨rfl,⟨rfl,same⟩|⟨x,y,rfl,hf⟩⟩;k_places
  .refine#[_,HN.mpr rfl,_,Fl.ma ne,rfl,a,q,f,"change",rfl,ne,rfl,ok.de,λq' f6=>?_];exact#[_,HN.mpr rfl,_,Fl.ma f6,rfl,a,q',_,p,_,rfl,f6,rfl,hd,_,Fl.sub f6,hS same q' f6]
  .refine#[_,rfl,_,rfl,QG,x,y,rfl,?_];rw[d7];exact#[_,Fl.sub ne,hP x y hf]
def Hc:SpM:=λds M R _=>∃a q f p,ds=[.ptr a,.str (Pat.text p)]/\a≠q/\M=Fl.M f a q/\f.Ok/\p.Ok/\(Same2 f.p p f.w f.l->∀q' d,bv p d->a≠q'->R (.tup [.str "let in"]) (((f.keep "change").stand p d).M a q'))/\∀x y,First2 f.p p f.w f.l x y->R (.tup [.str "parted",.int x,.int y]) (f.M a q)
abbrev qI(V:Bx):Prop:=V.MM 20 "_law_change" pp Hc
def Hd(T:V.T "_law_change" pk pp)(uC:V.m "isinstance")(Rf:V.m "ValueError")(Rg:qu V)(Rh:V.j "TooFar" [("Parted",false)])(Ri:V.j "TooGreat" [("Parted",false)])(Rj:V.j "OneLine" [("Parted",false)])(Rk:V.j "WrongSign" [("Parted",false)])(Rl:V.j "NothingKept" [("Parted",false)])(O6:V.j "Parted" [("Parted",true)])(Rm:V.j "NoRow" [("Parted",false)])(jv:V.jv [("Parted",true)])(Rn:qH V)(Ro:V.x "y" ["Parted"])(Rp:V.x "x" ["Parted"])(ek:qr V):qI V:=by
  refine Tx.okM T sc__law_change (λds M R RX h=>?_) (λf cdv A outer s H E J hr hx=>⟨_,((aq (aH 2 sc__law_change.nd (ag bO))
      (aq (aH 3 sc__law_change.nd (ag (bf ae)))
      (aq (vn (λpn xe J hp hx=>(au (dW (lu (aT (CalMth.one Rn) hx hr (ag (aa 0)) (aB (ac (aa 1) ae))) (ag bO)) (au (aH 2 sc__law_change.nd (ag (aJ (ac ax ae))))) aU))) (λ_=>(AB 4 ek sc__law_change.nd (λe=>(ai (ao 3 sc__law_change.nd (bf (ac (dL Rk uC (aa 4)) (ac (dL Rj uC (aa 4)) (ac (dL Ri uC (aa 4)) (ac (dL Rh uC (aa 4)) ae))))))
         (ai (ao 3 sc__law_change.nd (am (aa 3) (bf (ac (dL Rm uC (aa 4)) (ac (dL O6 uC (aa 4)) (ac (dL Rl uC (aa 4)) ae))))))
         (ai (ao 3 sc__law_change.nd (am (aa 3) (bf (ac (tz (EF jv uC Rf (aa 4))) ae))))
         (aj (fj (bI (dL O6 uC (aa 4))) (aj (ao 2 sc__law_change.nd (aJ (ac ax (ac (uk Rp (aa 4)) (ac (uk Ro (aa 4)) ae)))))) aO)))))) uj)))
      (aq (bj (bu (bP (fX (EC (gW hr) (aa 3) (bf ae)) (fW (bE (aw Rg hr (ac (aa 3) ae)) ax))))) (au (aG (ag bO))) aU)
      (au (aG (ag (aa 2))))))))),λds M R RX d7 h=>?_⟩)
  . obtain⟨_,_,_,_,rfl,_⟩:=h;rfl
  . obtain⟨a,q,f,p,rfl,ne,rfl,ok,n9,hS,hP⟩:=h;refine#[λd M'=>d=.non/\M'=f.M a q,#[rfl,rfl],?_];rintro _ _⟨rfl,rfl⟩;k_places;refine#[λd M'=>d=.lst []/\M'=f.M a q,#[Mx,rfl,rfl],?_];rintro _ _⟨rfl,rfl⟩;k_places;refine#[λz M' x fs=>z=[be (.ptr a),be (.str p.text),be .non,be (.lst []),LH]/\M'=f.M a q/\x="Parted"/\∃x y,fs=([("y",.int y),("x",.int x)]:List (Ms×D))/\First2 f.p p f.w f.l x y,λJ hJ=>?_,?_]
    . refine#[λz M'=>Same2 f.p p f.w f.l/\∃q' d,bv p d/\a≠q'/\z=[be (.ptr a),be (.str p.text),be (.tup [.str "let in"]),be (.lst []),LH]/\M'=((f.keep "change").stand p d).M a q',?_,λz M' ⟨c,q',d,hd,f6,e1,e2⟩=>?_]
      . refine#[_,HN.mpr rfl,_,Fl.ma ne,rfl,a,q,f,p.text,rfl,ne,rfl,ok,wo (RX:=λ_ _=>True) n9 λd hd=>#[p,hd,n9,λc q' f6=>?_,λx y hf=>by rw[hJ];exact#[rfl,rfl,rfl,x,y,rfl,hf]]];dsimp only[mP,dC,rdIs,kJ,id];rw[if_pos rfl];refine#[λe M'=>e=.tup [.str "let in"]/\M'=((f.keep "change").stand p d).M a q',#[R1,rfl,rfl],?_];rintro _ _⟨rfl,rfl⟩;k_places;exact#[c,q',d,hd,f6,rfl,rfl]
      . subst e1 e2;exact#[Mx,rfl,ite2 (λc=>absurd c Mx) λ_=>ite2 (λc=>absurd c Mx) λ_=>hS c q' d hd f6]
    . rintro z M' x fs⟨rfl,rfl,rfl,x,y,rfl,hf⟩;k_places;refine#[#[MF,MF],?_];rw[if_pos KK];refine#[λd=>d=.lst ((cQ 5).take 4),#[_,_,_,rfl,.head _,_,_,_,rfl,.head _,_,_,_,rfl,.head _,_,_,_,rfl,.head _,by show(4:Nat)<=1000;decide,rfl],?_];rintro _ rfl;k_places;refine#[λd=>d=.lst ((cQ 5).take 7),#[_,_,_,rfl,.head _,_,_,_,rfl,.head _,_,_,_,rfl,.head _,by show(3:Nat)<=1000;decide,?_],?_]
      . exact#[Mx,rfl]
      rintro _ rfl;k_places;refine#[λd=>d=.lst (cQ 5),#[_,_,_,rfl,.head _,R1,Mx,rfl],?_];rintro _ rfl;k_places;refine#[λz=>z=[be (.ptr a),be (.str p.text),be (.tup [.str "parted",.int x,.int y]),be (.lst (cQ 5)),be (.exc "Parted" [("y",.int y),("x",.int x)])],#[_,_,_,rfl,.head _,ite2 (λ_=>?_) (λc=>absurd rfl c)],?_]
      . refine#[λd=>d=.tup [.str "parted",.int x,.int y],#[HN.mpr rfl,_,rfl,HN.mpr rfl,_,rfl,by show(3:Nat)<=1000;decide,rfl],?_];rintro _ rfl;k_places
      rintro _ rfl;k_places;refine#[#[Mx,rfl,ite2 (λ_=>#[5,"parted",rfl,rfl,?_]) λc=>absurd Mx c],NoOwn.of rfl];dsimp only[dC,rdNe,kdS];rw[if_neg MF];exact hP x y hf
def Hf:SpD:=λds R=>∃(p q:Pat) (w:Int) (n m:Nat),ds=[.lst (aA p w 0 n),.lst (aA q w 0 m)]/\p.Ok/\q.Ok/\0<=w/\w<=30/\n<=m/\m<=30/\(Same2 p q w n->R .non)/\∀x y,First2 p q w n x y->R (.tup [.int x,.int y])
abbrev qJ(V:Bx):Prop:=V.D 1 "_law_parted" pr Hf
def Hg(T:V.T "_law_parted" pq pr)(uB:V.m "range")(uA:V.m "len"):qJ V:=by
 refine Tx.okDW T sc__law_parted (λds R h=>?_) (λf cdv A outer s H E J hr=>⟨_,((ai (bQ 2 PassesOwn.never rfl sc__law_parted.nd uB (bB uA (ac (aa 0) ae)) (aj (bQ 3 PassesOwn.never rfl sc__law_parted.nd uB (bB uA (ac (af (aa 0) (aa 2)) ae)) (aj (aS (bE (af (af (aa 0) (aa 2)) (aa 3)) (af (af (aa 1) (aa 2)) (aa 3))) (aj (ay (aJ (ac (aa 3) (ac (aa 2) ae))))) aO)))))
   (aj (ay bO)))),λds R h=>?_⟩)
 .obtain⟨_,_,_,_,_,rfl,_⟩:=h;rfl
 .obtain⟨p,q,w,n,m,rfl,n9,g7,w0,w7,nm,m7,hN,hS⟩:=h;have lp:∀{p:Pat} {n:Nat},(aA p w 0 n).length=n:=λ{p n}=>by unfold aA;simp
  refine#[#[v4,by rw[lp];lia],λk z=>∃o2 o3,z=[be (.lst (aA p w 0 n)),be (.lst (aA q w 0 m)),o2,o3]/\Same2 p q w k,#[_,_,rfl,λx y _ _ a b=>v4],?_,?_]
  .rintro k v z hk⟨o2,o3,rfl,hj⟩;k_places;obtain⟨n8,rfl⟩:=bK hk;rw[lp]at n8;have a1:=pZ (p:=p) (w:=w) (lo:=0) (show k<n by lia);have a2:=pZ (p:=q) (w:=w) (lo:=0) (show k<m by lia);rw[Jz]at a1 a2;refine#[_,a1,by rw[cC];lia,#[by rw[cC];lia,by rw[cC];lia],λi z=>∃o3,z=[be (.lst (aA p w 0 n)),be (.lst (aA q w 0 m)),be (.int k),o3]/\∀x:Int,0<=x->x<i->p.show x k=q.show x k,#[_,rfl,λx a b=>v4],?_,?_]
   .rintro i v z hi⟨o3,rfl,j7⟩;k_places;obtain⟨w9,rfl⟩:=bK hi;rw[cC]at w9;have b1:=wQ (p:=p) (y:=(k:Int)) (show i<w.toNat by lia);have b2:=wQ (p:=q) (y:=(k:Int)) (show i<w.toNat by lia);refine#[_,a1,_,#[by rw[cC];lia,b1],_,a2,_,#[by rw[cC];lia,b2],ite2 (λc=>?_) (λc=>?_)]
    .refine#[QG,hS i k #[#[v4,v4,v4,v4],λz=>by simp[z]at c,λx' y' a b c d=>?_]];rcases d with d|⟨rfl,d⟩
     .exact hj x' y' a b c v4
     .exact j7 x' a v4
    .have c':(#[[aP (p.show i k)].toArray]:Ms)=#[[aP (q.show i k)].toArray]:=by simpa using c
     have c2:=FE (Pat.show_le n9.wf (by have:=n9.deep;lia) _ _).1 (Pat.show_le g7.wf (by have:=g7.deep;lia) _ _).1 (FF c');refine#[_,rfl,λx a b=>?_];by_cases e:x=i
     .rw[e];exact c2
     .exact j7 x a v4
   .rintro z⟨o3,rfl,j7⟩;k_places;rw[bL,IP,cC]at j7;refine#[_,_,rfl,λx y a b c d=>?_];by_cases e:y=k
    .rw[e];exact j7 x a v4
    .exact hj x y a b c v4
  .rintro z⟨o2,o3,rfl,hj⟩;k_places;rw[bL,lp,IP]at hj;exact hN hj
abbrev gK(V:Bx):Prop:=V.D 1 "_law_whole" pw B9
def Hi(T:V.T "_law_whole" pv pw)(uC:V.m "isinstance")(Rq:V.m "bool")(uF:V.m "int"):gK V:=by
 refine Tx.okDW T Fe (λds R h=>?_) (λf cdv A outer s H E J hr=>#[_,((aj (ay (fZ (dS uC uF (aa 0) PyProof.Rows.boot_int zM) (fY (tz (dS uC Rq (aa 0) PyProof.Rows.boot_bool kit_bool))))))),λds R h=>?_])
 .obtain⟨i,rfl,_⟩:=h;rfl
 .obtain⟨i,rfl,hR⟩:=h;exact hR
abbrev qK(V:Bx):Prop:=V.D 2 "_law_numbers" pA DN
def Hj(T:V.T "_law_numbers" pz pA)(uA:V.m "len")(uC:V.m "isinstance")(Nz:V.m "tuple")(uB:V.m "range")(G_:gK V):qK V:=by
 refine Tx.okDW T sc__law_numbers (λds R h=>?_) (λf cdv A outer s H E J hr=>⟨_,((ai (aS (bP (cB (cI (bI (dS uC Nz (aa 0) PyProof.Rows.boot_tuple kit_tuple))) (cH (bE (bB uA (ac (aa 0) ae)) (bB uA (ac (aa 1) ae)))))) (aj (ay bc)) aO)
   (ai (bQ 2 PassesOwn.never rfl sc__law_numbers.nd uB (bB uA (ac (aa 1) ae)) (aj (aS (bP (cB (cI (bI (aw G_ hr (ac (af (aa 0) (aa 2)) ae)))) (cH (bE (af (aa 0) (aa 2)) (af (aa 1) (aa 2)))))) (aj (ay bc)) aO)))
   (aj (ay bc))))),λds R h=>?_⟩)
 .obtain⟨xs,rfl,_⟩:=h;rfl
 .obtain⟨xs,rfl,xl,hR⟩:=h;refine ite2 (λc=>absurd c MF) λ_=>?_;refine#[#[MD,by rw[HV];omega],λk z=>∃o,z=[be (.tup (xs.map D.int)),be (.tup (xs.map D.int)),o],#[_,rfl],?_,?_]
  .rintro k v z hk⟨o,rfl⟩;k_places;obtain⟨n8,rfl⟩:=bK hk;rw[HV]at n8;have Uy:k<xs.length:=by omega
   have ak:atI (xs.map D.int) (k:Int)=be (.int xs[k]):=bD (by rw[H9,Ih Uy];rfl);exact#[_,ak,_,rfl,_,ak,_,ak,ite2 (λc=>absurd c MF) λ_=>#[_,rfl]]
  .rintro z⟨o,rfl⟩;k_places;exact hR
def Hk:SpD:=λds R=>∃(p:Pat) (w lo:Int) (n:Nat),ds=[.lst (aA p w lo n),.lst (aA p w lo n)]/\n<=1000/\R (.bl true)
abbrev jU(V:Bx):Prop:=V.D 1 "_law_texts" pC Hk
def Hl(T:V.T "_law_texts" pB pC)(uA:V.m "len")(uC:V.m "isinstance")(v_:V.m "list")(uB:V.m "range")(uM:V.m "str"):jU V:=by
 refine Tx.okDW T sc__law_texts (λds R h=>?_) (λf cdv A outer s H E J hr=>⟨_,((ai (aS (bP (cB (cI (bI (dS uC v_ (aa 0) PyProof.Rows.boot_list kit_list))) (cH (bE (bB uA (ac (aa 0) ae)) (bB uA (ac (aa 1) ae)))))) (aj (ay bc)) aO)
   (ai (bQ 2 PassesOwn.never rfl sc__law_texts.nd uB (bB uA (ac (aa 1) ae)) (aj (aS (bP (cB (cI (bI (dS uC uM (af (aa 0) (aa 2)) PyProof.Rows.boot_str kit_str))) (cH (bE (af (aa 0) (aa 2)) (af (aa 1) (aa 2)))))) (aj (ay bc)) aO)))
   (aj (ay bc))))),λds R h=>?_⟩)
 .obtain⟨_,_,_,_,rfl,_⟩:=h;rfl
 .obtain⟨p,w,lo,n,rfl,n7,hR⟩:=h;have lp:(aA p w lo n).length=n:=by unfold aA;simp
  refine ite2 (λc=>absurd c MF) λ_=>?_;refine#[#[v4,by rw[lp];lia],λk z=>∃o,z=[be (.lst (aA p w lo n)),be (.lst (aA p w lo n)),o],#[_,rfl],?_,?_]
  .rintro k v z hk⟨o,rfl⟩;k_places;obtain⟨n8,rfl⟩:=bK hk;rw[lp]at n8;have ak:=pZ (p:=p) (w:=w) (lo:=lo) (show k<n by lia);exact#[_,ak,_,ak,_,ak,ite2 (λc=>absurd c MF) λ_=>#[_,rfl]]
  .rintro z⟨o,rfl⟩;k_places;exact hR
def Hm:SpD:=λds R=>∃xs:List Int,ds=[.lst (xs.map D.int),.lst (xs.map D.int)]/\xs.length=7/\R (.bl true)
abbrev qL(V:Bx):Prop:=V.D 2 "_law_seven" pE Hm
def Hn(T:V.T "_law_seven" pD pE)(uA:V.m "len")(uC:V.m "isinstance")(v_:V.m "list")(uB:V.m "range")(G_:gK V):qL V:=by
 refine Tx.okDW T sc__law_seven (λds R h=>?_) (λf cdv A outer s H E J hr=>⟨_,((ai (aS (bP (cB (cI (bI (dS uC v_ (aa 0) PyProof.Rows.boot_list kit_list))) (cH (bE (bB uA (ac (aa 0) ae)) ad)))) (aj (ay bc)) aO)
   (ai (bQ 2 PassesOwn.never rfl sc__law_seven.nd uB ad (aj (aS (bP (cB (cI (bI (aw G_ hr (ac (af (aa 0) (aa 2)) ae)))) (cH (bE (af (aa 0) (aa 2)) (af (aa 1) (aa 2)))))) (aj (ay bc)) aO)))
   (aj (ay bc))))),λds R h=>?_⟩)
 .obtain⟨_,rfl,_⟩:=h;rfl
 .obtain⟨xs,rfl,x7,hR⟩:=h;refine ite2 (λc=>absurd c (by simp[x7])) λ_=>?_;refine#[#[Mx,Mx],λk z=>∃o,z=[be (.lst (xs.map D.int)),be (.lst (xs.map D.int)),o],#[_,rfl],?_,?_]
  .rintro k v z hk⟨o,rfl⟩;k_places;obtain⟨n8,rfl⟩:=bK hk;have k7:k<7:=n8;have ak:atI (xs.map D.int) (k:Int)=be (.int (xs[k]' MD)):=bD (by rw[H9,Ih MD];rfl);exact#[_,ak,_,rfl,_,ak,_,ak,ite2 (λc=>absurd c MF) λ_=>#[_,rfl]]
  .rintro z⟨o,rfl⟩;k_places;exact hR
def Ho:SpD:=λds R=>∃(p:Pat) (w lo:Int) (n:Nat),ds=[.lst (aA p w lo n)]/\p.Ok/\0<=w/\w<=30/\n<=30/\R (.lst ((cO p 0 lo w.toNat n).map D.int))
abbrev qM(V:Bx):Prop:=V.D 1 "_law_counts" pG Ho
def Hq(T:V.T "_law_counts" pF pG):qM V:=by
 refine Tx.okDW T sc__law_counts (λds R h=>?_) (λf cdv A outer s H E J hr=>⟨_,((ai (gc 1 sc__law_counts.nd (ac ad (ac ad (ac ad (ac ad (ac ad (ac ad (ac ad ae))))))))
   (ai (hV 2 PassesOwn.never rfl sc__law_counts.nd (aa 0) (aj (AN 3 PassesOwn.never rfl sc__law_counts.nd (aa 2) (aj (BU 1 (kZ ax (ac (aa 3) ae)) ad)))))
   (dm 1 (aj (ay (aa 1))))))),λds R h=>?_⟩)
 .obtain⟨_,_,_,_,rfl,_⟩:=h;rfl
 .obtain⟨p,w,lo,n,rfl,ok,w0,w7,n7,hR⟩:=h;have e0:([.int 0,.int 0,.int 0,.int 0,.int 0,.int 0,.int 0]:List D)=(due7 p 0 lo w.toNat 0 0).map D.int:=rfl;refine#[Mx,?_];refine#[λk z=>∃o1 o2,z=[be (.lst (aA p w lo n)),be (.own ((due7 p 0 lo w.toNat k 0).map D.int)),o1,o2],#[_,_,rfl],?_,?_]
  .rintro k v z hk⟨o1,o2,rfl⟩;k_places;obtain⟨n8,rfl⟩:=Fy hk;refine#[FA ok 0 (lo+k) w.toNat,λi z=>∃o2,z=[be (.lst (aA p w lo n)),be (.own ((due7 p 0 lo w.toNat k i).map D.int)),be (.str (aL p 0 (lo+k) w.toNat)),o2],#[_,rfl],?_,?_]
   .rintro i v z hi⟨o2,rfl⟩;k_places;obtain⟨w9,rfl⟩:=FC hi;obtain⟨u,u7,eu,e3,e4⟩:=Fv ok 0 lo w.toNat k i;obtain⟨rest,ho⟩:=FD u7;rw[eu];refine#[u,rest,ho,_,v4,by rw[H9,IP,e3];rfl,?_];rw[IP];exact#[_,by rw[<-e4];rfl]
   .rintro z⟨o2,rfl⟩;k_places;refine#[be (.str (aL p 0 (lo+k) w.toNat)),o2,?_];rw[fA,cC,Fw]
  .rintro z⟨o1,o2,rfl⟩;k_places;rw[show(aA p w lo n).length=n by unfold aA;simp,Fx];exact hR
abbrev qN(V:Bx):Prop:=V.D 10 "field_rows" pH DK
def Hr(T:V.T "field_rows" jn pH)(uB:V.m "range")(Nq:jG V)(LA:V.a "Pattern" "shifts"):qN V:=by
 refine Tx.okDW T Ff (λds R h=>?_) (λf cdv A outer s H E J hr=>#[_,((aj (ay (ib rfl (compScope (by change dz _ (ah jn) ["pattern"] _=true;decide+kernel)) uB (af (fu LA (aa 0)) ad) (λcl s0 H0 fp=>(aw Nq hr (ac (aa 0) (ac ad (ac (aa 1) (ac (af (fu LA (aa 0)) ad) ae)))))))))),λds R h=>?_])
 .obtain⟨_,_,rfl,_⟩:=h;rfl
 .obtain⟨p,d,rfl,hd,ok,hR⟩:=h;obtain⟨w,h,s,fs,rfl,e1,e2,hp⟩:=id hd;have F:=hp.toFam;have sm:=ok.fits.small F;have wh:w*h<=720:=by
   obtain⟨w',h',s',f',hb⟩:=ok.fits;obtain⟨rfl,rfl,_⟩:=F.uniq f';exact hb
  refine#[rfl,_,e2,_,rfl,#[v4,v4],by rw[bL];lia,λk ys=>ys=(HS k).map λ(y:Nat)=>D.str (aL p 0 (y:Int) w.toNat),rfl,?_,?_]
  .rintro k v ys hk hl rfl;obtain⟨n8,rfl⟩:=bK hk;refine#[rfl,_,e2,_,rfl,p,.obj "Pattern" fs,0,k,w.toNat,by rw[ID v4],hd,ok,v4,#[v4,v4],#[v4,v4],#[v4,v4],?_];show _=JV _ (HS (k+1));rw[JE,IA];rfl
  .rintro ys hl rfl;rw[bL];exact hR w h s F wh sm.2.1 sm.2.2.2.1
abbrev C_round_row(V:Bx):Prop:=V.D 2 "round_row" pJ DL
def Hs(T:V.T "round_row" pI pJ)(F_:fP V):C_round_row V:=by
 refine Tx.okDW T sc_round_row (λds R h=>?_) (λf cdv A outer s H E J hr=>⟨_,((ai (ao 4 sc_round_row.nd (aw F_ hr (ac (aa 0) (ac (aa 2) (ac (aa 3) ae)))))
   (ai (ao 5 sc_round_row.nd (af (aa 1) (af (aa 4) ad)))
   (aj (ay (am (cm (aa 5) (ck (af (aa 4) ad)) cj) (cm (aa 5) cj (ck (af (aa 4) ad))))))))),λds R h=>?_⟩)
 .obtain⟨_,_,_,_,_,_,rfl,_⟩:=h;rfl
 .obtain⟨p,w,h,s,x,y,rfl,F,w7,h7,hR⟩:=h;have f:=F.f;have y0:=IS y (show h≠0 by have:=f.h0;lia);have y1:=IT y f.h0;refine#[λd=>d=.tup [.int (hmX w h s x y),.int (y%h)],#[w,h,s,x,y,rfl,f.w0,f.h0,v4,f.s0,by have:=f.sw;lia,rfl],?_];rintro _ rfl;k_places;refine#[λd=>d=.str (aL p 0 (y%h) w.toNat),#[_,rfl,_,?_,rfl],?_]
  .have e:y%h=(((y%h).toNat:Nat):Int):=by lia
   rw[e];exact bD (by rw[H9,IV v4];simp)
  rintro _ rfl;k_places;have l:=cC p 0 (y%h) w.toNat;refine#[_,rfl,v4,_,rfl,v4,?_];have e:=DJ f.w0 f.h0 (λ_ _ q=>F.keeps q) x y;refine#[?_,?_]
  .rw[<-bn,<-bn,<-Ic,<-bF,e,cY];simp;lia
  .rw[e];exact hR
abbrev qO(V:Bx):Prop:=V.D 1 "count_sign" pL DZ
def Ht(T:V.T "count_sign" pK pL)(uA:V.m "len"):qO V:=by
 refine Tx.okDW T Fg (λds R h=>?_) (λf cdv A outer s H E J hr=>#[_,((aj (ay (am (az (aZ (aa 2) (bB uA (ac (aa 0) ae))) (vp (aa 0) (ac (aa 1) ae))) (vp (cm (aa 0) cj (ck (aD (aa 2) (bB uA (ac (aa 0) ae))))) (ac (aa 1) ae)))))),λds R h=>?_])
 .obtain⟨_,_,_,_,_,_,rfl,_⟩:=h;rfl
 .obtain⟨p,x,y,v,m,w,rfl,ok,v0,v6,w0,w7,m0,m1,kw,hR⟩:=h;have l:=cC p x y w;have q0:0<=m/(w:Int):=J8 m0 v4;have q1:m/(w:Int)<=m:=KA _ m0;have r0:=IS m (show(w:Int)≠0 by lia);have r1:=IT m (show 0<(w:Int)by lia);have er:m%(w:Int)=(((m%(w:Int)).toNat:Nat):Int):=by lia
  have e2:Txt.slice (aL p x y w) LH (be (m%(w:Int)))=aL p x y (m%(w:Int)).toNat:=by
   rw[er,DY p x y v4];rfl
  refine#[v4,#[by rw[l];lia,by rw[l];lia],.inl #[by rw[l];lia,by rw[l];lia],v4,by rw[l];lia,v4,?_];show R (.int (m/((aL p x y w).length:Int)*occC (aL p x y w) (aP v)+occC (Txt.slice (aL p x y w) LH (be (m%((aL p x y w).length:Int)))) (aP v)));rw[l,e2,wy ok x y v0 v6,wy ok x y v0 v6];have Nd:∀k:Nat,(λk:Nat=>p.show (x+k) y) (k+w)=(λk:Nat=>p.show (x+k) y) k:=λk=>by
   have:=kw (x+k) y;rw[JK]at this;show p.show (x+((k+w:Nat):Int)) y=p.show (x+(k:Int)) y;rw[<-this,JJ,Kx]
  have:=DR (f:=λk:Nat=>p.show (x+k) y) w0 Nd v m.toNat;have d1:m/(w:Int)=((m.toNat/w:Nat):Int):=by rw[Int.natCast_ediv,ID m0]
  have d2:(m%(w:Int)).toNat=m.toNat%w:=by
   have:m%(w:Int)=((m.toNat%w:Nat):Int):=by rw[Ll,ID m0]
   lia
  rw[d1,d2,this];exact hR
abbrev jV(V:Bx):Prop:=V.X 11 "count_all" pM D6
def Hu(T:V.T "count_all" jp pM)(uX:V.m "max")(uB:V.m "range")(Rr:V.m "min")(M0:V.m "enumerate")(MY:jE V)(Rs:qN V)(Rt:C_round_row V)(Ru:qO V)(uS:V.gs "SIGNS" ".123456")(LA:V.a "Pattern" "shifts"):jV V:=by
  refine Tx.okXW T sc_count_all (λds R RX h=>?_) (λf cdv A outer s H E J hr hx=>⟨_,((ai (tH (ue MY hx hr (ac (aa 1) (ac (aa 2) ae))))
      (ai (tH (ue MY hx hr (ac (aa 3) (ac (aa 4) ae))))
      (ai (ao 5 sc_count_all.nd (fu LA (aa 0)))
      (ai (ao 6 sc_count_all.nd (aw Rs hr (ac (aa 0) ae)))
      (ai (ao 7 sc_count_all.nd (gj rfl uX (ac (am (bx (aa 3) (aa 1)) ad) (ac ad ae))))
      (ai (ao 8 sc_count_all.nd (az (af (aa 5) ad) (af (aa 5) ad)))
      (ai (BN 9 rfl (compScope (by change dz _ (ah jp) ["pattern","left","top","right","bottom","family","rows","many","again","counts","y","times","row","hue","sign"] _=true;decide+kernel)) sc_count_all.nd (fz uS) (λcl s0 H0 fp=>ad))
      (ai (Ao 10 PassesOwn.leaving rfl sc_count_all.nd uB (aa 2) (zY rfl Rr (ac (am (aa 4) ad) (ac (am (aa 2) (aa 8)) ae))) (ai (ao 11 sc_count_all.nd (am (aZ (bx (aa 4) (aa 10)) (aa 8)) ad))
        (ai (ao 12 sc_count_all.nd (aw Rt hr (ac (aa 5) (ac (aa 6) (ac (aa 1) (ac (aa 10) ae))))))
        (aj (BR PassesOwn.leaving rfl M0 (fz uS) (dg_cons 13 sc_count_all.nd (dg_cons 14 sc_count_all.nd du)) (aj (ud 9 (am (kS 9 (aa 13)) (az (aa 11) (aw Ru hr (ac (aa 12) (ac (aa 14) (ac (aa 7) ae)))))) (aa 13))))))))
      (dm 9 (aj (ay (aa 9))))))))))))),λds R RX d7 h=>?_⟩)
  . obtain⟨_,_,_,_,_,_,rfl,_⟩:=h;rfl
  . obtain⟨p,d,left,top,right,a_,rfl,hd,ok,hR,hX⟩:=h;obtain⟨w,h,s,fs,rfl,e1,e2,hp⟩:=id hd;have F:=hp.toFam;have sm:=ok.fits.small F;refine#[left,top,rfl,λn1=>?_,λn1=>by rw[d7];exact hX λz=>n1 #[z.1,z.2.1]];refine#[right,a_,rfl,λn2=>?_,λn2=>by rw[d7];exact hX λz=>n2 #[z.2.2.1,z.2.2.2]];have hR:=hR #[n1.1,n1.2,n2.1,n2.2];unfold bo at n1 n2;refine#[λd=>d=.tup [.int w,.int h,.int s],#[rfl,_,e2,rfl],?_];rintro _ rfl;k_places;refine#[λd=>d=gA p w h/\w*h<=720,#[p,_,rfl,hd,ok,λw' h' s' F' hb _ _=>by obtain⟨rfl,rfl,rfl⟩:=F.uniq F';exact#[rfl,hb]],?_];rintro _⟨rfl,hb⟩;k_places;refine#[λd=>d=.int ((right-left+1).toNat:Nat),congrArg D.int (D5 _),?_];rintro _ rfl;k_places;have Uz:0<w*h:=Ii F.f.w0 F.f.h0;refine#[λd=>d=.int (w*h),#[_,rfl,_,rfl,.inl #[v4,v4],rfl],?_];rintro _ rfl;k_places;generalize hm:(right-left+1).toNat=m at*;generalize hn:(a_-top+1).toNat=n at*;generalize hN:(w*h).toNat=N at*;refine#[KK,KK,λk ys=>ys=IH k (D.int 0),rfl,?_,?_]
    . rintro k v ys hk hl rfl;show _=IH (k+1) _;rw[List.replicate_succ']
    rintro ys hl rfl;have wN:w*h=(N:Int):=v4
    have w9:=D2 (top:=top) hn wN;have U4:=wA n1.1 n2.1 hm;have U5:=wA n1.2 n2.2 hn;refine#[D3 #[n1.2.1,n1.2.2] #[n2.2.1,n2.2.2] Uz hb,λk z=>∃L9 u8 MU p8 w6,z=[be (.obj "Pattern" fs),be (.int left),be (.int top),be (.int right),be (.int a_),be (.tup [.int w,.int h,.int s]),be (gA p w h),be (.int m),be (.int (w*h)),be (.own ((HS 7).map λ(v:Nat)=>D.int (cn p left top m n N k v))),L9,u8,MU,p8,w6],#[LH,LH,LH,LH,LH,?_],?_,?_]
    . have e7:(bS (".123456":Ms)).length=7:=by decide+kernel
      rw[e7];rfl
    . rintro k v z hk⟨L9,u8,MU,p8,w6,rfl⟩;k_places;obtain⟨n8,rfl⟩:=range2_int hk;rw[w9]at n8;refine#[λd=>d=.int (((n:Int)-1-k)/N+1),#[#[v4,v4],?_],?_]
      . rw[wN];congr 3;exact D4 hn n8
      rintro _ rfl;k_places;refine#[λd=>d=.str (aL p left (top+k) w.toNat),#[p,w,h,s,left,top+k,rfl,F,sm.2.1,sm.2.2.2.1,rfl],?_];rintro _ rfl;k_places;refine#[KK,λi z=>∃p8 w6,z=[be (.obj "Pattern" fs),be (.int left),be (.int top),be (.int right),be (.int a_),be (.tup [.int w,.int h,.int s]),be (gA p w h),be (.int m),be (.int (w*h)),be (.own ((HS 7).map λ(v:Nat)=>D.int (if v<i then cn p left top m n N (k+1) v else cn p left top m n N k v))),be (.int (top+k)),be (.int (((n:Int)-1-k)/N+1)),be (.str (aL p left (top+k) w.toNat)),p8,w6],#[_,_,rfl],?_,?_]
      . rintro i v z hi⟨p8,w6,rfl⟩;k_places;rw[D1]at hi;have i7:i<7:=by simpa using(Ia.mp hi).1
        have ev:v=.str #[[aP (i:Int)].toArray]:=by
          rw[H9,IV i7]at hi;exact(Option.some.inj hi).symm
        subst ev;have ci:=ww (λk'=>p.show (left+k') (top+k)) i m;have tq:0<=((n:Int)-1-k)/N/\((n:Int)-1-k)/N<=(n:Int)-1-k:=#[J8 v4 v4,KA _ v4];refine#[_,bD (by rw[H9,IV i7];rfl),p,left,top+k,i,m,w.toNat,rfl,ok,v4,v4,v4,v4,v4,v4,by rw[ID v4];exact F.across,?_];refine#[.inl #[v4,v4],i,?_,?_]
        . unfold ixN;rw[if_pos v4,if_pos UD];simp
        refine#[be (.int i),be (.str #[[aP (i:Int)].toArray]),?_];rw[IP,if_neg (Jb i)];have e:cn p left top m n N k i+(((n:Int)-1-k)/N+1)*cntN (λk'=>p.show (left+k') (top+k)) i m=cn p left top m n N (k+1) i:=rfl;rw[e];have q:=wz (n:=7) (i:=i) (λ(v:Nat)=>D.int (if v<i then cn p left top m n N (k+1) v else cn p left top m n N k v)) (λ(v:Nat)=>D.int (if v<i+1 then cn p left top m n N (k+1) v else cn p left top m n N k v)) (λv hv ne=>by
          by_cases c:v<i
          . rw[if_pos c,if_pos v4]
          . rw[if_neg c,if_neg v4])
        rw[if_pos (show i<i+1 by lia)]at q;rw[q];rfl
      . rintro z⟨p8,w6,rfl⟩;k_places;refine#[be (.int (top+k)),be (.int (((n:Int)-1-k)/N+1)),be (.str (aL p left (top+k) w.toNat)),p8,w6,?_];have:∀v∈HS 7,D.int (if v<(bS (".123456":Ms)).length then cn p left top m n N (k+1) v else cn p left top m n N k v)=D.int (cn p left top m n N (k+1) v):=λv hv=>by
          rw[if_pos (by  have e7:(bS (".123456":Ms)).length=7:=by decide+kernel
                         rw[e7];simpa using hv)]
        rw[JF this]
    . rintro z⟨L9,u8,MU,p8,w6,rfl⟩;k_places;have e:((HS ((if top+w*h<a_+1 then top+w*h else a_+1)-top).toNat).map λ(k:Nat)=>D.int (top+(k:Int))).length=min n N:=by simp[w9]
      rw[e];have fold:∀v:Nat,cn p left top m n N (min n N) v=cN p v left top m n:=λv=>D0 v4 (by rw[<-wN];exact F.down) v left top m n;simp only[fold];have e2:((HS 7).map λ(v:Nat)=>D.int (cN p v left top m n))=(cO p left top m n).map D.int:=by unfold cO;rw[JH];rfl
      rw[e2];exact hR
def Hv:SpM:=λds M R _=>∃a q f,ds=[.ptr a]/\a≠q/\M=Fl.M f a q/\f.Ok/\R (.lst ((cO f.p 0 0 f.w.toNat f.l.toNat).map D.int)) (f.M a q)
abbrev qP(V:Bx):Prop:=V.Q 12 "Floor" "lies" pO Hv
def Hw(T:V.Tm "Floor" "lies" "Floor.lies" pN pO)(NA:jV V)(uE:V.a "Floor" "laid")(uJ:V.a "Floor" "width")(uG:V.a "Floor" "pattern"):qP V:=by
 refine Txm.okM T Fh (λds M R RX h=>?_) (λf cdv A outer s H E J hr hx=>#[_,((au (aG (aM (CalX.toM NA) hx hr (aF (aE uG (ag (aa 0))) (aF (ag ad) (aF (ag ad) (aF (dA (aE uJ (ag (aa 0))) (ag ad)) (aF (dA (aE uE (ag (aa 0))) (ag ad)) bg))))))))),λds M R RX d7 h=>?_])
 .obtain⟨_,_,_,rfl,_⟩:=h;rfl
 .obtain⟨a,q,f,rfl,ne,rfl,ok,hR⟩:=h;have w1:=ok.w1;have w2:=ok.w2;have l0:=ok.l0;have l1:=ok.l1;have h2:=ok.h2;refine#[_,Fl.ma ne,_,gH,_,Fl.ma ne,_,fO,_,Fl.ma ne,_,eI,f.p,f.d,0,0,f.w-1,f.l-1,rfl,ok.is,ok.ok,λ_=>?_,λz=>absurd #[#[v4,v4],#[v4,v4],#[v4,v4],v4,v4] z];rw[show(f.w-1-0+1).toNat=f.w.toNat by lia,show(f.l-1-0+1).toNat=f.l.toNat by lia];exact hR
def Hx:SpM:=λds M R _=>∃a q f,ds=[.ptr a]/\a≠q/\M=Fl.M f a q/\f.Ok/\R (.lst ((cO f.p 0 f.l f.w.toNat (f.h-f.l).toNat).map D.int)) (f.M a q)
abbrev qQ(V:Bx):Prop:=V.Q 12 "Floor" "still" pQ Hx
def Hy(T:V.Tm "Floor" "still" "Floor.still" pP pQ)(NA:jV V)(u_:V.a "Floor" "height")(uJ:V.a "Floor" "width")(uE:V.a "Floor" "laid")(uG:V.a "Floor" "pattern"):qQ V:=by
 refine Txm.okM T Fi (λds M R RX h=>?_) (λf cdv A outer s H E J hr hx=>#[_,((au (aG (aM (CalX.toM NA) hx hr (aF (aE uG (ag (aa 0))) (aF (ag ad) (aF (aE uE (ag (aa 0))) (aF (dA (aE uJ (ag (aa 0))) (ag ad)) (aF (dA (aE u_ (ag (aa 0))) (ag ad)) bg))))))))),λds M R RX d7 h=>?_])
 .obtain⟨_,_,_,rfl,_⟩:=h;rfl
 .obtain⟨a,q,f,rfl,ne,rfl,ok,hR⟩:=h;have w1:=ok.w1;have w2:=ok.w2;have l0:=ok.l0;have l1:=ok.l1;have h2:=ok.h2;refine#[_,Fl.ma ne,_,gH,_,Fl.ma ne,_,eI,_,Fl.ma ne,_,fO,_,Fl.ma ne,_,js,f.p,f.d,0,f.l,f.w-1,f.h-1,rfl,ok.is,ok.ok,λ_=>?_,λz=>absurd #[#[v4,v4],#[v4,v4],#[v4,v4],v4,v4] z];rw[show(f.w-1-0+1).toNat=f.w.toNat by lia,show(f.h-1-f.l+1).toNat=(f.h-f.l).toNat by lia];exact hR
def Hz:SpM:=λds M R _=>∃a q f,ds=[.ptr a]/\a≠q/\M=Fl.M f a q/\R (.int f.ds.length) (f.M a q)
abbrev qR(V:Bx):Prop:=V.Q 1 "Floor" "kept" pS Hz
def HA(T:V.Tm "Floor" "kept" "Floor.kept" pR pS)(uA:V.m "len")(Lz:V.a "Floor" "deeds"):qR V:=by
 refine Txm.okM T Fj (λds M R RX h=>?_) (λf cdv A outer s H E J hr hx=>#[_,((au (aG (vd uA (aE Lz (ag (aa 0))))))),λds M R RX d7 h=>?_])
 .obtain⟨_,_,_,rfl,_⟩:=h;rfl
 .obtain⟨a,q,f,rfl,ne,rfl,hR⟩:=h;refine#[_,Fl.ma ne,_,wO,_,Fl.mq,?_];rw[HV];exact hR
def HB:SpM:=λds M R _=>∃a q f,ds=[.ptr a,.str f.p.text,.tup [.int f.w,.int f.h],.lst (aA f.p f.w 0 f.l.toNat),.lst (aA f.p f.w f.l (f.h-f.l).toNat),.int f.ds.length]/\a≠q/\M=Fl.M f a q/\f.Ok/\R (.bl true) (f.M a q)
abbrev qS(V:Bx):Prop:=V.MM 13 "_law_view" pU HB
def HC(T:V.T "_law_view" pT pU)(uC:V.m "isinstance")(uM:V.m "str")(G_:gK V)(NB:jU V)(O7:qL V)(O8:qM V)(LB:V.a "Floor" "text")(uJ:V.a "Floor" "width")(u_:V.a "Floor" "height")(Nt:jH V)(Rv:qP V)(Rw:qQ V)(Rx:qR V):qS V:=by
 refine Tx.okM T sc__law_view (λds M R RX h=>?_) (λf cdv A outer s H E J hr hx=>⟨_,((aq (bj (mt_w (iq (eB (dJ (Eo uC uM (aE LB (ag (aa 0))) PyProof.Rows.boot_str kit_str))) (ip (lr (aE LB (ag (aa 0))) (ag (aa 1)))))) (au (aG (ag bc))) aU)
   (aq (bj (mt_w (iq (eB (dJ (aM (CalD.toM G_) hx hr (aF (aE uJ (ag (aa 0))) bg)))) (ip (lr (aE uJ (ag (aa 0))) (ag (af (aa 2) ad)))))) (au (aG (ag bc))) aU)
   (aq (bj (mt_w (iq (eB (dJ (aM (CalD.toM G_) hx hr (aF (aE u_ (ag (aa 0))) bg)))) (ip (lr (aE u_ (ag (aa 0))) (ag (af (aa 2) ad)))))) (au (aG (ag bc))) aU)
   (aq (bj (eB (dJ (aM (CalD.toM NB) hx hr (aF (cu (CalMth.one (CalMth.lendD Nt)) hx hr (ag (aa 0))) (aF (ag (aa 3)) bg))))) (au (aG (ag bc))) aU)
   (aq (bj (eB (dJ (aM (CalD.toM O7) hx hr (aF (cu (CalMth.one Rv) hx hr (ag (aa 0))) (aF (ag (aw O8 hr (ac (aa 3) ae))) bg))))) (au (aG (ag bc))) aU)
   (aq (bj (eB (dJ (aM (CalD.toM O7) hx hr (aF (cu (CalMth.one Rw) hx hr (ag (aa 0))) (aF (ag (aw O8 hr (ac (aa 4) ae))) bg))))) (au (aG (ag bc))) aU)
   (aq (aH 6 sc__law_view.nd (cu (CalMth.one Rx) hx hr (ag (aa 0))))
   (au (aG (ag (fZ (aw G_ hr (ac (aa 6) ae)) (fY (dg (aa 6) (aa 5))))))))))))))),λds M R RX d7 h=>?_⟩)
 .obtain⟨_,_,_,rfl,_⟩:=h;rfl
 .obtain⟨a,q,f,rfl,ne,rfl,ok,hR⟩:=h;have w1:=ok.w1;have w2:=ok.w2;have l0:=ok.l0;have l1:=ok.l1;have h2:=ok.h2;have ec:∀lo n,(cO f.p 0 lo f.w.toNat n).length=7:=λlo n=>by unfold cO;simp
  refine#[_,Fl.ma ne,_,wM,?_];dsimp only[kN];refine ite2 (λc=>nomatch c) λ_=>#[_,Fl.ma ne,_,wM,ite2 (λc=>absurd c MF) λ_=>?_];refine#[_,Fl.ma ne,_,fO,_,rfl,ite2 (λc=>nomatch c) λ_=>#[_,Fl.ma ne,_,fO,_,rfl,ite2 (λc=>absurd c MF) λ_=>?_]];refine#[_,Fl.ma ne,_,js,_,rfl,ite2 (λc=>nomatch c) λ_=>#[_,Fl.ma ne,_,js,_,rfl,ite2 (λc=>absurd c MF) λ_=>?_]];refine#[_,HN.mpr rfl,_,Fl.ma ne,rfl,?_];dsimp only[mNil];refine wU ne ok #[f.p,f.w,0,_,rfl,v4,ite2 (λc=>nomatch c) λ_=>?_];refine#[_,HN.mpr rfl,_,Fl.ma ne,rfl,a,q,f,rfl,ne,rfl,ok,f.p,f.w,0,_,rfl,ok.ok,v4,w2,v4,_,rfl,ec _ _,ite2 (λc=>nomatch c) λ_=>?_];refine#[_,HN.mpr rfl,_,Fl.ma ne,rfl,a,q,f,rfl,ne,rfl,ok,f.p,f.w,f.l,_,rfl,ok.ok,v4,w2,v4,_,rfl,ec _ _,ite2 (λc=>nomatch c) λ_=>?_];refine#[λd M'=>d=.int f.ds.length/\M'=f.M a q,#[_,HN.mpr rfl,_,Fl.ma ne,rfl,a,q,f,rfl,ne,rfl,rfl,rfl],?_];rintro _ _⟨rfl,rfl⟩;k_places;refine#[_,rfl,?_];show R (.bl (decide ((f.ds.length:Int)=f.ds.length))) (f.M a q);rw[decide_eq_true rfl];exact hR
def HD:SiM:=λa ds R=>∃p w h,ds=[.str (Pat.text p),.int w,.int h]/\p.Ok/\∀d q,bv p d->a≠q->R (Fl.M #[p,d,w,h,0,[]] a q)
abbrev qT(V:Bx):Prop:=V.N 19 "Floor" pW HD
def HE(T:V.Ti "Floor" "Floor.__init__" pV pW)(Ny:jT V)(uG:V.a "Floor" "pattern")(LB:V.a "Floor" "text")(uJ:V.a "Floor" "width")(u_:V.a "Floor" "height")(uE:V.a "Floor" "laid")(Lz:V.a "Floor" "deeds"):qT V:=by
 refine Txi.okIN T Fk (λa ds R h=>?_) (λf cdv A outer s H E J hr hx=>⟨_,((aq (bZ uG (ag (aa 0)) (aM (CalX.toM Ny) hx hr (aB (ac (aa 1) ae))))
   (aq (bZ LB (ag (aa 0)) (ag (aa 1)))
   (aq (bZ uJ (ag (aa 0)) (ag (aa 2)))
   (aq (bZ u_ (ag (aa 0)) (ag (aa 3)))
   (aq (bZ uE (ag (aa 0)) (ag ad))
   (au (bZ Lz (ag (aa 0)) (lv (aB ae)))))))))),λa ds R M7 h=>?_⟩)
 .obtain⟨_,_,_,rfl,_⟩:=h;rfl
 .obtain⟨p,w,h,rfl,ok,hR⟩:=h;refine wo (RX:=λ_ _=>True) ok λd hd=>?_;refine#[_,cF,by show(0:Nat)<1000;decide,?_];rw[cZ];refine#[_,cF,Ty,?_];rw[cZ];refine#[_,cF,by show(2:Nat)<1000;decide,?_];rw[cZ];refine#[_,cF,by show(3:Nat)<1000;decide,?_];rw[cZ];refine#[_,cF,by show(4:Nat)<1000;decide,?_];rw[cZ];refine#[by show(0:Nat)<=1000;decide,λq hq=>?_];have ne:a≠q:=λe=>hq (e ▸ HW);refine#[_,(eE (Ne.symm ne)).trans cF,by show(5:Nat)<1000;decide,?_];rw[eF (Ne.symm ne),cZ];exact hR d q hd ne
def HF{fa:Addr}{fd:Ve}(F:Fun V.K "law" "law" jq fa fd)(uA:V.m "len")(uC:V.m "isinstance")(Nz:V.m "tuple")(Nn:jC V)(Ry:ql V)(C_:ju V)(O9:qp V)(O_:qt V)(Rz:qI V)(RA:qJ V)(RB:qK V)(Pa:qS V)(NB:jU V)(RC:qT V):FnOk V.P V.w V.K V.mg V.base (Exc.CX1 V.P V.w) 21 fa fd pX (lSp V.K fo):=by
 refine En (Fun.okM F sc_law (λds M R RX h=>?_) (λcdv A outer s H E J hr hx=>⟨_,((aq (aH 1 sc_law.nd (ag (aw Nn hr (ac (aa 0) (ac ad ae)))))
   (aq (aH 2 sc_law.nd (ag (aw Ry hr (ac (aa 1) (ac (aa 0) (ac ad (ac (aw C_ hr (ac (aa 0) (ac ad ae))) ae)))))))
   (aq (aH 3 sc_law.nd (ag (am ad (aD (aw C_ hr (ac (aa 0) (ac ad ae))) ad))))
   (aq (aH 4 sc_law.nd (ag (am ad (aD (aw C_ hr (ac (aa 0) (ac ad ae))) ad))))
   (aq (aH 5 sc_law.nd (ag (aD (aw C_ hr (ac (aa 0) (ac ad ae))) (am (aa 4) ad))))
   (aq (aH 6 sc_law.nd (ag (aw O9 hr (ac (af (aa 1) ad) (ac (aa 3) (ac (aa 4) ae))))))
   (aq (aH 7 sc_law.nd (ag (aw O9 hr (ac (af (aa 2) ad) (ac (aa 3) (ac (aa 4) ae))))))
   (aq (aH 8 sc_law.nd (El RC hr (aB (ac (af (aa 1) ad) (ac (aa 3) (ac (aa 4) ae))))))
   (aq (aH 9 sc_law.nd (ag ad))
   (aq (dW (bu (fV (aa 5) ad)) (aq (bj (dJ (lm (aM O_ hx hr (aB (ac (aa 8) (ac (aa 5) (ac bc ae))))) (ag ad))) (au (aG (ag bc))) aU)
    (au (aH 9 sc_law.nd (ag ad)))) aU)
   (aq (aH 10 sc_law.nd (aM Rz hx hr (aB (ac (aa 8) (ac (af (aa 2) ad) ae)))))
   (aq (aH 11 sc_law.nd (ag (aw RA hr (ac (cm (aa 6) cj (ck (aa 5))) (ac (aa 7) ae)))))
   (aq (aH 12 sc_law.nd (ag (af (aa 1) ad)))
   (aq (dW (bu (kM (aa 11) bO)) (aq (bj (bu (Ev (gW hr) (aa 10) (aJ (ac ax ae)))) (au (aG (ag bc))) aU)
    (aq (aH 9 sc_law.nd (ag (am (aa 9) ad)))
    (aq (aH 12 sc_law.nd (ag (af (aa 2) ad)))
    (au (aH 6 sc_law.nd (ag (aa 7))))))) (aq (bj (bu (bP (cB (cI (bI (dS uC Nz (aa 10) PyProof.Rows.boot_tuple kit_tuple))) (cB (bE (bB uA (ac (aa 10) ae)) ad) (cH (bE (af (aa 10) ad) ax)))))) (au (aG (ag bc))) aU)
    (au (bj (bu (cI (bI (aw RB hr (ac (cm (aa 10) (ck ad) cj) (ac (aa 11) ae)))))) (au (aG (ag bc))) aU))))
   (aq (bj (eB (dJ (aM Pa hx hr (aB (ac (aa 8) (ac (aa 12) (ac (aJ (ac (aa 3) (ac (aa 4) ae))) (ac (cm (aa 6) cj (ck (aa 5))) (ac (cm (aa 6) (ck (aa 5)) cj) (ac (aa 9) ae)))))))))) (au (aG (ag bc))) aU)
   (aq (dW (bu (eZ (aa 5) (aa 4))) (aq (Er rfl (aM O_ hx hr (aB (ac (aa 8) (ac (bx (aa 4) (aa 5)) (ac bc ae))))) (dg_cons 13 sc_law.nd (dg_cons 10 sc_law.nd du)))
    (aq (bj (bu (bP (cB (bI (aa 13)) (cH (cI (bI (aw NB hr (ac (aa 10) (ac (cm (aa 6) (ck (aa 5)) cj) ae))))))))) (au (aG (ag bc))) aU)
    (au (aH 9 sc_law.nd (ag (am (aa 9) ad)))))) aU)
   (au (aG (aM Pa hx hr (aB (ac (aa 8) (ac (aa 12) (ac (aJ (ac (aa 3) (ac (aa 4) ae))) (ac (aa 6) (ac (bf ae) (ac (aa 9) ae))))))))))))))))))))))))))),λds M R RX d7 h=>?_⟩))
 .obtain⟨rfl,_,⟨ns,rfl,_⟩,rfl⟩:=h;rfl
 .obtain⟨rfl,R0,⟨ns,rfl,hl,hR⟩,rfl⟩:=h;refine#[λd M'=>M'=[]/\∃p:Pat,d=p.D/\p.Ok,#[ns,4,rfl,Mx,λp ok=>#[rfl,p,rfl,ok]],?_];rintro _ _⟨rfl,p,rfl,n9⟩;k_places;refine#[λd M'=>M'=[]/\∃p:Pat,d=p.D/\p.Ok,#[ns,3,rfl,Mx,p,ns,24,_,rfl,n9,Mx,λp ok=>#[rfl,p,rfl,ok]],?_];rintro _ _⟨rfl,t,rfl,OD⟩;k_places;refine#[λd M'=>M'=[]/\∃w:Int,d=.int w/\1<=w/\w<=12,#[ns,0,rfl,Mx,Mx,rfl,_,rfl,v4,v4],?_];rintro _ _⟨rfl,w,rfl,w1,w2⟩;k_places;refine#[λd M'=>M'=[]/\∃h:Int,d=.int h/\1<=h/\h<=12,#[ns,1,rfl,Mx,Mx,rfl,_,rfl,v4,v4],?_];rintro _ _⟨rfl,h,rfl,h1,h2⟩;k_places;have m0:=IS (cell ns 2) (show h+1≠0 by lia);have m1:=IT (cell ns 2) (show 0<h+1 by lia);refine#[λd M'=>M'=[]/\∃l:Nat,d=.int l/\(l:Int)<=h,#[ns,2,rfl,Mx,v4,rfl,(cell ns 2%(h+1)).toNat,by rw[ID m0],by rw[ID m0];lia],?_];clear m0 m1;rintro _ _⟨rfl,l,rfl,lh⟩;k_places;refine#[λd M'=>M'=[]/\d=.lst (aA p w 0 h.toNat),#[_,rfl,p,w,h,rfl,n9,v4,v4,v4,v4,rfl,rfl],?_];rintro _ _⟨rfl,rfl⟩;k_places;refine#[λd M'=>M'=[]/\d=.lst (aA t w 0 h.toNat),#[_,rfl,t,w,h,rfl,OD,v4,v4,v4,v4,rfl,rfl],?_];rintro _ _⟨rfl,rfl⟩;k_places;refine#[λd M'=>∃a qa d0,d=.ptr a/\a≠qa/\bv p d0/\M'=Fl.M #[p,d0,w,h,0,[]] a qa,#[_,rfl,λa _=>#[p,w,h,rfl,n9,λd0 qa is ne=>#[a,qa,d0,rfl,ne,is,rfl]]],?_];rintro _ _⟨a,qa,d0,rfl,ne,is,rfl⟩;k_places;have Nm:=Fl.ok_new is n9 w1 v4 h1 v4;refine#[λd M'=>d=.int 0/\M'=Fl.M #[p,d0,w,h,0,[]] a qa,#[rfl,rfl],?_];rintro _ _⟨rfl,rfl⟩;k_places;refine#[λz M=>∃(f:Fl) (q:Addr) (n:Nat),z=[be (.rol (ns.map D.int)),be p.D,be t.D,be (.int w),be (.int h),be (.int l),be (.lst (aA p w 0 h.toNat)),be (.lst (aA t w 0 h.toNat)),be (.ptr a),be (.int n),LH,LH,LH,LH]/\M=f.M a q/\a≠q/\f.Ok/\f.p=p/\f.w=w/\f.h=h/\f.l=l/\f.ds.length=n/\n<=1,ite2 (λc=>?_) (λc=>?_),?_]
  .have c':(0:Int)<l:=by simpa using c
   refine#[a,qa,_,l,false,rfl,ne,rfl,Nm,v4,v4,λz=>absurd z (by show¬(h-0<(l:Int));lia),λ_ q' f6=>?_];refine#[_,rfl,ite2 (λz=>nomatch z) λ_=>#[λd M'=>d=.int 1/\M'=((Fl.mk p d0 w h 0 []).lay l).M a q',#[rfl,rfl],?_]];rintro _ _⟨rfl,rfl⟩;k_places;exact#[_,q',1,rfl,rfl,f6,Nm.lay v4 (by show(l:Int)<=h-0;lia),rfl,rfl,rfl,by show(0:Int)+l=l;lia,rfl,HP 1]
  .have c':(l:Int)=0:=by have:¬(0:Int)<l:=λz=>c (by simpa using z);lia
   exact#[_,qa,0,rfl,rfl,ne,Nm,rfl,rfl,rfl,c'.symm,rfl,Iq 1]
  clear Nm ne is;rintro _ _⟨f,q,n,rfl,rfl,ne,M5,rfl,rfl,rfl,fl,en,n1⟩;k_places;have l0:=M5.l0;have et:f.l.toNat=l:=v4
  refine#[λd M'=>(d=.tup [.str "let in"]/\Same2 f.p t f.w l/\∃q' d',bv t d'/\a≠q'/\M'=((f.keep "change").stand t d').M a q')\/∃x y,d=.tup [.str "parted",.int x,.int y]/\First2 f.p t f.w l x y/\M'=f.M a q,#[_,rfl,a,q,f,t,rfl,ne,rfl,M5,OD,λsm q' d' is f6=>.inl #[rfl,by rw[<-fl];exact sm,q',d',is,f6,rfl],λx y f2=>.inr #[x,y,rfl,by rw[<-fl];exact f2,rfl]],?_]
  let I:SD->MS->Prop:=λz M=>∃(g:Fl) (q:Addr) (n:Nat) (L9 u8:Option D),z=[be (.rol (ns.map D.int)),be f.p.D,be t.D,be (.int f.w),be (.int f.h),be (.int l),be (.lst (aA g.p f.w 0 f.h.toNat)),be (.lst (aA t f.w 0 f.h.toNat)),be (.ptr a),be (.int n),L9,u8,be (.str g.p.text),LH]/\M=g.M a q/\a≠q/\g.Ok/\g.w=f.w/\g.h=f.h/\g.l=l/\g.ds.length=n/\n<=2
  rintro _ _ (⟨rfl,sm,q',d',is,f6,rfl⟩|⟨x',y',rfl,f2,rfl⟩);k_places
  focus
   refine#[λd M'=>d=.non/\M'=((f.keep "change").stand t d').M a q',#[f.p,t,f.w,l,f.h.toNat,?_,M5.ok,OD,v4,v4,v4,v4,λ_=>#[rfl,rfl],λx y f2=>(First2.not f2 sm).elim],?_]
   .show[D.lst (cutD _ _ _),_]=_;rw[qc v4]
   rintro _ _⟨rfl,rfl⟩;k_places;refine#[λd M'=>d=.str f.p.text/\M'=((f.keep "change").stand t d').M a q',#[_,rfl,rfl,rfl],?_];rintro _ _⟨rfl,rfl⟩;k_places;refine#[I,?_,?_]
   .refine#[R1,#[rfl,rfl],λd M'=>d=.int (n+1:Nat)/\M'=((f.keep "change").stand t d').M a q',#[rfl,rfl],?_];rintro _ _⟨rfl,rfl⟩;k_places;refine#[λd M'=>d=.str t.text/\M'=((f.keep "change").stand t d').M a q',#[_,rfl,rfl,rfl],?_];rintro _ _⟨rfl,rfl⟩;k_places;refine#[λd M'=>d=.lst (aA t f.w 0 f.h.toNat)/\M'=((f.keep "change").stand t d').M a q',#[rfl,rfl],?_];rintro _ _⟨rfl,rfl⟩;k_places;exact#[(f.keep "change").stand t d',q',n+1,_,_,rfl,rfl,f6,(M5.keep _).stand is OD,rfl,rfl,fl,by show(f.keep "change").ds.length=_;rw[wR v4,Ic,JS,en],v4]
  rotate_left
  focus
   refine#[λd M'=>d=.tup [.int x',.int y']/\M'=f.M a q,#[f.p,t,f.w,l,f.h.toNat,?_,M5.ok,OD,v4,v4,v4,v4,λsm=>(First2.not f2 sm).elim,λx y f3=>?_],?_]
   .show[D.lst (cutD _ _ _),_]=_;rw[qc v4]
   .obtain⟨rfl,rfl⟩:=First2.uniq f2 f3;exact#[rfl,rfl]
   rintro _ _⟨rfl,rfl⟩;k_places;refine#[λd M'=>d=.str f.p.text/\M'=f.M a q,#[_,rfl,rfl,rfl],?_];rintro _ _⟨rfl,rfl⟩;k_places;refine#[I,?_,?_]
   .exact#[.str "parted",rfl,(λz=>absurd (show HT.sIx 3 0 (be 1)=0 from z.1) Mx),[x',y'],rfl,QG,f,q,n,_,_,rfl,rfl,ne,M5,rfl,rfl,fl,en,v4]
  all_goals
   clear et fl l0 ne M5;rintro _ _⟨g,q,n,L9,u8,rfl,rfl,ne,LC,ew,eh,gl,en,n2⟩;k_places;have l0:=LC.l0;have w1:=LC.w1;have w2:=LC.w2;have h1:=LC.h1;have h2:=LC.h2;have e1:=qc (p:=g.p) (w:=g.w) (lo:=0) (n:=g.h.toNat) (k:=l) v4;have e2:=wP g.p g.w (g.h-g.l).toNat l0;rw[show g.l.toNat+(g.h-g.l).toNat=g.h.toNat by lia,gl]at e2;refine#[QG,a,q,g,?_,ne,rfl,LC,ite2 (λc=>nomatch c) λ_=>?_]
   .show[D.ptr a,D.str g.p.text,D.tup [D.int f.w,D.int f.h],D.lst (cutD (aA g.p f.w 0 f.h.toNat) LH (be (l:Int))),D.lst (cutD (aA g.p f.w 0 f.h.toNat) (be (l:Int)) LH),D.int n]=_;rw[<-ew,<-eh,e1,e2,en,gl];rfl
   let I2:SD->MS->Prop:=λz M=>∃(k:Fl) (q:Addr) (n:Nat) (L9 u8 p8:Option D),z=[be (.rol (ns.map D.int)),be f.p.D,be t.D,be (.int f.w),be (.int f.h),be (.int l),be (.lst (aA k.p f.w 0 f.h.toNat)),be (.lst (aA t f.w 0 f.h.toNat)),be (.ptr a),be (.int n),L9,u8,be (.str k.p.text),p8]/\M=k.M a q/\a≠q/\k.Ok/\k.w=f.w/\k.h=f.h/\k.l=f.h/\k.ds.length=n
   refine#[I2,ite2 (λc=>?_) (λc=>?_),?_]
   .have c':(l:Int)<f.h:=by simpa using c
    refine#[a,q,g,f.h-l,true,rfl,ne,rfl,LC,v4,v4,λz=>absurd z v4,λ_ q' f6=>#[rfl,?_]];refine#[g.p,f.w,l,(f.h-l).toNat,?_,v4,ite2 (λc=>nomatch c) λ_=>?_]
    .show[D.lst (aA g.p g.w g.l (f.h-l).toNat),D.lst (cutD (aA g.p f.w 0 f.h.toNat) (be (l:Int)) LH)]=_;rw[<-ew,<-eh,e2,gl]
    .refine#[λd M'=>d=.int (n+1:Nat)/\M'=(g.lay (f.h-l)).M a q',#[rfl,rfl],?_];rintro _ _⟨rfl,rfl⟩;k_places;refine#[g.lay (f.h-l),q',n+1,_,_,_,rfl,rfl,f6,LC.lay v4 v4,ew,eh,by show g.l+_=_;lia,?_];show(g.keep "lay").ds.length=_;rw[wR v4,Ic,JS,en]
   .have c':¬(l:Int)<f.h:=by simpa using c
    have:=LC.l1;exact#[g,q,n,_,_,_,rfl,rfl,ne,LC,ew,eh,v4,en]
   rintro _ _⟨k,q,n,L9,u8,p8,rfl,rfl,ne,O0,ew,eh,kl,en⟩;k_places;refine#[QG,Mx,a,q,k,?_,ne,rfl,O0,hR];show[D.ptr a,D.str k.p.text,D.tup [D.int f.w,D.int f.h],D.lst (aA k.p f.w 0 f.h.toNat),D.lst [],D.int n]=_;rw[<-ew,<-eh,show k.l=k.h by lia,Lb,en];rfl
end
local macro_rules | `(tactic| walk_at "b1") => `(tactic| exact BK λ_ _ _ _ _ _ _ => rfl)
local macro_rules | `(tactic| walk_at "b2") => `(tactic| exact bind2 λ_ _ _ _ _ _ _ _ => rfl)
local macro_rules | `(tactic| walk_at "b3") => `(tactic| exact bind3 λ_ _ _ _ _ _ _ _ _ => rfl)
local macro_rules | `(tactic| walk_at "b4") => `(tactic| exact bind4 λ_ _ _ _ _ _ _ _ _ _ => rfl)
local macro_rules | `(tactic| walk_at "b5") => `(tactic| exact bind5 λ_ _ _ _ _ _ _ _ _ _ _ => rfl)
local macro_rules | `(tactic| walk_at "b6") => `(tactic| exact bind6 λ_ _ _ _ _ _ _ _ _ _ _ _ => rfl)
local macro_rules | `(tactic| walk_at "bd") => `(tactic| exact λ_ _ _ _ _ _ _ _ _ _ _ _ _ _ h hs => ⟨.of_defaults rfl h hs rfl rfl, .of_defaults rfl h hs rfl rfl⟩)
structure TopIn(K:Ex):Prop where
 uIQ:FnIn K "_law_at" lW
 uGM:FnIn K "_law_draws" lZ
 uGL:FnIn K "_law_lines" mf
 uHJ:FnIn K "_law_shift_pair" mj
 uLB:FnIn K "_law_motif_text" mm
 uIY:FnIn K "_law_motif" mo
 uGJ:FnIn K "_law_wrapped" iG
 uHV:FnIn K "_law_gcd" my
 uJV:FnIn K "_law_on" mB
 uGA:FnIn K "_law_leaf_family" mD
 uHE:FnIn K "_law_in_family" mG
 uJB:FnIn K "_law_both" mI
 uFQ:FnIn K "_law_family" mK
 uKT:FnIn K "_law_over" mM
 uHI:FnIn K "_law_pattern" mQ
 uHR:FnIn K "_law_shifted_home" mU
 uKA:FnIn K "_law_respelled" mW
 uJZ:FnIn K "_law_twin" mZ
 uGV:FnIn K "_law_leaf_shows" nh
 uKU:FnIn K "_law_shows" nq
 uLA:FnIn K "_law_floor_rows" iH
 uIU:FnIn K "refuse_far" ny
 uLJ:FnIn K "home" nA
 uGU:FnIn K "cell_at" nC
 uJU:FnIn K "row_from" iT
 uFR:FnIn K "_law_lay" nI
 uGS:FnIn K "_law_kind" nK
 uJX:FnIn K "line_from" nR
 uKJ:FnIn K "lines_from" nU
 uKX:FnIn K "number_from" nW
 uFK:FnIn K "shift_from" nY
 uGH:FnIn K "levelled" oa
 uIH:FnIn K "spread" oh
 uKQ:FnIn K "hues_by_home" oj
 uLN:FnIn K "motif_from" ot
 uKD:FnIn K "over_from" iW
 uFY:FnIn K "shifted_from" iX
 uGO:FnIn K "rehue_from" iY
 uJS:FnIn K "form_from" iZ
 uGX:FnIn K "measure" oN
 uFV:FnIn K "met" oP
 uJW:FnIn K "mirrored" oR
 uGF:FnIn K "turned" oU
 uIW:FnIn K "read" oW
 uGN:FnIn K "first_unlike" oY
 uJF:FnIn K "_law_change" pk
 uFX:FnIn K "_law_parted" pq
 uJE:FnIn K "_law_whole" pv
 uIL:FnIn K "_law_numbers" pz
 uIZ:FnIn K "_law_texts" pB
 uHB:FnIn K "_law_seven" pD
 uIN:FnIn K "_law_counts" pF
 uHG:FnIn K "field_rows" jn
 uJR:FnIn K "round_row" pI
 uLC:FnIn K "count_sign" pK
 uLI:FnIn K "count_all" jp
 uIG:FnIn K "_law_view" pT
 uLH:FnIn K "law" jq
 uHH:NnIn K "len"
 uGE:NnIn K "range"
 uGY:NnIn K "int"
 uKG:NnIn K "str"
 uJG:NnIn K "list"
 uFW:NnIn K "abs"
 uKP:NnIn K "max"
 uIS:NnIn K "enumerate"
 uFZ:NnIn K "isinstance"
 uJH:NnIn K "ValueError"
 uKZ:NnIn K "bool"
 uGD:NnIn K "tuple"
 uIJ:NnIn K "min"
 uR:ClIn K "Floor"
 uBQ:ClIn K "Motif"
 uCI:ClIn K "Over"
 uBZ:ClIn K "Shifted"
 uDF:ClIn K "Mirror"
 uCW:ClIn K "Turn"
 uBY:ClIn K "Rehue"
 uEJ:ClIn K "Pattern"
 uCL:ClIn K "Reading"
 uLG:InIn K "Motif" "Motif.__init__" om
 uIB:InIn K "Mirror" "Mirror.__init__" ow
 uGW:InIn K "Turn" "Turn.__init__" oz
 uLK:InIn K "Over" "Over.__init__" oB
 uKL:InIn K "Shifted" "Shifted.__init__" oE
 uJI:InIn K "Rehue" "Rehue.__init__" oG
 uGZ:InIn K "Reading" "Reading.__init__" oI
 uKY:InIn K "Pattern" "Pattern.__init__" oK
 uJD:InIn K "Floor" "Floor.__init__" pV
 uFN:MtIn K "Floor" "keep" "Floor.keep" nv
 uGB:MtIn K "Motif" "shows" "Motif.shows" iI
 uHN:MtIn K "Over" "shows" "Over.shows" iJ
 uKV:MtIn K "Shifted" "shows" "Shifted.shows" iL
 uIR:MtIn K "Mirror" "shows" "Mirror.shows" iN
 uHT:MtIn K "Turn" "shows" "Turn.shows" iP
 uIV:MtIn K "Rehue" "shows" "Rehue.shows" iR
 uLD:MtIn K "Floor" "rows" "Floor.rows" iU
 uIP:MdIn K "Floor" "lay" "Floor.lay" nH 1
 uGC:MtIn K "Reading" "may_take" "Reading.may_take" nN
 uHL:MtIn K "Reading" "take" "Reading.take" nP
 uIK:MtIn K "Motif" "family" "Motif.family" ja
 uKS:MtIn K "Over" "family" "Over.family" jb
 uLL:MtIn K "Shifted" "family" "Shifted.family" jd
 uKC:MtIn K "Mirror" "family" "Mirror.family" jg
 uJA:MtIn K "Turn" "family" "Turn.family" ji
 uGG:MtIn K "Rehue" "family" "Rehue.family" jk
 uHS:MtIn K "Floor" "stand" "Floor.stand" pf
 uJJ:MtIn K "Floor" "change" "Floor.change" pi
 uJP:MtIn K "Floor" "lies" "Floor.lies" pN
 uII:MtIn K "Floor" "still" "Floor.still" pP
 uHO:MtIn K "Floor" "kept" "Floor.kept" pR
 uIC:NoIn K "Floor" "deeds"
 uHA:NoIn K "Floor" "laid"
 uKK:NoIn K "Floor" "pattern"
 uHW:NoIn K "Motif" "hues"
 uKI:NoIn K "Motif" "shifts"
 uKH:NoIn K "Over" "above"
 uJN:NoIn K "Over" "below"
 uIO:NoIn K "Shifted" "form"
 uLE:NoIn K "Shifted" "y"
 uJQ:NoIn K "Shifted" "x"
 uGP:NoIn K "Mirror" "form"
 uHZ:NoIn K "Turn" "form"
 uFU:NoIn K "Rehue" "form"
 uKR:NoIn K "Rehue" "old"
 uKN:NoIn K "Rehue" "new"
 uFM:NoIn K "Pattern" "form"
 uKE:NoIn K "Floor" "width"
 uHC:NoIn K "Floor" "height"
 uFS:NoIn K "Reading" "text"
 uIX:NoIn K "Reading" "place"
 uJO:NoIn K "Motif" "place"
 uGQ:NoIn K "Pattern" "text"
 uLM:NoIn K "Pattern" "shifts"
 uHM:NoIn K "Floor" "text"
 uKW:CiIn K "KEPT" 20
 uFO:CiIn K "FAR" 1000000000000
 uGR:CsIn K "SIGNS" ".123456"
 uHF:CiIn K "LONGEST" 8
 uGI:CiIn K "DEEP" 5
 uJM:CiIn K "MOST" 720
 eb:EbIn K
 uEX:E0In K "TooFar"
 uFA:E0In K "NoRow"
 uQ:E1In K "Parted" "Parted.__init__" pd
 uAJ:EaIn K "Parted"
 uFH:NoIn K "Parted" "x"
 uES:NoIn K "Parted" "y"
 uFI:EgIn K "Parted"
 uKM:EiIn K "MotifError"
 uIM:EmIn K "MotifError" "MotifError"
 uFL:EmIn K "MotifError" "TooFar"
 uKB:EmIn K "MotifError" "NoRow"
 uGT:EmIn K "MotifError" "Parted"
 uHQ:EmIn K "TooFar" "MotifError"
 uJK:EmIn K "TooFar" "TooFar"
 uHP:EmIn K "TooFar" "NoRow"
 uJY:EmIn K "TooFar" "Parted"
 uKF:EmIn K "NoRow" "MotifError"
 uJC:EmIn K "NoRow" "TooFar"
 uIF:EmIn K "NoRow" "NoRow"
 uLF:EmIn K "NoRow" "Parted"
 uFT:EmIn K "Parted" "MotifError"
 uEY:EmIn K "Parted" "TooFar"
 uEU:EmIn K "Parted" "NoRow"
 uEV:EmIn K "Parted" "Parted"
 uAM:ExIn K "Parted"
 uJT:YeIn K "TooFar"
 uIE:YeIn K "TooGreat"
 uFP:EmIn K "Parted" "TooGreat"
 uHK:YeIn K "OneLine"
 uIA:EmIn K "Parted" "OneLine"
 uID:YeIn K "WrongSign"
 uKO:EmIn K "Parted" "WrongSign"
 uHU:YeIn K "NothingKept"
 uHX:EmIn K "Parted" "NothingKept"
 uGK:YeIn K "Parted"
 uJL:YeIn K "NoRow"
def HG{V:Bx}{h:Heap}(t:TopIn V.K)(X:V.K.In h)(G:h.Ns SB V.mg){fa:Addr}{fd:Ve}(F:Fun V.K "law" "law" jq fa fd):FnOk V.P V.w V.K V.mg V.base (Exc.CX1 V.P V.w) 21 fa fd pX (lSp V.K fo):=by
 have uA:=mg_none_of X G t.uHH;have uB:=mg_none_of X G t.uGE;have uF:=mg_none_of X G t.uGY;have uM:=mg_none_of X G t.uKG;have v_:=mg_none_of X G t.uJG;have uT:=mg_none_of X G t.uFW;have uX:=mg_none_of X G t.uKP;have M0:=mg_none_of X G t.uIS;have uC:=mg_none_of X G t.uFZ;have Rf:=mg_none_of X G t.uJH;have Rq:=mg_none_of X G t.uKZ;have Nz:=mg_none_of X G t.uGD;have Rr:=mg_none_of X G t.uIJ;have Lz:=t.uR.a t.uIC;have uE:=t.uR.a t.uHA;have uG:=t.uR.a t.uKK;have Mh:=t.uBQ.a t.uHW;have uN:=t.uBQ.a t.uKI;have uY:=t.uCI.a t.uKH;have uU:=t.uCI.a t.uJN;have u9:=t.uBZ.a t.uIO;have Mi:=t.uBZ.a t.uLE;have Mj:=t.uBZ.a t.uJQ;have uW:=t.uDF.a t.uGP;have uV:=t.uCW.a t.uHZ;have uZ:=t.uBY.a t.uFU;have Ml:=t.uBY.a t.uKR;have Mm:=t.uBY.a t.uKN;have Np:=t.uEJ.a t.uFM;have uJ:=t.uR.a t.uKE;have u_:=t.uR.a t.uHC;have Mn:=t.uCL.a t.uFS;have uP:=t.uCL.a t.uIX;have QY:=t.uBQ.a t.uJO;have Nw:=t.uEJ.a t.uGQ;have LA:=t.uEJ.a t.uLM;have LB:=t.uR.a t.uHM;have QS:=t.uKW.g X G;have QT:=t.uFO.g X G;have uS:=t.uGR.g X G;have O3:=t.uHF.g X G;have Ou:=t.uGI.g X G;have Q5:=t.uJM.g X G;have QU:=t.uEX.k t.eb X G;have QV:=t.uFA.k t.eb X G;have uAJ:=t.uQ.a t.eb t.uAJ X G;have Q_:=t.uFH.all;have Ra:=t.uES.all;have Q9:=t.uKM.b X G;have Ro:V.x "y" ["Parted"]:=AllP.mem #[t.uFI.g uAJ t.uES,trivial];have Rp:V.x "x" ["Parted"]:=AllP.mem #[t.uFI.g uAJ t.uFH,trivial];have ek:qr V:=BL #[(let ⟨C,N,bm,k,_⟩:=t.eb.k X G;#[C,N,bm,k]),(let ⟨C,N,bm,k,_⟩:=t.uEX.k t.eb X G;#[C,N,bm,k]),(let ⟨C,N,bm,k,_⟩:=t.uFA.k t.eb X G;#[C,N,bm,k]),(t.uQ.c t.eb X G),trivial] #[#[t.uIM,t.uFL,t.uKB,t.uGT,trivial],#[t.uHQ,t.uJK,t.uHP,t.uJY,trivial],#[t.uKF,t.uJC,t.uIF,t.uLF,trivial],#[t.uFT,t.uEY,t.uEU,t.uEV,trivial],trivial];have Rh:V.j "TooFar" [("Parted",false)]:=let ⟨D,n,h,ty⟩:=t.uJT;#[D,mg_of X G n,dN (isY (t.uQ.c t.eb X G) t.uAM n h ty t.uEY KK) (dM)]
 have Ri:V.j "TooGreat" [("Parted",false)]:=let ⟨D,n,h,ty⟩:=t.uIE;#[D,mg_of X G n,dN (isY (t.uQ.c t.eb X G) t.uAM n h ty t.uFP KK) (dM)]
 have Rj:V.j "OneLine" [("Parted",false)]:=let ⟨D,n,h,ty⟩:=t.uHK;#[D,mg_of X G n,dN (isY (t.uQ.c t.eb X G) t.uAM n h ty t.uIA KK) (dM)]
 have Rk:V.j "WrongSign" [("Parted",false)]:=let ⟨D,n,h,ty⟩:=t.uID;#[D,mg_of X G n,dN (isY (t.uQ.c t.eb X G) t.uAM n h ty t.uKO KK) (dM)]
 have Rl:V.j "NothingKept" [("Parted",false)]:=let ⟨D,n,h,ty⟩:=t.uHU;#[D,mg_of X G n,dN (isY (t.uQ.c t.eb X G) t.uAM n h ty t.uHX KK) (dM)]
 have O6:V.j "Parted" [("Parted",true)]:=let ⟨D,n,h,ty⟩:=t.uGK;#[D,mg_of X G n,dN (isY (t.uQ.c t.eb X G) t.uAM n h ty t.uEV KK) (dM)]
 have Rm:V.j "NoRow" [("Parted",false)]:=let ⟨D,n,h,ty⟩:=t.uJL;#[D,mg_of X G n,dN (isY (t.uQ.c t.eb X G) t.uAM n h ty t.uEU KK) (dM)]
 have jv:V.jv [("Parted",true)]:=dN (isVE (t.uQ.c t.eb X G) t.uAM) (dM);have C_:ju V:=FI (t.uIQ.tx X G NO) uA;have Nf:jw V:=FJ (t.uGM.tx X G RI) uB C_;have Qu:qd V:=FK (t.uGL.tx X G OL) uB uA;have Qv:qe V:=FL (t.uHJ.tx X G OL) uF;have Qw:qf V:=FM (t.uLB.tx X G RI) uM;have MV:jx V:=FN (t.uIY.tx X G NO) Nf Qu Qv Qw;have uO:gI V:=FO (t.uGJ.tx X G NO) uM v_ uF;have Nj:jy V:=FP (t.uHV.tx X G NO) uT;have Nk:jz V:=FQ (t.uJV.tx X G (by walk_at "b4"));have OZ:qg V:=FR (t.uGA.tx X G OL) uT Nj Nk;have QC:qh V:=FS (t.uHE.tx X G RI);have QH:qi V:=FT (t.uJB.tx X G NO) Nj QC;have Nl:jA V:=FU (t.uFQ.tx X G OL) OZ QH;have Mf:jB V:=FV (t.uKT.tx X G NO) uX Nl;have Nn:jC V:=FW (t.uHI.tx X G NO) uB Nf MV uO Mf;have QM:qj V:=FY (t.uHR.tx X G NO) Nl uO;have QN:qk V:=F4 (t.uKA.tx X G RI) uA v_;have Ry:ql V:=F6 (t.uJZ.tx X G (by walk_at "b4")) uO Mf QM MV QN Nn;have QQ:qm V:=F7 (t.uGV.tx X G RI) uB uA uF Nk;have QR:qo V:=F8 (t.uKU.tx X G RI) QQ;have O9:qp V:=Ga (t.uLA.tx X G RI) uB QR;have Nr:jD V:=Gc (t.uFN.txm t.uR NO) QS Lz uE uG;have MY:jE V:=Gd (t.uIU.tx X G NO) uX uT QT QU;have F_:fP V:=Ge (t.uLJ.tx X G RI);have uH:wS V:=Gk (t.uGB.txm t.uBQ RI) (t.uHN.txm t.uCI RI) (t.uKV.txm t.uBZ RI) (t.uIR.txm t.uDF RI) (t.uHT.txm t.uCW RI) (t.uIV.txm t.uBY RI) F_ Mh uN uY uU u9 Mi Mj uW uV uZ Ml Mm 6;have MZ:jF V:=Gm (t.uGU.tx X G RI) MY Np uH;have Nq:jG V:=Gn (t.uJU.tx X G (by walk_at "b4")) uB MZ uS;have Nt:jH V:=Go (t.uLD.txm t.uR OL) uB Nq uE uJ uG;have O1:qq V:=Gp (t.uIP.txd t.uR (by walk_at "bd")) uX u_ uE Nr Nt QV;have O_:qt V:=Gr (t.uFR.tx X G RI) O1 ek;have Rg:qu V:=Gu (t.uGS.tx X G OL);have uL:dO V:=Gv (t.uGC.txm t.uCL NO) uA Mn uP;have uD:cR V:=Gw (t.uHL.txm t.uCL NO) uL;have O2:qv V:=Gx (t.uJX.tx X G RI) uB uS uD uL;have QZ:qw V:=Gy (t.uKJ.tx X G OL) uA O2 O3 uL;have O4:qy V:=Gz (t.uKX.tx X G OL) uF uL uD;have L8:gJ V:=GA (t.uFK.tx X G OL) O4 uD;have Nu:jI V:=GB (t.uGH.tx X G NO);have Nv:jJ V:=GC (t.uIH.tx X G NO) uT Nu;have QX:qz V:=GD (t.uKQ.tx X G NO) M0 F_ uS;have Q0:qA V:=GE (t.uLG.txi X G (by walk_at "b5")) Nv QX QY uN Mh;have Ot:jK V:=GF (t.uLN.tx X G OL) QZ L8 uP Q0 uD;have Ov:jL V:=GH (t.uIB.txi X G NO) uW;have Ow:jM V:=GI (t.uGW.txi X G NO) uV;have Oo:jN V:=GJ (t.uLK.txi X G RI) uY uU;have Op:jO V:=GK (t.uKL.txi X G (by walk_at "b4")) u9 Mj Mi;have Oq:jP V:=GL (t.uJI.txi X G (by walk_at "b4")) uZ Ml Mm;have uK:wV V:=GQ (t.uKD.tx X G NO) (t.uFY.tx X G NO) (t.uGO.tx X G NO) (t.uJS.tx X G NO) Oo uD L8 Op uF Oq Ot Ou Ov Ow uL 6;have Q6:qB V:=GR (t.uGZ.txi X G NO) Mn uP;have Q7:qC V:=GS (t.uKY.txi X G (by walk_at "b4")) Nw LA Np;have Oy:qD V:=GT (t.uGX.tx X G NO) Nu;have Oz:jQ V:=GU (t.uFV.tx X G NO) Oy;have OA:jR V:=GV (t.uJW.tx X G OL);have OB:jS V:=GW (t.uGF.tx X G OL) Nv;have uI:wW V:=G2 (t.uIK.txm t.uBQ OL) (t.uKS.txm t.uCI OL) (t.uLL.txm t.uBZ OL) (t.uKC.txm t.uDF OL) (t.uJA.txm t.uCW OL) (t.uGG.txm t.uBY OL) uN Oz uY uU u9 OA uW OB uV uZ 6;have Ny:jT V:=G3 (t.uIW.tx X G OL) uA uK Q5 uP Q6 Q7 uI;have Rb:qE V:=G5 (t.uGN.tx X G (by walk_at "b4")) uB MZ;have uQ:qF V:=G7 (t.uQ.txe t.eb X G RI) Q9 uAJ Q_ Ra;have Rc:qG V:=G9 (t.uHS.txm t.uR NO) uG LB Nw;have Rn:qH V:=Hb (t.uJJ.txm t.uR NO) Ny Rb uE uJ uG Nr Rc uQ;have Rz:qI V:=Hd (t.uJF.tx X G NO) uC Rf Rg Rh Ri Rj Rk Rl O6 Rm jv Rn Ro Rp ek;have RA:qJ V:=Hg (t.uFX.tx X G NO) uB uA;have G_:gK V:=Hi (t.uJE.tx X G OL) uC Rq uF;have RB:qK V:=Hj (t.uIL.tx X G NO) uA uC Nz uB G_;have NB:jU V:=Hl (t.uIZ.tx X G NO) uA uC v_ uB uM;have O7:qL V:=Hn (t.uHB.tx X G NO) uA uC v_ uB G_;have O8:qM V:=Hq (t.uIN.tx X G OL);have Rs:qN V:=Hr (t.uHG.tx X G OL) uB Nq LA;have Rt:C_round_row V:=Hs (t.uJR.tx X G (by walk_at "b4")) F_;have Ru:qO V:=Ht (t.uLC.tx X G RI) uA;have NA:jV V:=Hu (t.uLI.tx X G (by walk_at "b5")) uX uB Rr M0 MY Rs Rt Ru uS LA;have Rv:qP V:=Hw (t.uJP.txm t.uR OL) NA uE uJ uG;have Rw:qQ V:=Hy (t.uII.txm t.uR OL) NA u_ uJ uE uG;have Rx:qR V:=HA (t.uHO.txm t.uR OL) uA Lz;have Pa:qS V:=HC (t.uIG.tx X G (by walk_at "b6")) uC uM G_ NB O7 O8 LB uJ u_ Nt Rv Rw Rx;have RC:qT V:=HE (t.uJD.txi X G (by walk_at "b4")) Ny uG LB uJ u_ uE Lz;exact HF F uA uC Nz Nn Ry C_ O9 O_ Rz RA RB Pa NB RC
def all_mk{l:Kc}{w:U_}{K:Ex}{h:Heap}{mg:Ms->Option Os}{fa:Addr}(X:K.In h)(G:h.Ns SB mg)(MK:mg "law"=be (.ref fa))(t:TopIn K):
  ∃fd:Ve,(∀(s:P3) (v:Os),V4 s fd #[[v],[]] [("_law_script",v)])/\∀base:Heap,K.In base->base.Ns SB mg->FnOk l.prog w K mg base (Exc.CX1 l.prog w) 21 fa fd ["_law_script"] (lSp K fo):=by
 obtain⟨fd,b,F⟩:=t.uLH.law X G MK (λ_ _ _ _ _ _ _=>rfl);exact#[fd,b,λbase _ _=>HG (V:=#[l.prog,w,K,mg,base]) t X G F]
def law_walk{l:Kc}{q:U8}{k_:List Ms}{XP:(Ms->Option Os)->Heap->Prop}{YP:U_->Heap->Prop}{d:DefRec}{K:Params->Ex}(hn:l.most=be 63)(NM:d.params.defaults=[])
  (hY:∀(w:U_) (h:Heap),YP w h->(K w.params).In h)
  (F:∀(w:U_) (mg:Ms->Option Os) (fa:Addr) (h:Heap),(K w.params).In h->h.Ns SB mg->mg d.name=be (.ref fa)->
   ∃fd:Ve,(∀(s:P3) (u:Os),V4 s fd #[[u],[]] [("_law_script",u)])/\∀base:Heap,(K w.params).In base->base.Ns SB mg->FnOk l.prog w (K w.params) mg base (Exc.CX1 l.prog w) 21 fa fd ["_law_script"] (lSp (K w.params) fo)):
  KH q k_ XP YP l.row.toRowW d [] (λf vs=>PySem.call f vs):=
 L2.walk_of (n:=63) (k:=21) (x:="_law_script") (CX:=λw=>Exc.CX1 l.prog w) (sp:=λw=>lSp (K w.params) fo) hn Mx NM #[rfl,Mx,Mx] hY F (λ_ _ a ns hl _ hS=>zS hl hS) λ_ _ _ _ _ h=>by obtain⟨_,_,_,_,_,_,_,_,_,_,_,_,_,_,_,z⟩:=h;exact z
end My
open PySem PySem.W PyProof.Rows
set_option maxRecDepth 100000 in
set_option maxHeartbeats 0 in
theorem PySem.Challenge.cw_motiffield_k30_change_holds : PySem.Challenge.rw_motiffield_k30_change.Holds := by
  w_on;o_law;k_head;(case hw =>w_witness2)
  k_fill
  refine My.law_walk (l :=PySem.Challenge.rw_motiffield_k30_change) rfl rfl (λw h Y =>kIn_of Y) ?F
  case F =>
    intro w mg fa h KX G k8;refine My.all_mk KX G k8 ?_;constructor
    all_goals first|((with_reducible refine' My.fnIn_mk ?a ?l ?c ?k);(case a =>k_is);(case l =>k_is);(case c =>k_is);(case k =>k_is))|((with_reducible refine' My.nnIn_mk ?a);(case a =>k_is))|((with_reducible refine' My.noIn_mk ?a ?b);(case a =>k_is);(case b =>k_is))|((with_reducible refine' My.mtIn_mk ?a ?b ?i ?l ?c ?k);(case a =>k_is);(case b =>k_is);(case i =>k_is);(case l =>k_is);(case c =>k_is);(case k =>k_is))|((with_reducible refine' My.mdIn_mk ?a ?b ?i' ?l ?c ?k ?d);(case a =>k_is);(case b =>k_is);(case i' =>k_is);(case l =>k_is);(case c =>k_is);(case k =>k_is);(case d =>k_is))|((with_reducible refine' My.inIn_mk ?a ?mk ?b ?i ?kp ?l ?c ?k);(case a =>k_is);(case mk =>k_is);(case b =>k_is);(case i =>k_is);(case kp =>k_is);(case l =>k_is);(case c =>k_is);(case k =>k_is))|((with_reducible refine' My.clIn_mk ?a ?pg ?hd ?po ?sa ?ha ?hn ?ht ?hm);(case a =>k_is);(case pg =>k_is);(case hd =>k_is);(case po =>k_is);(case sa =>k_is);(case ha =>k_is);(case hn =>k_is);(case ht =>k_is);(case hm =>k_is))|((with_reducible refine' My.ciIn_mk ?a);(case a =>k_is))|((with_reducible refine' My.csIn_mk ?a);(case a =>k_is))|((with_reducible refine' My.ebIn_mk ?a ?kp ?o ?nk ?al ?ni);(case a =>k_is);(case kp =>k_is);(case o =>k_is);(case nk =>k_is);(case al =>rfl);(case ni =>k_is))|((with_reducible refine' My.e0In_mk ?b ?a ?kp ?o ?nk ?al ?ni);(case b =>k_is);(case a =>k_is);(case kp =>k_is);(case o =>k_is);(case nk =>k_is);(case al =>rfl);(case ni =>k_is))|((with_reducible refine' My.e1In_mk ?b ?a ?kp ?o ?j ?i ?l ?c ?k);(case b =>k_is);(case a =>k_is);(case kp =>k_is);(case o =>k_is);(case j =>k_is);(case i =>k_is);(case l =>k_is);(case c =>k_is);(case k =>k_is))|((with_reducible refine' My.eaIn_mk ?a ?b);(case a =>k_is);(case b =>k_is))|((with_reducible refine' My.egIn_mk ?a ?b ?c);(case a =>k_is);(case b =>k_is);(case c =>k_is))|((with_reducible refine' My.eiIn_mk ?a ?b ?c ?d);(case a =>k_is);(case b =>k_is);(case c =>k_is);(case d =>k_is))|((with_reducible refine' My.emIn_mkT ?e ?a ?c ?d);(case e =>decide);(case a =>k_is);(case c =>k_is);(case d =>k_is))|((with_reducible refine' My.emIn_mkF ?e ?a ?c ?d);(case e =>decide);(case a =>k_is);(case c =>k_is);(case d =>k_is))|((with_reducible refine' My.exIn_mk ?a ?b ?c ?d ?e ?f);(case a =>k_is);(case b =>k_is);(case c =>k_is);(case d =>k_is);(case e =>k_is);(case f =>k_is))|((with_reducible refine' My.yeIn_mk ?a ?b ?c);(case a =>k_is);(case b =>k_is);(case c =>k_is))
end
